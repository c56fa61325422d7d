/- Part 15 of the walks that the proof leans on. -/
import Derived.Test.YthelolpogdcmhaaPart14
import Derived.Test.YthelolpogdcmhaaPart1
import Derived.Lib.SmallJoins
import Derived.SizedLaws
import Derived.Deep.Slices
import Derived.Test.YthelolpogdcmhaaRows
import Derived.ProofKit
namespace Go.Proofs.Ythelolpogdcmhaa
open Go.RowKit
def WqP (okn : Bool) (LL : List Int) (w : World) (r : Ending) (w' : World) : Prop := ∃ u, r = .returned (.tuple #[u, .bool okn]) ∧ NoOwn w' w.heap.size u LL ∧ Below w.heap.size w w'
theorem qw_of {Q : QD} {m d wa wb wc wd : Int} {w w' : World} {r : Ending} (h : QwP Q m d wa wb wc wd w r w') : WqP (qwB Q m d wa wb wc wd) (qwL Q m d wa wb wc wd) w r w' := by
 obtain ⟨v, h1, h2, h3⟩ := h
 exact ⟨v, h1, NoOwn.of h2, h3⟩
theorem NoOwn.frm {ok : Nat → Prop} {w w' : World} {b : Nat} {v : Value} {L : List Int} (h : NoOwn w b v L) (hF : Frm ok w w') (hn : ∀ g, v.ownBlock = some g → ¬ ok g) : NoOwn w' b v L := by
 rcases h with h | ⟨g, cap, f, h1, h2, h3, h4, h5⟩
 · exact .inl h
 · exact .inr ⟨g, cap, f, h1, h2, h3, h4.of_block (hF.block g h4.lt (hn g (by subst h1; rfl))), h5⟩
def VqvA (Qd : QD) (m d : Int) (ao bo : Option Addr) (cap bcap : Nat) (wa wb wc wd : Int) (okn : Bool) (LL : List Int) (B : Nat) : Nat → Value → World → Prop
 | 0, v, _ => v = .agg #[.int .i64 m, .int .i64 d, .slice ao Qd.m cap, .slice bo Qd.N bcap]
 | 1, v, W => QuE Qd m d v W
 | 2, v, _ => v = Sp wa wb
 | 3, v, _ => v = Sp wa wb
 | 4, v, _ => v = Sp wc wd
 | 5, v, _ => v = Sp wc wd
 | 6, v, W => ∃ u, v = .tuple #[u, .bool okn] ∧ NoOwn W B u LL
 | 7, v, W => ∃ u, v = .tuple #[u, .bool okn] ∧ NoOwn W B u LL
 | 8, v, W => NoOwn W B v LL
 | 9, v, _ => v = .bool okn
 | 10, v, W => NoOwn W B v LL
 | 11, v, _ => v = .bool okn
 | _, _, _ => True
theorem VqvA.mono {Qd : QD} {m d : Int} {ao bo : Option Addr} {cap bcap : Nat} {wa wb wc wd : Int} {okn : Bool} {LL : List Int} {B j : Nat} {v : Value} {W W2 : World} (hB : Below W.heap.size W W2) (h : VqvA Qd m d ao bo cap bcap wa wb wc wd okn LL B j v W) : VqvA Qd m d ao bo cap bcap wa wb wc wd okn LL B j v W2 := by
 unfold VqvA at *
 split <;> simp only at h <;> first | exact h | exact h.step hB | (obtain ⟨u, e, h2⟩ := h; exact ⟨u, e, h2.step hB⟩) | trivial
set_option maxRecDepth 100000 in
set_option maxHeartbeats 4000000 in
theorem qvA {Q : Exit → Act → World → Prop} {Qd : QD} {m d : Int} {ao bo : Option Addr} {cap bcap : Nat} {wa wb wc wd : Int} {okn : Bool} {LL : List Int} {P Lb Hb A off : Nat} {so : Nat → Option Addr × Nat} {w0 : World} {a0 : Act} {idq : Nat} {t0 t1 t2 t3 t4 t5 t6 t7 t8 t9 t10 t11 : TypeId} {q0 q1 q2 q3 q4 q5 q6 q7 q8 q9 q10 q11 : String}
   (hm : Qd.m ≤ 1048576) (hN : Qd.N ≤ 1048576) (hL : ∀ i, i < Qd.N → Qd.L i ≤ 1048576) (hbo : 0 < Qd.N → bo = some ⟨A, off, none⟩) (hIt : ItIn Qd w0 ao (List.range Qd.m)) (hBl : BlIn Qd w0 A off so) (CS : ∀ (gi gb : Nat) (S : Nat → Nat) (W : World), QuRow Qd W 0 gi gb S → Calls Try.prog 5 #[.agg #[.int .i64 m, .int .i64 d, .slice (some ⟨gi, 0, none⟩) Qd.m Qd.m, .slice (some ⟨gb, 0, none⟩) Qd.N Qd.N], Sp wa wb, Sp wc wd] W (WqP okn LL W)) (h3 : a0.tmps[3]? = some (.pointer (some ⟨P, 0, none⟩))) (h4 : a0.tmps[4]? = some (.pointer (some ⟨Lb, 0, none⟩))) (h5 : a0.tmps[5]? = some (.pointer (some ⟨Hb, 0, none⟩))) (k0 : w0.cell? ⟨P, 0, none⟩ = some (.int .i64 m)) (l0 : (⟨P, 0, none⟩ : Addr).block < w0.heap.size) (k1 : w0.cell? ⟨P, 1, none⟩ = some (.int .i64 d)) (l1 : (⟨P, 1, none⟩ : Addr).block < w0.heap.size) (k2 : w0.cell? ⟨P, 2, none⟩ = some (.slice ao Qd.m cap)) (l2 : (⟨P, 2, none⟩ : Addr).block < w0.heap.size) (k3 : w0.cell? ⟨P, 3, none⟩ = some (.slice bo Qd.N bcap)) (l3 : (⟨P, 3, none⟩ : Addr).block < w0.heap.size) (k4 : w0.cell? ⟨Lb, 0, none⟩ = some (.int .i64 wa)) (l4 : (⟨Lb, 0, none⟩ : Addr).block < w0.heap.size) (k5 : w0.cell? ⟨Lb, 1, none⟩ = some (.int .i64 wb)) (l5 : (⟨Lb, 1, none⟩ : Addr).block < w0.heap.size) (k6 : w0.cell? ⟨Hb, 0, none⟩ = some (.int .i64 wc)) (l6 : (⟨Hb, 0, none⟩ : Addr).block < w0.heap.size) (k7 : w0.cell? ⟨Hb, 1, none⟩ = some (.int .i64 wd)) (l7 : (⟨Hb, 1, none⟩ : Addr).block < w0.heap.size) (hz : a0.tmps.size = 112)
   (hQ : ∀ aq W, aq.tmps.size = a0.tmps.size → aq.defers = a0.defers → (∀ e, e ∉ ([24, 25, 26, 27, 28, 29, 30, 23, 31, 32, 8, 9] : List Nat) → aq.tmps[e]? = a0.tmps[e]?) → VqvA Qd m d ao bo cap bcap wa wb wc wd okn LL w0.heap.size 10 (aq.tmps.getD 8 undef) W → VqvA Qd m d ao bo cap bcap wa wb wc wd okn LL w0.heap.size 11 (aq.tmps.getD 9 undef) W → Below w0.heap.size w0 W → Q .normal aq W) :
   (Code.region idq #[{ dst := some 24, op := Op.load 25 (Operand.tmp 3), type := t0, pos := q0, after := #[], guard := none },
   { dst := some 25, op := Op.call { callee := Callee.value (Operand.func 6), args := #[Operand.tmp 24], argTypes := #[25] }, type := t1, pos := q1, after := #[{ on := 0, ground := Ground.data }], guard := none },
   { dst := some 26, op := Op.load 27 (Operand.tmp 4), type := t2, pos := q2, after := #[], guard := none },
   { dst := some 27, op := Op.call { callee := Callee.value (Operand.func 7), args := #[Operand.tmp 26], argTypes := #[27] }, type := t3, pos := q3, after := #[{ on := 2, ground := Ground.data }, { on := 1, ground := Ground.chain }], guard := none },
   { dst := some 28, op := Op.load 27 (Operand.tmp 5), type := t4, pos := q4, after := #[], guard := none },
   { dst := some 29, op := Op.call { callee := Callee.value (Operand.func 7), args := #[Operand.tmp 28], argTypes := #[27] }, type := t5, pos := q5, after := #[{ on := 4, ground := Ground.data }, { on := 3, ground := Ground.chain }], guard := none },
   { dst := some 30, op := Op.call { callee := Callee.value (Operand.func 5), args := #[Operand.tmp 25, Operand.tmp 27, Operand.tmp 29], argTypes := #[35, 37, 37] }, type := t6, pos := q6, after := #[{ on := 1, ground := Ground.data }, { on := 3, ground := Ground.data }, { on := 5, ground := Ground.data }, { on := 5, ground := Ground.chain }], guard := none },
   { dst := some 23, op := Op.move (Operand.tmp 30), type := t7, pos := q7, after := #[{ on := 6, ground := Ground.data }], guard := none },
   { dst := some 31, op := Op.extract (Operand.tmp 23) 0, type := t8, pos := q8, after := #[{ on := 7, ground := Ground.data }], guard := none },
   { dst := some 32, op := Op.extract (Operand.tmp 23) 1, type := t9, pos := q9, after := #[{ on := 7, ground := Ground.data }, { on := 10, ground := Ground.gcOnly Departure.lateStores }], guard := none },
   { dst := some 8, op := Op.assign (Operand.tmp 31), type := t10, pos := q10, after := #[{ on := 8, ground := Ground.data }, { on := 6, ground := Ground.chain }, { on := 0, ground := Ground.phase }, { on := 1, ground := Ground.phase }, { on := 2, ground := Ground.phase }, { on := 3, ground := Ground.phase }, { on := 4, ground := Ground.phase }, { on := 5, ground := Ground.phase }, { on := 6, ground := Ground.phase }, { on := 7, ground := Ground.phase }, { on := 8, ground := Ground.phase }, { on := 9, ground := Ground.textOnly Departure.lateStores }], guard := none },
   { dst := some 9, op := Op.assign (Operand.tmp 32), type := t11, pos := q11, after := #[{ on := 9, ground := Ground.data }, { on := 10, ground := Ground.chain }, { on := 0, ground := Ground.phase }, { on := 1, ground := Ground.phase }, { on := 2, ground := Ground.phase }, { on := 3, ground := Ground.phase }, { on := 4, ground := Ground.phase }, { on := 5, ground := Ground.phase }, { on := 6, ground := Ground.phase }, { on := 7, ground := Ground.phase }, { on := 8, ground := Ground.phase }, { on := 9, ground := Ground.phase }, { on := 10, ground := Ground.phase }], guard := none }] true).wp Try.prog Q a0 w0 := by
 have hS : distS [some 24, some 25, some 26, some 27, some 28, some 29, some 30, some 23, some 31, some 32, some 8, some 9] = true := rfl
 refine wp_region_q (by kernel_rfl) w0.heap.size [some 24, some 25, some 26, some 27, some 28, some 29, some 30, some 23, some 31, some 32, some 8, some 9] (VqvA Qd m d ao bo cap bcap wa wb wc wd okn LL w0.heap.size) rfl ?_ ?_
 · intro Q lq aq W iq oq hJ hl ho hall
   have hJ2 := hJ
   obtain ⟨z1, z2, z3, z4, z5, z6, z7⟩ := hJ
   have g3 : aq.tmps.getD 3 undef = .pointer (some ⟨P, 0, none⟩) := by rw [Array.getD_eq_getD_getElem?, z4 3 (by decide), h3]; rfl
   have g4 : aq.tmps.getD 4 undef = .pointer (some ⟨Lb, 0, none⟩) := by rw [Array.getD_eq_getD_getElem?, z4 4 (by decide), h4]; rfl
   have g5 : aq.tmps.getD 5 undef = .pointer (some ⟨Hb, 0, none⟩) := by rw [Array.getD_eq_getD_getElem?, z4 5 (by decide), h5]; rfl
   have c0 : W.cell? ⟨P, 0, none⟩ = some (.int .i64 m) := (z5.cell l0).trans k0
   have c1 : W.cell? ⟨P, 1, none⟩ = some (.int .i64 d) := (z5.cell l1).trans k1
   have c2 : W.cell? ⟨P, 2, none⟩ = some (.slice ao Qd.m cap) := (z5.cell l2).trans k2
   have c3 : W.cell? ⟨P, 3, none⟩ = some (.slice bo Qd.N bcap) := (z5.cell l3).trans k3
   have c4 : W.cell? ⟨Lb, 0, none⟩ = some (.int .i64 wa) := (z5.cell l4).trans k4
   have c5 : W.cell? ⟨Lb, 1, none⟩ = some (.int .i64 wb) := (z5.cell l5).trans k5
   have c6 : W.cell? ⟨Hb, 0, none⟩ = some (.int .i64 wc) := (z5.cell l6).trans k6
   have c7 : W.cell? ⟨Hb, 1, none⟩ = some (.int .i64 wd) := (z5.cell l7).trans k7
   match iq, ho with
   | 0, ho =>
     cases ho
     refine wpOp_of rfl rfl ?_
     have hK := fun (v : Value) (W2 : World) hW hT hv => hJ2.put hS 0 24 rfl (by omega) (W' := W2) hW hT v hv
     clear ho hall hl hQ
     generalize InvQ _ _ _ w0 a0 (lq.setIfInBounds 0 true) = K at hK ⊢
     clear hJ2 hS z1 z2 z3 z4 z6 z7
     go_simp
     exact hK _ _ z5 (fun _ _ h => h) rfl
   | 1, ho =>
     cases ho
     refine wpOp_of rfl rfl ?_
     have f0 : (aq.tmps.getD 24 undef) = .agg #[.int .i64 m, .int .i64 d, .slice ao Qd.m cap, .slice bo Qd.N bcap] := z6 0 24 (hall { on := 0, ground := Ground.data } (by simp) rfl) rfl
     have hK := fun (v : Value) (W2 : World) hW hT hv => hJ2.put hS 1 25 rfl (by omega) (W' := W2) hW hT v hv
     clear ho hall hl hQ
     generalize InvQ _ _ _ w0 a0 (lq.setIfInBounds 1 true) = K at hK ⊢
     clear hJ2 hS z1 z2 z3 z4 z6 z7
     go_simp
     refine (toQuad_any Qd ao bo cap bcap A off so m d hm hN hL hbo W (hIt.step z5) (hBl.below z5)).mono ?_
     rintro r v1 ⟨gi2, gb2, S2, rfl, R2, hBv⟩
     exact hK _ _ (z5.trans (hBv.mono z5.size)) (fun j v h => h.mono hBv) ⟨gi2, gb2, S2, rfl, R2.zero⟩
   | 2, ho =>
     cases ho
     refine wpOp_of rfl rfl ?_
     have hK := fun (v : Value) (W2 : World) hW hT hv => hJ2.put hS 2 26 rfl (by omega) (W' := W2) hW hT v hv
     clear ho hall hl hQ
     generalize InvQ _ _ _ w0 a0 (lq.setIfInBounds 2 true) = K at hK ⊢
     clear hJ2 hS z1 z2 z3 z4 z6 z7
     go_simp
     exact hK _ _ z5 (fun _ _ h => h) rfl
   | 3, ho =>
     cases ho
     refine wpOp_of rfl rfl ?_
     have f2 : (aq.tmps.getD 26 undef) = Sp wa wb := z6 2 26 (hall { on := 2, ground := Ground.data } (by simp) rfl) rfl
     have hK := fun (v : Value) (W2 : World) hW hT hv => hJ2.put hS 3 27 rfl (by omega) (W' := W2) hW hT v hv
     clear ho hall hl hQ
     generalize InvQ _ _ _ w0 a0 (lq.setIfInBounds 3 true) = K at hK ⊢
     clear hJ2 hS z1 z2 z3 z4 z6 z7
     go_simp
     refine (toSpot_any wa wb W).mono ?_
     rintro e v1 ⟨rfl, hBv⟩
     exact hK _ _ (z5.trans (hBv.mono z5.size)) (fun j v h => h.mono hBv) rfl
   | 4, ho =>
     cases ho
     refine wpOp_of rfl rfl ?_
     have hK := fun (v : Value) (W2 : World) hW hT hv => hJ2.put hS 4 28 rfl (by omega) (W' := W2) hW hT v hv
     clear ho hall hl hQ
     generalize InvQ _ _ _ w0 a0 (lq.setIfInBounds 4 true) = K at hK ⊢
     clear hJ2 hS z1 z2 z3 z4 z6 z7
     go_simp
     exact hK _ _ z5 (fun _ _ h => h) rfl
   | 5, ho =>
     cases ho
     refine wpOp_of rfl rfl ?_
     have f4 : (aq.tmps.getD 28 undef) = Sp wc wd := z6 4 28 (hall { on := 4, ground := Ground.data } (by simp) rfl) rfl
     have hK := fun (v : Value) (W2 : World) hW hT hv => hJ2.put hS 5 29 rfl (by omega) (W' := W2) hW hT v hv
     clear ho hall hl hQ
     generalize InvQ _ _ _ w0 a0 (lq.setIfInBounds 5 true) = K at hK ⊢
     clear hJ2 hS z1 z2 z3 z4 z6 z7
     go_simp
     refine (toSpot_any wc wd W).mono ?_
     rintro e v1 ⟨rfl, hBv⟩
     exact hK _ _ (z5.trans (hBv.mono z5.size)) (fun j v h => h.mono hBv) rfl
   | 6, ho =>
     cases ho
     refine wpOp_of rfl rfl ?_
     have f1 : QuE Qd m d (aq.tmps.getD 25 undef) W := z6 1 25 (hall { on := 1, ground := Ground.data } (by simp) rfl) rfl
     obtain ⟨gi2, gb2, S2, f1, R2⟩ := f1
     have f3 : (aq.tmps.getD 27 undef) = Sp wa wb := z6 3 27 (hall { on := 3, ground := Ground.data } (by simp) rfl) rfl
     have f5 : (aq.tmps.getD 29 undef) = Sp wc wd := z6 5 29 (hall { on := 5, ground := Ground.data } (by simp) rfl) rfl
     have hK := fun (v : Value) (W2 : World) hW hT hv => hJ2.put hS 6 30 rfl (by omega) (W' := W2) hW hT v hv
     clear ho hall hl hQ
     generalize InvQ _ _ _ w0 a0 (lq.setIfInBounds 6 true) = K at hK ⊢
     clear hJ2 hS z1 z2 z3 z4 z6 z7
     go_simp
     refine (CS _ _ _ W R2).mono ?_
     rintro r v1 ⟨uq, rfl, nq, hBv⟩
     exact hK _ _ (z5.trans (hBv.mono z5.size)) (fun j v h => h.mono hBv) ⟨uq, rfl, nq.mono z5.size⟩
   | 7, ho =>
     cases ho
     refine wpOp_of rfl rfl ?_
     have f6 : ∃ u, (aq.tmps.getD 30 undef) = .tuple #[u, .bool okn] ∧ NoOwn W w0.heap.size u LL := z6 6 30 (hall { on := 6, ground := Ground.data } (by simp) rfl) rfl
     obtain ⟨uq, f6, nq⟩ := f6
     have hK := fun (v : Value) (W2 : World) hW hT hv => hJ2.put hS 7 23 rfl (by omega) (W' := W2) hW hT v hv
     clear ho hall hl hQ
     generalize InvQ _ _ _ w0 a0 (lq.setIfInBounds 7 true) = K at hK ⊢
     clear hJ2 hS z1 z2 z3 z4 z6 z7
     go_simp
     exact hK _ _ z5 (fun _ _ h => h) ⟨uq, rfl, nq⟩
   | 8, ho =>
     cases ho
     refine wpOp_of rfl rfl ?_
     have f7 : ∃ u, (aq.tmps.getD 23 undef) = .tuple #[u, .bool okn] ∧ NoOwn W w0.heap.size u LL := z6 7 23 (hall { on := 7, ground := Ground.data } (by simp) rfl) rfl
     obtain ⟨uq, f7, nq⟩ := f7
     have hK := fun (v : Value) (W2 : World) hW hT hv => hJ2.put hS 8 31 rfl (by omega) (W' := W2) hW hT v hv
     clear ho hall hl hQ
     generalize InvQ _ _ _ w0 a0 (lq.setIfInBounds 8 true) = K at hK ⊢
     clear hJ2 hS z1 z2 z3 z4 z6 z7
     go_simp
     exact hK _ _ z5 (fun _ _ h => h) nq
   | 9, ho =>
     cases ho
     refine wpOp_of rfl rfl ?_
     have f7 : ∃ u, (aq.tmps.getD 23 undef) = .tuple #[u, .bool okn] ∧ NoOwn W w0.heap.size u LL := z6 7 23 (hall { on := 7, ground := Ground.data } (by simp) rfl) rfl
     obtain ⟨uq, f7, nq⟩ := f7
     have hK := fun (v : Value) (W2 : World) hW hT hv => hJ2.put hS 9 32 rfl (by omega) (W' := W2) hW hT v hv
     clear ho hall hl hQ
     generalize InvQ _ _ _ w0 a0 (lq.setIfInBounds 9 true) = K at hK ⊢
     clear hJ2 hS z1 z2 z3 z4 z6 z7
     go_simp
     exact hK _ _ z5 (fun _ _ h => h) rfl
   | 10, ho =>
     cases ho
     refine wpOp_of rfl rfl ?_
     have f8 : NoOwn W w0.heap.size (aq.tmps.getD 31 undef) LL := z6 8 31 (hall { on := 8, ground := Ground.data } (by simp) rfl) rfl
     have hK := fun (v : Value) (W2 : World) hW hT hv => hJ2.put hS 10 8 rfl (by omega) (W' := W2) hW hT v hv
     clear ho hall hl hQ
     generalize InvQ _ _ _ w0 a0 (lq.setIfInBounds 10 true) = K at hK ⊢
     clear hJ2 hS z1 z2 z3 z4 z6 z7
     go_simp
     exact hK _ _ z5 (fun _ _ h => h) (by first | exact f8 | (rw [Array.getD_eq_getD_getElem?] at f8; exact f8))
   | 11, ho =>
     cases ho
     refine wpOp_of rfl rfl ?_
     have f9 : (aq.tmps.getD 32 undef) = .bool okn := z6 9 32 (hall { on := 9, ground := Ground.data } (by simp) rfl) rfl
     have hK := fun (v : Value) (W2 : World) hW hT hv => hJ2.put hS 11 9 rfl (by omega) (W' := W2) hW hT v hv
     clear ho hall hl hQ
     generalize InvQ _ _ _ w0 a0 (lq.setIfInBounds 11 true) = K at hK ⊢
     clear hJ2 hS z1 z2 z3 z4 z6 z7
     go_simp
     exact hK _ _ z5 (fun _ _ h => h) rfl
   | iq + 12, ho => simp at ho
 · intro lq aq W hJ hr
   obtain ⟨z1, z2, z3, z4, z5, z6, z7⟩ := hJ
   have hl := listed_of hr [0, 1, 2, 3, 4, 5, 6, 7, 8, 10, 9, 11] [] (by simp) (by kernel_rfl) (by rw [z1]; decide)
   exact hQ aq W z2 z3 (fun e he => z4 e (by simpa using he)) (z6 10 8 (hl 10 (by simp)) rfl) (z6 11 9 (hl 11 (by simp)) rfl) z5
def VqvB (Qd : QD) (m d : Int) (gi gb : Nat) (wa wb wc wd : Int) (okn : Bool) (LL : List Int) (B : Nat) : Nat → Value → World → Prop
 | 0, v, _ => v = .agg #[.int .i64 m, .int .i64 d, .slice (some ⟨gi, 0, none⟩) Qd.m Qd.m, .slice (some ⟨gb, 0, none⟩) Qd.N Qd.N]
 | 1, v, _ => v = Sp wa wb
 | 2, v, _ => v = Sp wa wb
 | 3, v, _ => v = Sp wc wd
 | 4, v, _ => v = Sp wc wd
 | 5, v, W => ∃ u, v = .tuple #[u, .bool okn] ∧ NoOwn W B u LL
 | 6, v, W => ∃ u, v = .tuple #[u, .bool okn] ∧ NoOwn W B u LL
 | 7, v, W => NoOwn W B v LL
 | 8, v, _ => v = .bool okn
 | 9, v, W => NoOwn W B v LL
 | 10, v, _ => v = .bool okn
 | _, _, _ => True
theorem VqvB.mono {Qd : QD} {m d : Int} {gi gb : Nat} {wa wb wc wd : Int} {okn : Bool} {LL : List Int} {B j : Nat} {v : Value} {W W2 : World} (hB : Below W.heap.size W W2) (h : VqvB Qd m d gi gb wa wb wc wd okn LL B j v W) : VqvB Qd m d gi gb wa wb wc wd okn LL B j v W2 := by
 unfold VqvB at *
 split <;> simp only at h <;> first | exact h | exact h.step hB | (obtain ⟨u, e, h2⟩ := h; exact ⟨u, e, h2.step hB⟩) | trivial
set_option maxRecDepth 100000 in
set_option maxHeartbeats 4000000 in
theorem qvB {Q : Exit → Act → World → Prop} {Qd : QD} {m d : Int} {gi gb : Nat} {wa wb wc wd : Int} {okn : Bool} {LL : List Int} {X Lb Hb : Nat} {S : Nat → Nat} {w0 : World} {a0 : Act} {idq : Nat} {t0 t1 t2 t3 t4 t5 t6 t7 t8 t9 t10 : TypeId} {q0 q1 q2 q3 q4 q5 q6 q7 q8 q9 q10 : String}
   (hR : QuRow Qd w0 0 gi gb S) (CS : ∀ (gi gb : Nat) (S : Nat → Nat) (W : World), QuRow Qd W 0 gi gb S → Calls Try.prog 8 #[.agg #[.int .i64 m, .int .i64 d, .slice (some ⟨gi, 0, none⟩) Qd.m Qd.m, .slice (some ⟨gb, 0, none⟩) Qd.N Qd.N], Sp wa wb, Sp wc wd] W (WqP okn LL W)) (h10 : a0.tmps[10]? = some (.pointer (some ⟨X, 0, none⟩))) (h4 : a0.tmps[4]? = some (.pointer (some ⟨Lb, 0, none⟩))) (h5 : a0.tmps[5]? = some (.pointer (some ⟨Hb, 0, none⟩))) (k0 : w0.cell? ⟨X, 0, none⟩ = some (.int .i64 m)) (l0 : (⟨X, 0, none⟩ : Addr).block < w0.heap.size) (k1 : w0.cell? ⟨X, 1, none⟩ = some (.int .i64 d)) (l1 : (⟨X, 1, none⟩ : Addr).block < w0.heap.size) (k2 : w0.cell? ⟨X, 2, none⟩ = some (.slice (some ⟨gi, 0, none⟩) Qd.m Qd.m)) (l2 : (⟨X, 2, none⟩ : Addr).block < w0.heap.size) (k3 : w0.cell? ⟨X, 3, none⟩ = some (.slice (some ⟨gb, 0, none⟩) Qd.N Qd.N)) (l3 : (⟨X, 3, none⟩ : Addr).block < w0.heap.size) (k4 : w0.cell? ⟨Lb, 0, none⟩ = some (.int .i64 wa)) (l4 : (⟨Lb, 0, none⟩ : Addr).block < w0.heap.size) (k5 : w0.cell? ⟨Lb, 1, none⟩ = some (.int .i64 wb)) (l5 : (⟨Lb, 1, none⟩ : Addr).block < w0.heap.size) (k6 : w0.cell? ⟨Hb, 0, none⟩ = some (.int .i64 wc)) (l6 : (⟨Hb, 0, none⟩ : Addr).block < w0.heap.size) (k7 : w0.cell? ⟨Hb, 1, none⟩ = some (.int .i64 wd)) (l7 : (⟨Hb, 1, none⟩ : Addr).block < w0.heap.size) (hz : a0.tmps.size = 112)
   (hQ : ∀ aq W, aq.tmps.size = a0.tmps.size → aq.defers = a0.defers → (∀ e, e ∉ ([36, 37, 38, 39, 40, 41, 35, 42, 43, 11, 12] : List Nat) → aq.tmps[e]? = a0.tmps[e]?) → VqvB Qd m d gi gb wa wb wc wd okn LL w0.heap.size 9 (aq.tmps.getD 11 undef) W → VqvB Qd m d gi gb wa wb wc wd okn LL w0.heap.size 10 (aq.tmps.getD 12 undef) W → Below w0.heap.size w0 W → Q .normal aq W) :
   (Code.region idq #[{ dst := some 36, op := Op.load 35 (Operand.tmp 10), type := t0, pos := q0, after := #[], guard := none },
   { dst := some 37, op := Op.load 27 (Operand.tmp 4), type := t1, pos := q1, after := #[], guard := none },
   { dst := some 38, op := Op.call { callee := Callee.value (Operand.func 7), args := #[Operand.tmp 37], argTypes := #[27] }, type := t2, pos := q2, after := #[{ on := 1, ground := Ground.data }], guard := none },
   { dst := some 39, op := Op.load 27 (Operand.tmp 5), type := t3, pos := q3, after := #[], guard := none },
   { dst := some 40, op := Op.call { callee := Callee.value (Operand.func 7), args := #[Operand.tmp 39], argTypes := #[27] }, type := t4, pos := q4, after := #[{ on := 3, ground := Ground.data }, { on := 2, ground := Ground.chain }], guard := none },
   { dst := some 41, op := Op.call { callee := Callee.value (Operand.func 8), args := #[Operand.tmp 36, Operand.tmp 38, Operand.tmp 40], argTypes := #[35, 37, 37] }, type := t5, pos := q5, after := #[{ on := 0, ground := Ground.data }, { on := 2, ground := Ground.data }, { on := 4, ground := Ground.data }, { on := 4, ground := Ground.chain }], guard := none },
   { dst := some 35, op := Op.move (Operand.tmp 41), type := t6, pos := q6, after := #[{ on := 5, ground := Ground.data }], guard := none },
   { dst := some 42, op := Op.extract (Operand.tmp 35) 0, type := t7, pos := q7, after := #[{ on := 6, ground := Ground.data }], guard := none },
   { dst := some 43, op := Op.extract (Operand.tmp 35) 1, type := t8, pos := q8, after := #[{ on := 6, ground := Ground.data }, { on := 9, ground := Ground.gcOnly Departure.lateStores }], guard := none },
   { dst := some 11, op := Op.assign (Operand.tmp 42), type := t9, pos := q9, after := #[{ on := 7, ground := Ground.data }, { on := 5, ground := Ground.chain }, { on := 0, ground := Ground.phase }, { on := 1, ground := Ground.phase }, { on := 2, ground := Ground.phase }, { on := 3, ground := Ground.phase }, { on := 4, ground := Ground.phase }, { on := 5, ground := Ground.phase }, { on := 6, ground := Ground.phase }, { on := 7, ground := Ground.phase }, { on := 8, ground := Ground.textOnly Departure.lateStores }], guard := none },
   { dst := some 12, op := Op.assign (Operand.tmp 43), type := t10, pos := q10, after := #[{ on := 8, ground := Ground.data }, { on := 9, ground := Ground.chain }, { on := 0, ground := Ground.phase }, { on := 1, ground := Ground.phase }, { on := 2, ground := Ground.phase }, { on := 3, ground := Ground.phase }, { on := 4, ground := Ground.phase }, { on := 5, ground := Ground.phase }, { on := 6, ground := Ground.phase }, { on := 7, ground := Ground.phase }, { on := 8, ground := Ground.phase }, { on := 9, ground := Ground.phase }], guard := none }] true).wp Try.prog Q a0 w0 := by
 have hS : distS [some 36, some 37, some 38, some 39, some 40, some 41, some 35, some 42, some 43, some 11, some 12] = true := rfl
 refine wp_region_q (by kernel_rfl) w0.heap.size [some 36, some 37, some 38, some 39, some 40, some 41, some 35, some 42, some 43, some 11, some 12] (VqvB Qd m d gi gb wa wb wc wd okn LL w0.heap.size) rfl ?_ ?_
 · intro Q lq aq W iq oq hJ hl ho hall
   have hJ2 := hJ
   obtain ⟨z1, z2, z3, z4, z5, z6, z7⟩ := hJ
   have g10 : aq.tmps.getD 10 undef = .pointer (some ⟨X, 0, none⟩) := by rw [Array.getD_eq_getD_getElem?, z4 10 (by decide), h10]; rfl
   have g4 : aq.tmps.getD 4 undef = .pointer (some ⟨Lb, 0, none⟩) := by rw [Array.getD_eq_getD_getElem?, z4 4 (by decide), h4]; rfl
   have g5 : aq.tmps.getD 5 undef = .pointer (some ⟨Hb, 0, none⟩) := by rw [Array.getD_eq_getD_getElem?, z4 5 (by decide), h5]; rfl
   have c0 : W.cell? ⟨X, 0, none⟩ = some (.int .i64 m) := (z5.cell l0).trans k0
   have c1 : W.cell? ⟨X, 1, none⟩ = some (.int .i64 d) := (z5.cell l1).trans k1
   have c2 : W.cell? ⟨X, 2, none⟩ = some (.slice (some ⟨gi, 0, none⟩) Qd.m Qd.m) := (z5.cell l2).trans k2
   have c3 : W.cell? ⟨X, 3, none⟩ = some (.slice (some ⟨gb, 0, none⟩) Qd.N Qd.N) := (z5.cell l3).trans k3
   have c4 : W.cell? ⟨Lb, 0, none⟩ = some (.int .i64 wa) := (z5.cell l4).trans k4
   have c5 : W.cell? ⟨Lb, 1, none⟩ = some (.int .i64 wb) := (z5.cell l5).trans k5
   have c6 : W.cell? ⟨Hb, 0, none⟩ = some (.int .i64 wc) := (z5.cell l6).trans k6
   have c7 : W.cell? ⟨Hb, 1, none⟩ = some (.int .i64 wd) := (z5.cell l7).trans k7
   match iq, ho with
   | 0, ho =>
     cases ho
     refine wpOp_of rfl rfl ?_
     have hK := fun (v : Value) (W2 : World) hW hT hv => hJ2.put hS 0 36 rfl (by omega) (W' := W2) hW hT v hv
     clear ho hall hl hQ
     generalize InvQ _ _ _ w0 a0 (lq.setIfInBounds 0 true) = K at hK ⊢
     clear hJ2 hS z1 z2 z3 z4 z6 z7
     go_simp
     exact hK _ _ z5 (fun _ _ h => h) rfl
   | 1, ho =>
     cases ho
     refine wpOp_of rfl rfl ?_
     have hK := fun (v : Value) (W2 : World) hW hT hv => hJ2.put hS 1 37 rfl (by omega) (W' := W2) hW hT v hv
     clear ho hall hl hQ
     generalize InvQ _ _ _ w0 a0 (lq.setIfInBounds 1 true) = K at hK ⊢
     clear hJ2 hS z1 z2 z3 z4 z6 z7
     go_simp
     exact hK _ _ z5 (fun _ _ h => h) rfl
   | 2, ho =>
     cases ho
     refine wpOp_of rfl rfl ?_
     have f1 : (aq.tmps.getD 37 undef) = Sp wa wb := z6 1 37 (hall { on := 1, ground := Ground.data } (by simp) rfl) rfl
     have hK := fun (v : Value) (W2 : World) hW hT hv => hJ2.put hS 2 38 rfl (by omega) (W' := W2) hW hT v hv
     clear ho hall hl hQ
     generalize InvQ _ _ _ w0 a0 (lq.setIfInBounds 2 true) = K at hK ⊢
     clear hJ2 hS z1 z2 z3 z4 z6 z7
     go_simp
     refine (toSpot_any wa wb W).mono ?_
     rintro e v1 ⟨rfl, hBv⟩
     exact hK _ _ (z5.trans (hBv.mono z5.size)) (fun j v h => h.mono hBv) rfl
   | 3, ho =>
     cases ho
     refine wpOp_of rfl rfl ?_
     have hK := fun (v : Value) (W2 : World) hW hT hv => hJ2.put hS 3 39 rfl (by omega) (W' := W2) hW hT v hv
     clear ho hall hl hQ
     generalize InvQ _ _ _ w0 a0 (lq.setIfInBounds 3 true) = K at hK ⊢
     clear hJ2 hS z1 z2 z3 z4 z6 z7
     go_simp
     exact hK _ _ z5 (fun _ _ h => h) rfl
   | 4, ho =>
     cases ho
     refine wpOp_of rfl rfl ?_
     have f3 : (aq.tmps.getD 39 undef) = Sp wc wd := z6 3 39 (hall { on := 3, ground := Ground.data } (by simp) rfl) rfl
     have hK := fun (v : Value) (W2 : World) hW hT hv => hJ2.put hS 4 40 rfl (by omega) (W' := W2) hW hT v hv
     clear ho hall hl hQ
     generalize InvQ _ _ _ w0 a0 (lq.setIfInBounds 4 true) = K at hK ⊢
     clear hJ2 hS z1 z2 z3 z4 z6 z7
     go_simp
     refine (toSpot_any wc wd W).mono ?_
     rintro e v1 ⟨rfl, hBv⟩
     exact hK _ _ (z5.trans (hBv.mono z5.size)) (fun j v h => h.mono hBv) rfl
   | 5, ho =>
     cases ho
     refine wpOp_of rfl rfl ?_
     have f0 : (aq.tmps.getD 36 undef) = .agg #[.int .i64 m, .int .i64 d, .slice (some ⟨gi, 0, none⟩) Qd.m Qd.m, .slice (some ⟨gb, 0, none⟩) Qd.N Qd.N] := z6 0 36 (hall { on := 0, ground := Ground.data } (by simp) rfl) rfl
     have f2 : (aq.tmps.getD 38 undef) = Sp wa wb := z6 2 38 (hall { on := 2, ground := Ground.data } (by simp) rfl) rfl
     have f4 : (aq.tmps.getD 40 undef) = Sp wc wd := z6 4 40 (hall { on := 4, ground := Ground.data } (by simp) rfl) rfl
     have hK := fun (v : Value) (W2 : World) hW hT hv => hJ2.put hS 5 41 rfl (by omega) (W' := W2) hW hT v hv
     clear ho hall hl hQ
     generalize InvQ _ _ _ w0 a0 (lq.setIfInBounds 5 true) = K at hK ⊢
     clear hJ2 hS z1 z2 z3 z4 z6 z7
     go_simp
     refine (CS gi gb S W (hR.step z5)).mono ?_
     rintro r v1 ⟨uq, rfl, nq, hBv⟩
     exact hK _ _ (z5.trans (hBv.mono z5.size)) (fun j v h => h.mono hBv) ⟨uq, rfl, nq.mono z5.size⟩
   | 6, ho =>
     cases ho
     refine wpOp_of rfl rfl ?_
     have f5 : ∃ u, (aq.tmps.getD 41 undef) = .tuple #[u, .bool okn] ∧ NoOwn W w0.heap.size u LL := z6 5 41 (hall { on := 5, ground := Ground.data } (by simp) rfl) rfl
     obtain ⟨uq, f5, nq⟩ := f5
     have hK := fun (v : Value) (W2 : World) hW hT hv => hJ2.put hS 6 35 rfl (by omega) (W' := W2) hW hT v hv
     clear ho hall hl hQ
     generalize InvQ _ _ _ w0 a0 (lq.setIfInBounds 6 true) = K at hK ⊢
     clear hJ2 hS z1 z2 z3 z4 z6 z7
     go_simp
     exact hK _ _ z5 (fun _ _ h => h) ⟨uq, rfl, nq⟩
   | 7, ho =>
     cases ho
     refine wpOp_of rfl rfl ?_
     have f6 : ∃ u, (aq.tmps.getD 35 undef) = .tuple #[u, .bool okn] ∧ NoOwn W w0.heap.size u LL := z6 6 35 (hall { on := 6, ground := Ground.data } (by simp) rfl) rfl
     obtain ⟨uq, f6, nq⟩ := f6
     have hK := fun (v : Value) (W2 : World) hW hT hv => hJ2.put hS 7 42 rfl (by omega) (W' := W2) hW hT v hv
     clear ho hall hl hQ
     generalize InvQ _ _ _ w0 a0 (lq.setIfInBounds 7 true) = K at hK ⊢
     clear hJ2 hS z1 z2 z3 z4 z6 z7
     go_simp
     exact hK _ _ z5 (fun _ _ h => h) nq
   | 8, ho =>
     cases ho
     refine wpOp_of rfl rfl ?_
     have f6 : ∃ u, (aq.tmps.getD 35 undef) = .tuple #[u, .bool okn] ∧ NoOwn W w0.heap.size u LL := z6 6 35 (hall { on := 6, ground := Ground.data } (by simp) rfl) rfl
     obtain ⟨uq, f6, nq⟩ := f6
     have hK := fun (v : Value) (W2 : World) hW hT hv => hJ2.put hS 8 43 rfl (by omega) (W' := W2) hW hT v hv
     clear ho hall hl hQ
     generalize InvQ _ _ _ w0 a0 (lq.setIfInBounds 8 true) = K at hK ⊢
     clear hJ2 hS z1 z2 z3 z4 z6 z7
     go_simp
     exact hK _ _ z5 (fun _ _ h => h) rfl
   | 9, ho =>
     cases ho
     refine wpOp_of rfl rfl ?_
     have f7 : NoOwn W w0.heap.size (aq.tmps.getD 42 undef) LL := z6 7 42 (hall { on := 7, ground := Ground.data } (by simp) rfl) rfl
     have hK := fun (v : Value) (W2 : World) hW hT hv => hJ2.put hS 9 11 rfl (by omega) (W' := W2) hW hT v hv
     clear ho hall hl hQ
     generalize InvQ _ _ _ w0 a0 (lq.setIfInBounds 9 true) = K at hK ⊢
     clear hJ2 hS z1 z2 z3 z4 z6 z7
     go_simp
     exact hK _ _ z5 (fun _ _ h => h) (by first | exact f7 | (rw [Array.getD_eq_getD_getElem?] at f7; exact f7))
   | 10, ho =>
     cases ho
     refine wpOp_of rfl rfl ?_
     have f8 : (aq.tmps.getD 43 undef) = .bool okn := z6 8 43 (hall { on := 8, ground := Ground.data } (by simp) rfl) rfl
     have hK := fun (v : Value) (W2 : World) hW hT hv => hJ2.put hS 10 12 rfl (by omega) (W' := W2) hW hT v hv
     clear ho hall hl hQ
     generalize InvQ _ _ _ w0 a0 (lq.setIfInBounds 10 true) = K at hK ⊢
     clear hJ2 hS z1 z2 z3 z4 z6 z7
     go_simp
     exact hK _ _ z5 (fun _ _ h => h) rfl
   | iq + 11, ho => simp at ho
 · intro lq aq W hJ hr
   obtain ⟨z1, z2, z3, z4, z5, z6, z7⟩ := hJ
   have hl := listed_of hr [0, 1, 2, 3, 4, 5, 6, 7, 9, 8, 10] [] (by simp) (by kernel_rfl) (by rw [z1]; decide)
   exact hQ aq W z2 z3 (fun e he => z4 e (by simpa using he)) (z6 9 11 (hl 9 (by simp)) rfl) (z6 10 12 (hl 10 (by simp)) rfl) z5
def VqvE (Qd : QD) (m d : Int) (ao bo : Option Addr) (cap bcap gi gb : Nat) (_B : Nat) : Nat → Value → World → Prop
 | 0, v, _ => v = .agg #[.int .i64 m, .int .i64 d, .slice (some ⟨gi, 0, none⟩) Qd.m Qd.m, .slice (some ⟨gb, 0, none⟩) Qd.N Qd.N]
 | 1, v, _ => v = .agg #[.int .i64 m, .int .i64 d, .slice ao Qd.m cap, .slice bo Qd.N bcap]
 | 2, v, W => QuE Qd m d v W
 | 3, v, _ => v = .bool true
 | 4, v, _ => v = .bool false
 | _, _, _ => True
theorem VqvE.mono {Qd : QD} {m d : Int} {ao bo : Option Addr} {cap bcap gi gb : Nat} {B j : Nat} {v : Value} {W W2 : World} (hB : Below W.heap.size W W2) (h : VqvE Qd m d ao bo cap bcap gi gb B j v W) : VqvE Qd m d ao bo cap bcap gi gb B j v W2 := by
 unfold VqvE at *
 split <;> simp only at h <;> first | exact h | exact h.step hB | trivial
set_option maxRecDepth 100000 in
set_option maxHeartbeats 4000000 in
theorem qvE {Q : Exit → Act → World → Prop} {Qd : QD} {m d : Int} {ao bo : Option Addr} {cap bcap gi gb : Nat} {P X A off : Nat} {so : Nat → Option Addr × Nat} {S : Nat → Nat} {w0 : World} {a0 : Act} {idq : Nat} {t0 t1 t2 t3 t4 : TypeId} {q0 q1 q2 q3 q4 : String}
   (hm : Qd.m ≤ 1048576) (hN : Qd.N ≤ 1048576) (hL : ∀ i, i < Qd.N → Qd.L i ≤ 1048576) (hbo : 0 < Qd.N → bo = some ⟨A, off, none⟩) (hIt : ItIn Qd w0 ao (List.range Qd.m)) (hBl : BlIn Qd w0 A off so) (hR : QuRow Qd w0 0 gi gb S) (h3 : a0.tmps[3]? = some (.pointer (some ⟨P, 0, none⟩))) (h10 : a0.tmps[10]? = some (.pointer (some ⟨X, 0, none⟩))) (k0 : w0.cell? ⟨P, 0, none⟩ = some (.int .i64 m)) (l0 : (⟨P, 0, none⟩ : Addr).block < w0.heap.size) (k1 : w0.cell? ⟨P, 1, none⟩ = some (.int .i64 d)) (l1 : (⟨P, 1, none⟩ : Addr).block < w0.heap.size) (k2 : w0.cell? ⟨P, 2, none⟩ = some (.slice ao Qd.m cap)) (l2 : (⟨P, 2, none⟩ : Addr).block < w0.heap.size) (k3 : w0.cell? ⟨P, 3, none⟩ = some (.slice bo Qd.N bcap)) (l3 : (⟨P, 3, none⟩ : Addr).block < w0.heap.size) (k4 : w0.cell? ⟨X, 0, none⟩ = some (.int .i64 m)) (l4 : (⟨X, 0, none⟩ : Addr).block < w0.heap.size) (k5 : w0.cell? ⟨X, 1, none⟩ = some (.int .i64 d)) (l5 : (⟨X, 1, none⟩ : Addr).block < w0.heap.size) (k6 : w0.cell? ⟨X, 2, none⟩ = some (.slice (some ⟨gi, 0, none⟩) Qd.m Qd.m)) (l6 : (⟨X, 2, none⟩ : Addr).block < w0.heap.size) (k7 : w0.cell? ⟨X, 3, none⟩ = some (.slice (some ⟨gb, 0, none⟩) Qd.N Qd.N)) (l7 : (⟨X, 3, none⟩ : Addr).block < w0.heap.size) (hz : a0.tmps.size = 112)
   (hQ : ∀ aq W, aq.tmps.size = a0.tmps.size → aq.defers = a0.defers → (∀ e, e ∉ ([53, 54, 55, 56, 57] : List Nat) → aq.tmps[e]? = a0.tmps[e]?) → VqvE Qd m d ao bo cap bcap gi gb w0.heap.size 4 (aq.tmps.getD 57 undef) W → Below w0.heap.size w0 W → Q .normal aq W) :
   (Code.region idq #[{ dst := some 53, op := Op.load 35 (Operand.tmp 10), type := t0, pos := q0, after := #[], guard := none },
   { dst := some 54, op := Op.load 25 (Operand.tmp 3), type := t1, pos := q1, after := #[], guard := none },
   { dst := some 55, op := Op.call { callee := Callee.value (Operand.func 6), args := #[Operand.tmp 54], argTypes := #[25] }, type := t2, pos := q2, after := #[{ on := 1, ground := Ground.data }], guard := none },
   { dst := some 56, op := Op.call { callee := Callee.value (Operand.func 10), args := #[Operand.tmp 53, Operand.tmp 55], argTypes := #[35, 35] }, type := t3, pos := q3, after := #[{ on := 0, ground := Ground.data }, { on := 2, ground := Ground.data }, { on := 2, ground := Ground.chain }], guard := none },
   { dst := some 57, op := Op.unOp UnOp.not 4 (Operand.tmp 56), type := t4, pos := q4, after := #[{ on := 3, ground := Ground.data }], guard := none }] true).wp Try.prog Q a0 w0 := by
 have hS : distS [some 53, some 54, some 55, some 56, some 57] = true := rfl
 refine wp_region_q (by kernel_rfl) w0.heap.size [some 53, some 54, some 55, some 56, some 57] (VqvE Qd m d ao bo cap bcap gi gb w0.heap.size) rfl ?_ ?_
 · intro Q lq aq W iq oq hJ hl ho hall
   have hJ2 := hJ
   obtain ⟨z1, z2, z3, z4, z5, z6, z7⟩ := hJ
   have g3 : aq.tmps.getD 3 undef = .pointer (some ⟨P, 0, none⟩) := by rw [Array.getD_eq_getD_getElem?, z4 3 (by decide), h3]; rfl
   have g10 : aq.tmps.getD 10 undef = .pointer (some ⟨X, 0, none⟩) := by rw [Array.getD_eq_getD_getElem?, z4 10 (by decide), h10]; rfl
   have c0 : W.cell? ⟨P, 0, none⟩ = some (.int .i64 m) := (z5.cell l0).trans k0
   have c1 : W.cell? ⟨P, 1, none⟩ = some (.int .i64 d) := (z5.cell l1).trans k1
   have c2 : W.cell? ⟨P, 2, none⟩ = some (.slice ao Qd.m cap) := (z5.cell l2).trans k2
   have c3 : W.cell? ⟨P, 3, none⟩ = some (.slice bo Qd.N bcap) := (z5.cell l3).trans k3
   have c4 : W.cell? ⟨X, 0, none⟩ = some (.int .i64 m) := (z5.cell l4).trans k4
   have c5 : W.cell? ⟨X, 1, none⟩ = some (.int .i64 d) := (z5.cell l5).trans k5
   have c6 : W.cell? ⟨X, 2, none⟩ = some (.slice (some ⟨gi, 0, none⟩) Qd.m Qd.m) := (z5.cell l6).trans k6
   have c7 : W.cell? ⟨X, 3, none⟩ = some (.slice (some ⟨gb, 0, none⟩) Qd.N Qd.N) := (z5.cell l7).trans k7
   match iq, ho with
   | 0, ho =>
     cases ho
     refine wpOp_of rfl rfl ?_
     have hK := fun (v : Value) (W2 : World) hW hT hv => hJ2.put hS 0 53 rfl (by omega) (W' := W2) hW hT v hv
     clear ho hall hl hQ
     generalize InvQ _ _ _ w0 a0 (lq.setIfInBounds 0 true) = K at hK ⊢
     clear hJ2 hS z1 z2 z3 z4 z6 z7
     go_simp
     exact hK _ _ z5 (fun _ _ h => h) rfl
   | 1, ho =>
     cases ho
     refine wpOp_of rfl rfl ?_
     have hK := fun (v : Value) (W2 : World) hW hT hv => hJ2.put hS 1 54 rfl (by omega) (W' := W2) hW hT v hv
     clear ho hall hl hQ
     generalize InvQ _ _ _ w0 a0 (lq.setIfInBounds 1 true) = K at hK ⊢
     clear hJ2 hS z1 z2 z3 z4 z6 z7
     go_simp
     exact hK _ _ z5 (fun _ _ h => h) rfl
   | 2, ho =>
     cases ho
     refine wpOp_of rfl rfl ?_
     have f1 : (aq.tmps.getD 54 undef) = .agg #[.int .i64 m, .int .i64 d, .slice ao Qd.m cap, .slice bo Qd.N bcap] := z6 1 54 (hall { on := 1, ground := Ground.data } (by simp) rfl) rfl
     have hK := fun (v : Value) (W2 : World) hW hT hv => hJ2.put hS 2 55 rfl (by omega) (W' := W2) hW hT v hv
     clear ho hall hl hQ
     generalize InvQ _ _ _ w0 a0 (lq.setIfInBounds 2 true) = K at hK ⊢
     clear hJ2 hS z1 z2 z3 z4 z6 z7
     go_simp
     refine (toQuad_any Qd ao bo cap bcap A off so m d hm hN hL hbo W (hIt.step z5) (hBl.below z5)).mono ?_
     rintro r v1 ⟨gi2, gb2, S2, rfl, R2, hBv⟩
     exact hK _ _ (z5.trans (hBv.mono z5.size)) (fun j v h => h.mono hBv) ⟨gi2, gb2, S2, rfl, R2.zero⟩
   | 3, ho =>
     cases ho
     refine wpOp_of rfl rfl ?_
     have f0 : (aq.tmps.getD 53 undef) = .agg #[.int .i64 m, .int .i64 d, .slice (some ⟨gi, 0, none⟩) Qd.m Qd.m, .slice (some ⟨gb, 0, none⟩) Qd.N Qd.N] := z6 0 53 (hall { on := 0, ground := Ground.data } (by simp) rfl) rfl
     have f2 : QuE Qd m d (aq.tmps.getD 55 undef) W := z6 2 55 (hall { on := 2, ground := Ground.data } (by simp) rfl) rfl
     obtain ⟨gi2, gb2, S2, f2, R2⟩ := f2
     have hK := fun (v : Value) (W2 : World) hW hT hv => hJ2.put hS 3 56 rfl (by omega) (W' := W2) hW hT v hv
     clear ho hall hl hQ
     generalize InvQ _ _ _ w0 a0 (lq.setIfInBounds 3 true) = K at hK ⊢
     clear hJ2 hS z1 z2 z3 z4 z6 z7
     go_simp
     refine (eqQuad_any Qd m d _ _ _ _ _ _ _ _ gb 0 gb2 0 _ _ hm hN hL W (fun _ => rfl) (fun _ => rfl) (hR.step z5).items R2.items (hR.step z5).bls.in R2.bls.in).mono ?_
     rintro r v1 ⟨rfl, hBv⟩
     exact hK _ _ (z5.trans (hBv.mono z5.size)) (fun j v h => h.mono hBv) rfl
   | 4, ho =>
     cases ho
     refine wpOp_of rfl rfl ?_
     have f3 : (aq.tmps.getD 56 undef) = .bool true := z6 3 56 (hall { on := 3, ground := Ground.data } (by simp) rfl) rfl
     have hK := fun (v : Value) (W2 : World) hW hT hv => hJ2.put hS 4 57 rfl (by omega) (W' := W2) hW hT v hv
     clear ho hall hl hQ
     generalize InvQ _ _ _ w0 a0 (lq.setIfInBounds 4 true) = K at hK ⊢
     clear hJ2 hS z1 z2 z3 z4 z6 z7
     go_simp
     exact hK _ _ z5 (fun _ _ h => h) rfl
   | iq + 5, ho => simp at ho
 · intro lq aq W hJ hr
   obtain ⟨z1, z2, z3, z4, z5, z6, z7⟩ := hJ
   have hl := listed_of hr [0, 1, 2, 3, 4] [] (by simp) (by kernel_rfl) (by rw [z1]; decide)
   exact hQ aq W z2 z3 (fun e he => z4 e (by simpa using he)) (z6 4 57 (hl 4 (by simp)) rfl) z5
def VqvC (Qd : QD) (m d : Int) (ao bo : Option Addr) (cap bcap : Nat) (wa wb wc wd : Int) (okn : Bool) (LL : List Int) (B : Nat) : Nat → Value → World → Prop
 | 0, v, _ => v = .agg #[.int .i64 m, .int .i64 d, .slice ao Qd.m cap, .slice bo Qd.N bcap]
 | 1, v, W => QuE Qd m d v W
 | 2, v, _ => v = Sp wa wb
 | 3, v, _ => v = Sp wa wb
 | 4, v, _ => v = Sp wc wd
 | 5, v, _ => v = Sp wc wd
 | 6, v, W => ∃ u, v = .tuple #[u, .bool okn] ∧ NoOwn W B u LL
 | 7, v, W => ∃ u, v = .tuple #[u, .bool okn] ∧ NoOwn W B u LL
 | 8, v, W => NoOwn W B v LL
 | 9, v, _ => v = .bool okn
 | 10, v, W => NoOwn W B v LL
 | 11, v, _ => v = .bool okn
 | _, _, _ => True
theorem VqvC.mono {Qd : QD} {m d : Int} {ao bo : Option Addr} {cap bcap : Nat} {wa wb wc wd : Int} {okn : Bool} {LL : List Int} {B j : Nat} {v : Value} {W W2 : World} (hB : Below W.heap.size W W2) (h : VqvC Qd m d ao bo cap bcap wa wb wc wd okn LL B j v W) : VqvC Qd m d ao bo cap bcap wa wb wc wd okn LL B j v W2 := by
 unfold VqvC at *
 split <;> simp only at h <;> first | exact h | exact h.step hB | (obtain ⟨u, e, h2⟩ := h; exact ⟨u, e, h2.step hB⟩) | trivial
set_option maxRecDepth 100000 in
set_option maxHeartbeats 4000000 in
theorem qvC {Q : Exit → Act → World → Prop} {Qd : QD} {m d : Int} {ao bo : Option Addr} {cap bcap : Nat} {wa wb wc wd : Int} {okn : Bool} {LL : List Int} {P Lb Hb A off : Nat} {so : Nat → Option Addr × Nat} {w0 : World} {a0 : Act} {idq : Nat} {t0 t1 t2 t3 t4 t5 t6 t7 t8 t9 t10 t11 : TypeId} {q0 q1 q2 q3 q4 q5 q6 q7 q8 q9 q10 q11 : String}
   (hm : Qd.m ≤ 1048576) (hN : Qd.N ≤ 1048576) (hL : ∀ i, i < Qd.N → Qd.L i ≤ 1048576) (hbo : 0 < Qd.N → bo = some ⟨A, off, none⟩) (hIt : ItIn Qd w0 ao (List.range Qd.m)) (hBl : BlIn Qd w0 A off so) (CS : ∀ (gi gb : Nat) (S : Nat → Nat) (W : World), QuRow Qd W 0 gi gb S → Calls Try.prog 8 #[.agg #[.int .i64 m, .int .i64 d, .slice (some ⟨gi, 0, none⟩) Qd.m Qd.m, .slice (some ⟨gb, 0, none⟩) Qd.N Qd.N], Sp wa wb, Sp wc wd] W (WqP okn LL W)) (h3 : a0.tmps[3]? = some (.pointer (some ⟨P, 0, none⟩))) (h4 : a0.tmps[4]? = some (.pointer (some ⟨Lb, 0, none⟩))) (h5 : a0.tmps[5]? = some (.pointer (some ⟨Hb, 0, none⟩))) (k0 : w0.cell? ⟨P, 0, none⟩ = some (.int .i64 m)) (l0 : (⟨P, 0, none⟩ : Addr).block < w0.heap.size) (k1 : w0.cell? ⟨P, 1, none⟩ = some (.int .i64 d)) (l1 : (⟨P, 1, none⟩ : Addr).block < w0.heap.size) (k2 : w0.cell? ⟨P, 2, none⟩ = some (.slice ao Qd.m cap)) (l2 : (⟨P, 2, none⟩ : Addr).block < w0.heap.size) (k3 : w0.cell? ⟨P, 3, none⟩ = some (.slice bo Qd.N bcap)) (l3 : (⟨P, 3, none⟩ : Addr).block < w0.heap.size) (k4 : w0.cell? ⟨Lb, 0, none⟩ = some (.int .i64 wa)) (l4 : (⟨Lb, 0, none⟩ : Addr).block < w0.heap.size) (k5 : w0.cell? ⟨Lb, 1, none⟩ = some (.int .i64 wb)) (l5 : (⟨Lb, 1, none⟩ : Addr).block < w0.heap.size) (k6 : w0.cell? ⟨Hb, 0, none⟩ = some (.int .i64 wc)) (l6 : (⟨Hb, 0, none⟩ : Addr).block < w0.heap.size) (k7 : w0.cell? ⟨Hb, 1, none⟩ = some (.int .i64 wd)) (l7 : (⟨Hb, 1, none⟩ : Addr).block < w0.heap.size) (hz : a0.tmps.size = 112)
   (hQ : ∀ aq W, aq.tmps.size = a0.tmps.size → aq.defers = a0.defers → (∀ e, e ∉ ([86, 87, 88, 89, 90, 91, 92, 85, 93, 94, 16, 17] : List Nat) → aq.tmps[e]? = a0.tmps[e]?) → VqvC Qd m d ao bo cap bcap wa wb wc wd okn LL w0.heap.size 10 (aq.tmps.getD 16 undef) W → VqvC Qd m d ao bo cap bcap wa wb wc wd okn LL w0.heap.size 11 (aq.tmps.getD 17 undef) W → Below w0.heap.size w0 W → Q .normal aq W) :
   (Code.region idq #[{ dst := some 86, op := Op.load 25 (Operand.tmp 3), type := t0, pos := q0, after := #[], guard := none },
   { dst := some 87, op := Op.call { callee := Callee.value (Operand.func 6), args := #[Operand.tmp 86], argTypes := #[25] }, type := t1, pos := q1, after := #[{ on := 0, ground := Ground.data }], guard := none },
   { dst := some 88, op := Op.load 27 (Operand.tmp 4), type := t2, pos := q2, after := #[], guard := none },
   { dst := some 89, op := Op.call { callee := Callee.value (Operand.func 7), args := #[Operand.tmp 88], argTypes := #[27] }, type := t3, pos := q3, after := #[{ on := 2, ground := Ground.data }, { on := 1, ground := Ground.chain }], guard := none },
   { dst := some 90, op := Op.load 27 (Operand.tmp 5), type := t4, pos := q4, after := #[], guard := none },
   { dst := some 91, op := Op.call { callee := Callee.value (Operand.func 7), args := #[Operand.tmp 90], argTypes := #[27] }, type := t5, pos := q5, after := #[{ on := 4, ground := Ground.data }, { on := 3, ground := Ground.chain }], guard := none },
   { dst := some 92, op := Op.call { callee := Callee.value (Operand.func 8), args := #[Operand.tmp 87, Operand.tmp 89, Operand.tmp 91], argTypes := #[35, 37, 37] }, type := t6, pos := q6, after := #[{ on := 1, ground := Ground.data }, { on := 3, ground := Ground.data }, { on := 5, ground := Ground.data }, { on := 5, ground := Ground.chain }], guard := none },
   { dst := some 85, op := Op.move (Operand.tmp 92), type := t7, pos := q7, after := #[{ on := 6, ground := Ground.data }], guard := none },
   { dst := some 93, op := Op.extract (Operand.tmp 85) 0, type := t8, pos := q8, after := #[{ on := 7, ground := Ground.data }], guard := none },
   { dst := some 94, op := Op.extract (Operand.tmp 85) 1, type := t9, pos := q9, after := #[{ on := 7, ground := Ground.data }, { on := 10, ground := Ground.gcOnly Departure.lateStores }], guard := none },
   { dst := some 16, op := Op.assign (Operand.tmp 93), type := t10, pos := q10, after := #[{ on := 8, ground := Ground.data }, { on := 6, ground := Ground.chain }, { on := 0, ground := Ground.phase }, { on := 1, ground := Ground.phase }, { on := 2, ground := Ground.phase }, { on := 3, ground := Ground.phase }, { on := 4, ground := Ground.phase }, { on := 5, ground := Ground.phase }, { on := 6, ground := Ground.phase }, { on := 7, ground := Ground.phase }, { on := 8, ground := Ground.phase }, { on := 9, ground := Ground.textOnly Departure.lateStores }], guard := none },
   { dst := some 17, op := Op.assign (Operand.tmp 94), type := t11, pos := q11, after := #[{ on := 9, ground := Ground.data }, { on := 10, ground := Ground.chain }, { on := 0, ground := Ground.phase }, { on := 1, ground := Ground.phase }, { on := 2, ground := Ground.phase }, { on := 3, ground := Ground.phase }, { on := 4, ground := Ground.phase }, { on := 5, ground := Ground.phase }, { on := 6, ground := Ground.phase }, { on := 7, ground := Ground.phase }, { on := 8, ground := Ground.phase }, { on := 9, ground := Ground.phase }, { on := 10, ground := Ground.phase }], guard := none }] true).wp Try.prog Q a0 w0 := by
 have hS : distS [some 86, some 87, some 88, some 89, some 90, some 91, some 92, some 85, some 93, some 94, some 16, some 17] = true := rfl
 refine wp_region_q (by kernel_rfl) w0.heap.size [some 86, some 87, some 88, some 89, some 90, some 91, some 92, some 85, some 93, some 94, some 16, some 17] (VqvC Qd m d ao bo cap bcap wa wb wc wd okn LL w0.heap.size) rfl ?_ ?_
 · intro Q lq aq W iq oq hJ hl ho hall
   have hJ2 := hJ
   obtain ⟨z1, z2, z3, z4, z5, z6, z7⟩ := hJ
   have g3 : aq.tmps.getD 3 undef = .pointer (some ⟨P, 0, none⟩) := by rw [Array.getD_eq_getD_getElem?, z4 3 (by decide), h3]; rfl
   have g4 : aq.tmps.getD 4 undef = .pointer (some ⟨Lb, 0, none⟩) := by rw [Array.getD_eq_getD_getElem?, z4 4 (by decide), h4]; rfl
   have g5 : aq.tmps.getD 5 undef = .pointer (some ⟨Hb, 0, none⟩) := by rw [Array.getD_eq_getD_getElem?, z4 5 (by decide), h5]; rfl
   have c0 : W.cell? ⟨P, 0, none⟩ = some (.int .i64 m) := (z5.cell l0).trans k0
   have c1 : W.cell? ⟨P, 1, none⟩ = some (.int .i64 d) := (z5.cell l1).trans k1
   have c2 : W.cell? ⟨P, 2, none⟩ = some (.slice ao Qd.m cap) := (z5.cell l2).trans k2
   have c3 : W.cell? ⟨P, 3, none⟩ = some (.slice bo Qd.N bcap) := (z5.cell l3).trans k3
   have c4 : W.cell? ⟨Lb, 0, none⟩ = some (.int .i64 wa) := (z5.cell l4).trans k4
   have c5 : W.cell? ⟨Lb, 1, none⟩ = some (.int .i64 wb) := (z5.cell l5).trans k5
   have c6 : W.cell? ⟨Hb, 0, none⟩ = some (.int .i64 wc) := (z5.cell l6).trans k6
   have c7 : W.cell? ⟨Hb, 1, none⟩ = some (.int .i64 wd) := (z5.cell l7).trans k7
   match iq, ho with
   | 0, ho =>
     cases ho
     refine wpOp_of rfl rfl ?_
     have hK := fun (v : Value) (W2 : World) hW hT hv => hJ2.put hS 0 86 rfl (by omega) (W' := W2) hW hT v hv
     clear ho hall hl hQ
     generalize InvQ _ _ _ w0 a0 (lq.setIfInBounds 0 true) = K at hK ⊢
     clear hJ2 hS z1 z2 z3 z4 z6 z7
     go_simp
     exact hK _ _ z5 (fun _ _ h => h) rfl
   | 1, ho =>
     cases ho
     refine wpOp_of rfl rfl ?_
     have f0 : (aq.tmps.getD 86 undef) = .agg #[.int .i64 m, .int .i64 d, .slice ao Qd.m cap, .slice bo Qd.N bcap] := z6 0 86 (hall { on := 0, ground := Ground.data } (by simp) rfl) rfl
     have hK := fun (v : Value) (W2 : World) hW hT hv => hJ2.put hS 1 87 rfl (by omega) (W' := W2) hW hT v hv
     clear ho hall hl hQ
     generalize InvQ _ _ _ w0 a0 (lq.setIfInBounds 1 true) = K at hK ⊢
     clear hJ2 hS z1 z2 z3 z4 z6 z7
     go_simp
     refine (toQuad_any Qd ao bo cap bcap A off so m d hm hN hL hbo W (hIt.step z5) (hBl.below z5)).mono ?_
     rintro r v1 ⟨gi2, gb2, S2, rfl, R2, hBv⟩
     exact hK _ _ (z5.trans (hBv.mono z5.size)) (fun j v h => h.mono hBv) ⟨gi2, gb2, S2, rfl, R2.zero⟩
   | 2, ho =>
     cases ho
     refine wpOp_of rfl rfl ?_
     have hK := fun (v : Value) (W2 : World) hW hT hv => hJ2.put hS 2 88 rfl (by omega) (W' := W2) hW hT v hv
     clear ho hall hl hQ
     generalize InvQ _ _ _ w0 a0 (lq.setIfInBounds 2 true) = K at hK ⊢
     clear hJ2 hS z1 z2 z3 z4 z6 z7
     go_simp
     exact hK _ _ z5 (fun _ _ h => h) rfl
   | 3, ho =>
     cases ho
     refine wpOp_of rfl rfl ?_
     have f2 : (aq.tmps.getD 88 undef) = Sp wa wb := z6 2 88 (hall { on := 2, ground := Ground.data } (by simp) rfl) rfl
     have hK := fun (v : Value) (W2 : World) hW hT hv => hJ2.put hS 3 89 rfl (by omega) (W' := W2) hW hT v hv
     clear ho hall hl hQ
     generalize InvQ _ _ _ w0 a0 (lq.setIfInBounds 3 true) = K at hK ⊢
     clear hJ2 hS z1 z2 z3 z4 z6 z7
     go_simp
     refine (toSpot_any wa wb W).mono ?_
     rintro e v1 ⟨rfl, hBv⟩
     exact hK _ _ (z5.trans (hBv.mono z5.size)) (fun j v h => h.mono hBv) rfl
   | 4, ho =>
     cases ho
     refine wpOp_of rfl rfl ?_
     have hK := fun (v : Value) (W2 : World) hW hT hv => hJ2.put hS 4 90 rfl (by omega) (W' := W2) hW hT v hv
     clear ho hall hl hQ
     generalize InvQ _ _ _ w0 a0 (lq.setIfInBounds 4 true) = K at hK ⊢
     clear hJ2 hS z1 z2 z3 z4 z6 z7
     go_simp
     exact hK _ _ z5 (fun _ _ h => h) rfl
   | 5, ho =>
     cases ho
     refine wpOp_of rfl rfl ?_
     have f4 : (aq.tmps.getD 90 undef) = Sp wc wd := z6 4 90 (hall { on := 4, ground := Ground.data } (by simp) rfl) rfl
     have hK := fun (v : Value) (W2 : World) hW hT hv => hJ2.put hS 5 91 rfl (by omega) (W' := W2) hW hT v hv
     clear ho hall hl hQ
     generalize InvQ _ _ _ w0 a0 (lq.setIfInBounds 5 true) = K at hK ⊢
     clear hJ2 hS z1 z2 z3 z4 z6 z7
     go_simp
     refine (toSpot_any wc wd W).mono ?_
     rintro e v1 ⟨rfl, hBv⟩
     exact hK _ _ (z5.trans (hBv.mono z5.size)) (fun j v h => h.mono hBv) rfl
   | 6, ho =>
     cases ho
     refine wpOp_of rfl rfl ?_
     have f1 : QuE Qd m d (aq.tmps.getD 87 undef) W := z6 1 87 (hall { on := 1, ground := Ground.data } (by simp) rfl) rfl
     obtain ⟨gi2, gb2, S2, f1, R2⟩ := f1
     have f3 : (aq.tmps.getD 89 undef) = Sp wa wb := z6 3 89 (hall { on := 3, ground := Ground.data } (by simp) rfl) rfl
     have f5 : (aq.tmps.getD 91 undef) = Sp wc wd := z6 5 91 (hall { on := 5, ground := Ground.data } (by simp) rfl) rfl
     have hK := fun (v : Value) (W2 : World) hW hT hv => hJ2.put hS 6 92 rfl (by omega) (W' := W2) hW hT v hv
     clear ho hall hl hQ
     generalize InvQ _ _ _ w0 a0 (lq.setIfInBounds 6 true) = K at hK ⊢
     clear hJ2 hS z1 z2 z3 z4 z6 z7
     go_simp
     refine (CS _ _ _ W R2).mono ?_
     rintro r v1 ⟨uq, rfl, nq, hBv⟩
     exact hK _ _ (z5.trans (hBv.mono z5.size)) (fun j v h => h.mono hBv) ⟨uq, rfl, nq.mono z5.size⟩
   | 7, ho =>
     cases ho
     refine wpOp_of rfl rfl ?_
     have f6 : ∃ u, (aq.tmps.getD 92 undef) = .tuple #[u, .bool okn] ∧ NoOwn W w0.heap.size u LL := z6 6 92 (hall { on := 6, ground := Ground.data } (by simp) rfl) rfl
     obtain ⟨uq, f6, nq⟩ := f6
     have hK := fun (v : Value) (W2 : World) hW hT hv => hJ2.put hS 7 85 rfl (by omega) (W' := W2) hW hT v hv
     clear ho hall hl hQ
     generalize InvQ _ _ _ w0 a0 (lq.setIfInBounds 7 true) = K at hK ⊢
     clear hJ2 hS z1 z2 z3 z4 z6 z7
     go_simp
     exact hK _ _ z5 (fun _ _ h => h) ⟨uq, rfl, nq⟩
   | 8, ho =>
     cases ho
     refine wpOp_of rfl rfl ?_
     have f7 : ∃ u, (aq.tmps.getD 85 undef) = .tuple #[u, .bool okn] ∧ NoOwn W w0.heap.size u LL := z6 7 85 (hall { on := 7, ground := Ground.data } (by simp) rfl) rfl
     obtain ⟨uq, f7, nq⟩ := f7
     have hK := fun (v : Value) (W2 : World) hW hT hv => hJ2.put hS 8 93 rfl (by omega) (W' := W2) hW hT v hv
     clear ho hall hl hQ
     generalize InvQ _ _ _ w0 a0 (lq.setIfInBounds 8 true) = K at hK ⊢
     clear hJ2 hS z1 z2 z3 z4 z6 z7
     go_simp
     exact hK _ _ z5 (fun _ _ h => h) nq
   | 9, ho =>
     cases ho
     refine wpOp_of rfl rfl ?_
     have f7 : ∃ u, (aq.tmps.getD 85 undef) = .tuple #[u, .bool okn] ∧ NoOwn W w0.heap.size u LL := z6 7 85 (hall { on := 7, ground := Ground.data } (by simp) rfl) rfl
     obtain ⟨uq, f7, nq⟩ := f7
     have hK := fun (v : Value) (W2 : World) hW hT hv => hJ2.put hS 9 94 rfl (by omega) (W' := W2) hW hT v hv
     clear ho hall hl hQ
     generalize InvQ _ _ _ w0 a0 (lq.setIfInBounds 9 true) = K at hK ⊢
     clear hJ2 hS z1 z2 z3 z4 z6 z7
     go_simp
     exact hK _ _ z5 (fun _ _ h => h) rfl
   | 10, ho =>
     cases ho
     refine wpOp_of rfl rfl ?_
     have f8 : NoOwn W w0.heap.size (aq.tmps.getD 93 undef) LL := z6 8 93 (hall { on := 8, ground := Ground.data } (by simp) rfl) rfl
     have hK := fun (v : Value) (W2 : World) hW hT hv => hJ2.put hS 10 16 rfl (by omega) (W' := W2) hW hT v hv
     clear ho hall hl hQ
     generalize InvQ _ _ _ w0 a0 (lq.setIfInBounds 10 true) = K at hK ⊢
     clear hJ2 hS z1 z2 z3 z4 z6 z7
     go_simp
     exact hK _ _ z5 (fun _ _ h => h) (by first | exact f8 | (rw [Array.getD_eq_getD_getElem?] at f8; exact f8))
   | 11, ho =>
     cases ho
     refine wpOp_of rfl rfl ?_
     have f9 : (aq.tmps.getD 94 undef) = .bool okn := z6 9 94 (hall { on := 9, ground := Ground.data } (by simp) rfl) rfl
     have hK := fun (v : Value) (W2 : World) hW hT hv => hJ2.put hS 11 17 rfl (by omega) (W' := W2) hW hT v hv
     clear ho hall hl hQ
     generalize InvQ _ _ _ w0 a0 (lq.setIfInBounds 11 true) = K at hK ⊢
     clear hJ2 hS z1 z2 z3 z4 z6 z7
     go_simp
     exact hK _ _ z5 (fun _ _ h => h) rfl
   | iq + 12, ho => simp at ho
 · intro lq aq W hJ hr
   obtain ⟨z1, z2, z3, z4, z5, z6, z7⟩ := hJ
   have hl := listed_of hr [0, 1, 2, 3, 4, 5, 6, 7, 8, 10, 9, 11] [] (by simp) (by kernel_rfl) (by rw [z1]; decide)
   exact hQ aq W z2 z3 (fun e he => z4 e (by simpa using he)) (z6 10 16 (hl 10 (by simp)) rfl) (z6 11 17 (hl 11 (by simp)) rfl) z5
theorem qwL_len {Q : QD} {m d wa wb wc wd : Int} : (qwL Q m d wa wb wc wd).length ≤ 1048576 := by
 unfold qwL
 split
 · rename_i h
   unfold qwB at h
   rw [Bool.and_eq_true] at h
   have hm : Q.m ≤ 40 := (of_decide_eq_true (qOk_all h.1).2.2.1).1
   unfold winQ idL
   rw [List.length_map]
   have := List.length_filter_le (hitW Q wa wb wc wd) (List.range Q.m)
   rw [List.length_range] at this
   omega
 · simp
set_option maxRecDepth 100000 in
set_option maxHeartbeats 16000000 in
theorem lawQuadWindow_any (Q : QD) (ao bo : Option Addr) (cap bcap A off : Nat) (so : Nat → Option Addr × Nat) (m d : Int) (hm : Q.m ≤ 9223372036854775807) (hN : Q.N ≤ 9223372036854775807) (hL : ∀ i, i < Q.N → Q.L i ≤ 9223372036854775807) (hbo : 0 < Q.N → bo = some ⟨A, off, none⟩) (wa wb wc wd : Int) (w : World) (hS : ItIn Q w ao (List.range Q.m)) (hBl : BlIn Q w A off so) : Calls Try.prog 3 #[.agg #[.int .i64 m, .int .i64 d, .slice ao Q.m cap, .slice bo Q.N bcap], Sp wa wb, Sp wc wd] w (BoolP true w) := by
 obtain ⟨okn, hok0⟩ : ∃ okn, qwB Q m d wa wb wc wd = okn := ⟨_, rfl⟩
 obtain ⟨LL, hLL0⟩ : ∃ LL, qwL Q m d wa wb wc wd = LL := ⟨_, rfl⟩
 have HLL : Hid (LL.length ≤ 1048576) := by rw [← hLL0]; exact qwL_len
 have B0 := ((Blk.new w [.int .i64 m, .int .i64 d, .slice ao Q.m cap, .slice bo Q.N bcap] 25 rfl).alloc (.cells #[.int .i64 wa, .int .i64 wb] 27)).alloc (.cells #[.int .i64 wc, .int .i64 wd] 27)
 have BS1 := (Blk.new (w.alloc (.cells #[.int .i64 m, .int .i64 d, .slice ao Q.m cap, .slice bo Q.N bcap] 25)) [.int .i64 wa, .int .i64 wb] 27 rfl).alloc (.cells #[.int .i64 wc, .int .i64 wd] 27)
 have BS2 := Blk.new ((w.alloc (.cells #[.int .i64 m, .int .i64 d, .slice ao Q.m cap, .slice bo Q.N bcap] 25)).alloc (.cells #[.int .i64 wa, .int .i64 wb] 27)) [.int .i64 wc, .int .i64 wd] 27 rfl
 simp only [World.size_alloc] at BS1 BS2
 have HB : Below w.heap.size w (((w.alloc (.cells #[.int .i64 m, .int .i64 d, .slice ao Q.m cap, .slice bo Q.N bcap] 25)).alloc (.cells #[.int .i64 wa, .int .i64 wb] 27)).alloc (.cells #[.int .i64 wc, .int .i64 wd] 27)) := (((Below.refl _ w).alloc (Nat.le_refl _) _).alloc (by simp) _).alloc (by simp; omega) _
 have SZ := fun w h => szQuad_any Q ao bo cap bcap A off so m d hm hN hL hbo w h
 have HS : Hid (ItIn Q w ao (List.range Q.m)) := hS
 have HBL : Hid (BlIn Q w A off so) := hBl
 clear hS hBl hm hN hL
 go_enter Try.func3, Try.ntmps3
 go_upto_region 1 with fail
 generalize (((w.alloc (.cells #[.int .i64 m, .int .i64 d, .slice ao Q.m cap, .slice bo Q.N bcap] 25)).alloc (.cells #[.int .i64 wa, .int .i64 wb] 27)).alloc (.cells #[.int .i64 wc, .int .i64 wd] 27)) = W1 at *
 have qB00 := B0.c 0 rfl; have qB01 := B0.c 1 rfl; have qB02 := B0.c 2 rfl; have qB03 := B0.c 3 rfl
 go_wp2_with fail
 refine (SZ _ (HBL.out.below HB)).mono ?_
 rintro e w1 ⟨z, rfl, z0, hz, hB⟩
 replace HB := HB.trans (hB.mono HB.size)
 replace B0 := B0.step hB
 replace BS1 := BS1.step hB
 replace BS2 := BS2.step hB
 clear hB SZ qB00 qB01 qB02 qB03
 by_cases hz0 : 0 ≤ z
 · obtain ⟨hm, hN, hL⟩ := hz hz0
   have HM : Hid (Q.m ≤ 1048576) := hm
   have HN : Hid (Q.N ≤ 1048576) := hN
   have HL : Hid (∀ i, i < Q.N → Q.L i ≤ 1048576) := hL
   have HBO : Hid (0 < Q.N → bo = some ⟨A, off, none⟩) := hbo
   have SP1 : ∀ (gi gb : Nat) (S : Nat → Nat) (W : World), QuRow Q W 0 gi gb S → Calls Try.prog 5 #[.agg #[.int .i64 m, .int .i64 d, .slice (some ⟨gi, 0, none⟩) Q.m Q.m, .slice (some ⟨gb, 0, none⟩) Q.N Q.N], Sp wa wb, Sp wc wd] W (WqP okn LL W) := fun gi gb S W R => by
     rw [← hok0, ← hLL0]
     exact (specQuadWindow_any W Q (some ⟨gi, 0, none⟩) (some ⟨gb, 0, none⟩) Q.m Q.N gb 0 _ m d hm hN hL (fun _ => rfl) (fun _ _ h => by cases h) R.items R.bls.in wa wb wc wd).mono (fun r w' h => qw_of h)
   have SPI : ∀ (gi gb : Nat) (S : Nat → Nat) (W : World), QuRow Q W 0 gi gb S → Calls Try.prog 8 #[.agg #[.int .i64 m, .int .i64 d, .slice (some ⟨gi, 0, none⟩) Q.m Q.m, .slice (some ⟨gb, 0, none⟩) Q.N Q.N], Sp wa wb, Sp wc wd] W (WqP okn LL W) := fun gi gb S W R => by
     rw [← hok0, ← hLL0]
     exact (implQuadWindow_any W Q (some ⟨gi, 0, none⟩) (some ⟨gb, 0, none⟩) Q.m Q.N gb 0 _ m d hm hN (Nat.le_refl _) hL (fun _ => rfl) (fun A o sp e => by cases e; exact R.its.lt) R.items R.bls.in wa wb wc wd).mono (fun r w' h => qw_of h)
   clear hz hm hN hL hbo hok0 hLL0
   go_upto_region 5 with fail
   refine qvA (Qd := Q) (m := m) (d := d) (ao := ao) (bo := bo) (cap := cap) (bcap := bcap) (A := A) (off := off) (so := so) (P := w.heap.size) (wa := wa) (wb := wb) (wc := wc) (wd := wd) (okn := okn) (LL := LL) (Lb := w.heap.size + 1) (Hb := w.heap.size + 1 + 1) HM.out HN.out HL.out HBO.out (HS.out.step HB) (HBL.out.below HB) SP1 rfl rfl rfl (B0.c 0 rfl) B0.lt (B0.c 1 rfl) B0.lt (B0.c 2 rfl) B0.lt (B0.c 3 rfl) B0.lt (BS1.c 0 rfl) BS1.lt (BS1.c 1 rfl) BS1.lt (BS2.c 0 rfl) BS2.lt (BS2.c 1 rfl) BS2.lt rfl ?_
   rintro ⟨tm, df⟩ w3 hz hdf hoff hv8 hv9 hB
   simp only at hz hdf hoff hv8 hv9
   change NoOwn w3 _ (tm.getD 8 undef) LL at hv8
   generalize e8 : tm.getD 8 undef = v1 at hv8
   replace hv9 : tm.getD 9 undef = .bool okn := hv9
   subst hdf
   have htm := tmps_fold [24, 25, 26, 27, 28, 29, 30, 23, 31, 32, 8, 9] tm _ hz hoff
   simp only [List.foldl, List.setIfInBounds_toArray, List.set_cons_zero, List.set_cons_succ, e8, hv9] at htm
   clear hz hoff
   generalize tm.getD 24 undef = p5_0, tm.getD 25 undef = p5_1, tm.getD 26 undef = p5_2, tm.getD 27 undef = p5_3, tm.getD 28 undef = p5_4, tm.getD 29 undef = p5_5, tm.getD 30 undef = p5_6, tm.getD 23 undef = p5_7, tm.getD 31 undef = p5_8, tm.getD 32 undef = p5_9 at htm
   clear e8 hv9
   subst htm
   replace HB := HB.trans (hB.mono HB.size)
   replace B0 := B0.step hB
   replace BS1 := BS1.step hB
   replace BS2 := BS2.step hB
   have N1 : NoOwn w3 0 v1 LL := hv8.mono (Nat.zero_le _)
   have o1 : Hid (∀ g, v1.ownBlock = some g → g < w3.heap.size) := fun g hg => (hv8.lt hg).2
   have hw3 : w.heap.size + 3 ≤ w3.heap.size := BS2.lt
   clear hv8 hB SP1
   have qB00 := B0.c 0 rfl; have qB01 := B0.c 1 rfl; have qB02 := B0.c 2 rfl; have qB03 := B0.c 3 rfl
   go_wp2_with fail
   refine (toQuad_any Q ao bo cap bcap A off so m d HM.out HN.out HL.out HBO.out _ (HS.out.step HB) (HBL.out.below HB)).mono ?_
   rintro e w5 ⟨gi, gb, S2, rfl, R2, hB⟩
   clear qB00 qB01 qB02 qB03
   replace HB := HB.trans (hB.mono HB.size)
   replace B0 := B0.step hB
   replace BS1 := BS1.step hB
   replace BS2 := BS2.step hB
   replace N1 := N1.step hB
   clear hB
   have HX := R2.quG m d HM.out HN.out HL.out
   have hcX : w5.heap.size ≤ w5.heap.size := Nat.le_refl _
   have h35 : w3.heap.size ≤ w5.heap.size := Nat.le_of_lt (Nat.lt_of_le_of_lt R2.lt R2.its.lt)
   have BX : Blk (w5.alloc (.cells #[.int .i64 m, .int .i64 d, .slice (some ⟨gi, 0, none⟩) Q.m Q.m, .slice (some ⟨gb, 0, none⟩) Q.N Q.N] 35)) w5.heap.size [.int .i64 m, .int .i64 d, .slice (some ⟨gi, 0, none⟩) Q.m Q.m, .slice (some ⟨gb, 0, none⟩) Q.N Q.N] := Blk.new w5 [.int .i64 m, .int .i64 d, .slice (some ⟨gi, 0, none⟩) Q.m Q.m, .slice (some ⟨gb, 0, none⟩) Q.N Q.N] 35 rfl
   have hB : Below w5.heap.size w5 (w5.alloc (.cells #[.int .i64 m, .int .i64 d, .slice (some ⟨gi, 0, none⟩) Q.m Q.m, .slice (some ⟨gb, 0, none⟩) Q.N Q.N] 35)) := (Below.refl _ w5).alloc (Nat.le_refl _) _
   replace HB := HB.trans (hB.mono HB.size)
   replace B0 := B0.step hB
   replace BS1 := BS1.step hB
   replace BS2 := BS2.step hB
   replace N1 := N1.step hB
   replace R2 := R2.step hB
   replace HX := QuG.keep HX (fun b _ h2 => hB.block b (Nat.lt_of_lt_of_le h2 hcX))
   replace hcX := Nat.le_trans hcX hB.size
   clear hB
   go_upto_region 7 with fail
   generalize (w5.alloc (.cells #[.int .i64 m, .int .i64 d, .slice (some ⟨gi, 0, none⟩) Q.m Q.m, .slice (some ⟨gb, 0, none⟩) Q.N Q.N] 35)) = W6 at *
   have h56 : w5.heap.size < W6.heap.size := BX.lt
   go_upto_region 7 with fail
   refine qvB (Qd := Q) (m := m) (d := d) (gi := gi) (gb := gb) (S := S2) (X := w5.heap.size) (wa := wa) (wb := wb) (wc := wc) (wd := wd) (okn := okn) (LL := LL) (Lb := w.heap.size + 1) (Hb := w.heap.size + 1 + 1) R2.zero SPI rfl rfl rfl (BX.c 0 rfl) BX.lt (BX.c 1 rfl) BX.lt (BX.c 2 rfl) BX.lt (BX.c 3 rfl) BX.lt (BS1.c 0 rfl) BS1.lt (BS1.c 1 rfl) BS1.lt (BS2.c 0 rfl) BS2.lt (BS2.c 1 rfl) BS2.lt rfl ?_
   rintro ⟨tm, df⟩ w7 hz hdf hoff hv11 hv12 hB
   simp only at hz hdf hoff hv11 hv12
   change NoOwn w7 _ (tm.getD 11 undef) LL at hv11
   generalize e11 : tm.getD 11 undef = v2 at hv11
   replace hv12 : tm.getD 12 undef = .bool okn := hv12
   subst hdf
   have htm := tmps_fold [36, 37, 38, 39, 40, 41, 35, 42, 43, 11, 12] tm _ hz hoff
   simp only [List.foldl, List.setIfInBounds_toArray, List.set_cons_zero, List.set_cons_succ, e11, hv12] at htm
   clear hz hoff
   generalize tm.getD 36 undef = p7_0, tm.getD 37 undef = p7_1, tm.getD 38 undef = p7_2, tm.getD 39 undef = p7_3, tm.getD 40 undef = p7_4, tm.getD 41 undef = p7_5, tm.getD 35 undef = p7_6, tm.getD 42 undef = p7_7, tm.getD 43 undef = p7_8 at htm
   clear e11 hv12
   subst htm
   replace HB := HB.trans (hB.mono HB.size)
   replace B0 := B0.step hB
   replace BS1 := BS1.step hB
   replace BS2 := BS2.step hB
   replace N1 := N1.step hB
   replace R2 := R2.step hB
   replace HX := QuG.keep HX (fun b _ h2 => hB.block b (Nat.lt_of_lt_of_le h2 hcX))
   replace hcX := Nat.le_trans hcX hB.size
   replace BX := BX.step hB
   have N2 := hv11
   clear hv11 hB
   have hok : (okn != okn) = false := by simp
   have HLn : Hid (LL.length ≤ 1048576) := HLL
   go_wp2_with fail
   refine (eqNo_own HLn.out _ N2 N1).mono ?_
   rintro e w9 ⟨rfl, hB⟩
   replace HB := HB.trans (hB.mono HB.size)
   replace B0 := B0.step hB
   replace BS1 := BS1.step hB
   replace BS2 := BS2.step hB
   replace N1 := N1.step hB
   replace R2 := R2.step hB
   replace HX := QuG.keep HX (fun b _ h2 => hB.block b (Nat.lt_of_lt_of_le h2 hcX))
   replace hcX := Nat.le_trans hcX hB.size
   replace BX := BX.step hB
   replace N2 := N2.step hB
   clear hB
   go_upto_region 10 with fail
   refine qvE (Qd := Q) (m := m) (d := d) (ao := ao) (bo := bo) (cap := cap) (bcap := bcap) (gi := gi) (gb := gb) (P := w.heap.size) (X := w5.heap.size) (A := A) (off := off) (so := so) (S := S2) HM.out HN.out HL.out HBO.out (HS.out.step HB) (HBL.out.below HB) R2.zero rfl rfl (B0.c 0 rfl) B0.lt (B0.c 1 rfl) B0.lt (B0.c 2 rfl) B0.lt (B0.c 3 rfl) B0.lt (BX.c 0 rfl) BX.lt (BX.c 1 rfl) BX.lt (BX.c 2 rfl) BX.lt (BX.c 3 rfl) BX.lt rfl ?_
   rintro ⟨tm, df⟩ w10 hz hdf hoff hv57 hB
   simp only at hz hdf hoff hv57
   replace hv57 : tm.getD 57 undef = .bool false := hv57
   subst hdf
   have htm := tmps_fold [53, 54, 55, 56, 57] tm _ hz hoff
   simp only [List.foldl, List.setIfInBounds_toArray, List.set_cons_zero, List.set_cons_succ, hv57] at htm
   clear hz hoff
   generalize tm.getD 53 undef = p10_0, tm.getD 54 undef = p10_1, tm.getD 55 undef = p10_2, tm.getD 56 undef = p10_3 at htm
   clear hv57
   subst htm
   replace HB := HB.trans (hB.mono HB.size)
   replace B0 := B0.step hB
   replace BS1 := BS1.step hB
   replace BS2 := BS2.step hB
   replace N1 := N1.step hB
   replace R2 := R2.step hB
   replace HX := QuG.keep HX (fun b _ h2 => hB.block b (Nat.lt_of_lt_of_le h2 hcX))
   replace hcX := Nat.le_trans hcX hB.size
   replace BX := BX.step hB
   replace N2 := N2.step hB
   clear hB R2
   have qBX0 := BX.c 0 rfl; have qBX1 := BX.c 1 rfl; have qBX2 := BX.c 2 rfl; have qBX3 := BX.c 3 rfl
   go_wp2_with fail
   refine (markG_any _ HX).mono ?_
   rintro e w11 ⟨zx, hzx, rfl, _, hF⟩
   clear qBX0 qBX1 qBX2 qBX3 HX hcX
   have hzx0 : ¬ ((zx : Int) < 0) := by omega
   replace HB := HB.trans (hF.below (B := w.heap.size) HB.size (fun b hb => by have := hb.1; omega))
   replace B0 := hF.blk B0 (fun hb => by have h1 := hb.1; have h2 := hb.2; omega)
   replace BS1 := hF.blk BS1 (fun hb => by have h1 := hb.1; have h2 := hb.2; omega)
   replace BS2 := hF.blk BS2 (fun hb => by have h1 := hb.1; have h2 := hb.2; omega)
   replace N1 := N1.frm hF (fun g hg hb => by have h1 := hb.1; have h2 := hb.2; have h3 := o1.out g hg; omega)
   replace N2 := N2.frm hF (fun g hg hb => by have h1 := hb.1; have h2 := hb.2; have h3 := (N2.lt hg).1; omega)
   clear hF BX
   go_wp2_with fail
   refine (eqNo_own HLn.out _ N2 N1).mono ?_
   rintro e w12 ⟨rfl, hB⟩
   replace HB := HB.trans (hB.mono HB.size)
   replace B0 := B0.step hB
   replace BS1 := BS1.step hB
   replace BS2 := BS2.step hB
   replace N1 := N1.step hB
   replace N2 := N2.step hB
   clear hB
   clear hzx0
   go_wp2_with fail
   have ob : ∀ g, v2.ownBlock = some g → W6.heap.size ≤ g := fun g hg => (N2.lt (g := g) hg).1
   refine (markNoS_any v2 LL _ HLn.out _ N2).mono ?_
   rintro e w13 ⟨rfl, N2q, KM⟩
   replace HB := KM.2.2 w (fun g hg => by have := ob g hg; omega) HB
   replace B0 := KM.blk (fun e => by have := ob _ e.symm; omega) B0
   replace BS1 := KM.blk (fun e => by have := ob _ e.symm; omega) BS1
   replace BS2 := KM.blk (fun e => by have := ob _ e.symm; omega) BS2
   replace N1 := KM.own N1 (fun g hg e => by have h1 := o1.out g hg; have h2 := ob g e.symm; omega)
   clear KM N2 ob
   have N2 := N2q
   clear N2q
   have hk2 : ¬ ((LL.length : Int) + 1 < 0) := by omega
   have hk3 : (((LL.length : Int) + 1) != ((LL.length : Int) + 1)) = false := by simp
   go_wp2_with fail
   refine (heldNoS_any v2 LL.length _ HLn.out _ N2).mono ?_
   rintro e w14 ⟨rfl, hB⟩
   replace HB := HB.trans (hB.mono HB.size)
   replace B0 := B0.step hB
   replace BS1 := BS1.step hB
   replace BS2 := BS2.step hB
   replace N1 := N1.step hB
   replace N2 := N2.step hB
   clear hB
   go_upto_region 24 with fail
   refine qvC (Qd := Q) (m := m) (d := d) (ao := ao) (bo := bo) (cap := cap) (bcap := bcap) (A := A) (off := off) (so := so) (P := w.heap.size) (wa := wa) (wb := wb) (wc := wc) (wd := wd) (okn := okn) (LL := LL) (Lb := w.heap.size + 1) (Hb := w.heap.size + 1 + 1) HM.out HN.out HL.out HBO.out (HS.out.step HB) (HBL.out.below HB) SPI rfl rfl rfl (B0.c 0 rfl) B0.lt (B0.c 1 rfl) B0.lt (B0.c 2 rfl) B0.lt (B0.c 3 rfl) B0.lt (BS1.c 0 rfl) BS1.lt (BS1.c 1 rfl) BS1.lt (BS2.c 0 rfl) BS2.lt (BS2.c 1 rfl) BS2.lt rfl ?_
   rintro ⟨tm, df⟩ w15 hz hdf hoff hv16 hv17 hB
   simp only at hz hdf hoff hv16 hv17
   change NoOwn w15 _ (tm.getD 16 undef) LL at hv16
   generalize e16 : tm.getD 16 undef = v3 at hv16
   replace hv17 : tm.getD 17 undef = .bool okn := hv17
   subst hdf
   have htm := tmps_fold [86, 87, 88, 89, 90, 91, 92, 85, 93, 94, 16, 17] tm _ hz hoff
   simp only [List.foldl, List.setIfInBounds_toArray, List.set_cons_zero, List.set_cons_succ, e16, hv17] at htm
   clear hz hoff
   generalize tm.getD 86 undef = p24_0, tm.getD 87 undef = p24_1, tm.getD 88 undef = p24_2, tm.getD 89 undef = p24_3, tm.getD 90 undef = p24_4, tm.getD 91 undef = p24_5, tm.getD 92 undef = p24_6, tm.getD 85 undef = p24_7, tm.getD 93 undef = p24_8, tm.getD 94 undef = p24_9 at htm
   clear e16 hv17
   subst htm
   replace HB := HB.trans (hB.mono HB.size)
   replace B0 := B0.step hB
   replace BS1 := BS1.step hB
   replace BS2 := BS2.step hB
   replace N1 := N1.step hB
   replace N2 := N2.step hB
   have N3 := hv16
   clear hv16 hB SPI
   go_wp2_with fail
   refine (eqNo_own HLn.out _ N3 N1).mono ?_
   rintro e w18 ⟨rfl, hB⟩
   replace HB := HB.trans (hB.mono HB.size)
   replace B0 := B0.step hB
   replace BS1 := BS1.step hB
   replace BS2 := BS2.step hB
   replace N1 := N1.step hB
   replace N2 := N2.step hB
   clear hB
   clear N3
   go_wp2_with fail
   refine (heldNoS_any v2 LL.length _ HLn.out _ N2).mono ?_
   rintro e w19 ⟨rfl, hB⟩
   replace HB := HB.trans (hB.mono HB.size)
   clear hB
   clear N1 N2 B0 BS1 BS2
   go_wp2
   go_ret
   exact ⟨rfl, HB⟩
 · have hz' : z < 0 := by omega
   clear hz hbo HS HBL
   go_wp2
   go_ret
   exact ⟨rfl, HB⟩
open Go.ChangeShapes Go.WideShapes Go.ChangeAt Go.RowKit Go.Joins
theorem Try.cellsSpot : Try.prog.cellsOf 27 = 2 := by kernel_rfl
theorem Try.cellsSeg : Try.prog.cellsOf 86 = 4 := by kernel_rfl
abbrev Wf (x : Int) : Prop := (Lit.int .i64 x).wf = true
abbrev SpD {H : Type} (x y : Int) : DataW H := .agg [.lit (.int .i64 x), .lit (.int .i64 y)]
set_option maxRecDepth 100000 in
theorem open_spot {H : Type} {enc : TypeId × Value → H} {w : World} {b0 : Nat} {v : Value} {d : DataW H} {p : List MemPlace} (hv : Value.okWide Try.prog w .any b0 27 v) (h : DataW.Trod enc Try.prog w 0 (fun _ => true) true 27 v d p) :
   ∃ x y : Int, v = .agg #[.int .i64 x, .int .i64 y] ∧ d = SpD x y ∧ p = [] ∧ Wf x ∧ Wf y := by
 obtain ⟨c0, c1, y0, y1, m, rfl, rfl, rfl, hy0, hy1⟩ := open_agg2 Try.underlying27 (by kernel_rfl) Try.cellsSpot hv h
 obtain ⟨a, e0, rfl, wa⟩ := DataW.trod_int Try.underlying2 hy0
 obtain ⟨b, e1, rfl, wb⟩ := DataW.trod_int Try.underlying2 hy1
 simp at e0 e1
 subst e0 e1
 exact ⟨a, b, rfl, rfl, rfl, wa, wb⟩
theorem trod_spot {H : Type} {enc : TypeId × Value → H} {w : World} {base : Nat} {spare : TypeId → Bool} {held : Bool} {n : Nat} {c0 c1 : Value} {y : DataW H × List MemPlace} (h : DataW.trod enc Try.prog w base spare held n 27 [c0, c1] = some y) :
   ∃ a b : Int, c0 = .int .i64 a ∧ c1 = .int .i64 b ∧ y = (SpD a b, []) ∧ Wf a ∧ Wf b := by
 obtain ⟨y0, y1, m, hx, _, h0, h1⟩ := trod_struct2 Try.underlying27 h
 obtain ⟨a, e0, rfl, wa⟩ := DataW.trod_int Try.underlying2 h0
 obtain ⟨b, e1, rfl, wb⟩ := DataW.trod_int Try.underlying2 h1
 have k : Try.prog.cellsOf 2 = 1 := by kernel_rfl
 simp [k] at e0 e1
 exact ⟨a, b, e0, e1, hx, wa, wb⟩
open Go.ChangeShapes Go.WideShapes Go.ChangeAt Go.RowKit Go.Joins
theorem Try.laidOut : laidOutB Try.prog = true := by kernel_rfl
theorem Try.cellsInt64 : Try.prog.cellsOf 2 = 1 := by kernel_rfl
theorem Try.cellsBool : Try.prog.cellsOf 4 = 1 := by kernel_rfl
theorem Try.cellsNoS : Try.prog.cellsOf 29 = 1 := by kernel_rfl
theorem Try.cellsItem : Try.prog.cellsOf 88 = 5 := by kernel_rfl
theorem Try.cellsBlock : Try.prog.cellsOf 74 = 5 := by kernel_rfl
theorem Try.cellsQuad : Try.prog.cellsOf 25 = 4 := by kernel_rfl
theorem Try.cellsItemS : Try.prog.cellsOf 22 = 1 := by kernel_rfl
theorem Try.cellsBlockS : Try.prog.cellsOf 23 = 1 := by kernel_rfl
theorem trod_struct5 {P : Program} {H : Type} {enc : TypeId × Value → H} {w : World} {base : Nat} {spare : Nat → Bool} {held : Bool} {t : TypeId} {f0 f1 f2 f3 f4 : Field} {fuel : Nat} {cs : List Value} {x : DataW H × List MemPlace} (ht : P.underlying t = some (.struct #[f0, f1, f2, f3, f4])) (h : DataW.trod enc P w base spare held fuel t cs = some x) :
   ∃ y0 y1 y2 y3 y4 n, x = (.agg [y0.1, y1.1, y2.1, y3.1, y4.1], y0.2 ++ (y1.2 ++ (y2.2 ++ (y3.2 ++ y4.2)))) ∧ cs.length = P.cellsOf t ∧ DataW.trod enc P w base spare held n f0.type ((cs.drop f0.offset).take (P.cellsOf f0.type)) = some y0 ∧
     DataW.trod enc P w base spare held n f1.type ((cs.drop f1.offset).take (P.cellsOf f1.type)) = some y1 ∧ DataW.trod enc P w base spare held n f2.type ((cs.drop f2.offset).take (P.cellsOf f2.type)) = some y2 ∧
     DataW.trod enc P w base spare held n f3.type ((cs.drop f3.offset).take (P.cellsOf f3.type)) = some y3 ∧ DataW.trod enc P w base spare held n f4.type ((cs.drop f4.offset).take (P.cellsOf f4.type)) = some y4 := by
 obtain ⟨xs, n, _, rfl, hl, hlen, hf⟩ := DataW.trod_struct ht h
 match xs, hlen with
 | [y0, y1, y2, y3, y4], _ => exact ⟨y0, y1, y2, y3, y4, n, by simp, hl, by simpa using hf 0 f0 rfl, by simpa using hf 1 f1 rfl, by simpa using hf 2 f2 rfl, by simpa using hf 3 f3 rfl, by simpa using hf 4 f4 rfl⟩
theorem nos_of {H : Type} {enc : TypeId × Value → H} {W : World} {a : Addr} {len m n : Nat} {D : Nat → DataW H} {Pl : Nat → List MemPlace} (hl : len ≤ m)
   (hx : ∀ i, i < m → ∃ cs', W.cells? 0 (a.add (i * Try.prog.cellsOf 2)) (Try.prog.cellsOf 2) = some cs' ∧ DataW.trod enc Try.prog W 0 (fun _ => true) true n 2 cs' = some (D i, Pl i))
   (hlt : ∀ x ∈ MemPlace.row a (m * Try.prog.cellsOf 2), x.block < W.heap.size) : ∃ x : Nat → Int, NoIn W (some a) len x := by
 rw [Try.cellsInt64] at hx hlt
 have each : ∀ i, i < m → ∃ q : Int, W.cell? (a.add i) = some (.int .i64 q) := by
   intro i hi
   obtain ⟨cs', h1, h2⟩ := hx i hi
   obtain ⟨_, hlen, hcell⟩ := World.cells?_some h1
   match cs', hlen with
   | [v0], _ =>
     have e0 := hcell 0 (by omega)
     rw [Go.Deep.add_add] at e0
     obtain ⟨x, hv, -, -⟩ := DataW.trod_int Try.underlying2 h2
     simp at hv
     subst hv
     exact ⟨x, by simpa using e0⟩
 obtain ⟨q, hq⟩ := Go.Deep.choose_lt each
 obtain ⟨ab, ao, spot⟩ := a
 refine ⟨q, fun i hi => ?_⟩
 have hspot : spot = none := by simpa [Addr.add] using World.cell?_spot (hq 0 (by omega))
 subst hspot
 have c0 := hq i (by omega)
 rw [Addr.add_lit] at c0
 exact ⟨ab, ao, rfl, hlt (.cell ab (ao + i)) (by simp only [MemPlace.row, List.mem_map, List.mem_range]; exact ⟨i, by omega, rfl⟩), c0⟩
theorem items_of {H : Type} {enc : TypeId × Value → H} {W : World} {a : Addr} {len m n : Nat} {D : Nat → DataW H} {Pl : Nat → List MemPlace} (hl : len ≤ m)
   (hx : ∀ i, i < m → ∃ cs', W.cells? 0 (a.add (i * Try.prog.cellsOf 88)) (Try.prog.cellsOf 88) = some cs' ∧ DataW.trod enc Try.prog W 0 (fun _ => true) true n 88 cs' = some (D i, Pl i))
   (hlt : ∀ x ∈ MemPlace.row a (m * Try.prog.cellsOf 88), x.block < W.heap.size) : ∃ q : Nat → Int × Int × Int × Int × Int, ∀ i, i < len → ∃ A off, some a = some ⟨A, off, none⟩ ∧ A < W.heap.size ∧ W.cell? ⟨A, off + i * 5, none⟩ = some (.int .i64 (q i).1) ∧ W.cell? ⟨A, off + i * 5 + 1, none⟩ = some (.int .i64 (q i).2.1) ∧ W.cell? ⟨A, off + i * 5 + 2, none⟩ = some (.int .i64 (q i).2.2.1) ∧ W.cell? ⟨A, off + i * 5 + 3, none⟩ = some (.int .i64 (q i).2.2.2.1) ∧ W.cell? ⟨A, off + i * 5 + 4, none⟩ = some (.int .i64 (q i).2.2.2.2) := by
 rw [Try.cellsItem] at hx hlt
 have each : ∀ i, i < m → ∃ q : Int × Int × Int × Int × Int, W.cell? (a.add (i * 5)) = some (.int .i64 q.1) ∧ W.cell? (a.add (i * 5 + 1)) = some (.int .i64 q.2.1) ∧ W.cell? (a.add (i * 5 + 2)) = some (.int .i64 q.2.2.1) ∧ W.cell? (a.add (i * 5 + 3)) = some (.int .i64 q.2.2.2.1) ∧ W.cell? (a.add (i * 5 + 4)) = some (.int .i64 q.2.2.2.2) := by
   intro i hi
   obtain ⟨cs', h1, h2⟩ := hx i hi
   obtain ⟨_, hlen, hcell⟩ := World.cells?_some h1
   match cs', hlen with
   | [v0, v1, v2, v3, v4], _ =>
     have e0 := hcell 0 (by omega); have e1 := hcell 1 (by omega); have e2 := hcell 2 (by omega); have e3 := hcell 3 (by omega); have e4 := hcell 4 (by omega)
     rw [Go.Deep.add_add] at e0 e1 e2 e3 e4
     obtain ⟨y0, y1, k, hy, _, g0, g1⟩ := trod_struct2 Try.underlying88 h2
     simp [Try.cellsInt64, Try.cellsSeg] at g0 g1
     obtain ⟨x, hv, -, -⟩ := DataW.trod_int Try.underlying2 g0
     simp at hv
     subst hv
     obtain ⟨z0, z1, k2, hz, _, k0, k1⟩ := trod_struct2 Try.underlying86 g1
     simp [Try.cellsSpot] at k0 k1
     obtain ⟨p, q, rfl, rfl, -, -, -⟩ := trod_spot k0
     obtain ⟨r, s, rfl, rfl, -, -, -⟩ := trod_spot k1
     exact ⟨(x, p, q, r, s), by simpa using e0, by simpa using e1, by simpa using e2, by simpa using e3, by simpa using e4⟩
 obtain ⟨q, hq⟩ := Go.Deep.choose_lt each
 obtain ⟨ab, ao, spot⟩ := a
 refine ⟨q, fun i hi => ?_⟩
 have hspot : spot = none := by simpa [Addr.add] using World.cell?_spot (hq 0 (by omega)).1
 subst hspot
 obtain ⟨c0, c1, c2, c3, c4⟩ := hq i (by omega)
 rw [Addr.add_lit] at c0 c1 c2 c3 c4
 exact ⟨ab, ao, rfl, hlt (.cell ab (ao + i * 5)) (by simp only [MemPlace.row, List.mem_map, List.mem_range]; exact ⟨i * 5, by omega, rfl⟩), c0, by simpa [Nat.add_assoc] using c1, by simpa [Nat.add_assoc] using c2, by simpa [Nat.add_assoc] using c3, by simpa [Nat.add_assoc] using c4⟩
set_option maxRecDepth 100000 in
set_option maxHeartbeats 2000000 in
theorem blocks_of {H : Type} {enc : TypeId × Value → H} {W : World} {a : Addr} {len m n : Nat} {D : Nat → DataW H} {Pl : Nat → List MemPlace} (hl : len ≤ m)
   (hx : ∀ i, i < m → ∃ cs', W.cells? 0 (a.add (i * Try.prog.cellsOf 74)) (Try.prog.cellsOf 74) = some cs' ∧ DataW.trod enc Try.prog W 0 (fun _ => true) true n 74 cs' = some (D i, Pl i))
   (hlt : ∀ x ∈ MemPlace.row a (m * Try.prog.cellsOf 74), x.block < W.heap.size) (hlt2 : ∀ i, i < m → ∀ x ∈ Pl i, x.block < W.heap.size) : ∃ (A off : Nat) (q : Nat → Int × Int × Int × Bool) (S : Nat → Option Addr × Nat) (L : Nat → Nat) (E : Nat → Nat → Int), (0 < len → some a = some ⟨A, off, none⟩) ∧ (∀ i, i < len → L i ≤ 9223372036854775807) ∧ ∀ i, i < len → A < W.heap.size ∧ W.cell? ⟨A, off + i * 5, none⟩ = some (.int .i64 (q i).1) ∧ W.cell? ⟨A, off + i * 5 + 1, none⟩ = some (.int .i64 (q i).2.1) ∧ W.cell? ⟨A, off + i * 5 + 2, none⟩ = some (.int .i64 (q i).2.2.1) ∧ W.cell? ⟨A, off + i * 5 + 3, none⟩ = some (.bool (q i).2.2.2) ∧ W.cell? ⟨A, off + i * 5 + 4, none⟩ = some (.slice (S i).1 (L i) (S i).2) ∧ NoIn W (S i).1 (L i) (E i) := by
 rw [Try.cellsBlock] at hx hlt
 have each : ∀ i, i < m → ∃ r : (Int × Int × Int × Bool) × (Option Addr × Nat) × Nat × (Nat → Int), r.2.2.1 ≤ 9223372036854775807 ∧ NoIn W r.2.1.1 r.2.2.1 r.2.2.2 ∧ W.cell? (a.add (i * 5)) = some (.int .i64 r.1.1) ∧ W.cell? (a.add (i * 5 + 1)) = some (.int .i64 r.1.2.1) ∧ W.cell? (a.add (i * 5 + 2)) = some (.int .i64 r.1.2.2.1) ∧ W.cell? (a.add (i * 5 + 3)) = some (.bool r.1.2.2.2) ∧ W.cell? (a.add (i * 5 + 4)) = some (.slice r.2.1.1 r.2.2.1 r.2.1.2) := by
   intro i hi
   obtain ⟨cs', h1, h2⟩ := hx i hi
   obtain ⟨_, hlen, hcell⟩ := World.cells?_some h1
   match cs', hlen with
   | [v0, v1, v2, v3, v4], _ =>
     have e0 := hcell 0 (by omega); have e1 := hcell 1 (by omega); have e2 := hcell 2 (by omega); have e3 := hcell 3 (by omega); have e4 := hcell 4 (by omega)
     rw [Go.Deep.add_add] at e0 e1 e2 e3 e4
     obtain ⟨y0, y1, y2, y3, y4, k, hy, _, g0, g1, g2, g3, g4⟩ := trod_struct5 Try.underlying74 h2
     simp [Try.cellsInt64, Try.cellsBool, Try.cellsNoS] at g0 g1 g2 g3 g4
     obtain ⟨x, hv, -, -⟩ := DataW.trod_int Try.underlying2 g0
     simp at hv
     subst hv
     obtain ⟨y, hv, -, -⟩ := DataW.trod_int Try.underlying2 g1
     simp at hv
     subst hv
     obtain ⟨z, hv, -, -⟩ := DataW.trod_int Try.underlying2 g2
     simp at hv
     subst hv
     obtain ⟨t, hv, -⟩ := DataW.trod_bool Try.underlying4 g3
     simp at hv
     subst hv
     have hpl : Pl i = y0.2 ++ (y1.2 ++ (y2.2 ++ (y3.2 ++ y4.2))) := by have := congrArg Prod.snd hy; simpa using this
     rcases Go.Deep.open_slice Try.underlying29 g4 with ⟨hcs, -⟩ | ⟨a', len', cap', m', n', D', Pl', hcs, _, hl', hm', hz', hx', hel'⟩
     · simp at hcs
       subst hcs
       exact ⟨((x, y, z, t), (none, 0), 0, fun _ => 0), Nat.zero_le _, fun i hi => absurd hi (Nat.not_lt_zero _), by simpa using e0, by simpa using e1, by simpa using e2, by simpa using e3, by simpa using e4⟩
     · simp at hcs
       subst hcs
       simp only [if_true] at hz'
       have hb : ∀ x ∈ MemPlace.row a' (m' * Try.prog.cellsOf 2), x.block < W.heap.size := fun x hxx => hlt2 i hi x (by
         rw [hpl, hx']
         exact List.mem_append_right _ (List.mem_append_right _ (List.mem_append_right _ (List.mem_append_right _ (List.mem_append_left _ hxx)))))
       obtain ⟨q, hq⟩ := nos_of (len := len') (by omega) hel' hb
       exact ⟨((x, y, z, t), (some a', cap'), len', q), by have := hm'; simp [maxLen] at this; show len' ≤ _; omega, hq, by simpa using e0, by simpa using e1, by simpa using e2, by simpa using e3, by simpa using e4⟩
 obtain ⟨r, hr⟩ := Go.Deep.choose_lt each
 obtain ⟨ab, ao, spot⟩ := a
 refine ⟨ab, ao, fun i => (r i).1, fun i => (r i).2.1, fun i => (r i).2.2.1, fun i => (r i).2.2.2, fun h => ?_, fun i hi => (hr i (by omega)).1, fun i hi => ?_⟩
 · have hspot : spot = none := by simpa [Addr.add] using World.cell?_spot (hr 0 (by omega)).2.2.1
   subst hspot
   rfl
 have hspot : spot = none := by simpa [Addr.add] using World.cell?_spot (hr 0 (by omega)).2.2.1
 subst hspot
 obtain ⟨-, hp, c0, c1, c2, c3, c4⟩ := hr i (by omega)
 rw [Addr.add_lit] at c0 c1 c2 c3 c4
 exact ⟨hlt (.cell ab (ao + i * 5)) (by simp only [MemPlace.row, List.mem_map, List.mem_range]; exact ⟨i * 5, by omega, rfl⟩), c0, by simpa [Nat.add_assoc] using c1, by simpa [Nat.add_assoc] using c2, by simpa [Nat.add_assoc] using c3, by simpa [Nat.add_assoc] using c4, hp⟩
set_option maxRecDepth 100000 in
set_option maxHeartbeats 2000000 in
theorem open_quad {H : Type} {enc : TypeId × Value → H} {W : World} {base : Nat} {v : Value} {d : DataW H} {pl : List MemPlace} (ok : Value.okWide Try.prog W .any base 25 v) (h : DataW.Trod enc Try.prog W 0 (fun _ => true) true 25 v d pl) (hlt : ∀ x ∈ pl, x.block < W.heap.size) :
   ∃ (Q : QD) (m d : Int) (ao bo : Option Addr) (cap bcap A off : Nat) (so : Nat → Option Addr × Nat), v = .agg #[.int .i64 m, .int .i64 d, .slice ao Q.m cap, .slice bo Q.N bcap] ∧ Q.m ≤ 9223372036854775807 ∧ Q.N ≤ 9223372036854775807 ∧ (∀ i, i < Q.N → Q.L i ≤ 9223372036854775807) ∧ (0 < Q.N → bo = some ⟨A, off, none⟩) ∧ ItIn Q W ao (List.range Q.m) ∧ BlIn Q W A off so := by
 obtain ⟨cs, rfl, hsz⟩ := okWide_struct Try.underlying25 ok
 rw [Try.cellsQuad] at hsz
 obtain ⟨c0, c1, c2, c3, rfl⟩ : ∃ c0 c1 c2 c3, cs = #[c0, c1, c2, c3] := by
   obtain ⟨l⟩ := cs
   match l, hsz with
   | [c0, c1, c2, c3], _ => exact ⟨c0, c1, c2, c3, rfl⟩
 obtain ⟨fuel, hf⟩ := h
 simp only [Value.cells] at hf
 obtain ⟨y0, y1, y2, y3, k, hy, _, g0, g1, g2, g3⟩ := Go.Joins.trod_struct4 Try.underlying25 hf
 simp [Try.cellsInt64, Try.cellsItemS, Try.cellsBlockS] at g0 g1 g2 g3
 have hpl : pl = y0.2 ++ (y1.2 ++ (y2.2 ++ y3.2)) := by have := congrArg Prod.snd hy; simpa using this
 have hlt2 : ∀ x ∈ y2.2, x.block < W.heap.size := fun x hx => hlt x (by rw [hpl]; exact List.mem_append_right _ (List.mem_append_right _ (List.mem_append_left _ hx)))
 have hlt3 : ∀ x ∈ y3.2, x.block < W.heap.size := fun x hx => hlt x (by rw [hpl]; exact List.mem_append_right _ (List.mem_append_right _ (List.mem_append_right _ hx)))
 obtain ⟨m, hv, -, -⟩ := DataW.trod_int Try.underlying2 g0
 simp at hv
 subst hv
 obtain ⟨d, hv, -, -⟩ := DataW.trod_int Try.underlying2 g1
 simp at hv
 subst hv
 have HI : ∃ ao n cap, ∃ q : Nat → Int × Int × Int × Int × Int, c2 = .slice ao n cap ∧ n ≤ 9223372036854775807 ∧ ∀ i, i < n → ∃ A off, ao = some ⟨A, off, none⟩ ∧ A < W.heap.size ∧ W.cell? ⟨A, off + i * 5, none⟩ = some (.int .i64 (q i).1) ∧ W.cell? ⟨A, off + i * 5 + 1, none⟩ = some (.int .i64 (q i).2.1) ∧ W.cell? ⟨A, off + i * 5 + 2, none⟩ = some (.int .i64 (q i).2.2.1) ∧ W.cell? ⟨A, off + i * 5 + 3, none⟩ = some (.int .i64 (q i).2.2.2.1) ∧ W.cell? ⟨A, off + i * 5 + 4, none⟩ = some (.int .i64 (q i).2.2.2.2) := by
   rcases Go.Deep.open_slice Try.underlying22 g2 with ⟨hcs, hx⟩ | ⟨a, len', cap', m', n', D, Pl, hcs, _, hl, hm, hz, hx, hel⟩
   · simp at hcs
     subst hcs
     exact ⟨none, 0, 0, fun _ => (0, 0, 0, 0, 0), rfl, by omega, fun i hi => by omega⟩
   · simp at hcs
     subst hcs
     subst hx
     simp only [if_true] at hz
     obtain ⟨q, hq⟩ := items_of (len := len') (by omega) hel (fun y hy => hlt2 y (List.mem_append_left _ hy))
     exact ⟨some a, len', cap', q, rfl, by have := hm; simp [maxLen] at this; omega, hq⟩
 have HK : ∃ bo n cap A off, ∃ (q : Nat → Int × Int × Int × Bool) (S : Nat → Option Addr × Nat) (L : Nat → Nat) (E : Nat → Nat → Int), c3 = .slice bo n cap ∧ n ≤ 9223372036854775807 ∧ (0 < n → bo = some ⟨A, off, none⟩) ∧ (∀ i, i < n → L i ≤ 9223372036854775807) ∧ ∀ i, i < n → A < W.heap.size ∧ W.cell? ⟨A, off + i * 5, none⟩ = some (.int .i64 (q i).1) ∧ W.cell? ⟨A, off + i * 5 + 1, none⟩ = some (.int .i64 (q i).2.1) ∧ W.cell? ⟨A, off + i * 5 + 2, none⟩ = some (.int .i64 (q i).2.2.1) ∧ W.cell? ⟨A, off + i * 5 + 3, none⟩ = some (.bool (q i).2.2.2) ∧ W.cell? ⟨A, off + i * 5 + 4, none⟩ = some (.slice (S i).1 (L i) (S i).2) ∧ NoIn W (S i).1 (L i) (E i) := by
   rcases Go.Deep.open_slice Try.underlying23 g3 with ⟨hcs, hx⟩ | ⟨a, len', cap', m', n', D, Pl, hcs, _, hl, hm, hz, hx, hel⟩
   · simp at hcs
     subst hcs
     exact ⟨none, 0, 0, 0, 0, fun _ => (0, 0, 0, false), fun _ => (none, 0), fun _ => 0, fun _ _ => 0, rfl, by omega, fun h => by omega, fun i hi => by omega, fun i hi => by omega⟩
   · simp at hcs
     subst hcs
     subst hx
     simp only [if_true] at hz
     obtain ⟨A, off, q, S, L, E, h1, h2, h3⟩ := blocks_of (len := len') (by omega) hel (fun y hy => hlt3 y (List.mem_append_left _ hy)) (fun i hi y hy => hlt3 y (List.mem_append_right _ (List.mem_flatMap.2 ⟨i, List.mem_range.2 hi, hy⟩)))
     exact ⟨some a, len', cap', A, off, q, S, L, E, rfl, by have := hm; simp [maxLen] at this; omega, h1, h2, h3⟩
 obtain ⟨ao, n, cap, p, rfl, hn, hp⟩ := HI
 obtain ⟨bo, N, bcap, A, off, q, S, L, E, rfl, hN, hbo, hL, hq⟩ := HK
 refine ⟨⟨n, N, fun i => (p i).1, fun i => (p i).2, fun i => (q i).1, fun i => (q i).2.1, fun i => (q i).2.2.1, fun i => (q i).2.2.2, L, E⟩, m, d, ao, bo, cap, bcap, A, off, S, rfl, hn, hN, hL, hbo, fun j i hj => ?_, hq⟩
 have hjn : j < n := by have := (List.getElem?_eq_some_iff.1 hj).1; simpa using this
 have hji : j = i := by simpa [hjn] using hj
 subst hji
 exact hp j hjn
open Go.ChangeShapes Go.WideShapes Go.ChangeAt Go.RowKit Go.Joins
theorem jn_laid : laidOutB Try.pinned.checked.prog = true := by kernel_rfl
theorem jn_maps : mapsRowed Try.pinned.checked.prog = true := by kernel_rfl
theorem jn_enter : Try.pinned.checked.prog.mayEnter = true := by kernel_rfl
theorem jn_heard : Try.pinned.checked.prog.stopsHeard = true := by kernel_rfl
end Go.Proofs.Ythelolpogdcmhaa
