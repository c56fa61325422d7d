/- Part 18 of the walks that the proof leans on. -/
import Derived.Test.YtjhapeidafbncaaPart17
namespace Go.Proofs.Ytjhapeidafbncaa
open Go.RowKit
def QuE (Q : QD) (m d : Int) (v : Value) (W : World) : Prop := ∃ gi gb S, v = .agg #[.int .i64 m, .int .i64 d, .slice (some ⟨gi, 0, none⟩) Q.m Q.m, .slice (some ⟨gb, 0, none⟩) Q.N Q.N] ∧ QuRow Q W 0 gi gb S
theorem QuE.step {Q : QD} {m d : Int} {v : Value} {W W2 : World} (h : QuE Q m d v W) (hB : Below W.heap.size W W2) : QuE Q m d v W2 := by
 obtain ⟨gi, gb, S, h1, h2⟩ := h
 exact ⟨gi, gb, S, h1, h2.step hB⟩
theorem QuRow.zero {Q : QD} {w : World} {b gi gb : Nat} {S : Nat → Nat} (h : QuRow Q w b gi gb S) : QuRow Q w 0 gi gb S :=
 ⟨h.its, Nat.zero_le _, ⟨h.bls.row, Nat.zero_le _, fun j hj => ⟨Nat.zero_le _, (h.bls.ids j hj).2⟩, h.bls.up⟩, h.d1, h.d2⟩
def VqaA (Qd : QD) (m d id a bb cc dd : Int) (ao bo : Option Addr) (cap bcap _gi _gb : Nat) (okn : Bool) (_B4 : Nat) (_TG : Value → Nat → Nat → World → Prop) (_B : Nat) : Nat → Value → World → Prop
 | 0, v, _ => v = .agg #[.int .i64 m, .int .i64 d, .slice ao Qd.m cap, .slice bo Qd.N bcap]
 | 2, v, _ => v = .int .i64 id
 | 3, v, _ => v = Sg a bb cc dd
 | 4, v, _ => v = Sg a bb cc dd
 | 5, v, _ => ∃ u, v = .tuple #[u, .bool okn]
 | 6, v, _ => ∃ u, v = .tuple #[u, .bool okn]
 | 8, v, _ => v = .bool okn
 | 11, v, _ => v = .bool okn
 | _, _, _ => True
theorem VqaA.mono {Qd : QD} {m d id a bb cc dd : Int} {ao bo : Option Addr} {cap bcap gi gb : Nat} {okn : Bool} {B4 : Nat} {TG : Value → Nat → Nat → World → Prop} {B j : Nat} {v : Value} {W W2 : World} (_hB : Below W.heap.size W W2) (h : VqaA Qd m d id a bb cc dd ao bo cap bcap gi gb okn B4 TG B j v W) : VqaA Qd m d id a bb cc dd ao bo cap bcap gi gb okn B4 TG B j v W2 := by
 unfold VqaA at *
 split <;> simp only at h <;> first | exact h | trivial
theorem VqaA.same {Qd : QD} {m d id a bb cc dd : Int} {ao bo : Option Addr} {cap bcap gi gb : Nat} {okn : Bool} {B4 : Nat} {TG : Value → Nat → Nat → World → Prop} {B j' : Nat} {v : Value} {W W2 : World} (h : VqaA Qd m d id a bb cc dd ao bo cap bcap gi gb okn B4 TG B j' v W) : VqaA Qd m d id a bb cc dd ao bo cap bcap gi gb okn B4 TG B j' v W2 := by
 unfold VqaA at *
 split <;> simp only at h <;> first | exact h | trivial
def SqaA (Qd : QD) (m d _id _a _bb _cc _dd : Int) (_ao _bo : Option Addr) (_cap _bcap _gi _gb : Nat) (okn : Bool) (B4 : Nat) (TG : Value → Nat → Nat → World → Prop) (lz : Array Bool) (az : Act) (W : World) : Prop := AnS B4 okn [.int .i64 0, .int .i64 0, .slice none 0 0, .slice none 0 0] (QuE Qd m d) TG 1 5 6 7 9 10 25 29 23 30 8 lz az W
def JqaA (Qd : QD) (m d id a bb cc dd : Int) (ao bo : Option Addr) (cap bcap gi gb : Nat) (okn : Bool) (B4 : Nat) (TG : Value → Nat → Nat → World → Prop) (w0 : World) (a0 : Act) (lz : Array Bool) (az : Act) (W : World) : Prop := InvQ (w0.heap.size) [some 24, some 25, some 26, some 27, some 28, some 29, some 23, some 30, some 31, some 8, none, some 9] (VqaA Qd m d id a bb cc dd ao bo cap bcap gi gb okn B4 TG (w0.heap.size)) w0 a0 lz az W ∧ SqaA Qd m d id a bb cc dd ao bo cap bcap gi gb okn B4 TG lz az W
set_option maxRecDepth 100000 in
set_option maxHeartbeats 4000000 in
theorem qaA {Q : Exit → Act → World → Prop} {Qd : QD} {m d id a bb cc dd : Int} {ao bo : Option Addr} {cap bcap gi gb : Nat} {okn : Bool} {B4 : Nat} {TG : Value → Nat → Nat → World → Prop} {P P5 A off : Nat} {so : Nat → Option Addr × Nat} {w0 : World} {a0 : Act} {idq : Nat} {t0 t1 t2 t3 t4 t5 t6 t7 t8 t9 t10 t11 : TypeId} {q0 q1 q2 q3 q4 q5 q6 q7 q8 q9 q10 q11 : String}
   (hB4 : B4 = w0.heap.size) (hTG : TgK (QuE Qd m d) TG) (hform : ∀ u lo hi W, TG u lo hi W → ∃ m' d' io n ic bo N bc, u = .agg #[.int .i64 m', .int .i64 d', .slice io n ic, .slice bo N bc]) (hm : Qd.m ≤ 1048576) (hN : Qd.N ≤ 1048576) (hL : ∀ i, i < Qd.N → Qd.L i ≤ 1048576) (hbo : 0 < Qd.N → bo = some ⟨A, off, none⟩) (hIt : ItIn Qd w0 ao (List.range Qd.m)) (hBl : BlIn Qd w0 A off so) (hSP : ∀ gi gb S W, QuRow Qd W 0 gi gb S → Calls Try.prog 8 #[.agg #[.int .i64 m, .int .i64 d, .slice (some ⟨gi, 0, none⟩) Qd.m Qd.m, .slice (some ⟨gb, 0, none⟩) Qd.N Qd.N], .int .i64 id, Sg a bb cc dd] W (fun r w' => ∃ u, r = .returned (.tuple #[u, .bool okn]) ∧ TG u W.heap.size w'.heap.size w' ∧ Below W.heap.size W w')) (h3 : a0.tmps[3]? = some (.pointer (some ⟨P, 0, none⟩))) (h1 : a0.tmps[1]? = some (.int .i64 id)) (h5 : a0.tmps[5]? = some (.pointer (some ⟨P5, 0, none⟩))) (k0 : w0.cell? ⟨P, 0, none⟩ = some (.int .i64 m)) (l0 : (⟨P, 0, none⟩ : Addr).block < w0.heap.size) (k1 : w0.cell? ⟨P, 1, none⟩ = some (.int .i64 d)) (l1 : (⟨P, 1, none⟩ : Addr).block < w0.heap.size) (k2 : w0.cell? ⟨P, 2, none⟩ = some (.slice ao Qd.m cap)) (l2 : (⟨P, 2, none⟩ : Addr).block < w0.heap.size) (k3 : w0.cell? ⟨P, 3, none⟩ = some (.slice bo Qd.N bcap)) (l3 : (⟨P, 3, none⟩ : Addr).block < w0.heap.size) (k4 : w0.cell? ⟨P5, 0, none⟩ = some (.int .i64 a)) (l4 : (⟨P5, 0, none⟩ : Addr).block < w0.heap.size) (k5 : w0.cell? ⟨P5, 1, none⟩ = some (.int .i64 bb)) (l5 : (⟨P5, 1, none⟩ : Addr).block < w0.heap.size) (k6 : w0.cell? ⟨P5, 2, none⟩ = some (.int .i64 cc)) (l6 : (⟨P5, 2, none⟩ : Addr).block < w0.heap.size) (k7 : w0.cell? ⟨P5, 3, none⟩ = some (.int .i64 dd)) (l7 : (⟨P5, 3, none⟩ : Addr).block < w0.heap.size) (hz : a0.tmps.size = 109)
   (hQ : ∀ aq W, aq.tmps.size = a0.tmps.size → aq.defers = a0.defers → (∀ e, e ∉ ([24, 25, 26, 27, 28, 29, 23, 30, 31, 8, 9] : List Nat) → aq.tmps[e]? = a0.tmps[e]?) → VqaA Qd m d id a bb cc dd ao bo cap bcap gi gb okn B4 TG (w0.heap.size) 11 (aq.tmps.getD 9 undef) W → Below (w0.heap.size) w0 W → (∃ g vs lo hi, aq.tmps.getD 8 undef = .pointer (some ⟨g, 0, none⟩) ∧ B4 ≤ g ∧ Blk W g vs ∧ TG (.agg vs.toArray) lo hi W ∧ B4 ≤ lo ∧ hi ≤ W.heap.size ∧ (g < lo ∨ hi ≤ g)) → Q .normal aq W) :
   (Code.region idq #[{ dst := some 24, op := Op.load 25 (Operand.tmp 3), type := t0, pos := q0, after := #[], guard := none },
   { dst := some 25, op := Op.call { callee := Callee.value (Operand.func 9), args := #[Operand.tmp 24], argTypes := #[25] }, type := t1, pos := q1, after := #[{ on := 0, ground := Ground.data }], guard := none },
   { dst := some 26, op := Op.move (Operand.tmp 1), type := t2, pos := q2, after := #[], guard := none },
   { dst := some 27, op := Op.load 29 (Operand.tmp 5), type := t3, pos := q3, after := #[], guard := none },
   { dst := some 28, op := Op.call { callee := Callee.value (Operand.func 10), args := #[Operand.tmp 27], argTypes := #[29] }, type := t4, pos := q4, after := #[{ on := 3, ground := Ground.data }, { on := 1, ground := Ground.chain }], guard := none },
   { dst := some 29, op := Op.call { callee := Callee.value (Operand.func 8), args := #[Operand.tmp 25, Operand.tmp 26, Operand.tmp 28], argTypes := #[34, 2, 40] }, type := t5, pos := q5, after := #[{ on := 1, ground := Ground.data }, { on := 2, ground := Ground.data }, { on := 4, ground := Ground.data }, { on := 4, ground := Ground.chain }], guard := none },
   { dst := some 23, op := Op.move (Operand.tmp 29), type := t6, pos := q6, after := #[{ on := 5, ground := Ground.data }], guard := none },
   { dst := some 30, op := Op.extract (Operand.tmp 23) 0, type := t7, pos := q7, after := #[{ on := 6, ground := Ground.data }], guard := none },
   { dst := some 31, op := Op.extract (Operand.tmp 23) 1, type := t8, pos := q8, after := #[{ on := 6, ground := Ground.data }, { on := 10, ground := Ground.gcOnly Departure.lateStores }], guard := none },
   { dst := some 8, op := Op.alloc 34, type := t9, pos := q9, after := #[], guard := none },
   { dst := none, op := Op.store 34 (Operand.tmp 8) (Operand.tmp 30), type := t10, pos := q10, after := #[{ on := 9, ground := Ground.data }, { on := 7, ground := Ground.data }, { on := 5, ground := Ground.chain }, { on := 0, ground := Ground.phase }, { on := 1, ground := Ground.phase }, { on := 2, ground := Ground.phase }, { on := 3, ground := Ground.phase }, { on := 4, ground := Ground.phase }, { on := 5, ground := Ground.phase }, { on := 6, ground := Ground.phase }, { on := 7, ground := Ground.phase }, { on := 8, ground := Ground.textOnly Departure.lateStores }, { on := 9, ground := Ground.phase }], guard := none },
   { dst := some 9, op := Op.assign (Operand.tmp 31), type := t11, pos := q11, after := #[{ on := 8, ground := Ground.data }, { on := 10, ground := Ground.chain }, { on := 0, ground := Ground.phase }, { on := 1, ground := Ground.phase }, { on := 2, ground := Ground.phase }, { on := 3, ground := Ground.phase }, { on := 4, ground := Ground.phase }, { on := 5, ground := Ground.phase }, { on := 6, ground := Ground.phase }, { on := 7, ground := Ground.phase }, { on := 8, ground := Ground.phase }, { on := 9, ground := Ground.phase }, { on := 10, ground := Ground.phase }], guard := none }] true).wp Try.prog Q a0 w0 := by
 have hS : distS [some 24, some 25, some 26, some 27, some 28, some 29, some 23, some 30, some 31, some 8, none, some 9] = true := rfl
 refine wp_region_inv (by kernel_rfl) (JqaA Qd m d id a bb cc dd ao bo cap bcap gi gb okn B4 TG w0 a0) ⟨⟨rfl, rfl, rfl, fun _ _ => rfl, (Below.refl _ w0).drew, fun j d hj => ?_, fun j hj => ?_⟩, AnS.start⟩ ?_ ?_
 · exfalso
   rw [Array.getD_eq_getD_getElem?, Array.getElem?_replicate] at hj
   split at hj <;> simp at hj
 · exfalso
   rw [Array.getD_eq_getD_getElem?, Array.getElem?_replicate] at hj
   split at hj <;> simp at hj
 · intro lq aq W iq oq ⟨hJ, hs⟩ hl ho hall
   have hJ2 := hJ
   obtain ⟨z1, z2, z3, z4, z5, z6, z7⟩ := hJ
   have g3 : aq.tmps.getD 3 undef = .pointer (some ⟨P, 0, none⟩) := by rw [Array.getD_eq_getD_getElem?, z4 3 (by decide), h3]; rfl
   have g1 : aq.tmps.getD 1 undef = .int .i64 id := by rw [Array.getD_eq_getD_getElem?, z4 1 (by decide), h1]; rfl
   have g5 : aq.tmps.getD 5 undef = .pointer (some ⟨P5, 0, none⟩) := by rw [Array.getD_eq_getD_getElem?, z4 5 (by decide), h5]; rfl
   have c0 : W.cell? ⟨P, 0, none⟩ = some (.int .i64 m) := (z5.cell l0).trans k0
   have c1 : W.cell? ⟨P, 1, none⟩ = some (.int .i64 d) := (z5.cell l1).trans k1
   have c2 : W.cell? ⟨P, 2, none⟩ = some (.slice ao Qd.m cap) := (z5.cell l2).trans k2
   have c3 : W.cell? ⟨P, 3, none⟩ = some (.slice bo Qd.N bcap) := (z5.cell l3).trans k3
   have c4 : W.cell? ⟨P5, 0, none⟩ = some (.int .i64 a) := (z5.cell l4).trans k4
   have c5 : W.cell? ⟨P5, 1, none⟩ = some (.int .i64 bb) := (z5.cell l5).trans k5
   have c6 : W.cell? ⟨P5, 2, none⟩ = some (.int .i64 cc) := (z5.cell l6).trans k6
   have c7 : W.cell? ⟨P5, 3, none⟩ = some (.int .i64 dd) := (z5.cell l7).trans k7
   match iq, ho with
   | 0, ho =>
     cases ho
     refine wpOp_of rfl rfl ?_
     have hK := fun (v : Value) (W2 : World) hW hT hv (hs : SqaA Qd m d id a bb cc dd ao bo cap bcap gi gb okn B4 TG (lq.setIfInBounds 0 true) (aq.put (some 24) v) W2) => show (JqaA Qd m d id a bb cc dd ao bo cap bcap gi gb okn B4 TG w0 a0) (lq.setIfInBounds 0 true) (aq.put (some 24) v) W2 from ⟨hJ2.put hS 0 24 rfl (by omega) (W' := W2) hW hT v hv, hs⟩
     clear ho hall hl hQ
     generalize (JqaA Qd m d id a bb cc dd ao bo cap bcap gi gb okn B4 TG w0 a0) (lq.setIfInBounds 0 true) = K at hK ⊢
     clear hJ2 hS z1 z2 z3 z4 z6 z7
     go_simp
     exact hK _ _ z5 (fun _ _ h => h) rfl (AnS.quiet hs 0 24 _ (by decide) (by decide))
   | 1, ho =>
     cases ho
     refine wpOp_of rfl rfl ?_
     have f0 : (aq.tmps.getD 24 undef) = .agg #[.int .i64 m, .int .i64 d, .slice ao Qd.m cap, .slice bo Qd.N bcap] := z6 0 24 (hall { on := 0, ground := Ground.data } (by simp) rfl) rfl
     have hsz25 : 25 < aq.tmps.size := by omega
     have hK := fun (v : Value) (W2 : World) hW hT hv (hs : SqaA Qd m d id a bb cc dd ao bo cap bcap gi gb okn B4 TG (lq.setIfInBounds 1 true) (aq.put (some 25) v) W2) => show (JqaA Qd m d id a bb cc dd ao bo cap bcap gi gb okn B4 TG w0 a0) (lq.setIfInBounds 1 true) (aq.put (some 25) v) W2 from ⟨hJ2.put hS 1 25 rfl (by omega) (W' := W2) hW hT v hv, hs⟩
     clear ho hall hl hQ
     generalize (JqaA Qd m d id a bb cc dd ao bo cap bcap gi gb okn B4 TG w0 a0) (lq.setIfInBounds 1 true) = K at hK ⊢
     clear hJ2 hS z1 z2 z3 z4 z6 z7
     go_simp
     refine (toQuad_any Qd ao bo cap bcap A off so m d hm hN hL hbo W (hIt.step z5) (hBl.below z5)).mono ?_
     rintro r v1 ⟨gi2, gb2, S2, rfl, R2, hBv⟩
     exact hK _ _ (z5.trans (hBv.mono z5.size)) (fun _ _ h => h.mono hBv) trivial (AnS.ask (AnS.step hTG hs hBv) _ (show AnD 1 5 6 7 9 10 25 29 23 30 8 by unfold AnD; omega) hsz25 ⟨gi2, gb2, S2, rfl, R2.zero⟩)
   | 2, ho =>
     cases ho
     refine wpOp_of rfl rfl ?_
     have hK := fun (v : Value) (W2 : World) hW hT hv (hs : SqaA Qd m d id a bb cc dd ao bo cap bcap gi gb okn B4 TG (lq.setIfInBounds 2 true) (aq.put (some 26) v) W2) => show (JqaA Qd m d id a bb cc dd ao bo cap bcap gi gb okn B4 TG w0 a0) (lq.setIfInBounds 2 true) (aq.put (some 26) v) W2 from ⟨hJ2.put hS 2 26 rfl (by omega) (W' := W2) hW hT v hv, hs⟩
     clear ho hall hl hQ
     generalize (JqaA Qd m d id a bb cc dd ao bo cap bcap gi gb okn B4 TG w0 a0) (lq.setIfInBounds 2 true) = K at hK ⊢
     clear hJ2 hS z1 z2 z3 z4 z6 z7
     go_simp
     exact hK _ _ z5 (fun _ _ h => h) rfl (AnS.quiet hs 2 26 _ (by decide) (by decide))
   | 3, ho =>
     cases ho
     refine wpOp_of rfl rfl ?_
     have hK := fun (v : Value) (W2 : World) hW hT hv (hs : SqaA Qd m d id a bb cc dd ao bo cap bcap gi gb okn B4 TG (lq.setIfInBounds 3 true) (aq.put (some 27) v) W2) => show (JqaA Qd m d id a bb cc dd ao bo cap bcap gi gb okn B4 TG w0 a0) (lq.setIfInBounds 3 true) (aq.put (some 27) v) W2 from ⟨hJ2.put hS 3 27 rfl (by omega) (W' := W2) hW hT v hv, hs⟩
     clear ho hall hl hQ
     generalize (JqaA Qd m d id a bb cc dd ao bo cap bcap gi gb okn B4 TG w0 a0) (lq.setIfInBounds 3 true) = K at hK ⊢
     clear hJ2 hS z1 z2 z3 z4 z6 z7
     go_simp
     exact hK _ _ z5 (fun _ _ h => h) rfl (AnS.quiet hs 3 27 _ (by decide) (by decide))
   | 4, ho =>
     cases ho
     refine wpOp_of rfl rfl ?_
     have f3 : (aq.tmps.getD 27 undef) = Sg a bb cc dd := z6 3 27 (hall { on := 3, ground := Ground.data } (by simp) rfl) rfl
     have hK := fun (v : Value) (W2 : World) hW hT hv (hs : SqaA Qd m d id a bb cc dd ao bo cap bcap gi gb okn B4 TG (lq.setIfInBounds 4 true) (aq.put (some 28) v) W2) => show (JqaA Qd m d id a bb cc dd ao bo cap bcap gi gb okn B4 TG w0 a0) (lq.setIfInBounds 4 true) (aq.put (some 28) v) W2 from ⟨hJ2.put hS 4 28 rfl (by omega) (W' := W2) hW hT v hv, hs⟩
     clear ho hall hl hQ
     generalize (JqaA Qd m d id a bb cc dd ao bo cap bcap gi gb okn B4 TG w0 a0) (lq.setIfInBounds 4 true) = K at hK ⊢
     clear hJ2 hS z1 z2 z3 z4 z6 z7
     go_simp
     refine (toSeg_any a bb cc dd W).mono ?_
     rintro r v1 ⟨rfl, hBv⟩
     exact hK _ _ (z5.trans (hBv.mono z5.size)) (fun _ _ h => h.mono hBv) rfl (AnS.quiet (AnS.step hTG hs hBv) 4 28 _ (by decide) (by decide))
   | 5, ho =>
     cases ho
     refine wpOp_of rfl rfl ?_
     have f1 : True := z6 1 25 (hall { on := 1, ground := Ground.data } (by simp) rfl) rfl
     have f2 : (aq.tmps.getD 26 undef) = .int .i64 id := z6 2 26 (hall { on := 2, ground := Ground.data } (by simp) rfl) rfl
     have f4 : (aq.tmps.getD 28 undef) = Sg a bb cc dd := z6 4 28 (hall { on := 4, ground := Ground.data } (by simp) rfl) rfl
     have ee : lq.getD 1 false = true := hall { on := 1, ground := Ground.data } (by simp) rfl
     have hl5 := hl
     have hsz29 : 29 < aq.tmps.size := by omega
     obtain ⟨gi2, gb2, S2, e25, R2⟩ := AnS.asked hs hl5 ee
     rw [Array.getD_eq_getD_getElem?] at e25
     have hK := fun (v : Value) (W2 : World) hW hT hv (hs : SqaA Qd m d id a bb cc dd ao bo cap bcap gi gb okn B4 TG (lq.setIfInBounds 5 true) (aq.put (some 29) v) W2) => show (JqaA Qd m d id a bb cc dd ao bo cap bcap gi gb okn B4 TG w0 a0) (lq.setIfInBounds 5 true) (aq.put (some 29) v) W2 from ⟨hJ2.put hS 5 29 rfl (by omega) (W' := W2) hW hT v hv, hs⟩
     clear ho hall hl hQ
     generalize (JqaA Qd m d id a bb cc dd ao bo cap bcap gi gb okn B4 TG w0 a0) (lq.setIfInBounds 5 true) = K at hK ⊢
     clear hJ2 hS z1 z2 z3 z4 z6 z7
     go_simp
     refine (hSP gi2 gb2 S2 W R2).mono ?_
     rintro r v1 ⟨u1, rfl, hA1, hBv⟩
     exact hK _ _ (z5.trans (hBv.mono z5.size)) (fun _ _ h => h.mono hBv) ⟨u1, rfl⟩ (AnS.call hTG hs (show AnD 1 5 6 7 9 10 25 29 23 30 8 by unfold AnD; omega) hsz29 hl5 hBv hA1 (Nat.le_refl _) (Nat.le_refl _) (by have := z5.size; omega))
   | 6, ho =>
     cases ho
     refine wpOp_of rfl rfl ?_
     have f5 : ∃ u, (aq.tmps.getD 29 undef) = .tuple #[u, .bool okn] := z6 5 29 (hall { on := 5, ground := Ground.data } (by simp) rfl) rfl
     obtain ⟨u5, e5⟩ := f5
     have hc5 : lq.getD 5 false = true := hall { on := 5, ground := Ground.data } (by simp) rfl
     have hsz23 : 23 < aq.tmps.size := by omega
     have e5o := e5
     rw [Array.getD_eq_getD_getElem?] at e5
     have hK := fun (v : Value) (W2 : World) hW hT hv (hs : SqaA Qd m d id a bb cc dd ao bo cap bcap gi gb okn B4 TG (lq.setIfInBounds 6 true) (aq.put (some 23) v) W2) => show (JqaA Qd m d id a bb cc dd ao bo cap bcap gi gb okn B4 TG w0 a0) (lq.setIfInBounds 6 true) (aq.put (some 23) v) W2 from ⟨hJ2.put hS 6 23 rfl (by omega) (W' := W2) hW hT v hv, hs⟩
     clear ho hall hl hQ
     generalize (JqaA Qd m d id a bb cc dd ao bo cap bcap gi gb okn B4 TG w0 a0) (lq.setIfInBounds 6 true) = K at hK ⊢
     clear hJ2 hS z1 z2 z3 z4 z6 z7
     go_simp
     exact hK _ _ z5 (fun _ _ h => h) ⟨u5, rfl⟩ (AnS.move hs (show AnD 1 5 6 7 9 10 25 29 23 30 8 by unfold AnD; omega) hsz23 hc5 e5o.symm)
   | 7, ho =>
     cases ho
     refine wpOp_of rfl rfl ?_
     have f6 : ∃ u, (aq.tmps.getD 23 undef) = .tuple #[u, .bool okn] := z6 6 23 (hall { on := 6, ground := Ground.data } (by simp) rfl) rfl
     obtain ⟨u6, e6⟩ := f6
     have hm6 : lq.getD 6 false = true := hall { on := 6, ground := Ground.data } (by simp) rfl
     have hsz30 : 30 < aq.tmps.size := by omega
     have e6o := e6
     rw [Array.getD_eq_getD_getElem?] at e6
     have hK := fun (v : Value) (W2 : World) hW hT hv (hs : SqaA Qd m d id a bb cc dd ao bo cap bcap gi gb okn B4 TG (lq.setIfInBounds 7 true) (aq.put (some 30) v) W2) => show (JqaA Qd m d id a bb cc dd ao bo cap bcap gi gb okn B4 TG w0 a0) (lq.setIfInBounds 7 true) (aq.put (some 30) v) W2 from ⟨hJ2.put hS 7 30 rfl (by omega) (W' := W2) hW hT v hv, hs⟩
     clear ho hall hl hQ
     generalize (JqaA Qd m d id a bb cc dd ao bo cap bcap gi gb okn B4 TG w0 a0) (lq.setIfInBounds 7 true) = K at hK ⊢
     clear hJ2 hS z1 z2 z3 z4 z6 z7
     go_simp
     exact hK _ _ z5 (fun _ _ h => h) trivial (AnS.take hs (show AnD 1 5 6 7 9 10 25 29 23 30 8 by unfold AnD; omega) hsz30 hm6 e6o)
   | 8, ho =>
     cases ho
     refine wpOp_of rfl rfl ?_
     have f6 : ∃ u, (aq.tmps.getD 23 undef) = .tuple #[u, .bool okn] := z6 6 23 (hall { on := 6, ground := Ground.data } (by simp) rfl) rfl
     obtain ⟨u6, e6⟩ := f6
     rw [Array.getD_eq_getD_getElem?] at e6
     have hK := fun (v : Value) (W2 : World) hW hT hv (hs : SqaA Qd m d id a bb cc dd ao bo cap bcap gi gb okn B4 TG (lq.setIfInBounds 8 true) (aq.put (some 31) v) W2) => show (JqaA Qd m d id a bb cc dd ao bo cap bcap gi gb okn B4 TG w0 a0) (lq.setIfInBounds 8 true) (aq.put (some 31) v) W2 from ⟨hJ2.put hS 8 31 rfl (by omega) (W' := W2) hW hT v hv, hs⟩
     clear ho hall hl hQ
     generalize (JqaA Qd m d id a bb cc dd ao bo cap bcap gi gb okn B4 TG w0 a0) (lq.setIfInBounds 8 true) = K at hK ⊢
     clear hJ2 hS z1 z2 z3 z4 z6 z7
     go_simp
     exact hK _ _ z5 (fun _ _ h => h) rfl (AnS.quiet hs 8 31 _ (by decide) (by decide))
   | 9, ho =>
     cases ho
     refine wpOp_of rfl rfl ?_
     have hl9 := hl
     have hsz8 : 8 < aq.tmps.size := by omega
     have hK := fun (v : Value) (W2 : World) hW hT hv (hs : SqaA Qd m d id a bb cc dd ao bo cap bcap gi gb okn B4 TG (lq.setIfInBounds 9 true) (aq.put (some 8) v) W2) => show (JqaA Qd m d id a bb cc dd ao bo cap bcap gi gb okn B4 TG w0 a0) (lq.setIfInBounds 9 true) (aq.put (some 8) v) W2 from ⟨hJ2.put hS 9 8 rfl (by omega) (W' := W2) hW hT v hv, hs⟩
     clear ho hall hl hQ
     generalize (JqaA Qd m d id a bb cc dd ao bo cap bcap gi gb okn B4 TG w0 a0) (lq.setIfInBounds 9 true) = K at hK ⊢
     clear hJ2 hS z1 z2 z3 z4 z6 z7
     go_simp
     exact hK _ _ (z5.alloc z5.size _) (fun _ _ h => h.mono ((Below.refl _ _).alloc (Nat.le_refl _) _)) trivial (AnS.lay hTG hs (show AnD 1 5 6 7 9 10 25 29 23 30 8 by unfold AnD; omega) hsz8 hl9 (by have := z5.size; omega) _)
   | 10, ho =>
     cases ho
     refine wpOp_of rfl rfl ?_
     have l9 : lq.getD 9 false = true := hall { on := 9, ground := Ground.data } (by simp) rfl
     have l7 : lq.getD 7 false = true := hall { on := 7, ground := Ground.data } (by simp) rfl
     have hl10 := hl
     obtain ⟨gz, e9, hgz, GZ⟩ := AnS.laid hs l9 hl10
     obtain ⟨u7, lo7, hi7, e7, hT7⟩ := AnS.taken hs l7 hl10
     obtain ⟨m7, d7, io7, n7, ic7, bo7, N7, bc7, rfl⟩ := hform _ _ _ _ hT7
     have gl := GZ.lt
     have c0z := GZ.c 0 rfl; have d0z := GZ.f 0 rfl; have c1z := GZ.c 1 rfl; have d1z := GZ.f 1 rfl; have c2z := GZ.c 2 rfl; have d2z := GZ.f 2 rfl; have c3z := GZ.c 3 rfl; have d3z := GZ.f 3 rfl
     have NB := (set4_blk GZ (.int .i64 m7) (.int .i64 d7) (.slice io7 n7 ic7) (.slice bo7 N7 bc7)).out
     have NL : Below w0.heap.size w0 ((((W.setCell ⟨gz, 0, none⟩ (.int .i64 m7)).setCell ⟨gz, 1, none⟩ (.int .i64 d7)).setCell ⟨gz, 2, none⟩ (.slice io7 n7 ic7)).setCell ⟨gz, 3, none⟩ (.slice bo7 N7 bc7)) := set4_below z5 (by omega) _ _ _ _
     have HS : SqaA Qd m d id a bb cc dd ao bo cap bcap gi gb okn B4 TG (lq.setIfInBounds 10 true) aq ((((W.setCell ⟨gz, 0, none⟩ (.int .i64 m7)).setCell ⟨gz, 1, none⟩ (.int .i64 d7)).setCell ⟨gz, 2, none⟩ (.slice io7 n7 ic7)).setCell ⟨gz, 3, none⟩ (.slice bo7 N7 bc7)) := AnS.store hTG hs (show AnD 1 5 6 7 9 10 25 29 23 30 8 by unfold AnD; omega) hl10 l9 l7 e9 e7 (by simp [World.setCell]) (fun b hb => set4_heap hb) NB
     rw [Array.getD_eq_getD_getElem?] at e9 e7
     clear GZ NB hT7
     have hK := fun (W2 : World) hW hT hv (hs : SqaA Qd m d id a bb cc dd ao bo cap bcap gi gb okn B4 TG (lq.setIfInBounds 10 true) aq W2) => show (JqaA Qd m d id a bb cc dd ao bo cap bcap gi gb okn B4 TG w0 a0) (lq.setIfInBounds 10 true) aq W2 from ⟨hJ2.world 10 rfl (W' := W2) hW hT hv, hs⟩
     clear ho hall hl hQ
     generalize (JqaA Qd m d id a bb cc dd ao bo cap bcap gi gb okn B4 TG w0 a0) (lq.setIfInBounds 10 true) = K at hK ⊢
     clear hJ2 hS z1 z2 z3 z4 z6 z7
     go_simp
     exact hK _ NL (fun j v h => VqaA.same h) trivial HS
   | 11, ho =>
     cases ho
     refine wpOp_of rfl rfl ?_
     have f8 : (aq.tmps.getD 31 undef) = .bool okn := z6 8 31 (hall { on := 8, ground := Ground.data } (by simp) rfl) rfl
     have hK := fun (v : Value) (W2 : World) hW hT hv (hs : SqaA Qd m d id a bb cc dd ao bo cap bcap gi gb okn B4 TG (lq.setIfInBounds 11 true) (aq.put (some 9) v) W2) => show (JqaA Qd m d id a bb cc dd ao bo cap bcap gi gb okn B4 TG w0 a0) (lq.setIfInBounds 11 true) (aq.put (some 9) v) W2 from ⟨hJ2.put hS 11 9 rfl (by omega) (W' := W2) hW hT v hv, hs⟩
     clear ho hall hl hQ
     generalize (JqaA Qd m d id a bb cc dd ao bo cap bcap gi gb okn B4 TG w0 a0) (lq.setIfInBounds 11 true) = K at hK ⊢
     clear hJ2 hS z1 z2 z3 z4 z6 z7
     go_simp
     exact hK _ _ z5 (fun _ _ h => h) rfl (AnS.quiet hs 11 9 _ (by decide) (by decide))
   | iq + 12, ho => simp at ho
 · intro lq aq W ⟨hJ, hs⟩ hr
   obtain ⟨z1, z2, z3, z4, z5, z6, z7⟩ := hJ
   have hl := listed_of hr [0, 1, 2, 3, 4, 5, 6, 8, 9, 7, 10, 11] [] (by simp) (by kernel_rfl) (by rw [z1]; decide)
   exact hQ aq W z2 z3 (fun e he => z4 e (by simpa using he)) (z6 11 9 (hl 11 (by simp)) rfl) z5 (AnS.done hs (hl 10 (by simp)))
def VqaB (Qd : QD) (m d id a bb cc dd : Int) (_ao _bo : Option Addr) (_cap _bcap gi gb : Nat) (okn : Bool) (_B4 : Nat) (_TG : Value → Nat → Nat → World → Prop) (_B : Nat) : Nat → Value → World → Prop
 | 0, v, _ => v = .agg #[.int .i64 m, .int .i64 d, .slice (some ⟨gi, 0, none⟩) Qd.m Qd.m, .slice (some ⟨gb, 0, none⟩) Qd.N Qd.N]
 | 1, v, _ => v = .int .i64 id
 | 2, v, _ => v = Sg a bb cc dd
 | 3, v, _ => v = Sg a bb cc dd
 | 4, v, _ => ∃ u, v = .tuple #[u, .bool okn]
 | 5, v, _ => ∃ u, v = .tuple #[u, .bool okn]
 | 7, v, _ => v = .bool okn
 | 10, v, _ => v = .bool okn
 | _, _, _ => True
theorem VqaB.mono {Qd : QD} {m d id a bb cc dd : Int} {ao bo : Option Addr} {cap bcap gi gb : Nat} {okn : Bool} {B4 : Nat} {TG : Value → Nat → Nat → World → Prop} {B j : Nat} {v : Value} {W W2 : World} (_hB : Below W.heap.size W W2) (h : VqaB Qd m d id a bb cc dd ao bo cap bcap gi gb okn B4 TG B j v W) : VqaB Qd m d id a bb cc dd ao bo cap bcap gi gb okn B4 TG B j v W2 := by
 unfold VqaB at *
 split <;> simp only at h <;> first | exact h | trivial
theorem VqaB.same {Qd : QD} {m d id a bb cc dd : Int} {ao bo : Option Addr} {cap bcap gi gb : Nat} {okn : Bool} {B4 : Nat} {TG : Value → Nat → Nat → World → Prop} {B j' : Nat} {v : Value} {W W2 : World} (h : VqaB Qd m d id a bb cc dd ao bo cap bcap gi gb okn B4 TG B j' v W) : VqaB Qd m d id a bb cc dd ao bo cap bcap gi gb okn B4 TG B j' v W2 := by
 unfold VqaB at *
 split <;> simp only at h <;> first | exact h | trivial
def SqaB (_Qd : QD) (_m _d _id _a _bb _cc _dd : Int) (_ao _bo : Option Addr) (_cap _bcap _gi _gb : Nat) (okn : Bool) (B4 : Nat) (TG : Value → Nat → Nat → World → Prop) (lz : Array Bool) (az : Act) (W : World) : Prop := AnS B4 okn [.int .i64 0, .int .i64 0, .slice none 0 0, .slice none 0 0] (fun _ _ => True) TG 0 4 5 6 8 9 35 39 34 40 11 lz az W
def JqaB (Qd : QD) (m d id a bb cc dd : Int) (ao bo : Option Addr) (cap bcap gi gb : Nat) (okn : Bool) (B4 : Nat) (TG : Value → Nat → Nat → World → Prop) (w0 : World) (a0 : Act) (lz : Array Bool) (az : Act) (W : World) : Prop := InvQ (w0.heap.size) [some 35, some 36, some 37, some 38, some 39, some 34, some 40, some 41, some 11, none, some 12] (VqaB Qd m d id a bb cc dd ao bo cap bcap gi gb okn B4 TG (w0.heap.size)) w0 a0 lz az W ∧ SqaB Qd m d id a bb cc dd ao bo cap bcap gi gb okn B4 TG lz az W
set_option maxRecDepth 100000 in
set_option maxHeartbeats 4000000 in
theorem qaB {Q : Exit → Act → World → Prop} {Qd : QD} {m d id a bb cc dd : Int} {ao bo : Option Addr} {cap bcap gi gb : Nat} {okn : Bool} {B4 : Nat} {TG : Value → Nat → Nat → World → Prop} {P P5 : Nat} {w0 : World} {a0 : Act} {idq : Nat} {t0 t1 t2 t3 t4 t5 t6 t7 t8 t9 t10 : TypeId} {q0 q1 q2 q3 q4 q5 q6 q7 q8 q9 q10 : String}
   (hB4 : B4 = w0.heap.size) (hTG : TgK (fun _ _ => True) TG) (hform : ∀ u lo hi W, TG u lo hi W → ∃ m' d' io n ic bo N bc, u = .agg #[.int .i64 m', .int .i64 d', .slice io n ic, .slice bo N bc]) (hSP : ∀ W, Below w0.heap.size w0 W → Calls Try.prog 11 #[.agg #[.int .i64 m, .int .i64 d, .slice (some ⟨gi, 0, none⟩) Qd.m Qd.m, .slice (some ⟨gb, 0, none⟩) Qd.N Qd.N], .int .i64 id, Sg a bb cc dd] W (fun r w' => ∃ u, r = .returned (.tuple #[u, .bool okn]) ∧ TG u W.heap.size w'.heap.size w' ∧ Below W.heap.size W w')) (h10 : a0.tmps[10]? = some (.pointer (some ⟨P, 0, none⟩))) (h1 : a0.tmps[1]? = some (.int .i64 id)) (h5 : a0.tmps[5]? = some (.pointer (some ⟨P5, 0, none⟩))) (k0 : w0.cell? ⟨P, 0, none⟩ = some (.int .i64 m)) (l0 : (⟨P, 0, none⟩ : Addr).block < w0.heap.size) (k1 : w0.cell? ⟨P, 1, none⟩ = some (.int .i64 d)) (l1 : (⟨P, 1, none⟩ : Addr).block < w0.heap.size) (k2 : w0.cell? ⟨P, 2, none⟩ = some (.slice (some ⟨gi, 0, none⟩) Qd.m Qd.m)) (l2 : (⟨P, 2, none⟩ : Addr).block < w0.heap.size) (k3 : w0.cell? ⟨P, 3, none⟩ = some (.slice (some ⟨gb, 0, none⟩) Qd.N Qd.N)) (l3 : (⟨P, 3, none⟩ : Addr).block < w0.heap.size) (k4 : w0.cell? ⟨P5, 0, none⟩ = some (.int .i64 a)) (l4 : (⟨P5, 0, none⟩ : Addr).block < w0.heap.size) (k5 : w0.cell? ⟨P5, 1, none⟩ = some (.int .i64 bb)) (l5 : (⟨P5, 1, none⟩ : Addr).block < w0.heap.size) (k6 : w0.cell? ⟨P5, 2, none⟩ = some (.int .i64 cc)) (l6 : (⟨P5, 2, none⟩ : Addr).block < w0.heap.size) (k7 : w0.cell? ⟨P5, 3, none⟩ = some (.int .i64 dd)) (l7 : (⟨P5, 3, none⟩ : Addr).block < w0.heap.size) (hz : a0.tmps.size = 109)
   (hQ : ∀ aq W, aq.tmps.size = a0.tmps.size → aq.defers = a0.defers → (∀ e, e ∉ ([35, 36, 37, 38, 39, 34, 40, 41, 11, 12] : List Nat) → aq.tmps[e]? = a0.tmps[e]?) → VqaB Qd m d id a bb cc dd ao bo cap bcap gi gb okn B4 TG (w0.heap.size) 10 (aq.tmps.getD 12 undef) W → Below (w0.heap.size) w0 W → (∃ g vs lo hi, aq.tmps.getD 11 undef = .pointer (some ⟨g, 0, none⟩) ∧ B4 ≤ g ∧ Blk W g vs ∧ TG (.agg vs.toArray) lo hi W ∧ B4 ≤ lo ∧ hi ≤ W.heap.size ∧ (g < lo ∨ hi ≤ g)) → Q .normal aq W) :
   (Code.region idq #[{ dst := some 35, op := Op.load 34 (Operand.tmp 10), type := t0, pos := q0, after := #[], guard := none },
   { dst := some 36, op := Op.move (Operand.tmp 1), type := t1, pos := q1, after := #[], guard := none },
   { dst := some 37, op := Op.load 29 (Operand.tmp 5), type := t2, pos := q2, after := #[], guard := none },
   { dst := some 38, op := Op.call { callee := Callee.value (Operand.func 10), args := #[Operand.tmp 37], argTypes := #[29] }, type := t3, pos := q3, after := #[{ on := 2, ground := Ground.data }], guard := none },
   { dst := some 39, op := Op.call { callee := Callee.value (Operand.func 11), args := #[Operand.tmp 35, Operand.tmp 36, Operand.tmp 38], argTypes := #[34, 2, 40] }, type := t4, pos := q4, after := #[{ on := 0, ground := Ground.data }, { on := 1, ground := Ground.data }, { on := 3, ground := Ground.data }, { on := 3, ground := Ground.chain }], guard := none },
   { dst := some 34, op := Op.move (Operand.tmp 39), type := t5, pos := q5, after := #[{ on := 4, ground := Ground.data }], guard := none },
   { dst := some 40, op := Op.extract (Operand.tmp 34) 0, type := t6, pos := q6, after := #[{ on := 5, ground := Ground.data }], guard := none },
   { dst := some 41, op := Op.extract (Operand.tmp 34) 1, type := t7, pos := q7, after := #[{ on := 5, ground := Ground.data }, { on := 9, ground := Ground.gcOnly Departure.lateStores }], guard := none },
   { dst := some 11, op := Op.alloc 34, type := t8, pos := q8, after := #[], guard := none },
   { dst := none, op := Op.store 34 (Operand.tmp 11) (Operand.tmp 40), type := t9, pos := q9, after := #[{ on := 8, ground := Ground.data }, { on := 6, ground := Ground.data }, { on := 4, ground := Ground.chain }, { on := 0, ground := Ground.phase }, { on := 1, ground := Ground.phase }, { on := 2, ground := Ground.phase }, { on := 3, ground := Ground.phase }, { on := 4, ground := Ground.phase }, { on := 5, ground := Ground.phase }, { on := 6, ground := Ground.phase }, { on := 7, ground := Ground.textOnly Departure.lateStores }, { on := 8, ground := Ground.phase }], guard := none },
   { dst := some 12, op := Op.assign (Operand.tmp 41), type := t10, pos := q10, after := #[{ on := 7, ground := Ground.data }, { on := 9, ground := Ground.chain }, { on := 0, ground := Ground.phase }, { on := 1, ground := Ground.phase }, { on := 2, ground := Ground.phase }, { on := 3, ground := Ground.phase }, { on := 4, ground := Ground.phase }, { on := 5, ground := Ground.phase }, { on := 6, ground := Ground.phase }, { on := 7, ground := Ground.phase }, { on := 8, ground := Ground.phase }, { on := 9, ground := Ground.phase }], guard := none }] true).wp Try.prog Q a0 w0 := by
 have hS : distS [some 35, some 36, some 37, some 38, some 39, some 34, some 40, some 41, some 11, none, some 12] = true := rfl
 refine wp_region_inv (by kernel_rfl) (JqaB Qd m d id a bb cc dd ao bo cap bcap gi gb okn B4 TG w0 a0) ⟨⟨rfl, rfl, rfl, fun _ _ => rfl, (Below.refl _ w0).drew, fun j d hj => ?_, fun j hj => ?_⟩, AnS.start⟩ ?_ ?_
 · exfalso
   rw [Array.getD_eq_getD_getElem?, Array.getElem?_replicate] at hj
   split at hj <;> simp at hj
 · exfalso
   rw [Array.getD_eq_getD_getElem?, Array.getElem?_replicate] at hj
   split at hj <;> simp at hj
 · intro lq aq W iq oq ⟨hJ, hs⟩ hl ho hall
   have hJ2 := hJ
   obtain ⟨z1, z2, z3, z4, z5, z6, z7⟩ := hJ
   have g10 : aq.tmps.getD 10 undef = .pointer (some ⟨P, 0, none⟩) := by rw [Array.getD_eq_getD_getElem?, z4 10 (by decide), h10]; rfl
   have g1 : aq.tmps.getD 1 undef = .int .i64 id := by rw [Array.getD_eq_getD_getElem?, z4 1 (by decide), h1]; rfl
   have g5 : aq.tmps.getD 5 undef = .pointer (some ⟨P5, 0, none⟩) := by rw [Array.getD_eq_getD_getElem?, z4 5 (by decide), h5]; rfl
   have c0 : W.cell? ⟨P, 0, none⟩ = some (.int .i64 m) := (z5.cell l0).trans k0
   have c1 : W.cell? ⟨P, 1, none⟩ = some (.int .i64 d) := (z5.cell l1).trans k1
   have c2 : W.cell? ⟨P, 2, none⟩ = some (.slice (some ⟨gi, 0, none⟩) Qd.m Qd.m) := (z5.cell l2).trans k2
   have c3 : W.cell? ⟨P, 3, none⟩ = some (.slice (some ⟨gb, 0, none⟩) Qd.N Qd.N) := (z5.cell l3).trans k3
   have c4 : W.cell? ⟨P5, 0, none⟩ = some (.int .i64 a) := (z5.cell l4).trans k4
   have c5 : W.cell? ⟨P5, 1, none⟩ = some (.int .i64 bb) := (z5.cell l5).trans k5
   have c6 : W.cell? ⟨P5, 2, none⟩ = some (.int .i64 cc) := (z5.cell l6).trans k6
   have c7 : W.cell? ⟨P5, 3, none⟩ = some (.int .i64 dd) := (z5.cell l7).trans k7
   match iq, ho with
   | 0, ho =>
     cases ho
     refine wpOp_of rfl rfl ?_
     have hsz35 : 35 < aq.tmps.size := by omega
     have hK := fun (v : Value) (W2 : World) hW hT hv (hs : SqaB Qd m d id a bb cc dd ao bo cap bcap gi gb okn B4 TG (lq.setIfInBounds 0 true) (aq.put (some 35) v) W2) => show (JqaB Qd m d id a bb cc dd ao bo cap bcap gi gb okn B4 TG w0 a0) (lq.setIfInBounds 0 true) (aq.put (some 35) v) W2 from ⟨hJ2.put hS 0 35 rfl (by omega) (W' := W2) hW hT v hv, hs⟩
     clear ho hall hl hQ
     generalize (JqaB Qd m d id a bb cc dd ao bo cap bcap gi gb okn B4 TG w0 a0) (lq.setIfInBounds 0 true) = K at hK ⊢
     clear hJ2 hS z1 z2 z3 z4 z6 z7
     go_simp
     exact hK _ _ z5 (fun _ _ h => h) rfl (AnS.ask hs _ (show AnD 0 4 5 6 8 9 35 39 34 40 11 by unfold AnD; omega) hsz35 trivial)
   | 1, ho =>
     cases ho
     refine wpOp_of rfl rfl ?_
     have hK := fun (v : Value) (W2 : World) hW hT hv (hs : SqaB Qd m d id a bb cc dd ao bo cap bcap gi gb okn B4 TG (lq.setIfInBounds 1 true) (aq.put (some 36) v) W2) => show (JqaB Qd m d id a bb cc dd ao bo cap bcap gi gb okn B4 TG w0 a0) (lq.setIfInBounds 1 true) (aq.put (some 36) v) W2 from ⟨hJ2.put hS 1 36 rfl (by omega) (W' := W2) hW hT v hv, hs⟩
     clear ho hall hl hQ
     generalize (JqaB Qd m d id a bb cc dd ao bo cap bcap gi gb okn B4 TG w0 a0) (lq.setIfInBounds 1 true) = K at hK ⊢
     clear hJ2 hS z1 z2 z3 z4 z6 z7
     go_simp
     exact hK _ _ z5 (fun _ _ h => h) rfl (AnS.quiet hs 1 36 _ (by decide) (by decide))
   | 2, ho =>
     cases ho
     refine wpOp_of rfl rfl ?_
     have hK := fun (v : Value) (W2 : World) hW hT hv (hs : SqaB Qd m d id a bb cc dd ao bo cap bcap gi gb okn B4 TG (lq.setIfInBounds 2 true) (aq.put (some 37) v) W2) => show (JqaB Qd m d id a bb cc dd ao bo cap bcap gi gb okn B4 TG w0 a0) (lq.setIfInBounds 2 true) (aq.put (some 37) v) W2 from ⟨hJ2.put hS 2 37 rfl (by omega) (W' := W2) hW hT v hv, hs⟩
     clear ho hall hl hQ
     generalize (JqaB Qd m d id a bb cc dd ao bo cap bcap gi gb okn B4 TG w0 a0) (lq.setIfInBounds 2 true) = K at hK ⊢
     clear hJ2 hS z1 z2 z3 z4 z6 z7
     go_simp
     exact hK _ _ z5 (fun _ _ h => h) rfl (AnS.quiet hs 2 37 _ (by decide) (by decide))
   | 3, ho =>
     cases ho
     refine wpOp_of rfl rfl ?_
     have f2 : (aq.tmps.getD 37 undef) = Sg a bb cc dd := z6 2 37 (hall { on := 2, ground := Ground.data } (by simp) rfl) rfl
     have hK := fun (v : Value) (W2 : World) hW hT hv (hs : SqaB Qd m d id a bb cc dd ao bo cap bcap gi gb okn B4 TG (lq.setIfInBounds 3 true) (aq.put (some 38) v) W2) => show (JqaB Qd m d id a bb cc dd ao bo cap bcap gi gb okn B4 TG w0 a0) (lq.setIfInBounds 3 true) (aq.put (some 38) v) W2 from ⟨hJ2.put hS 3 38 rfl (by omega) (W' := W2) hW hT v hv, hs⟩
     clear ho hall hl hQ
     generalize (JqaB Qd m d id a bb cc dd ao bo cap bcap gi gb okn B4 TG w0 a0) (lq.setIfInBounds 3 true) = K at hK ⊢
     clear hJ2 hS z1 z2 z3 z4 z6 z7
     go_simp
     refine (toSeg_any a bb cc dd W).mono ?_
     rintro r v1 ⟨rfl, hBv⟩
     exact hK _ _ (z5.trans (hBv.mono z5.size)) (fun _ _ h => h.mono hBv) rfl (AnS.quiet (AnS.step hTG hs hBv) 3 38 _ (by decide) (by decide))
   | 4, ho =>
     cases ho
     refine wpOp_of rfl rfl ?_
     have f0 : (aq.tmps.getD 35 undef) = .agg #[.int .i64 m, .int .i64 d, .slice (some ⟨gi, 0, none⟩) Qd.m Qd.m, .slice (some ⟨gb, 0, none⟩) Qd.N Qd.N] := z6 0 35 (hall { on := 0, ground := Ground.data } (by simp) rfl) rfl
     have f1 : (aq.tmps.getD 36 undef) = .int .i64 id := z6 1 36 (hall { on := 1, ground := Ground.data } (by simp) rfl) rfl
     have f3 : (aq.tmps.getD 38 undef) = Sg a bb cc dd := z6 3 38 (hall { on := 3, ground := Ground.data } (by simp) rfl) rfl
     have hl5 := hl
     have hsz39 : 39 < aq.tmps.size := by omega
     have hK := fun (v : Value) (W2 : World) hW hT hv (hs : SqaB Qd m d id a bb cc dd ao bo cap bcap gi gb okn B4 TG (lq.setIfInBounds 4 true) (aq.put (some 39) v) W2) => show (JqaB Qd m d id a bb cc dd ao bo cap bcap gi gb okn B4 TG w0 a0) (lq.setIfInBounds 4 true) (aq.put (some 39) v) W2 from ⟨hJ2.put hS 4 39 rfl (by omega) (W' := W2) hW hT v hv, hs⟩
     clear ho hall hl hQ
     generalize (JqaB Qd m d id a bb cc dd ao bo cap bcap gi gb okn B4 TG w0 a0) (lq.setIfInBounds 4 true) = K at hK ⊢
     clear hJ2 hS z1 z2 z3 z4 z6 z7
     go_simp
     refine (hSP W z5).mono ?_
     rintro r v1 ⟨u1, rfl, hA1, hBv⟩
     exact hK _ _ (z5.trans (hBv.mono z5.size)) (fun _ _ h => h.mono hBv) ⟨u1, rfl⟩ (AnS.call hTG hs (show AnD 0 4 5 6 8 9 35 39 34 40 11 by unfold AnD; omega) hsz39 hl5 hBv hA1 (Nat.le_refl _) (Nat.le_refl _) (by have := z5.size; omega))
   | 5, ho =>
     cases ho
     refine wpOp_of rfl rfl ?_
     have f4 : ∃ u, (aq.tmps.getD 39 undef) = .tuple #[u, .bool okn] := z6 4 39 (hall { on := 4, ground := Ground.data } (by simp) rfl) rfl
     obtain ⟨u5, e5⟩ := f4
     have hc5 : lq.getD 4 false = true := hall { on := 4, ground := Ground.data } (by simp) rfl
     have hsz34 : 34 < aq.tmps.size := by omega
     have e5o := e5
     rw [Array.getD_eq_getD_getElem?] at e5
     have hK := fun (v : Value) (W2 : World) hW hT hv (hs : SqaB Qd m d id a bb cc dd ao bo cap bcap gi gb okn B4 TG (lq.setIfInBounds 5 true) (aq.put (some 34) v) W2) => show (JqaB Qd m d id a bb cc dd ao bo cap bcap gi gb okn B4 TG w0 a0) (lq.setIfInBounds 5 true) (aq.put (some 34) v) W2 from ⟨hJ2.put hS 5 34 rfl (by omega) (W' := W2) hW hT v hv, hs⟩
     clear ho hall hl hQ
     generalize (JqaB Qd m d id a bb cc dd ao bo cap bcap gi gb okn B4 TG w0 a0) (lq.setIfInBounds 5 true) = K at hK ⊢
     clear hJ2 hS z1 z2 z3 z4 z6 z7
     go_simp
     exact hK _ _ z5 (fun _ _ h => h) ⟨u5, rfl⟩ (AnS.move hs (show AnD 0 4 5 6 8 9 35 39 34 40 11 by unfold AnD; omega) hsz34 hc5 e5o.symm)
   | 6, ho =>
     cases ho
     refine wpOp_of rfl rfl ?_
     have f5 : ∃ u, (aq.tmps.getD 34 undef) = .tuple #[u, .bool okn] := z6 5 34 (hall { on := 5, ground := Ground.data } (by simp) rfl) rfl
     obtain ⟨u6, e6⟩ := f5
     have hm6 : lq.getD 5 false = true := hall { on := 5, ground := Ground.data } (by simp) rfl
     have hsz40 : 40 < aq.tmps.size := by omega
     have e6o := e6
     rw [Array.getD_eq_getD_getElem?] at e6
     have hK := fun (v : Value) (W2 : World) hW hT hv (hs : SqaB Qd m d id a bb cc dd ao bo cap bcap gi gb okn B4 TG (lq.setIfInBounds 6 true) (aq.put (some 40) v) W2) => show (JqaB Qd m d id a bb cc dd ao bo cap bcap gi gb okn B4 TG w0 a0) (lq.setIfInBounds 6 true) (aq.put (some 40) v) W2 from ⟨hJ2.put hS 6 40 rfl (by omega) (W' := W2) hW hT v hv, hs⟩
     clear ho hall hl hQ
     generalize (JqaB Qd m d id a bb cc dd ao bo cap bcap gi gb okn B4 TG w0 a0) (lq.setIfInBounds 6 true) = K at hK ⊢
     clear hJ2 hS z1 z2 z3 z4 z6 z7
     go_simp
     exact hK _ _ z5 (fun _ _ h => h) trivial (AnS.take hs (show AnD 0 4 5 6 8 9 35 39 34 40 11 by unfold AnD; omega) hsz40 hm6 e6o)
   | 7, ho =>
     cases ho
     refine wpOp_of rfl rfl ?_
     have f5 : ∃ u, (aq.tmps.getD 34 undef) = .tuple #[u, .bool okn] := z6 5 34 (hall { on := 5, ground := Ground.data } (by simp) rfl) rfl
     obtain ⟨u6, e6⟩ := f5
     rw [Array.getD_eq_getD_getElem?] at e6
     have hK := fun (v : Value) (W2 : World) hW hT hv (hs : SqaB Qd m d id a bb cc dd ao bo cap bcap gi gb okn B4 TG (lq.setIfInBounds 7 true) (aq.put (some 41) v) W2) => show (JqaB Qd m d id a bb cc dd ao bo cap bcap gi gb okn B4 TG w0 a0) (lq.setIfInBounds 7 true) (aq.put (some 41) v) W2 from ⟨hJ2.put hS 7 41 rfl (by omega) (W' := W2) hW hT v hv, hs⟩
     clear ho hall hl hQ
     generalize (JqaB Qd m d id a bb cc dd ao bo cap bcap gi gb okn B4 TG w0 a0) (lq.setIfInBounds 7 true) = K at hK ⊢
     clear hJ2 hS z1 z2 z3 z4 z6 z7
     go_simp
     exact hK _ _ z5 (fun _ _ h => h) rfl (AnS.quiet hs 7 41 _ (by decide) (by decide))
   | 8, ho =>
     cases ho
     refine wpOp_of rfl rfl ?_
     have hl9 := hl
     have hsz11 : 11 < aq.tmps.size := by omega
     have hK := fun (v : Value) (W2 : World) hW hT hv (hs : SqaB Qd m d id a bb cc dd ao bo cap bcap gi gb okn B4 TG (lq.setIfInBounds 8 true) (aq.put (some 11) v) W2) => show (JqaB Qd m d id a bb cc dd ao bo cap bcap gi gb okn B4 TG w0 a0) (lq.setIfInBounds 8 true) (aq.put (some 11) v) W2 from ⟨hJ2.put hS 8 11 rfl (by omega) (W' := W2) hW hT v hv, hs⟩
     clear ho hall hl hQ
     generalize (JqaB Qd m d id a bb cc dd ao bo cap bcap gi gb okn B4 TG w0 a0) (lq.setIfInBounds 8 true) = K at hK ⊢
     clear hJ2 hS z1 z2 z3 z4 z6 z7
     go_simp
     exact hK _ _ (z5.alloc z5.size _) (fun _ _ h => h.mono ((Below.refl _ _).alloc (Nat.le_refl _) _)) trivial (AnS.lay hTG hs (show AnD 0 4 5 6 8 9 35 39 34 40 11 by unfold AnD; omega) hsz11 hl9 (by have := z5.size; omega) _)
   | 9, ho =>
     cases ho
     refine wpOp_of rfl rfl ?_
     have l9 : lq.getD 8 false = true := hall { on := 8, ground := Ground.data } (by simp) rfl
     have l7 : lq.getD 6 false = true := hall { on := 6, ground := Ground.data } (by simp) rfl
     have hl10 := hl
     obtain ⟨gz, e9, hgz, GZ⟩ := AnS.laid hs l9 hl10
     obtain ⟨u7, lo7, hi7, e7, hT7⟩ := AnS.taken hs l7 hl10
     obtain ⟨m7, d7, io7, n7, ic7, bo7, N7, bc7, rfl⟩ := hform _ _ _ _ hT7
     have gl := GZ.lt
     have c0z := GZ.c 0 rfl; have d0z := GZ.f 0 rfl; have c1z := GZ.c 1 rfl; have d1z := GZ.f 1 rfl; have c2z := GZ.c 2 rfl; have d2z := GZ.f 2 rfl; have c3z := GZ.c 3 rfl; have d3z := GZ.f 3 rfl
     have NB := (set4_blk GZ (.int .i64 m7) (.int .i64 d7) (.slice io7 n7 ic7) (.slice bo7 N7 bc7)).out
     have NL : Below w0.heap.size w0 ((((W.setCell ⟨gz, 0, none⟩ (.int .i64 m7)).setCell ⟨gz, 1, none⟩ (.int .i64 d7)).setCell ⟨gz, 2, none⟩ (.slice io7 n7 ic7)).setCell ⟨gz, 3, none⟩ (.slice bo7 N7 bc7)) := set4_below z5 (by omega) _ _ _ _
     have HS : SqaB Qd m d id a bb cc dd ao bo cap bcap gi gb okn B4 TG (lq.setIfInBounds 9 true) aq ((((W.setCell ⟨gz, 0, none⟩ (.int .i64 m7)).setCell ⟨gz, 1, none⟩ (.int .i64 d7)).setCell ⟨gz, 2, none⟩ (.slice io7 n7 ic7)).setCell ⟨gz, 3, none⟩ (.slice bo7 N7 bc7)) := AnS.store hTG hs (show AnD 0 4 5 6 8 9 35 39 34 40 11 by unfold AnD; omega) hl10 l9 l7 e9 e7 (by simp [World.setCell]) (fun b hb => set4_heap hb) NB
     rw [Array.getD_eq_getD_getElem?] at e9 e7
     clear GZ NB hT7
     have hK := fun (W2 : World) hW hT hv (hs : SqaB Qd m d id a bb cc dd ao bo cap bcap gi gb okn B4 TG (lq.setIfInBounds 9 true) aq W2) => show (JqaB Qd m d id a bb cc dd ao bo cap bcap gi gb okn B4 TG w0 a0) (lq.setIfInBounds 9 true) aq W2 from ⟨hJ2.world 9 rfl (W' := W2) hW hT hv, hs⟩
     clear ho hall hl hQ
     generalize (JqaB Qd m d id a bb cc dd ao bo cap bcap gi gb okn B4 TG w0 a0) (lq.setIfInBounds 9 true) = K at hK ⊢
     clear hJ2 hS z1 z2 z3 z4 z6 z7
     go_simp
     exact hK _ NL (fun j v h => VqaB.same h) trivial HS
   | 10, ho =>
     cases ho
     refine wpOp_of rfl rfl ?_
     have f7 : (aq.tmps.getD 41 undef) = .bool okn := z6 7 41 (hall { on := 7, ground := Ground.data } (by simp) rfl) rfl
     have hK := fun (v : Value) (W2 : World) hW hT hv (hs : SqaB Qd m d id a bb cc dd ao bo cap bcap gi gb okn B4 TG (lq.setIfInBounds 10 true) (aq.put (some 12) v) W2) => show (JqaB Qd m d id a bb cc dd ao bo cap bcap gi gb okn B4 TG w0 a0) (lq.setIfInBounds 10 true) (aq.put (some 12) v) W2 from ⟨hJ2.put hS 10 12 rfl (by omega) (W' := W2) hW hT v hv, hs⟩
     clear ho hall hl hQ
     generalize (JqaB Qd m d id a bb cc dd ao bo cap bcap gi gb okn B4 TG w0 a0) (lq.setIfInBounds 10 true) = K at hK ⊢
     clear hJ2 hS z1 z2 z3 z4 z6 z7
     go_simp
     exact hK _ _ z5 (fun _ _ h => h) rfl (AnS.quiet hs 10 12 _ (by decide) (by decide))
   | iq + 11, ho => simp at ho
 · intro lq aq W ⟨hJ, hs⟩ hr
   obtain ⟨z1, z2, z3, z4, z5, z6, z7⟩ := hJ
   have hl := listed_of hr [0, 1, 2, 3, 4, 5, 7, 8, 6, 9, 10] [] (by simp) (by kernel_rfl) (by rw [z1]; decide)
   exact hQ aq W z2 z3 (fun e he => z4 e (by simpa using he)) (z6 10 12 (hl 10 (by simp)) rfl) z5 (AnS.done hs (hl 9 (by simp)))
def VqaC (Qd : QD) (m d id a bb cc dd : Int) (ao bo : Option Addr) (cap bcap _gi _gb : Nat) (okn : Bool) (_B4 : Nat) (_TG : Value → Nat → Nat → World → Prop) (_B : Nat) : Nat → Value → World → Prop
 | 0, v, _ => v = .agg #[.int .i64 m, .int .i64 d, .slice ao Qd.m cap, .slice bo Qd.N bcap]
 | 2, v, _ => v = .int .i64 id
 | 3, v, _ => v = Sg a bb cc dd
 | 4, v, _ => v = Sg a bb cc dd
 | 5, v, _ => ∃ u, v = .tuple #[u, .bool okn]
 | 6, v, _ => ∃ u, v = .tuple #[u, .bool okn]
 | 8, v, _ => v = .bool okn
 | 11, v, _ => v = .bool okn
 | _, _, _ => True
theorem VqaC.mono {Qd : QD} {m d id a bb cc dd : Int} {ao bo : Option Addr} {cap bcap gi gb : Nat} {okn : Bool} {B4 : Nat} {TG : Value → Nat → Nat → World → Prop} {B j : Nat} {v : Value} {W W2 : World} (_hB : Below W.heap.size W W2) (h : VqaC Qd m d id a bb cc dd ao bo cap bcap gi gb okn B4 TG B j v W) : VqaC Qd m d id a bb cc dd ao bo cap bcap gi gb okn B4 TG B j v W2 := by
 unfold VqaC at *
 split <;> simp only at h <;> first | exact h | trivial
theorem VqaC.same {Qd : QD} {m d id a bb cc dd : Int} {ao bo : Option Addr} {cap bcap gi gb : Nat} {okn : Bool} {B4 : Nat} {TG : Value → Nat → Nat → World → Prop} {B j' : Nat} {v : Value} {W W2 : World} (h : VqaC Qd m d id a bb cc dd ao bo cap bcap gi gb okn B4 TG B j' v W) : VqaC Qd m d id a bb cc dd ao bo cap bcap gi gb okn B4 TG B j' v W2 := by
 unfold VqaC at *
 split <;> simp only at h <;> first | exact h | trivial
def SqaC (Qd : QD) (m d _id _a _bb _cc _dd : Int) (_ao _bo : Option Addr) (_cap _bcap _gi _gb : Nat) (okn : Bool) (B4 : Nat) (TG : Value → Nat → Nat → World → Prop) (lz : Array Bool) (az : Act) (W : World) : Prop := AnS B4 okn [.int .i64 0, .int .i64 0, .slice none 0 0, .slice none 0 0] (QuE Qd m d) TG 1 5 6 7 9 10 85 89 83 90 16 lz az W
def JqaC (Qd : QD) (m d id a bb cc dd : Int) (ao bo : Option Addr) (cap bcap gi gb : Nat) (okn : Bool) (B4 : Nat) (TG : Value → Nat → Nat → World → Prop) (w0 : World) (a0 : Act) (lz : Array Bool) (az : Act) (W : World) : Prop := InvQ (w0.heap.size) [some 84, some 85, some 86, some 87, some 88, some 89, some 83, some 90, some 91, some 16, none, some 17] (VqaC Qd m d id a bb cc dd ao bo cap bcap gi gb okn B4 TG (w0.heap.size)) w0 a0 lz az W ∧ SqaC Qd m d id a bb cc dd ao bo cap bcap gi gb okn B4 TG lz az W
set_option maxRecDepth 100000 in
set_option maxHeartbeats 4000000 in
theorem qaC {Q : Exit → Act → World → Prop} {Qd : QD} {m d id a bb cc dd : Int} {ao bo : Option Addr} {cap bcap gi gb : Nat} {okn : Bool} {B4 : Nat} {TG : Value → Nat → Nat → World → Prop} {P P5 A off : Nat} {so : Nat → Option Addr × Nat} {w0 : World} {a0 : Act} {idq : Nat} {t0 t1 t2 t3 t4 t5 t6 t7 t8 t9 t10 t11 : TypeId} {q0 q1 q2 q3 q4 q5 q6 q7 q8 q9 q10 q11 : String}
   (hB4 : B4 = w0.heap.size) (hTG : TgK (QuE Qd m d) TG) (hform : ∀ u lo hi W, TG u lo hi W → ∃ m' d' io n ic bo N bc, u = .agg #[.int .i64 m', .int .i64 d', .slice io n ic, .slice bo N bc]) (hm : Qd.m ≤ 1048576) (hN : Qd.N ≤ 1048576) (hL : ∀ i, i < Qd.N → Qd.L i ≤ 1048576) (hbo : 0 < Qd.N → bo = some ⟨A, off, none⟩) (hIt : ItIn Qd w0 ao (List.range Qd.m)) (hBl : BlIn Qd w0 A off so) (hSP : ∀ gi gb S W, QuRow Qd W 0 gi gb S → Calls Try.prog 11 #[.agg #[.int .i64 m, .int .i64 d, .slice (some ⟨gi, 0, none⟩) Qd.m Qd.m, .slice (some ⟨gb, 0, none⟩) Qd.N Qd.N], .int .i64 id, Sg a bb cc dd] W (fun r w' => ∃ u, r = .returned (.tuple #[u, .bool okn]) ∧ TG u W.heap.size w'.heap.size w' ∧ Below W.heap.size W w')) (h3 : a0.tmps[3]? = some (.pointer (some ⟨P, 0, none⟩))) (h1 : a0.tmps[1]? = some (.int .i64 id)) (h5 : a0.tmps[5]? = some (.pointer (some ⟨P5, 0, none⟩))) (k0 : w0.cell? ⟨P, 0, none⟩ = some (.int .i64 m)) (l0 : (⟨P, 0, none⟩ : Addr).block < w0.heap.size) (k1 : w0.cell? ⟨P, 1, none⟩ = some (.int .i64 d)) (l1 : (⟨P, 1, none⟩ : Addr).block < w0.heap.size) (k2 : w0.cell? ⟨P, 2, none⟩ = some (.slice ao Qd.m cap)) (l2 : (⟨P, 2, none⟩ : Addr).block < w0.heap.size) (k3 : w0.cell? ⟨P, 3, none⟩ = some (.slice bo Qd.N bcap)) (l3 : (⟨P, 3, none⟩ : Addr).block < w0.heap.size) (k4 : w0.cell? ⟨P5, 0, none⟩ = some (.int .i64 a)) (l4 : (⟨P5, 0, none⟩ : Addr).block < w0.heap.size) (k5 : w0.cell? ⟨P5, 1, none⟩ = some (.int .i64 bb)) (l5 : (⟨P5, 1, none⟩ : Addr).block < w0.heap.size) (k6 : w0.cell? ⟨P5, 2, none⟩ = some (.int .i64 cc)) (l6 : (⟨P5, 2, none⟩ : Addr).block < w0.heap.size) (k7 : w0.cell? ⟨P5, 3, none⟩ = some (.int .i64 dd)) (l7 : (⟨P5, 3, none⟩ : Addr).block < w0.heap.size) (hz : a0.tmps.size = 109)
   (hQ : ∀ aq W, aq.tmps.size = a0.tmps.size → aq.defers = a0.defers → (∀ e, e ∉ ([84, 85, 86, 87, 88, 89, 83, 90, 91, 16, 17] : List Nat) → aq.tmps[e]? = a0.tmps[e]?) → VqaC Qd m d id a bb cc dd ao bo cap bcap gi gb okn B4 TG (w0.heap.size) 11 (aq.tmps.getD 17 undef) W → Below (w0.heap.size) w0 W → (∃ g vs lo hi, aq.tmps.getD 16 undef = .pointer (some ⟨g, 0, none⟩) ∧ B4 ≤ g ∧ Blk W g vs ∧ TG (.agg vs.toArray) lo hi W ∧ B4 ≤ lo ∧ hi ≤ W.heap.size ∧ (g < lo ∨ hi ≤ g)) → Q .normal aq W) :
   (Code.region idq #[{ dst := some 84, op := Op.load 25 (Operand.tmp 3), type := t0, pos := q0, after := #[], guard := none },
   { dst := some 85, op := Op.call { callee := Callee.value (Operand.func 9), args := #[Operand.tmp 84], argTypes := #[25] }, type := t1, pos := q1, after := #[{ on := 0, ground := Ground.data }], guard := none },
   { dst := some 86, op := Op.move (Operand.tmp 1), type := t2, pos := q2, after := #[], guard := none },
   { dst := some 87, op := Op.load 29 (Operand.tmp 5), type := t3, pos := q3, after := #[], guard := none },
   { dst := some 88, op := Op.call { callee := Callee.value (Operand.func 10), args := #[Operand.tmp 87], argTypes := #[29] }, type := t4, pos := q4, after := #[{ on := 3, ground := Ground.data }, { on := 1, ground := Ground.chain }], guard := none },
   { dst := some 89, op := Op.call { callee := Callee.value (Operand.func 11), args := #[Operand.tmp 85, Operand.tmp 86, Operand.tmp 88], argTypes := #[34, 2, 40] }, type := t5, pos := q5, after := #[{ on := 1, ground := Ground.data }, { on := 2, ground := Ground.data }, { on := 4, ground := Ground.data }, { on := 4, ground := Ground.chain }], guard := none },
   { dst := some 83, op := Op.move (Operand.tmp 89), type := t6, pos := q6, after := #[{ on := 5, ground := Ground.data }], guard := none },
   { dst := some 90, op := Op.extract (Operand.tmp 83) 0, type := t7, pos := q7, after := #[{ on := 6, ground := Ground.data }], guard := none },
   { dst := some 91, op := Op.extract (Operand.tmp 83) 1, type := t8, pos := q8, after := #[{ on := 6, ground := Ground.data }, { on := 10, ground := Ground.gcOnly Departure.lateStores }], guard := none },
   { dst := some 16, op := Op.alloc 34, type := t9, pos := q9, after := #[], guard := none },
   { dst := none, op := Op.store 34 (Operand.tmp 16) (Operand.tmp 90), type := t10, pos := q10, after := #[{ on := 9, ground := Ground.data }, { on := 7, ground := Ground.data }, { on := 5, ground := Ground.chain }, { on := 0, ground := Ground.phase }, { on := 1, ground := Ground.phase }, { on := 2, ground := Ground.phase }, { on := 3, ground := Ground.phase }, { on := 4, ground := Ground.phase }, { on := 5, ground := Ground.phase }, { on := 6, ground := Ground.phase }, { on := 7, ground := Ground.phase }, { on := 8, ground := Ground.textOnly Departure.lateStores }, { on := 9, ground := Ground.phase }], guard := none },
   { dst := some 17, op := Op.assign (Operand.tmp 91), type := t11, pos := q11, after := #[{ on := 8, ground := Ground.data }, { on := 10, ground := Ground.chain }, { on := 0, ground := Ground.phase }, { on := 1, ground := Ground.phase }, { on := 2, ground := Ground.phase }, { on := 3, ground := Ground.phase }, { on := 4, ground := Ground.phase }, { on := 5, ground := Ground.phase }, { on := 6, ground := Ground.phase }, { on := 7, ground := Ground.phase }, { on := 8, ground := Ground.phase }, { on := 9, ground := Ground.phase }, { on := 10, ground := Ground.phase }], guard := none }] true).wp Try.prog Q a0 w0 := by
 have hS : distS [some 84, some 85, some 86, some 87, some 88, some 89, some 83, some 90, some 91, some 16, none, some 17] = true := rfl
 refine wp_region_inv (by kernel_rfl) (JqaC Qd m d id a bb cc dd ao bo cap bcap gi gb okn B4 TG w0 a0) ⟨⟨rfl, rfl, rfl, fun _ _ => rfl, (Below.refl _ w0).drew, fun j d hj => ?_, fun j hj => ?_⟩, AnS.start⟩ ?_ ?_
 · exfalso
   rw [Array.getD_eq_getD_getElem?, Array.getElem?_replicate] at hj
   split at hj <;> simp at hj
 · exfalso
   rw [Array.getD_eq_getD_getElem?, Array.getElem?_replicate] at hj
   split at hj <;> simp at hj
 · intro lq aq W iq oq ⟨hJ, hs⟩ hl ho hall
   have hJ2 := hJ
   obtain ⟨z1, z2, z3, z4, z5, z6, z7⟩ := hJ
   have g3 : aq.tmps.getD 3 undef = .pointer (some ⟨P, 0, none⟩) := by rw [Array.getD_eq_getD_getElem?, z4 3 (by decide), h3]; rfl
   have g1 : aq.tmps.getD 1 undef = .int .i64 id := by rw [Array.getD_eq_getD_getElem?, z4 1 (by decide), h1]; rfl
   have g5 : aq.tmps.getD 5 undef = .pointer (some ⟨P5, 0, none⟩) := by rw [Array.getD_eq_getD_getElem?, z4 5 (by decide), h5]; rfl
   have c0 : W.cell? ⟨P, 0, none⟩ = some (.int .i64 m) := (z5.cell l0).trans k0
   have c1 : W.cell? ⟨P, 1, none⟩ = some (.int .i64 d) := (z5.cell l1).trans k1
   have c2 : W.cell? ⟨P, 2, none⟩ = some (.slice ao Qd.m cap) := (z5.cell l2).trans k2
   have c3 : W.cell? ⟨P, 3, none⟩ = some (.slice bo Qd.N bcap) := (z5.cell l3).trans k3
   have c4 : W.cell? ⟨P5, 0, none⟩ = some (.int .i64 a) := (z5.cell l4).trans k4
   have c5 : W.cell? ⟨P5, 1, none⟩ = some (.int .i64 bb) := (z5.cell l5).trans k5
   have c6 : W.cell? ⟨P5, 2, none⟩ = some (.int .i64 cc) := (z5.cell l6).trans k6
   have c7 : W.cell? ⟨P5, 3, none⟩ = some (.int .i64 dd) := (z5.cell l7).trans k7
   match iq, ho with
   | 0, ho =>
     cases ho
     refine wpOp_of rfl rfl ?_
     have hK := fun (v : Value) (W2 : World) hW hT hv (hs : SqaC Qd m d id a bb cc dd ao bo cap bcap gi gb okn B4 TG (lq.setIfInBounds 0 true) (aq.put (some 84) v) W2) => show (JqaC Qd m d id a bb cc dd ao bo cap bcap gi gb okn B4 TG w0 a0) (lq.setIfInBounds 0 true) (aq.put (some 84) v) W2 from ⟨hJ2.put hS 0 84 rfl (by omega) (W' := W2) hW hT v hv, hs⟩
     clear ho hall hl hQ
     generalize (JqaC Qd m d id a bb cc dd ao bo cap bcap gi gb okn B4 TG w0 a0) (lq.setIfInBounds 0 true) = K at hK ⊢
     clear hJ2 hS z1 z2 z3 z4 z6 z7
     go_simp
     exact hK _ _ z5 (fun _ _ h => h) rfl (AnS.quiet hs 0 84 _ (by decide) (by decide))
   | 1, ho =>
     cases ho
     refine wpOp_of rfl rfl ?_
     have f0 : (aq.tmps.getD 84 undef) = .agg #[.int .i64 m, .int .i64 d, .slice ao Qd.m cap, .slice bo Qd.N bcap] := z6 0 84 (hall { on := 0, ground := Ground.data } (by simp) rfl) rfl
     have hsz85 : 85 < aq.tmps.size := by omega
     have hK := fun (v : Value) (W2 : World) hW hT hv (hs : SqaC Qd m d id a bb cc dd ao bo cap bcap gi gb okn B4 TG (lq.setIfInBounds 1 true) (aq.put (some 85) v) W2) => show (JqaC Qd m d id a bb cc dd ao bo cap bcap gi gb okn B4 TG w0 a0) (lq.setIfInBounds 1 true) (aq.put (some 85) v) W2 from ⟨hJ2.put hS 1 85 rfl (by omega) (W' := W2) hW hT v hv, hs⟩
     clear ho hall hl hQ
     generalize (JqaC Qd m d id a bb cc dd ao bo cap bcap gi gb okn B4 TG w0 a0) (lq.setIfInBounds 1 true) = K at hK ⊢
     clear hJ2 hS z1 z2 z3 z4 z6 z7
     go_simp
     refine (toQuad_any Qd ao bo cap bcap A off so m d hm hN hL hbo W (hIt.step z5) (hBl.below z5)).mono ?_
     rintro r v1 ⟨gi2, gb2, S2, rfl, R2, hBv⟩
     exact hK _ _ (z5.trans (hBv.mono z5.size)) (fun _ _ h => h.mono hBv) trivial (AnS.ask (AnS.step hTG hs hBv) _ (show AnD 1 5 6 7 9 10 85 89 83 90 16 by unfold AnD; omega) hsz85 ⟨gi2, gb2, S2, rfl, R2.zero⟩)
   | 2, ho =>
     cases ho
     refine wpOp_of rfl rfl ?_
     have hK := fun (v : Value) (W2 : World) hW hT hv (hs : SqaC Qd m d id a bb cc dd ao bo cap bcap gi gb okn B4 TG (lq.setIfInBounds 2 true) (aq.put (some 86) v) W2) => show (JqaC Qd m d id a bb cc dd ao bo cap bcap gi gb okn B4 TG w0 a0) (lq.setIfInBounds 2 true) (aq.put (some 86) v) W2 from ⟨hJ2.put hS 2 86 rfl (by omega) (W' := W2) hW hT v hv, hs⟩
     clear ho hall hl hQ
     generalize (JqaC Qd m d id a bb cc dd ao bo cap bcap gi gb okn B4 TG w0 a0) (lq.setIfInBounds 2 true) = K at hK ⊢
     clear hJ2 hS z1 z2 z3 z4 z6 z7
     go_simp
     exact hK _ _ z5 (fun _ _ h => h) rfl (AnS.quiet hs 2 86 _ (by decide) (by decide))
   | 3, ho =>
     cases ho
     refine wpOp_of rfl rfl ?_
     have hK := fun (v : Value) (W2 : World) hW hT hv (hs : SqaC Qd m d id a bb cc dd ao bo cap bcap gi gb okn B4 TG (lq.setIfInBounds 3 true) (aq.put (some 87) v) W2) => show (JqaC Qd m d id a bb cc dd ao bo cap bcap gi gb okn B4 TG w0 a0) (lq.setIfInBounds 3 true) (aq.put (some 87) v) W2 from ⟨hJ2.put hS 3 87 rfl (by omega) (W' := W2) hW hT v hv, hs⟩
     clear ho hall hl hQ
     generalize (JqaC Qd m d id a bb cc dd ao bo cap bcap gi gb okn B4 TG w0 a0) (lq.setIfInBounds 3 true) = K at hK ⊢
     clear hJ2 hS z1 z2 z3 z4 z6 z7
     go_simp
     exact hK _ _ z5 (fun _ _ h => h) rfl (AnS.quiet hs 3 87 _ (by decide) (by decide))
   | 4, ho =>
     cases ho
     refine wpOp_of rfl rfl ?_
     have f3 : (aq.tmps.getD 87 undef) = Sg a bb cc dd := z6 3 87 (hall { on := 3, ground := Ground.data } (by simp) rfl) rfl
     have hK := fun (v : Value) (W2 : World) hW hT hv (hs : SqaC Qd m d id a bb cc dd ao bo cap bcap gi gb okn B4 TG (lq.setIfInBounds 4 true) (aq.put (some 88) v) W2) => show (JqaC Qd m d id a bb cc dd ao bo cap bcap gi gb okn B4 TG w0 a0) (lq.setIfInBounds 4 true) (aq.put (some 88) v) W2 from ⟨hJ2.put hS 4 88 rfl (by omega) (W' := W2) hW hT v hv, hs⟩
     clear ho hall hl hQ
     generalize (JqaC Qd m d id a bb cc dd ao bo cap bcap gi gb okn B4 TG w0 a0) (lq.setIfInBounds 4 true) = K at hK ⊢
     clear hJ2 hS z1 z2 z3 z4 z6 z7
     go_simp
     refine (toSeg_any a bb cc dd W).mono ?_
     rintro r v1 ⟨rfl, hBv⟩
     exact hK _ _ (z5.trans (hBv.mono z5.size)) (fun _ _ h => h.mono hBv) rfl (AnS.quiet (AnS.step hTG hs hBv) 4 88 _ (by decide) (by decide))
   | 5, ho =>
     cases ho
     refine wpOp_of rfl rfl ?_
     have f1 : True := z6 1 85 (hall { on := 1, ground := Ground.data } (by simp) rfl) rfl
     have f2 : (aq.tmps.getD 86 undef) = .int .i64 id := z6 2 86 (hall { on := 2, ground := Ground.data } (by simp) rfl) rfl
     have f4 : (aq.tmps.getD 88 undef) = Sg a bb cc dd := z6 4 88 (hall { on := 4, ground := Ground.data } (by simp) rfl) rfl
     have ee : lq.getD 1 false = true := hall { on := 1, ground := Ground.data } (by simp) rfl
     have hl5 := hl
     have hsz89 : 89 < aq.tmps.size := by omega
     obtain ⟨gi2, gb2, S2, e25, R2⟩ := AnS.asked hs hl5 ee
     rw [Array.getD_eq_getD_getElem?] at e25
     have hK := fun (v : Value) (W2 : World) hW hT hv (hs : SqaC Qd m d id a bb cc dd ao bo cap bcap gi gb okn B4 TG (lq.setIfInBounds 5 true) (aq.put (some 89) v) W2) => show (JqaC Qd m d id a bb cc dd ao bo cap bcap gi gb okn B4 TG w0 a0) (lq.setIfInBounds 5 true) (aq.put (some 89) v) W2 from ⟨hJ2.put hS 5 89 rfl (by omega) (W' := W2) hW hT v hv, hs⟩
     clear ho hall hl hQ
     generalize (JqaC Qd m d id a bb cc dd ao bo cap bcap gi gb okn B4 TG w0 a0) (lq.setIfInBounds 5 true) = K at hK ⊢
     clear hJ2 hS z1 z2 z3 z4 z6 z7
     go_simp
     refine (hSP gi2 gb2 S2 W R2).mono ?_
     rintro r v1 ⟨u1, rfl, hA1, hBv⟩
     exact hK _ _ (z5.trans (hBv.mono z5.size)) (fun _ _ h => h.mono hBv) ⟨u1, rfl⟩ (AnS.call hTG hs (show AnD 1 5 6 7 9 10 85 89 83 90 16 by unfold AnD; omega) hsz89 hl5 hBv hA1 (Nat.le_refl _) (Nat.le_refl _) (by have := z5.size; omega))
   | 6, ho =>
     cases ho
     refine wpOp_of rfl rfl ?_
     have f5 : ∃ u, (aq.tmps.getD 89 undef) = .tuple #[u, .bool okn] := z6 5 89 (hall { on := 5, ground := Ground.data } (by simp) rfl) rfl
     obtain ⟨u5, e5⟩ := f5
     have hc5 : lq.getD 5 false = true := hall { on := 5, ground := Ground.data } (by simp) rfl
     have hsz83 : 83 < aq.tmps.size := by omega
     have e5o := e5
     rw [Array.getD_eq_getD_getElem?] at e5
     have hK := fun (v : Value) (W2 : World) hW hT hv (hs : SqaC Qd m d id a bb cc dd ao bo cap bcap gi gb okn B4 TG (lq.setIfInBounds 6 true) (aq.put (some 83) v) W2) => show (JqaC Qd m d id a bb cc dd ao bo cap bcap gi gb okn B4 TG w0 a0) (lq.setIfInBounds 6 true) (aq.put (some 83) v) W2 from ⟨hJ2.put hS 6 83 rfl (by omega) (W' := W2) hW hT v hv, hs⟩
     clear ho hall hl hQ
     generalize (JqaC Qd m d id a bb cc dd ao bo cap bcap gi gb okn B4 TG w0 a0) (lq.setIfInBounds 6 true) = K at hK ⊢
     clear hJ2 hS z1 z2 z3 z4 z6 z7
     go_simp
     exact hK _ _ z5 (fun _ _ h => h) ⟨u5, rfl⟩ (AnS.move hs (show AnD 1 5 6 7 9 10 85 89 83 90 16 by unfold AnD; omega) hsz83 hc5 e5o.symm)
   | 7, ho =>
     cases ho
     refine wpOp_of rfl rfl ?_
     have f6 : ∃ u, (aq.tmps.getD 83 undef) = .tuple #[u, .bool okn] := z6 6 83 (hall { on := 6, ground := Ground.data } (by simp) rfl) rfl
     obtain ⟨u6, e6⟩ := f6
     have hm6 : lq.getD 6 false = true := hall { on := 6, ground := Ground.data } (by simp) rfl
     have hsz90 : 90 < aq.tmps.size := by omega
     have e6o := e6
     rw [Array.getD_eq_getD_getElem?] at e6
     have hK := fun (v : Value) (W2 : World) hW hT hv (hs : SqaC Qd m d id a bb cc dd ao bo cap bcap gi gb okn B4 TG (lq.setIfInBounds 7 true) (aq.put (some 90) v) W2) => show (JqaC Qd m d id a bb cc dd ao bo cap bcap gi gb okn B4 TG w0 a0) (lq.setIfInBounds 7 true) (aq.put (some 90) v) W2 from ⟨hJ2.put hS 7 90 rfl (by omega) (W' := W2) hW hT v hv, hs⟩
     clear ho hall hl hQ
     generalize (JqaC Qd m d id a bb cc dd ao bo cap bcap gi gb okn B4 TG w0 a0) (lq.setIfInBounds 7 true) = K at hK ⊢
     clear hJ2 hS z1 z2 z3 z4 z6 z7
     go_simp
     exact hK _ _ z5 (fun _ _ h => h) trivial (AnS.take hs (show AnD 1 5 6 7 9 10 85 89 83 90 16 by unfold AnD; omega) hsz90 hm6 e6o)
   | 8, ho =>
     cases ho
     refine wpOp_of rfl rfl ?_
     have f6 : ∃ u, (aq.tmps.getD 83 undef) = .tuple #[u, .bool okn] := z6 6 83 (hall { on := 6, ground := Ground.data } (by simp) rfl) rfl
     obtain ⟨u6, e6⟩ := f6
     rw [Array.getD_eq_getD_getElem?] at e6
     have hK := fun (v : Value) (W2 : World) hW hT hv (hs : SqaC Qd m d id a bb cc dd ao bo cap bcap gi gb okn B4 TG (lq.setIfInBounds 8 true) (aq.put (some 91) v) W2) => show (JqaC Qd m d id a bb cc dd ao bo cap bcap gi gb okn B4 TG w0 a0) (lq.setIfInBounds 8 true) (aq.put (some 91) v) W2 from ⟨hJ2.put hS 8 91 rfl (by omega) (W' := W2) hW hT v hv, hs⟩
     clear ho hall hl hQ
     generalize (JqaC Qd m d id a bb cc dd ao bo cap bcap gi gb okn B4 TG w0 a0) (lq.setIfInBounds 8 true) = K at hK ⊢
     clear hJ2 hS z1 z2 z3 z4 z6 z7
     go_simp
     exact hK _ _ z5 (fun _ _ h => h) rfl (AnS.quiet hs 8 91 _ (by decide) (by decide))
   | 9, ho =>
     cases ho
     refine wpOp_of rfl rfl ?_
     have hl9 := hl
     have hsz16 : 16 < aq.tmps.size := by omega
     have hK := fun (v : Value) (W2 : World) hW hT hv (hs : SqaC Qd m d id a bb cc dd ao bo cap bcap gi gb okn B4 TG (lq.setIfInBounds 9 true) (aq.put (some 16) v) W2) => show (JqaC Qd m d id a bb cc dd ao bo cap bcap gi gb okn B4 TG w0 a0) (lq.setIfInBounds 9 true) (aq.put (some 16) v) W2 from ⟨hJ2.put hS 9 16 rfl (by omega) (W' := W2) hW hT v hv, hs⟩
     clear ho hall hl hQ
     generalize (JqaC Qd m d id a bb cc dd ao bo cap bcap gi gb okn B4 TG w0 a0) (lq.setIfInBounds 9 true) = K at hK ⊢
     clear hJ2 hS z1 z2 z3 z4 z6 z7
     go_simp
     exact hK _ _ (z5.alloc z5.size _) (fun _ _ h => h.mono ((Below.refl _ _).alloc (Nat.le_refl _) _)) trivial (AnS.lay hTG hs (show AnD 1 5 6 7 9 10 85 89 83 90 16 by unfold AnD; omega) hsz16 hl9 (by have := z5.size; omega) _)
   | 10, ho =>
     cases ho
     refine wpOp_of rfl rfl ?_
     have l9 : lq.getD 9 false = true := hall { on := 9, ground := Ground.data } (by simp) rfl
     have l7 : lq.getD 7 false = true := hall { on := 7, ground := Ground.data } (by simp) rfl
     have hl10 := hl
     obtain ⟨gz, e9, hgz, GZ⟩ := AnS.laid hs l9 hl10
     obtain ⟨u7, lo7, hi7, e7, hT7⟩ := AnS.taken hs l7 hl10
     obtain ⟨m7, d7, io7, n7, ic7, bo7, N7, bc7, rfl⟩ := hform _ _ _ _ hT7
     have gl := GZ.lt
     have c0z := GZ.c 0 rfl; have d0z := GZ.f 0 rfl; have c1z := GZ.c 1 rfl; have d1z := GZ.f 1 rfl; have c2z := GZ.c 2 rfl; have d2z := GZ.f 2 rfl; have c3z := GZ.c 3 rfl; have d3z := GZ.f 3 rfl
     have NB := (set4_blk GZ (.int .i64 m7) (.int .i64 d7) (.slice io7 n7 ic7) (.slice bo7 N7 bc7)).out
     have NL : Below w0.heap.size w0 ((((W.setCell ⟨gz, 0, none⟩ (.int .i64 m7)).setCell ⟨gz, 1, none⟩ (.int .i64 d7)).setCell ⟨gz, 2, none⟩ (.slice io7 n7 ic7)).setCell ⟨gz, 3, none⟩ (.slice bo7 N7 bc7)) := set4_below z5 (by omega) _ _ _ _
     have HS : SqaC Qd m d id a bb cc dd ao bo cap bcap gi gb okn B4 TG (lq.setIfInBounds 10 true) aq ((((W.setCell ⟨gz, 0, none⟩ (.int .i64 m7)).setCell ⟨gz, 1, none⟩ (.int .i64 d7)).setCell ⟨gz, 2, none⟩ (.slice io7 n7 ic7)).setCell ⟨gz, 3, none⟩ (.slice bo7 N7 bc7)) := AnS.store hTG hs (show AnD 1 5 6 7 9 10 85 89 83 90 16 by unfold AnD; omega) hl10 l9 l7 e9 e7 (by simp [World.setCell]) (fun b hb => set4_heap hb) NB
     rw [Array.getD_eq_getD_getElem?] at e9 e7
     clear GZ NB hT7
     have hK := fun (W2 : World) hW hT hv (hs : SqaC Qd m d id a bb cc dd ao bo cap bcap gi gb okn B4 TG (lq.setIfInBounds 10 true) aq W2) => show (JqaC Qd m d id a bb cc dd ao bo cap bcap gi gb okn B4 TG w0 a0) (lq.setIfInBounds 10 true) aq W2 from ⟨hJ2.world 10 rfl (W' := W2) hW hT hv, hs⟩
     clear ho hall hl hQ
     generalize (JqaC Qd m d id a bb cc dd ao bo cap bcap gi gb okn B4 TG w0 a0) (lq.setIfInBounds 10 true) = K at hK ⊢
     clear hJ2 hS z1 z2 z3 z4 z6 z7
     go_simp
     exact hK _ NL (fun j v h => VqaC.same h) trivial HS
   | 11, ho =>
     cases ho
     refine wpOp_of rfl rfl ?_
     have f8 : (aq.tmps.getD 91 undef) = .bool okn := z6 8 91 (hall { on := 8, ground := Ground.data } (by simp) rfl) rfl
     have hK := fun (v : Value) (W2 : World) hW hT hv (hs : SqaC Qd m d id a bb cc dd ao bo cap bcap gi gb okn B4 TG (lq.setIfInBounds 11 true) (aq.put (some 17) v) W2) => show (JqaC Qd m d id a bb cc dd ao bo cap bcap gi gb okn B4 TG w0 a0) (lq.setIfInBounds 11 true) (aq.put (some 17) v) W2 from ⟨hJ2.put hS 11 17 rfl (by omega) (W' := W2) hW hT v hv, hs⟩
     clear ho hall hl hQ
     generalize (JqaC Qd m d id a bb cc dd ao bo cap bcap gi gb okn B4 TG w0 a0) (lq.setIfInBounds 11 true) = K at hK ⊢
     clear hJ2 hS z1 z2 z3 z4 z6 z7
     go_simp
     exact hK _ _ z5 (fun _ _ h => h) rfl (AnS.quiet hs 11 17 _ (by decide) (by decide))
   | iq + 12, ho => simp at ho
 · intro lq aq W ⟨hJ, hs⟩ hr
   obtain ⟨z1, z2, z3, z4, z5, z6, z7⟩ := hJ
   have hl := listed_of hr [0, 1, 2, 3, 4, 5, 6, 8, 9, 7, 10, 11] [] (by simp) (by kernel_rfl) (by rw [z1]; decide)
   exact hQ aq W z2 z3 (fun e he => z4 e (by simpa using he)) (z6 11 17 (hl 11 (by simp)) rfl) z5 (AnS.done hs (hl 10 (by simp)))
def VqaD (Qd : QD) (m d : Int) (ao bo : Option Addr) (cap bcap gi gb : Nat) (_B : Nat) : Nat → Value → World → Prop
 | 0, v, _ => v = .agg #[.int .i64 m, .int .i64 d, .slice (some ⟨gi, 0, none⟩) Qd.m Qd.m, .slice (some ⟨gb, 0, none⟩) Qd.N Qd.N]
 | 1, v, _ => v = .agg #[.int .i64 m, .int .i64 d, .slice ao Qd.m cap, .slice bo Qd.N bcap]
 | 2, v, W => QuE Qd m d v W
 | 3, v, _ => v = .bool true
 | 4, v, _ => v = .bool false
 | _, _, _ => True
theorem VqaD.mono {Qd : QD} {m d : Int} {ao bo : Option Addr} {cap bcap gi gb : Nat} {B j : Nat} {v : Value} {W W2 : World} (hB : Below W.heap.size W W2) (h : VqaD Qd m d ao bo cap bcap gi gb B j v W) : VqaD Qd m d ao bo cap bcap gi gb B j v W2 := by
 unfold VqaD at *
 split <;> simp only at h <;> first | exact h | exact h.step hB | trivial
set_option maxRecDepth 100000 in
set_option maxHeartbeats 4000000 in
theorem qaD {Q : Exit → Act → World → Prop} {Qd : QD} {m d : Int} {ao bo : Option Addr} {cap bcap gi gb : Nat} {P X A off : Nat} {so : Nat → Option Addr × Nat} {S : Nat → Nat} {w0 : World} {a0 : Act} {idq : Nat} {t0 t1 t2 t3 t4 : TypeId} {q0 q1 q2 q3 q4 : String}
   (hm : Qd.m ≤ 1048576) (hN : Qd.N ≤ 1048576) (hL : ∀ i, i < Qd.N → Qd.L i ≤ 1048576) (hbo : 0 < Qd.N → bo = some ⟨A, off, none⟩) (hIt : ItIn Qd w0 ao (List.range Qd.m)) (hBl : BlIn Qd w0 A off so) (hR : QuRow Qd w0 0 gi gb S) (h3 : a0.tmps[3]? = some (.pointer (some ⟨P, 0, none⟩))) (h10 : a0.tmps[10]? = some (.pointer (some ⟨X, 0, none⟩))) (k0 : w0.cell? ⟨P, 0, none⟩ = some (.int .i64 m)) (l0 : (⟨P, 0, none⟩ : Addr).block < w0.heap.size) (k1 : w0.cell? ⟨P, 1, none⟩ = some (.int .i64 d)) (l1 : (⟨P, 1, none⟩ : Addr).block < w0.heap.size) (k2 : w0.cell? ⟨P, 2, none⟩ = some (.slice ao Qd.m cap)) (l2 : (⟨P, 2, none⟩ : Addr).block < w0.heap.size) (k3 : w0.cell? ⟨P, 3, none⟩ = some (.slice bo Qd.N bcap)) (l3 : (⟨P, 3, none⟩ : Addr).block < w0.heap.size) (k4 : w0.cell? ⟨X, 0, none⟩ = some (.int .i64 m)) (l4 : (⟨X, 0, none⟩ : Addr).block < w0.heap.size) (k5 : w0.cell? ⟨X, 1, none⟩ = some (.int .i64 d)) (l5 : (⟨X, 1, none⟩ : Addr).block < w0.heap.size) (k6 : w0.cell? ⟨X, 2, none⟩ = some (.slice (some ⟨gi, 0, none⟩) Qd.m Qd.m)) (l6 : (⟨X, 2, none⟩ : Addr).block < w0.heap.size) (k7 : w0.cell? ⟨X, 3, none⟩ = some (.slice (some ⟨gb, 0, none⟩) Qd.N Qd.N)) (l7 : (⟨X, 3, none⟩ : Addr).block < w0.heap.size) (hz : a0.tmps.size = 109)
   (hQ : ∀ aq W, aq.tmps.size = a0.tmps.size → aq.defers = a0.defers → (∀ e, e ∉ ([51, 52, 53, 54, 55] : List Nat) → aq.tmps[e]? = a0.tmps[e]?) → VqaD Qd m d ao bo cap bcap gi gb w0.heap.size 4 (aq.tmps.getD 55 undef) W → Below w0.heap.size w0 W → Q .normal aq W) :
   (Code.region idq #[{ dst := some 51, op := Op.load 34 (Operand.tmp 10), type := t0, pos := q0, after := #[], guard := none },
   { dst := some 52, op := Op.load 25 (Operand.tmp 3), type := t1, pos := q1, after := #[], guard := none },
   { dst := some 53, op := Op.call { callee := Callee.value (Operand.func 9), args := #[Operand.tmp 52], argTypes := #[25] }, type := t2, pos := q2, after := #[{ on := 1, ground := Ground.data }], guard := none },
   { dst := some 54, op := Op.call { callee := Callee.value (Operand.func 12), args := #[Operand.tmp 51, Operand.tmp 53], argTypes := #[34, 34] }, type := t3, pos := q3, after := #[{ on := 0, ground := Ground.data }, { on := 2, ground := Ground.data }, { on := 2, ground := Ground.chain }], guard := none },
   { dst := some 55, op := Op.unOp UnOp.not 4 (Operand.tmp 54), type := t4, pos := q4, after := #[{ on := 3, ground := Ground.data }], guard := none }] true).wp Try.prog Q a0 w0 := by
 have hS : distS [some 51, some 52, some 53, some 54, some 55] = true := rfl
 refine wp_region_q (by kernel_rfl) w0.heap.size [some 51, some 52, some 53, some 54, some 55] (VqaD Qd m d ao bo cap bcap gi gb w0.heap.size) rfl ?_ ?_
 · intro Q lq aq W iq oq hJ hl ho hall
   have hJ2 := hJ
   obtain ⟨z1, z2, z3, z4, z5, z6, z7⟩ := hJ
   have g3 : aq.tmps.getD 3 undef = .pointer (some ⟨P, 0, none⟩) := by rw [Array.getD_eq_getD_getElem?, z4 3 (by decide), h3]; rfl
   have g10 : aq.tmps.getD 10 undef = .pointer (some ⟨X, 0, none⟩) := by rw [Array.getD_eq_getD_getElem?, z4 10 (by decide), h10]; rfl
   have c0 : W.cell? ⟨P, 0, none⟩ = some (.int .i64 m) := (z5.cell l0).trans k0
   have c1 : W.cell? ⟨P, 1, none⟩ = some (.int .i64 d) := (z5.cell l1).trans k1
   have c2 : W.cell? ⟨P, 2, none⟩ = some (.slice ao Qd.m cap) := (z5.cell l2).trans k2
   have c3 : W.cell? ⟨P, 3, none⟩ = some (.slice bo Qd.N bcap) := (z5.cell l3).trans k3
   have c4 : W.cell? ⟨X, 0, none⟩ = some (.int .i64 m) := (z5.cell l4).trans k4
   have c5 : W.cell? ⟨X, 1, none⟩ = some (.int .i64 d) := (z5.cell l5).trans k5
   have c6 : W.cell? ⟨X, 2, none⟩ = some (.slice (some ⟨gi, 0, none⟩) Qd.m Qd.m) := (z5.cell l6).trans k6
   have c7 : W.cell? ⟨X, 3, none⟩ = some (.slice (some ⟨gb, 0, none⟩) Qd.N Qd.N) := (z5.cell l7).trans k7
   match iq, ho with
   | 0, ho =>
     cases ho
     refine wpOp_of rfl rfl ?_
     have hK := fun (v : Value) (W2 : World) hW hT hv => hJ2.put hS 0 51 rfl (by omega) (W' := W2) hW hT v hv
     clear ho hall hl hQ
     generalize InvQ _ _ _ w0 a0 (lq.setIfInBounds 0 true) = K at hK ⊢
     clear hJ2 hS z1 z2 z3 z4 z6 z7
     go_simp
     exact hK _ _ z5 (fun _ _ h => h) rfl
   | 1, ho =>
     cases ho
     refine wpOp_of rfl rfl ?_
     have hK := fun (v : Value) (W2 : World) hW hT hv => hJ2.put hS 1 52 rfl (by omega) (W' := W2) hW hT v hv
     clear ho hall hl hQ
     generalize InvQ _ _ _ w0 a0 (lq.setIfInBounds 1 true) = K at hK ⊢
     clear hJ2 hS z1 z2 z3 z4 z6 z7
     go_simp
     exact hK _ _ z5 (fun _ _ h => h) rfl
   | 2, ho =>
     cases ho
     refine wpOp_of rfl rfl ?_
     have f1 : (aq.tmps.getD 52 undef) = .agg #[.int .i64 m, .int .i64 d, .slice ao Qd.m cap, .slice bo Qd.N bcap] := z6 1 52 (hall { on := 1, ground := Ground.data } (by simp) rfl) rfl
     have hK := fun (v : Value) (W2 : World) hW hT hv => hJ2.put hS 2 53 rfl (by omega) (W' := W2) hW hT v hv
     clear ho hall hl hQ
     generalize InvQ _ _ _ w0 a0 (lq.setIfInBounds 2 true) = K at hK ⊢
     clear hJ2 hS z1 z2 z3 z4 z6 z7
     go_simp
     refine (toQuad_any Qd ao bo cap bcap A off so m d hm hN hL hbo W (hIt.step z5) (hBl.below z5)).mono ?_
     rintro r v1 ⟨gi2, gb2, S2, rfl, R2, hBv⟩
     exact hK _ _ (z5.trans (hBv.mono z5.size)) (fun _ _ h => h.mono hBv) ⟨gi2, gb2, S2, rfl, R2.zero⟩
   | 3, ho =>
     cases ho
     refine wpOp_of rfl rfl ?_
     have f0 : (aq.tmps.getD 51 undef) = .agg #[.int .i64 m, .int .i64 d, .slice (some ⟨gi, 0, none⟩) Qd.m Qd.m, .slice (some ⟨gb, 0, none⟩) Qd.N Qd.N] := z6 0 51 (hall { on := 0, ground := Ground.data } (by simp) rfl) rfl
     have f2 : QuE Qd m d (aq.tmps.getD 53 undef) W := z6 2 53 (hall { on := 2, ground := Ground.data } (by simp) rfl) rfl
     obtain ⟨gi2, gb2, S2, f2, R2⟩ := f2
     have hK := fun (v : Value) (W2 : World) hW hT hv => hJ2.put hS 3 54 rfl (by omega) (W' := W2) hW hT v hv
     clear ho hall hl hQ
     generalize InvQ _ _ _ w0 a0 (lq.setIfInBounds 3 true) = K at hK ⊢
     clear hJ2 hS z1 z2 z3 z4 z6 z7
     go_simp
     refine (eqQuad_any Qd m d _ _ _ _ _ _ _ _ gb 0 gb2 0 _ _ hm hN hL W (fun _ => rfl) (fun _ => rfl) (hR.step z5).items R2.items (hR.step z5).bls.in R2.bls.in).mono ?_
     rintro r v1 ⟨rfl, hBv⟩
     exact hK _ _ (z5.trans (hBv.mono z5.size)) (fun _ _ h => h.mono hBv) rfl
   | 4, ho =>
     cases ho
     refine wpOp_of rfl rfl ?_
     have f3 : (aq.tmps.getD 54 undef) = .bool true := z6 3 54 (hall { on := 3, ground := Ground.data } (by simp) rfl) rfl
     have hK := fun (v : Value) (W2 : World) hW hT hv => hJ2.put hS 4 55 rfl (by omega) (W' := W2) hW hT v hv
     clear ho hall hl hQ
     generalize InvQ _ _ _ w0 a0 (lq.setIfInBounds 4 true) = K at hK ⊢
     clear hJ2 hS z1 z2 z3 z4 z6 z7
     go_simp
     exact hK _ _ z5 (fun _ _ h => h) rfl
   | iq + 5, ho => simp at ho
 · intro lq aq W hJ hr
   obtain ⟨z1, z2, z3, z4, z5, z6, z7⟩ := hJ
   have hl := listed_of hr [0, 1, 2, 3, 4] [] (by simp) (by kernel_rfl) (by rw [z1]; decide)
   exact hQ aq W z2 z3 (fun e he => z4 e (by simpa using he)) (z6 4 55 (hl 4 (by simp)) rfl) z5
theorem putOk_q {Q : QD} {m d id a bb cc dd : Int} (h : PutOk Q m d id a bb cc dd) : qOk Q m d = true := by
 have h1 := h.1
 unfold putB at h1
 rw [Bool.and_eq_true] at h1
 exact h1.1
set_option maxRecDepth 100000 in
set_option maxHeartbeats 16000000 in
theorem lawQuadPut_any (Q : QD) (ao bo : Option Addr) (cap bcap A off : Nat) (so : Nat → Option Addr × Nat) (m d : Int) (hm : Q.m ≤ 9223372036854775807) (hN : Q.N ≤ 9223372036854775807) (hL : ∀ i, i < Q.N → Q.L i ≤ 9223372036854775807) (hbo : 0 < Q.N → bo = some ⟨A, off, none⟩) (id a bb cc dd : Int) (w : World) (hS : ItIn Q w ao (List.range Q.m)) (hBl : BlIn Q w A off so) : Calls Try.prog 3 #[.agg #[.int .i64 m, .int .i64 d, .slice ao Q.m cap, .slice bo Q.N bcap], .int .i64 id, Sg a bb cc dd] w (BoolP true w) := by
 obtain ⟨okn, hok⟩ : ∃ okn : Bool, okn = true ↔ PutOk Q m d id a bb cc dd := by
   by_cases h : PutOk Q m d id a bb cc dd
   · exact ⟨true, fun _ => h, fun _ => rfl⟩
   · exact ⟨false, (fun e => by cases e), fun e => absurd e h⟩
 have HOKQ : Hid (okn = true → qOk Q m d = true) := fun h => putOk_q (hok.1 h)
 have B0 : Blk ((w.alloc (.cells #[.int .i64 m, .int .i64 d, .slice ao Q.m cap, .slice bo Q.N bcap] 25)).alloc (.cells #[.int .i64 a, .int .i64 bb, .int .i64 cc, .int .i64 dd] 29)) w.heap.size [.int .i64 m, .int .i64 d, .slice ao Q.m cap, .slice bo Q.N bcap] := (Blk.new w [.int .i64 m, .int .i64 d, .slice ao Q.m cap, .slice bo Q.N bcap] 25 rfl).alloc _
 have B5 : Blk ((w.alloc (.cells #[.int .i64 m, .int .i64 d, .slice ao Q.m cap, .slice bo Q.N bcap] 25)).alloc (.cells #[.int .i64 a, .int .i64 bb, .int .i64 cc, .int .i64 dd] 29)) (w.heap.size + 1) [.int .i64 a, .int .i64 bb, .int .i64 cc, .int .i64 dd] := Blk.new (w.alloc (.cells #[.int .i64 m, .int .i64 d, .slice ao Q.m cap, .slice bo Q.N bcap] 25)) [.int .i64 a, .int .i64 bb, .int .i64 cc, .int .i64 dd] 29 (by simp)
 have HB : Below w.heap.size w ((w.alloc (.cells #[.int .i64 m, .int .i64 d, .slice ao Q.m cap, .slice bo Q.N bcap] 25)).alloc (.cells #[.int .i64 a, .int .i64 bb, .int .i64 cc, .int .i64 dd] 29)) := ((Below.refl _ w).alloc (Nat.le_refl _) _).alloc (by simp) _
 have SZ := fun w h => szQuad_any Q ao bo cap bcap A off so m d hm hN hL hbo w h
 have HS : Hid (ItIn Q w ao (List.range Q.m)) := hS
 have HBL : Hid (BlIn Q w A off so) := hBl
 clear hS hBl hm hN hL
 go_enter Try.func3, Try.ntmps3
 go_upto_region 1 with fail
 generalize ((w.alloc (.cells #[.int .i64 m, .int .i64 d, .slice ao Q.m cap, .slice bo Q.N bcap] 25)).alloc (.cells #[.int .i64 a, .int .i64 bb, .int .i64 cc, .int .i64 dd] 29)) = W1 at *
 have qB00 := B0.c 0 rfl; have qB01 := B0.c 1 rfl; have qB02 := B0.c 2 rfl; have qB03 := B0.c 3 rfl
 go_wp2_with fail
 refine (SZ _ (HBL.out.below HB)).mono ?_
 rintro e w1 ⟨z, rfl, z0, hz, hB⟩
 replace HB := HB.trans (hB.mono HB.size)
 replace B0 := B0.step hB
 replace B5 := B5.step hB
 clear hB SZ qB00 qB01 qB02 qB03
 by_cases hz0 : 0 ≤ z
 · obtain ⟨hm, hN, hL⟩ := hz hz0
   have HM : Hid (Q.m ≤ 1048576) := hm
   have HN : Hid (Q.N ≤ 1048576) := hN
   have HL : Hid (∀ i, i < Q.N → Q.L i ≤ 1048576) := hL
   have HBO : Hid (0 < Q.N → bo = some ⟨A, off, none⟩) := hbo
   have SP1 : ∀ gi gb S W, QuRow Q W 0 gi gb S → Calls Try.prog 8 #[.agg #[.int .i64 m, .int .i64 d, .slice (some ⟨gi, 0, none⟩) Q.m Q.m, .slice (some ⟨gb, 0, none⟩) Q.N Q.N], .int .i64 id, Sg a bb cc dd] W (fun r w' => ∃ u, r = .returned (.tuple #[u, .bool okn]) ∧ (AnsS okn Q m d id a bb cc dd) u W.heap.size w'.heap.size w' ∧ Below W.heap.size W w') := fun gi gb S W R => (specQuadPut_any W Q (some ⟨gi, 0, none⟩) (some ⟨gb, 0, none⟩) Q.m Q.N gb 0 _ m d hm hN hL (fun _ => rfl) (fun _ _ h => by cases h) R.items R.bls.in id a bb cc dd).mono (fun r w' h => ans_of_s hok h)
   have SPI : ∀ gi gb S W, QuRow Q W 0 gi gb S → Calls Try.prog 11 #[.agg #[.int .i64 m, .int .i64 d, .slice (some ⟨gi, 0, none⟩) Q.m Q.m, .slice (some ⟨gb, 0, none⟩) Q.N Q.N], .int .i64 id, Sg a bb cc dd] W (fun r w' => ∃ u, r = .returned (.tuple #[u, .bool okn]) ∧ (AnsG okn Q m d id a bb cc dd) u W.heap.size w'.heap.size w' ∧ Below W.heap.size W w') := fun gi gb S W R => (implQuadPut_any W Q (some ⟨gi, 0, none⟩) (some ⟨gb, 0, none⟩) Q.m Q.N gb 0 _ m d hm hN (Nat.le_refl _) hL (fun _ => rfl) (fun A o sp e => by cases e; exact R.its.lt) R.items R.bls.in id a bb cc dd).mono (fun r w' h => ans_of_g hok h)
   have TGK1 : TgK (QuE Q m d) (AnsS okn Q m d id a bb cc dd) := ⟨fun v W W2 h hB => h.step hB, fun u lo hi W W2 h hs hk => h.keep hs hk⟩
   have TGK2 : TgK (fun _ _ => True) (AnsG okn Q m d id a bb cc dd) := ⟨fun v W W2 h hB => trivial, fun u lo hi W W2 h hs hk => h.keep hk⟩
   have TGK3 : TgK (QuE Q m d) (AnsG okn Q m d id a bb cc dd) := ⟨fun v W W2 h hB => h.step hB, fun u lo hi W W2 h hs hk => h.keep hk⟩
   clear hz hm hN hL hbo hok
   go_upto_region 5 with fail
   have hp0 := B0.lt; have hp5 := B5.lt
   refine qaA (Qd := Q) (m := m) (d := d) (id := id) (a := a) (bb := bb) (cc := cc) (dd := dd) (ao := ao) (bo := bo) (cap := cap) (bcap := bcap) (gi := 0) (gb := 0) (okn := okn) (TG := (AnsS okn Q m d id a bb cc dd)) (P := w.heap.size) (P5 := w.heap.size + 1) (A := A) (off := off) (so := so) rfl TGK1 (fun _ _ _ _ h => h.form) HM.out HN.out HL.out HBO.out (HS.out.step HB) (HBL.out.below HB) SP1 rfl rfl rfl (B0.c 0 rfl) hp0 (B0.c 1 rfl) hp0 (B0.c 2 rfl) hp0 (B0.c 3 rfl) hp0 (B5.c 0 rfl) hp5 (B5.c 1 rfl) hp5 (B5.c 2 rfl) hp5 (B5.c 3 rfl) hp5 rfl ?_
   rintro ⟨tm, df⟩ w3 hz hdf hoff hok9 hB ⟨g8, vs8, lo8, hi8, e8, hg8, G8, T8, hl8, hc8, hne8⟩
   simp only at hz hdf hoff hok9 e8
   change tm.getD 9 undef = .bool okn at hok9
   subst hdf
   have htm := tmps_fold [24, 25, 26, 27, 28, 29, 23, 30, 31, 8, 9] tm _ hz hoff
   simp only [List.foldl, List.setIfInBounds_toArray, List.set_cons_zero, List.set_cons_succ, e8, hok9] at htm
   clear hz hoff
   generalize tm.getD 24 undef = pz0, tm.getD 25 undef = pz1, tm.getD 26 undef = pz2, tm.getD 27 undef = pz3, tm.getD 28 undef = pz4, tm.getD 29 undef = pz5, tm.getD 23 undef = pz6, tm.getD 30 undef = pz7, tm.getD 31 undef = pz8 at htm
   clear e8 hok9
   subst htm
   obtain ⟨m8, d8, io8, n8, ic8, bo8, N8, bc8, ev8⟩ := T8.form
   obtain rfl : vs8 = [.int .i64 m8, .int .i64 d8, .slice io8 n8 ic8, .slice bo8 N8 bc8] := by have h := Value.agg.inj ev8; exact congrArg Array.toList h
   change AnsS okn Q m d id a bb cc dd (.agg #[.int .i64 m8, .int .i64 d8, .slice io8 n8 ic8, .slice bo8 N8 bc8]) lo8 hi8 w3 at T8
   clear ev8
   replace HB := HB.trans (hB.mono HB.size)
   replace B0 := B0.step hB
   replace B5 := B5.step hB
   clear hB
   clear hp0 hp5
   have h53 : w.heap.size + 1 < w3.heap.size := B5.lt
   have hg83 := G8.lt
   have hc83 := hc8
   have qB00 := B0.c 0 rfl; have qB01 := B0.c 1 rfl; have qB02 := B0.c 2 rfl; have qB03 := B0.c 3 rfl
   go_wp2_with fail
   refine (toQuad_any Q ao bo cap bcap A off so m d HM.out HN.out HL.out HBO.out _ (HS.out.step HB) (HBL.out.below HB)).mono ?_
   rintro e w4 ⟨gi, gb, S2, rfl, R2, hB⟩
   clear qB00 qB01 qB02 qB03
   replace HB := HB.trans (hB.mono HB.size)
   replace B0 := B0.step hB
   replace B5 := B5.step hB
   replace G8 := G8.step hB
   replace T8 := AnsS.keep T8 hB.size (fun b _ h2 => hB.block b (Nat.lt_of_lt_of_le h2 hc8))
   replace hc8 := Nat.le_trans hc8 hB.size
   have h34 : w3.heap.size ≤ w4.heap.size := hB.size
   clear hB
   have HX := R2.quG m d HM.out HN.out HL.out
   have hcX : w4.heap.size ≤ w4.heap.size := Nat.le_refl _
   have BX : Blk (w4.alloc (.cells #[.int .i64 m, .int .i64 d, .slice (some ⟨gi, 0, none⟩) Q.m Q.m, .slice (some ⟨gb, 0, none⟩) Q.N Q.N] 34)) w4.heap.size [.int .i64 m, .int .i64 d, .slice (some ⟨gi, 0, none⟩) Q.m Q.m, .slice (some ⟨gb, 0, none⟩) Q.N Q.N] := Blk.new w4 [.int .i64 m, .int .i64 d, .slice (some ⟨gi, 0, none⟩) Q.m Q.m, .slice (some ⟨gb, 0, none⟩) Q.N Q.N] 34 rfl
   have hB : Below w4.heap.size w4 (w4.alloc (.cells #[.int .i64 m, .int .i64 d, .slice (some ⟨gi, 0, none⟩) Q.m Q.m, .slice (some ⟨gb, 0, none⟩) Q.N Q.N] 34)) := (Below.refl _ w4).alloc (Nat.le_refl _) _
   replace HB := HB.trans (hB.mono HB.size)
   replace B0 := B0.step hB
   replace B5 := B5.step hB
   replace G8 := G8.step hB
   replace T8 := AnsS.keep T8 hB.size (fun b _ h2 => hB.block b (Nat.lt_of_lt_of_le h2 hc8))
   replace hc8 := Nat.le_trans hc8 hB.size
   replace R2 := R2.step hB
   replace HX := QuG.keep HX (fun b _ h2 => hB.block b (Nat.lt_of_lt_of_le h2 hcX))
   replace hcX := Nat.le_trans hcX hB.size
   clear hB
   go_upto_region 7 with fail
   generalize (w4.alloc (.cells #[.int .i64 m, .int .i64 d, .slice (some ⟨gi, 0, none⟩) Q.m Q.m, .slice (some ⟨gb, 0, none⟩) Q.N Q.N] 34)) = W5 at *
   have hp0 := B0.lt; have hp5 := B5.lt; have hpx := BX.lt
   have h45 : w4.heap.size < W5.heap.size := hpx
   have SP2 := fun W (h : Below W5.heap.size W5 W) => SPI gi gb S2 W (R2.zero.step h)
   refine qaB (Qd := Q) (m := m) (d := d) (id := id) (a := a) (bb := bb) (cc := cc) (dd := dd) (ao := ao) (bo := bo) (cap := cap) (bcap := bcap) (gi := gi) (gb := gb) (okn := okn) (TG := (AnsG okn Q m d id a bb cc dd)) (P := w4.heap.size) (P5 := w.heap.size + 1) rfl TGK2 (fun _ _ _ _ h => h.s.form) SP2 rfl rfl rfl (BX.c 0 rfl) hpx (BX.c 1 rfl) hpx (BX.c 2 rfl) hpx (BX.c 3 rfl) hpx (B5.c 0 rfl) hp5 (B5.c 1 rfl) hp5 (B5.c 2 rfl) hp5 (B5.c 3 rfl) hp5 rfl ?_
   rintro ⟨tm, df⟩ w6 hz hdf hoff hok9 hB ⟨g11, vs11, lo11, hi11, e11, hg11, G11, T11, hl11, hc11, hne11⟩
   simp only at hz hdf hoff hok9 e11
   change tm.getD 12 undef = .bool okn at hok9
   subst hdf
   have htm := tmps_fold [35, 36, 37, 38, 39, 34, 40, 41, 11, 12] tm _ hz hoff
   simp only [List.foldl, List.setIfInBounds_toArray, List.set_cons_zero, List.set_cons_succ, e11, hok9] at htm
   clear hz hoff
   generalize tm.getD 35 undef = pz0, tm.getD 36 undef = pz1, tm.getD 37 undef = pz2, tm.getD 38 undef = pz3, tm.getD 39 undef = pz4, tm.getD 34 undef = pz5, tm.getD 40 undef = pz6, tm.getD 41 undef = pz7 at htm
   clear e11 hok9
   subst htm
   obtain ⟨m11, d11, io11, n11, ic11, bo11, N11, bc11, ev11⟩ := T11.s.form
   obtain rfl : vs11 = [.int .i64 m11, .int .i64 d11, .slice io11 n11 ic11, .slice bo11 N11 bc11] := by have h := Value.agg.inj ev11; exact congrArg Array.toList h
   change AnsG okn Q m d id a bb cc dd (.agg #[.int .i64 m11, .int .i64 d11, .slice io11 n11 ic11, .slice bo11 N11 bc11]) lo11 hi11 w6 at T11
   clear ev11
   replace HB := HB.trans (hB.mono HB.size)
   replace B0 := B0.step hB
   replace B5 := B5.step hB
   replace G8 := G8.step hB
   replace BX := BX.step hB
   replace T8 := AnsS.keep T8 hB.size (fun b _ h2 => hB.block b (Nat.lt_of_lt_of_le h2 hc8))
   replace hc8 := Nat.le_trans hc8 hB.size
   replace R2 := R2.step hB
   replace HX := QuG.keep HX (fun b _ h2 => hB.block b (Nat.lt_of_lt_of_le h2 hcX))
   replace hcX := Nat.le_trans hcX hB.size
   clear hB
   clear hp0 hp5 hpx SP2
   have qG110 := G11.c 0 rfl; have qG111 := G11.c 1 rfl; have qG112 := G11.c 2 rfl; have qG113 := G11.c 3 rfl; have qG80 := G8.c 0 rfl; have qG81 := G8.c 1 rfl; have qG82 := G8.c 2 rfl; have qG83 := G8.c 3 rfl
   go_wp2_with fail
   refine (eqAns_any HOKQ.out _ T11.s T8).mono ?_
   rintro e w7 ⟨rfl, hB⟩
   clear qG110 qG111 qG112 qG113 qG80 qG81 qG82 qG83
   replace HB := HB.trans (hB.mono HB.size)
   replace B0 := B0.step hB
   replace B5 := B5.step hB
   replace G8 := G8.step hB
   replace BX := BX.step hB
   replace G11 := G11.step hB
   replace T8 := AnsS.keep T8 hB.size (fun b _ h2 => hB.block b (Nat.lt_of_lt_of_le h2 hc8))
   replace hc8 := Nat.le_trans hc8 hB.size
   replace T11 := AnsG.keep T11 (fun b _ h2 => hB.block b (Nat.lt_of_lt_of_le h2 hc11))
   replace hc11 := Nat.le_trans hc11 hB.size
   replace R2 := R2.step hB
   replace HX := QuG.keep HX (fun b _ h2 => hB.block b (Nat.lt_of_lt_of_le h2 hcX))
   replace hcX := Nat.le_trans hcX hB.size
   clear hB
   go_upto_region 10 with fail
   have hp0 := B0.lt; have hp5 := B5.lt; have hpx := BX.lt
   refine qaD (Qd := Q) (m := m) (d := d) (ao := ao) (bo := bo) (cap := cap) (bcap := bcap) (gi := gi) (gb := gb) (P := w.heap.size) (X := w4.heap.size) (A := A) (off := off) (so := so) (S := S2) HM.out HN.out HL.out HBO.out (HS.out.step HB) (HBL.out.below HB) R2.zero rfl rfl (B0.c 0 rfl) hp0 (B0.c 1 rfl) hp0 (B0.c 2 rfl) hp0 (B0.c 3 rfl) hp0 (BX.c 0 rfl) hpx (BX.c 1 rfl) hpx (BX.c 2 rfl) hpx (BX.c 3 rfl) hpx rfl ?_
   rintro ⟨tm, df⟩ w8 hz hdf hoff h55 hB
   simp only at hz hdf hoff h55
   change tm.getD 55 undef = .bool false at h55
   subst hdf
   have htm := tmps_fold [51, 52, 53, 54, 55] tm _ hz hoff
   simp only [List.foldl, List.setIfInBounds_toArray, List.set_cons_zero, List.set_cons_succ, h55] at htm
   clear hz hoff
   generalize tm.getD 51 undef = py0, tm.getD 52 undef = py1, tm.getD 53 undef = py2, tm.getD 54 undef = py3 at htm
   clear h55
   subst htm
   clear hp0 hp5 hpx
   replace HB := HB.trans (hB.mono HB.size)
   replace B0 := B0.step hB
   replace B5 := B5.step hB
   replace G8 := G8.step hB
   replace BX := BX.step hB
   replace G11 := G11.step hB
   replace T8 := AnsS.keep T8 hB.size (fun b _ h2 => hB.block b (Nat.lt_of_lt_of_le h2 hc8))
   replace hc8 := Nat.le_trans hc8 hB.size
   replace T11 := AnsG.keep T11 (fun b _ h2 => hB.block b (Nat.lt_of_lt_of_le h2 hc11))
   replace hc11 := Nat.le_trans hc11 hB.size
   replace R2 := R2.step hB
   replace HX := QuG.keep HX (fun b _ h2 => hB.block b (Nat.lt_of_lt_of_le h2 hcX))
   replace hcX := Nat.le_trans hcX hB.size
   clear hB R2
   have qBX0 := BX.c 0 rfl; have qBX1 := BX.c 1 rfl; have qBX2 := BX.c 2 rfl; have qBX3 := BX.c 3 rfl
   go_wp2_with fail
   refine (markG_any _ HX).mono ?_
   rintro e w9 ⟨zx, hzx, rfl, _, hF⟩
   clear qBX0 qBX1 qBX2 qBX3 HX hcX
   have hzx0 : ¬ ((zx : Int) < 0) := by omega
   replace HB := HB.trans (hF.below (B := w.heap.size) HB.size (fun b hb => by have := hb.1; omega))
   replace B0 := hF.blk B0 (fun hb => by have h1 := hb.1; have h2 := hb.2; omega)
   replace B5 := hF.blk B5 (fun hb => by have h1 := hb.1; have h2 := hb.2; omega)
   replace G8 := hF.blk G8 (fun hb => by have h1 := hb.1; have h2 := hb.2; omega)
   replace G11 := hF.blk G11 (fun hb => by have h1 := hb.1; have h2 := hb.2; omega)
   replace T8 := AnsS.keep T8 hF.size (fun b h1 h2 => hF.block b (Nat.lt_of_lt_of_le h2 hc8) (fun hb => by have h3 := hb.1; have h4 := hb.2; omega))
   replace hc8 := Nat.le_trans hc8 hF.size
   replace T11 := AnsG.keep T11 (fun b h1 h2 => hF.block b (Nat.lt_of_lt_of_le h2 hc11) (fun hb => by have h3 := hb.1; have h4 := hb.2; omega))
   replace hc11 := Nat.le_trans hc11 hF.size
   clear hF BX
   have qG110 := G11.c 0 rfl; have qG111 := G11.c 1 rfl; have qG112 := G11.c 2 rfl; have qG113 := G11.c 3 rfl; have qG80 := G8.c 0 rfl; have qG81 := G8.c 1 rfl; have qG82 := G8.c 2 rfl; have qG83 := G8.c 3 rfl
   go_wp2_with fail
   refine (eqAns_any HOKQ.out _ T11.s T8).mono ?_
   rintro e w10 ⟨rfl, hB⟩
   clear qG110 qG111 qG112 qG113 qG80 qG81 qG82 qG83
   replace HB := HB.trans (hB.mono HB.size)
   replace B0 := B0.step hB
   replace B5 := B5.step hB
   replace G8 := G8.step hB
   replace G11 := G11.step hB
   replace T8 := AnsS.keep T8 hB.size (fun b _ h2 => hB.block b (Nat.lt_of_lt_of_le h2 hc8))
   replace hc8 := Nat.le_trans hc8 hB.size
   replace T11 := AnsG.keep T11 (fun b _ h2 => hB.block b (Nat.lt_of_lt_of_le h2 hc11))
   replace hc11 := Nat.le_trans hc11 hB.size
   clear hB
   clear hzx0
   have qG110 := G11.c 0 rfl; have qG111 := G11.c 1 rfl; have qG112 := G11.c 2 rfl; have qG113 := G11.c 3 rfl
   have HG := T11.quG HOKQ.out
   go_wp2_with fail
   refine (markG_any _ HG).mono ?_
   rintro e w11 ⟨z, hzz, rfl, HM2, hF⟩
   clear qG110 qG111 qG112 qG113 HG
   have hz0 : ¬ ((z : Int) < 0) := by omega
   replace hc11 := Nat.le_trans hc11 hF.size
   replace HB := HB.trans (hF.below (B := w.heap.size) HB.size (fun b hb => by have := hb.1; omega))
   replace B0 := hF.blk B0 (fun hb => by have h1 := hb.1; have h2 := hb.2; omega)
   replace B5 := hF.blk B5 (fun hb => by have h1 := hb.1; have h2 := hb.2; omega)
   replace G8 := hF.blk G8 (fun hb => by have h1 := hb.1; have h2 := hb.2; omega)
   replace G11 := hF.blk G11 (fun hb => by have h1 := hb.1; have h2 := hb.2; omega)
   replace T8 := AnsS.keep T8 hF.size (fun b h1 h2 => hF.block b (Nat.lt_of_lt_of_le h2 hc8) (fun hb => by have h3 := hb.1; have h4 := hb.2; omega))
   replace hc8 := Nat.le_trans hc8 hF.size
   clear hF T11
   have HM9 := HM2
   clear HM2
   have qG110 := G11.c 0 rfl; have qG111 := G11.c 1 rfl; have qG112 := G11.c 2 rfl; have qG113 := G11.c 3 rfl
   go_wp2_with fail
   refine (heldG_any _ HM9).mono ?_
   rintro e w12 ⟨rfl, hB⟩
   clear qG110 qG111 qG112 qG113
   replace HB := HB.trans (hB.mono HB.size)
   replace B0 := B0.step hB
   replace B5 := B5.step hB
   replace G8 := G8.step hB
   replace G11 := G11.step hB
   replace T8 := AnsS.keep T8 hB.size (fun b _ h2 => hB.block b (Nat.lt_of_lt_of_le h2 hc8))
   replace hc8 := Nat.le_trans hc8 hB.size
   replace HM9 := MkG.keep HM9 (fun b _ h2 => hB.block b (Nat.lt_of_lt_of_le h2 hc11))
   replace hc11 := Nat.le_trans hc11 hB.size
   clear hB
   go_upto_region 24 with fail
   have hp0 := B0.lt; have hp5 := B5.lt
   refine qaC (Qd := Q) (m := m) (d := d) (id := id) (a := a) (bb := bb) (cc := cc) (dd := dd) (ao := ao) (bo := bo) (cap := cap) (bcap := bcap) (gi := 0) (gb := 0) (okn := okn) (TG := (AnsG okn Q m d id a bb cc dd)) (P := w.heap.size) (P5 := w.heap.size + 1) (A := A) (off := off) (so := so) rfl TGK3 (fun _ _ _ _ h => h.s.form) HM.out HN.out HL.out HBO.out (HS.out.step HB) (HBL.out.below HB) SPI rfl rfl rfl (B0.c 0 rfl) hp0 (B0.c 1 rfl) hp0 (B0.c 2 rfl) hp0 (B0.c 3 rfl) hp0 (B5.c 0 rfl) hp5 (B5.c 1 rfl) hp5 (B5.c 2 rfl) hp5 (B5.c 3 rfl) hp5 rfl ?_
   rintro ⟨tm, df⟩ w13 hz hdf hoff hok9 hB ⟨g16, vs16, lo16, hi16, e16, hg16, G16, T16, hl16, hc16, hne16⟩
   simp only at hz hdf hoff hok9 e16
   change tm.getD 17 undef = .bool okn at hok9
   subst hdf
   have htm := tmps_fold [84, 85, 86, 87, 88, 89, 83, 90, 91, 16, 17] tm _ hz hoff
   simp only [List.foldl, List.setIfInBounds_toArray, List.set_cons_zero, List.set_cons_succ, e16, hok9] at htm
   clear hz hoff
   generalize tm.getD 84 undef = pz0, tm.getD 85 undef = pz1, tm.getD 86 undef = pz2, tm.getD 87 undef = pz3, tm.getD 88 undef = pz4, tm.getD 89 undef = pz5, tm.getD 83 undef = pz6, tm.getD 90 undef = pz7, tm.getD 91 undef = pz8 at htm
   clear e16 hok9
   subst htm
   obtain ⟨m16, d16, io16, n16, ic16, bo16, N16, bc16, ev16⟩ := T16.s.form
   obtain rfl : vs16 = [.int .i64 m16, .int .i64 d16, .slice io16 n16 ic16, .slice bo16 N16 bc16] := by have h := Value.agg.inj ev16; exact congrArg Array.toList h
   change AnsG okn Q m d id a bb cc dd (.agg #[.int .i64 m16, .int .i64 d16, .slice io16 n16 ic16, .slice bo16 N16 bc16]) lo16 hi16 w13 at T16
   clear ev16
   replace HB := HB.trans (hB.mono HB.size)
   replace B0 := B0.step hB
   replace B5 := B5.step hB
   replace G8 := G8.step hB
   replace G11 := G11.step hB
   replace T8 := AnsS.keep T8 hB.size (fun b _ h2 => hB.block b (Nat.lt_of_lt_of_le h2 hc8))
   replace hc8 := Nat.le_trans hc8 hB.size
   replace HM9 := MkG.keep HM9 (fun b _ h2 => hB.block b (Nat.lt_of_lt_of_le h2 hc11))
   replace hc11 := Nat.le_trans hc11 hB.size
   clear hB hp0 hp5
   have qG160 := G16.c 0 rfl; have qG161 := G16.c 1 rfl; have qG162 := G16.c 2 rfl; have qG163 := G16.c 3 rfl; have qG80 := G8.c 0 rfl; have qG81 := G8.c 1 rfl; have qG82 := G8.c 2 rfl; have qG83 := G8.c 3 rfl
   go_wp2_with fail
   refine (eqAns_any HOKQ.out _ T16.s T8).mono ?_
   rintro e w14 ⟨rfl, hB⟩
   clear qG160 qG161 qG162 qG163 qG80 qG81 qG82 qG83
   replace HB := HB.trans (hB.mono HB.size)
   replace B0 := B0.step hB
   replace B5 := B5.step hB
   replace G8 := G8.step hB
   replace G11 := G11.step hB
   replace T8 := AnsS.keep T8 hB.size (fun b _ h2 => hB.block b (Nat.lt_of_lt_of_le h2 hc8))
   replace hc8 := Nat.le_trans hc8 hB.size
   replace HM9 := MkG.keep HM9 (fun b _ h2 => hB.block b (Nat.lt_of_lt_of_le h2 hc11))
   replace hc11 := Nat.le_trans hc11 hB.size
   clear hB
   clear G16 T16
   have qG110 := G11.c 0 rfl; have qG111 := G11.c 1 rfl; have qG112 := G11.c 2 rfl; have qG113 := G11.c 3 rfl
   go_wp2_with fail
   refine (heldG_any _ HM9).mono ?_
   rintro e w15 ⟨rfl, hB⟩
   clear qG110 qG111 qG112 qG113
   replace HB := HB.trans (hB.mono HB.size)
   replace B0 := B0.step hB
   replace B5 := B5.step hB
   replace G8 := G8.step hB
   replace G11 := G11.step hB
   replace T8 := AnsS.keep T8 hB.size (fun b _ h2 => hB.block b (Nat.lt_of_lt_of_le h2 hc8))
   replace hc8 := Nat.le_trans hc8 hB.size
   replace HM9 := MkG.keep HM9 (fun b _ h2 => hB.block b (Nat.lt_of_lt_of_le h2 hc11))
   replace hc11 := Nat.le_trans hc11 hB.size
   clear hB
   go_wp2
   go_ret
   exact ⟨rfl, HB⟩
 · have hz' : z < 0 := by omega
   clear hz hbo HS HBL
   go_wp2
   go_ret
   exact ⟨rfl, HB⟩
end Go.Proofs.Ytjhapeidafbncaa
