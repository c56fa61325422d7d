/- Part 14 of the walks that the proof leans on. -/
import Derived.Test.YteakhlipmmfilaaGreatQy12
import Derived.Test.YteakhlipmmfilaaGreatQy13
import Derived.Test.YteakhlipmmfilaaGreatQy11
import Derived.Test.YteakhlipmmfilaaGreatQy8
namespace Go.Proofs.YteakhlipmmfilaaGreat
open Go.RowKit
theorem Tryz.infoSpotR : (Tryz.prog.info? 51).map (fun i => (i.zero, i.size, i.bytes)) = some (some (.agg #[.int .i64 0, .int .i64 0]), 2, 16) := by kernel_rfl
theorem RnSt.alloc {w W : World} {g : Nat} {ao : Option Addr} {n cap : Nat} {cs : List Int} {v : Value} {c : Nat} (h : RnSt w W g ao n cap cs v c) (o : Obj) : RnSt w (W.alloc o) g ao n cap cs v c := by
 obtain ⟨⟨L, O⟩, R, K, B⟩ := h
 exact ⟨⟨L, O.alloc o⟩, R.alloc o, K.alloc o, B.alloc o⟩
theorem kept_setO {w W : World} {g b j : Nat} {u : Value} (K : Kept g w W) (hg : g < w.heap.size) (hb : w.heap.size ≤ b := by omega) : Kept g w (W.setCell ⟨b, j, none⟩ u) :=
 ⟨K.os, K.tape, K.output, by simpa [World.setCell] using K.size, fun k hk hne => (Below.heap_setCell _ _ _ _ (by show k ≠ b; omega)).trans (K.block k hk hne), fun i hi h => (World.cell?_setCell_other _ _ _ _ (by intro e; have := congrArg Addr.block e; simp at this; omega)).trans (K.other i hi h)⟩
theorem rdr_below {w w' : World} {g B : Nat} {ao : Option Addr} {n cap : Nat} {cs : List Int} (h : Rdr w g ao n cap cs) (hB : Below B w w') (hg : g < B) : Rdr w' g ao n cap cs := by
 obtain ⟨p, hp, X⟩ := h.blk
 refine ⟨⟨p, hp, X.below hB hg⟩, fun i hi => ?_, h.len, h.small, h.byte⟩
 obtain ⟨b, off, e, hb, hc⟩ := h.bytes i hi
 exact ⟨b, off, e, hb, (hB.cell (p := ⟨b, off + i, none⟩) (show b < B by omega)).trans hc⟩
theorem RnSt.set {w W : World} {g : Nat} {ao : Option Addr} {n cap : Nat} {cs : List Int} {g' c cap' : Nat} (h : RnSt w W g ao n cap cs (.slice (some ⟨g', 0, none⟩) c cap') c) (hb : w.heap.size + 1 ≤ g') (hg : g < w.heap.size) (j : Nat) (u : Int) : RnSt w (W.setCell ⟨g', j, none⟩ (.int .i64 u)) g ao n cap cs (.slice (some ⟨g', 0, none⟩) c cap') c := by
 obtain ⟨⟨L, O⟩, R, K, B⟩ := h
 exact ⟨⟨_, O.set j u⟩, rdr_below R ((Below.refl (w.heap.size + 1) W).setCell (p := ⟨g', j, none⟩) hb _) (by omega), kept_setO K hg (by omega), B.setO (by show w.heap.size ≠ g'; omega) _⟩
theorem blk_grown {W W' : World} {g : Nat} {vs : List Value} {row : Option Nat} (B : Blk W g vs) (hg : W.grownBy W' row) (hne : some g ≠ row) : Blk W' g vs := by
 have e := hg.block g B.lt hne
 refine ⟨Nat.lt_of_lt_of_le B.lt hg.size, fun i v hi => ?_⟩
 obtain ⟨h1, h2⟩ := B.2 i v hi
 exact ⟨(World.cell?_of_block (a := ⟨g, i, none⟩) e).trans h1, by unfold World.frozen? at *; rw [e]; exact h2⟩
theorem rn_news {W : World} {base g' c cap' : Nat} {L : List Int} (O : SpRow W base (.slice (some ⟨g', 0, none⟩) c cap') c L) : ∀ j u, (L.map (Value.int .i64))[j]? = some u → W.cell? ((⟨g', 0, none⟩ : Addr).add j) = some u := fun j u hj => by
 have X := (ownG_blk O).c j hj
 unfold Addr.add
 by_cases hz : j = 0
 · subst hz; simpa using X
 · simpa [hz] using X
theorem rn_oneU (L : List Int) : ∀ u ∈ L.map (Value.int .i64), u.oneCell' = true := fun u hu => by
 obtain ⟨z, _, rfl⟩ := List.mem_map.1 hu
 rfl
def Vrv21 (wA : World) (_g : Nat) (_ao : Option Addr) (_n _cap : Nat) (_cs : List Int) (gr c cp k : Nat) (_B : Nat) : Nat → Value → World → Prop
 | 0, v, _ => v = .slice (some ⟨gr, 0, none⟩) c cp
 | 1, v, _ => v = .int .i64 (k : Nat)
 | 2, v, _ => v = .pointer (some ⟨gr, k * 2, none⟩)
 | 3, v, _ => ∃ p q : Int, v = .agg #[.int .i64 p, .int .i64 q]
 | 4, v, W => ∃ (gt : Nat) (p q : Int), v = .pointer (some ⟨gt, 0, none⟩) ∧ wA.heap.size + 1 ≤ gt ∧ gt ≠ gr ∧ Blk W gt [.int .i64 p, .int .i64 q]
 | _, _, _ => True
theorem Vrv21.mono {wA : World} {g : Nat} {ao : Option Addr} {n cap : Nat} {cs : List Int} {gr c cp k : Nat} {B j : Nat} {v : Value} {W W2 : World} (hB : Below W.heap.size W W2) (h : Vrv21 wA g ao n cap cs gr c cp k B j v W) : Vrv21 wA g ao n cap cs gr c cp k B j v W2 := by
 unfold Vrv21 at *
 split <;> simp only at h <;> first | exact h | (obtain ⟨gt, p, q, h1, h2, h3, X⟩ := h; exact ⟨gt, p, q, h1, h2, h3, X.step hB⟩) | trivial
theorem RnSt.setT {w W : World} {g : Nat} {ao : Option Addr} {n cap : Nat} {cs : List Int} {gr c cp gt : Nat} (h : RnSt w W g ao n cap cs (.slice (some ⟨gr, 0, none⟩) c cp) c) (hg : g < w.heap.size) (hb : w.heap.size + 1 ≤ gt) (hne : gt ≠ gr) (j : Nat) (u : Value) : RnSt w (W.setCell ⟨gt, j, none⟩ u) g ao n cap cs (.slice (some ⟨gr, 0, none⟩) c cp) c := by
 obtain ⟨⟨L, O⟩, R, K, B⟩ := h
 refine ⟨⟨L, ?_⟩, rdr_below R ((Below.refl (w.heap.size + 1) W).setCell (p := ⟨gt, j, none⟩) hb _) (by omega), kept_setO K hg (by omega), B.setO (by show w.heap.size ≠ gt; omega) _⟩
 rcases O with ⟨h0, h1 | ⟨g', cap, cur, h1, h2, h3, h4⟩⟩
 · exact ⟨h0, .inl h1⟩
 · refine ⟨h0, .inr ⟨g', cap, cur, h1, h2, ?_, h4⟩⟩
   have e : gr = g' := by cases h1; rfl
   rw [Below.heap_setCell _ _ _ _ (by show g' ≠ gt; omega)]
   exact h3
theorem Vrv21.put {wA : World} {g : Nat} {ao : Option Addr} {n cap : Nat} {cs : List Int} {gr c cp k : Nat} {B j gt : Nat} {v : Value} {W : World} {a b : Int} (h : Vrv21 wA g ao n cap cs gr c cp k B j v W) : Vrv21 wA g ao n cap cs gr c cp k B j v ((W.setCell ⟨gt, 0, none⟩ (.int .i64 a)).setCell ⟨gt, 1, none⟩ (.int .i64 b)) := by
 unfold Vrv21 at *
 split <;> simp only at h <;> first | exact h | skip
 all_goals first
   | trivial
   | (obtain ⟨gq, p, q, h1, h2, h3, X⟩ := h
      by_cases e : gq = gt
      · subst e; exact ⟨gq, a, b, h1, h2, h3, (X.setI 0 (by simp) _).setI 1 (by simp) _⟩
      · exact ⟨gq, p, q, h1, h2, h3, (X.setO (p := ⟨gt, 0, none⟩) e _).setO (p := ⟨gt, 1, none⟩) e _⟩)
def Srv21 (wA : World) (g : Nat) (ao : Option Addr) (n cap : Nat) (cs : List Int) (gr c cp _k : Nat) (W : World) : Prop := RnSt wA W g ao n cap cs (.slice (some ⟨gr, 0, none⟩) c cp) c
def Jrv21 (wA : World) (g : Nat) (ao : Option Addr) (n cap : Nat) (cs : List Int) (gr c cp k : Nat) (w0 : World) (a0 : Act) (lz : Array Bool) (az : Act) (W : World) : Prop := InvQ (g) [some 154, some 155, some 156, some 157, some 9, none] (Vrv21 wA g ao n cap cs gr c cp k (g)) w0 a0 lz az W ∧ Srv21 wA g ao n cap cs gr c cp k W
set_option maxRecDepth 100000 in
set_option maxHeartbeats 4000000 in
theorem rv21 {Q : Exit → Act → World → Prop} {wA : World} {g : Nat} {ao : Option Addr} {n cap : Nat} {cs : List Int} {gr c cp k : Nat}  {w0 : World} {a0 : Act} {idq : Nat} {t0 t1 t2 t3 t4 t5 : TypeId} {q0 q1 q2 q3 q4 q5 : String}
   (hgA : g < wA.heap.size) (hk : k < c) (kI : (k : Int) < (c : Int)) (h7 : a0.tmps[7]? = some (.slice (some ⟨gr, 0, none⟩) c cp)) (h8 : a0.tmps[8]? = some (.int .i64 (k : Nat)))  (hz : a0.tmps.size = 195) (hs0 : Srv21 wA g ao n cap cs gr c cp k w0)
   (hQ : ∀ aq W, aq.tmps.size = a0.tmps.size → aq.defers = a0.defers → (∀ e, e ∉ ([154, 155, 156, 157, 9] : List Nat) → aq.tmps[e]? = a0.tmps[e]?) → Vrv21 wA g ao n cap cs gr c cp k (g) 4 (aq.tmps.getD 9 undef) W → Below (g) w0 W → Srv21 wA g ao n cap cs gr c cp k W → Q .normal aq W) :
   (Code.region idq #[{ dst := some 154, op := Op.move (Operand.tmp 7), type := t0, pos := q0, after := #[], guard := none },
   { dst := some 155, op := Op.move (Operand.tmp 8), type := t1, pos := q1, after := #[], guard := none },
   { dst := some 156, op := Op.indexAddr 55 (Operand.tmp 154) (Operand.tmp 155), type := t2, pos := q2, after := #[{ on := 0, ground := Ground.data }, { on := 1, ground := Ground.data }], guard := none },
   { dst := some 157, op := Op.load 51 (Operand.tmp 156), type := t3, pos := q3, after := #[{ on := 2, ground := Ground.data }], guard := none },
   { dst := some 9, op := Op.alloc 51, type := t4, pos := q4, after := #[], guard := none },
   { dst := none, op := Op.store 51 (Operand.tmp 9) (Operand.tmp 157), type := t5, pos := q5, after := #[{ on := 4, ground := Ground.data }, { on := 3, ground := Ground.data }, { on := 0, ground := Ground.phase }, { on := 1, ground := Ground.phase }, { on := 2, ground := Ground.phase }, { on := 3, ground := Ground.phase }, { on := 4, ground := Ground.phase }], guard := none }] false).wp Tryz.prog Q a0 w0 := by
 have hS : distS [some 154, some 155, some 156, some 157, some 9, none] = true := rfl
 refine wp_region_invp (Jrv21 wA g ao n cap cs gr c cp k w0 a0) (by kernel_rfl) ⟨⟨rfl, rfl, rfl, fun _ _ => rfl, Below.refl _ w0, fun j d hj => ?_, fun j hj => ?_⟩, hs0⟩ ?_ ?_
 · exfalso
   rw [Array.getD_eq_getD_getElem?, Array.getElem?_replicate] at hj
   split at hj <;> simp at hj
 · exfalso
   rw [Array.getD_eq_getD_getElem?, Array.getElem?_replicate] at hj
   split at hj <;> simp at hj
 · intro lq aq W iq oq ⟨hJ, hs⟩ hl ho hall
   have hJ2 := hJ
   obtain ⟨z1, z2, z3, z4, z5, z6, z7⟩ := hJ
   have g7 : aq.tmps.getD 7 undef = .slice (some ⟨gr, 0, none⟩) c cp := by rw [Array.getD_eq_getD_getElem?, z4 7 (by decide), h7]; rfl
   have g8 : aq.tmps.getD 8 undef = .int .i64 (k : Nat) := by rw [Array.getD_eq_getD_getElem?, z4 8 (by decide), h8]; rfl
   match iq, ho with
   | 0, ho =>
     cases ho
     refine wpOp_of rfl rfl ?_
     have hK := fun (v : Value) (W2 : World) hW hT hv (hs : Srv21 wA g ao n cap cs gr c cp k W2) => show (Jrv21 wA g ao n cap cs gr c cp k w0 a0) (lq.setIfInBounds 0 true) (aq.put (some 154) v) W2 from ⟨hJ2.put hS 0 154 rfl (by omega) (W' := W2) hW hT v hv, hs⟩
     clear ho hall hl hQ
     generalize (Jrv21 wA g ao n cap cs gr c cp k w0 a0) (lq.setIfInBounds 0 true) = K at hK ⊢
     clear hJ2 hS z1 z2 z3 z4 z6 z7
     go_simp
     exact hK _ _ z5 (fun _ _ h => h) rfl hs
   | 1, ho =>
     cases ho
     refine wpOp_of rfl rfl ?_
     have hK := fun (v : Value) (W2 : World) hW hT hv (hs : Srv21 wA g ao n cap cs gr c cp k W2) => show (Jrv21 wA g ao n cap cs gr c cp k w0 a0) (lq.setIfInBounds 1 true) (aq.put (some 155) v) W2 from ⟨hJ2.put hS 1 155 rfl (by omega) (W' := W2) hW hT v hv, hs⟩
     clear ho hall hl hQ
     generalize (Jrv21 wA g ao n cap cs gr c cp k w0 a0) (lq.setIfInBounds 1 true) = K at hK ⊢
     clear hJ2 hS z1 z2 z3 z4 z6 z7
     go_simp
     exact hK _ _ z5 (fun _ _ h => h) rfl hs
   | 2, ho =>
     cases ho
     refine wpOp_of rfl rfl ?_
     have f0 : (aq.tmps.getD 154 undef) = .slice (some ⟨gr, 0, none⟩) c cp := z6 0 154 (hall { on := 0, ground := Ground.data } (by simp) rfl) rfl
     have f1 : (aq.tmps.getD 155 undef) = .int .i64 (k : Nat) := z6 1 155 (hall { on := 1, ground := Ground.data } (by simp) rfl) rfl
     have hK := fun (v : Value) (W2 : World) hW hT hv (hs : Srv21 wA g ao n cap cs gr c cp k W2) => show (Jrv21 wA g ao n cap cs gr c cp k w0 a0) (lq.setIfInBounds 2 true) (aq.put (some 156) v) W2 from ⟨hJ2.put hS 2 156 rfl (by omega) (W' := W2) hW hT v hv, hs⟩
     clear ho hall hl hQ
     generalize (Jrv21 wA g ao n cap cs gr c cp k w0 a0) (lq.setIfInBounds 2 true) = K at hK ⊢
     clear hJ2 hS z1 z2 z3 z4 z6 z7
     go_simp
     exact hK _ _ z5 (fun _ _ h => h) rfl hs
   | 3, ho =>
     cases ho
     refine wpOp_of rfl rfl ?_
     have f2 : (aq.tmps.getD 156 undef) = .pointer (some ⟨gr, k * 2, none⟩) := z6 2 156 (hall { on := 2, ground := Ground.data } (by simp) rfl) rfl
     have hK := fun (v : Value) (W2 : World) hW hT hv (hs : Srv21 wA g ao n cap cs gr c cp k W2) => show (Jrv21 wA g ao n cap cs gr c cp k w0 a0) (lq.setIfInBounds 3 true) (aq.put (some 157) v) W2 from ⟨hJ2.put hS 3 157 rfl (by omega) (W' := W2) hW hT v hv, hs⟩
     clear ho hall hl hQ
     generalize (Jrv21 wA g ao n cap cs gr c cp k w0 a0) (lq.setIfInBounds 3 true) = K at hK ⊢
     clear hJ2 hS z1 z2 z3 z4 z6 z7
     obtain ⟨⟨Lq, Oq⟩, sR, sK, sB⟩ := hs
     obtain ⟨a1, b1, pz0, fz0, pz1, fz1⟩ := Oq.two (i := k) (by assumption)
     have hs : RnSt wA W g ao n cap cs (.slice (some ⟨gr, 0, none⟩) c cp) c := ⟨⟨Lq, Oq⟩, sR, sK, sB⟩
     go_simp
     exact hK _ _ z5 (fun _ _ h => h) ⟨_, _, rfl⟩ hs
   | 4, ho =>
     cases ho
     refine wpOp_of rfl rfl ?_
     have hK := fun (v : Value) (W2 : World) hW hT hv (hs : Srv21 wA g ao n cap cs gr c cp k W2) => show (Jrv21 wA g ao n cap cs gr c cp k w0 a0) (lq.setIfInBounds 4 true) (aq.put (some 9) v) W2 from ⟨hJ2.put hS 4 9 rfl (by omega) (W' := W2) hW hT v hv, hs⟩
     clear ho hall hl hQ
     generalize (Jrv21 wA g ao n cap cs gr c cp k w0 a0) (lq.setIfInBounds 4 true) = K at hK ⊢
     clear hJ2 hS z1 z2 z3 z4 z6 z7
     have bl := hs.2.2.2.lt
     have gl : gr < W.heap.size := (hs.1.choose_spec.lt gr rfl).2
     go_simp
     exact hK _ _ (z5.alloc (by omega) _) (fun _ _ h => h.mono ((Below.refl _ _).alloc (Nat.le_refl _) _)) ⟨W.heap.size, 0, 0, rfl, by omega, by omega, Blk.new W [.int .i64 0, .int .i64 0] _ rfl⟩ (hs.alloc _)
   | 5, ho =>
     cases ho
     refine wpOp_of rfl rfl ?_
     have f4 : ∃ (gt : Nat) (p q : Int), (aq.tmps.getD 9 undef) = .pointer (some ⟨gt, 0, none⟩) ∧ wA.heap.size + 1 ≤ gt ∧ gt ≠ gr ∧ Blk W gt [.int .i64 p, .int .i64 q] := z6 4 9 (hall { on := 4, ground := Ground.data } (by simp) rfl) rfl
     have f3 : ∃ p q : Int, (aq.tmps.getD 157 undef) = .agg #[.int .i64 p, .int .i64 q] := z6 3 157 (hall { on := 3, ground := Ground.data } (by simp) rfl) rfl
     obtain ⟨p3q, r3q, f3⟩ := f3
     rw [Array.getD_eq_getD_getElem?] at f3
     have hK := fun (W2 : World) hW hT hv (hs : Srv21 wA g ao n cap cs gr c cp k W2) => show (Jrv21 wA g ao n cap cs gr c cp k w0 a0) (lq.setIfInBounds 5 true) aq W2 from ⟨hJ2.world 5 rfl (W' := W2) hW hT hv, hs⟩
     clear ho hall hl hQ
     generalize (Jrv21 wA g ao n cap cs gr c cp k w0 a0) (lq.setIfInBounds 5 true) = K at hK ⊢
     clear hJ2 hS z1 z2 z3 z4 z6 z7
     obtain ⟨gt, pz, qz, e4, n1, n2, X⟩ := f4
     have x0 := X.c 0 rfl; have y0 := X.f 0 rfl; have x1 := X.c 1 rfl; have y1 := X.f 1 rfl; have xl := X.lt
     go_simp
     exact hK _ ((z5.setCell (p := ⟨gt, _, none⟩) (show g ≤ gt by omega) _).setCell (p := ⟨gt, _, none⟩) (show g ≤ gt by omega) _) (fun _ _ h => Vrv21.put h) trivial ((hs.setT hgA n1 n2 _ _).setT hgA n1 n2 _ _)
   | iq + 6, ho => simp at ho
 · intro lq aq W ⟨hJ, hs⟩ hr
   obtain ⟨z1, z2, z3, z4, z5, z6, z7⟩ := hJ
   have hl := listed_of hr [4] [] (by simp) (by kernel_rfl) (by rw [z1]; decide)
   exact hQ aq W z2 z3 (fun e he => z4 e (by simpa using he)) (z6 4 9 (hl 4 (by simp)) rfl) z5 hs
def Vrv22 (_wA : World) (_g : Nat) (_ao : Option Addr) (_n _cap : Nat) (_cs : List Int) (gr c cp k m _gt : Nat) (_B : Nat) : Nat → Value → World → Prop
 | 0, v, _ => v = .slice (some ⟨gr, 0, none⟩) c cp
 | 1, v, _ => v = .int .i64 (k : Nat)
 | 2, v, _ => v = .slice (some ⟨gr, 0, none⟩) c cp
 | 3, v, _ => v = .slice (some ⟨gr, 0, none⟩) c cp
 | 4, v, _ => v = .int .i64 (c : Nat)
 | 5, v, _ => v = .int .i64 (IntKind.i64.wrap ((c : Int) - 1))
 | 6, v, _ => v = .int .i64 (k : Nat)
 | 7, v, _ => v = .int .i64 (m : Nat)
 | 8, v, _ => v = .pointer (some ⟨gr, m * 2, none⟩)
 | 9, v, _ => ∃ p q : Int, v = .agg #[.int .i64 p, .int .i64 q]
 | 10, v, _ => v = .pointer (some ⟨gr, k * 2, none⟩)
 | _, _, _ => True
theorem Vrv22.same {wA : World} {g : Nat} {ao : Option Addr} {n cap : Nat} {cs : List Int} {gr c cp k m gt : Nat} {B j : Nat} {v : Value} {W W2 : World} (h : Vrv22 wA g ao n cap cs gr c cp k m gt B j v W) : Vrv22 wA g ao n cap cs gr c cp k m gt B j v W2 := by
 unfold Vrv22 at *
 split <;> simp only at h <;> first | exact h | trivial
def Srv22 (wA : World) (g : Nat) (ao : Option Addr) (n cap : Nat) (cs : List Int) (gr c cp _k _m gt : Nat) (W : World) : Prop := RnSt wA W g ao n cap cs (.slice (some ⟨gr, 0, none⟩) c cp) c ∧ ∃ p q : Int, Blk W gt [.int .i64 p, .int .i64 q]
def Jrv22 (wA : World) (g : Nat) (ao : Option Addr) (n cap : Nat) (cs : List Int) (gr c cp k m gt : Nat) (w0 : World) (a0 : Act) (lz : Array Bool) (az : Act) (W : World) : Prop := InvQ (g) [some 158, some 159, some 160, some 161, some 162, some 163, some 164, some 165, some 166, some 167, some 168, none] (Vrv22 wA g ao n cap cs gr c cp k m gt (g)) w0 a0 lz az W ∧ Srv22 wA g ao n cap cs gr c cp k m gt W
set_option maxRecDepth 100000 in
set_option maxHeartbeats 4000000 in
theorem rv22 {Q : Exit → Act → World → Prop} {wA : World} {g : Nat} {ao : Option Addr} {n cap : Nat} {cs : List Int} {gr c cp k m gt : Nat}  {w0 : World} {a0 : Act} {idq : Nat} {t0 t1 t2 t3 t4 t5 t6 t7 t8 t9 t10 t11 : TypeId} {q0 q1 q2 q3 q4 q5 q6 q7 q8 q9 q10 q11 : String}
   (hgA : g < wA.heap.size) (hb : wA.heap.size + 1 ≤ gr) (hk : k < c) (hm : m < c) (kI : (k : Int) < (c : Int)) (mI : (m : Int) < (c : Int)) (hmI : IntKind.i64.wrap (IntKind.i64.wrap ((c : Int) - 1) - (k : Int)) = (m : Int)) (gtr : gt ≠ gr) (h7 : a0.tmps[7]? = some (.slice (some ⟨gr, 0, none⟩) c cp)) (h8 : a0.tmps[8]? = some (.int .i64 (k : Nat)))  (hz : a0.tmps.size = 195) (hs0 : Srv22 wA g ao n cap cs gr c cp k m gt w0)
   (hQ : ∀ aq W, aq.tmps.size = a0.tmps.size → aq.defers = a0.defers → (∀ e, e ∉ ([158, 159, 160, 161, 162, 163, 164, 165, 166, 167, 168] : List Nat) → aq.tmps[e]? = a0.tmps[e]?) → Below (g) w0 W → Srv22 wA g ao n cap cs gr c cp k m gt W → Q .normal aq W) :
   (Code.region idq #[{ dst := some 158, op := Op.move (Operand.tmp 7), type := t0, pos := q0, after := #[], guard := none },
   { dst := some 159, op := Op.move (Operand.tmp 8), type := t1, pos := q1, after := #[], guard := none },
   { dst := some 160, op := Op.move (Operand.tmp 7), type := t2, pos := q2, after := #[], guard := none },
   { dst := some 161, op := Op.move (Operand.tmp 7), type := t3, pos := q3, after := #[], guard := none },
   { dst := some 162, op := Op.call { callee := Callee.builtin Builtin.len, args := #[Operand.tmp 161], argTypes := #[55] }, type := t4, pos := q4, after := #[{ on := 3, ground := Ground.data }], guard := none },
   { dst := some 163, op := Op.binOp BinOp.sub 3 (Operand.tmp 162) (Operand.const (Value.int IntKind.i64 1)) 3, type := t5, pos := q5, after := #[{ on := 4, ground := Ground.data }], guard := none },
   { dst := some 164, op := Op.move (Operand.tmp 8), type := t6, pos := q6, after := #[], guard := none },
   { dst := some 165, op := Op.binOp BinOp.sub 3 (Operand.tmp 163) (Operand.tmp 164) 3, type := t7, pos := q7, after := #[{ on := 5, ground := Ground.data }, { on := 6, ground := Ground.data }], guard := none },
   { dst := some 166, op := Op.indexAddr 55 (Operand.tmp 160) (Operand.tmp 165), type := t8, pos := q8, after := #[{ on := 2, ground := Ground.data }, { on := 7, ground := Ground.data }], guard := none },
   { dst := some 167, op := Op.load 51 (Operand.tmp 166), type := t9, pos := q9, after := #[{ on := 8, ground := Ground.data }], guard := none },
   { dst := some 168, op := Op.indexAddr 55 (Operand.tmp 158) (Operand.tmp 159), type := t10, pos := q10, after := #[{ on := 0, ground := Ground.data }, { on := 1, ground := Ground.data }, { on := 0, ground := Ground.phase }, { on := 1, ground := Ground.phase }, { on := 2, ground := Ground.phase }, { on := 3, ground := Ground.phase }, { on := 4, ground := Ground.phase }, { on := 5, ground := Ground.phase }, { on := 6, ground := Ground.phase }, { on := 7, ground := Ground.phase }, { on := 8, ground := Ground.phase }, { on := 9, ground := Ground.phase }], guard := none },
   { dst := none, op := Op.store 51 (Operand.tmp 168) (Operand.tmp 167), type := t11, pos := q11, after := #[{ on := 10, ground := Ground.data }, { on := 9, ground := Ground.data }, { on := 0, ground := Ground.phase }, { on := 1, ground := Ground.phase }, { on := 2, ground := Ground.phase }, { on := 3, ground := Ground.phase }, { on := 4, ground := Ground.phase }, { on := 5, ground := Ground.phase }, { on := 6, ground := Ground.phase }, { on := 7, ground := Ground.phase }, { on := 8, ground := Ground.phase }, { on := 9, ground := Ground.phase }], guard := none }] false).wp Tryz.prog Q a0 w0 := by
 have hS : distS [some 158, some 159, some 160, some 161, some 162, some 163, some 164, some 165, some 166, some 167, some 168, none] = true := rfl
 refine wp_region_invp (Jrv22 wA g ao n cap cs gr c cp k m gt w0 a0) (by kernel_rfl) ⟨⟨rfl, rfl, rfl, fun _ _ => rfl, Below.refl _ w0, fun j d hj => ?_, fun j hj => ?_⟩, hs0⟩ ?_ ?_
 · exfalso
   rw [Array.getD_eq_getD_getElem?, Array.getElem?_replicate] at hj
   split at hj <;> simp at hj
 · exfalso
   rw [Array.getD_eq_getD_getElem?, Array.getElem?_replicate] at hj
   split at hj <;> simp at hj
 · intro lq aq W iq oq ⟨hJ, hs⟩ hl ho hall
   have hJ2 := hJ
   obtain ⟨z1, z2, z3, z4, z5, z6, z7⟩ := hJ
   have g7 : aq.tmps.getD 7 undef = .slice (some ⟨gr, 0, none⟩) c cp := by rw [Array.getD_eq_getD_getElem?, z4 7 (by decide), h7]; rfl
   have g8 : aq.tmps.getD 8 undef = .int .i64 (k : Nat) := by rw [Array.getD_eq_getD_getElem?, z4 8 (by decide), h8]; rfl
   match iq, ho with
   | 0, ho =>
     cases ho
     refine wpOp_of rfl rfl ?_
     have hK := fun (v : Value) (W2 : World) hW hT hv (hs : Srv22 wA g ao n cap cs gr c cp k m gt W2) => show (Jrv22 wA g ao n cap cs gr c cp k m gt w0 a0) (lq.setIfInBounds 0 true) (aq.put (some 158) v) W2 from ⟨hJ2.put hS 0 158 rfl (by omega) (W' := W2) hW hT v hv, hs⟩
     clear ho hall hl hQ
     generalize (Jrv22 wA g ao n cap cs gr c cp k m gt w0 a0) (lq.setIfInBounds 0 true) = K at hK ⊢
     clear hJ2 hS z1 z2 z3 z4 z6 z7
     go_simp
     exact hK _ _ z5 (fun _ _ h => h) rfl hs
   | 1, ho =>
     cases ho
     refine wpOp_of rfl rfl ?_
     have hK := fun (v : Value) (W2 : World) hW hT hv (hs : Srv22 wA g ao n cap cs gr c cp k m gt W2) => show (Jrv22 wA g ao n cap cs gr c cp k m gt w0 a0) (lq.setIfInBounds 1 true) (aq.put (some 159) v) W2 from ⟨hJ2.put hS 1 159 rfl (by omega) (W' := W2) hW hT v hv, hs⟩
     clear ho hall hl hQ
     generalize (Jrv22 wA g ao n cap cs gr c cp k m gt w0 a0) (lq.setIfInBounds 1 true) = K at hK ⊢
     clear hJ2 hS z1 z2 z3 z4 z6 z7
     go_simp
     exact hK _ _ z5 (fun _ _ h => h) rfl hs
   | 2, ho =>
     cases ho
     refine wpOp_of rfl rfl ?_
     have hK := fun (v : Value) (W2 : World) hW hT hv (hs : Srv22 wA g ao n cap cs gr c cp k m gt W2) => show (Jrv22 wA g ao n cap cs gr c cp k m gt w0 a0) (lq.setIfInBounds 2 true) (aq.put (some 160) v) W2 from ⟨hJ2.put hS 2 160 rfl (by omega) (W' := W2) hW hT v hv, hs⟩
     clear ho hall hl hQ
     generalize (Jrv22 wA g ao n cap cs gr c cp k m gt w0 a0) (lq.setIfInBounds 2 true) = K at hK ⊢
     clear hJ2 hS z1 z2 z3 z4 z6 z7
     go_simp
     exact hK _ _ z5 (fun _ _ h => h) rfl hs
   | 3, ho =>
     cases ho
     refine wpOp_of rfl rfl ?_
     have hK := fun (v : Value) (W2 : World) hW hT hv (hs : Srv22 wA g ao n cap cs gr c cp k m gt W2) => show (Jrv22 wA g ao n cap cs gr c cp k m gt w0 a0) (lq.setIfInBounds 3 true) (aq.put (some 161) v) W2 from ⟨hJ2.put hS 3 161 rfl (by omega) (W' := W2) hW hT v hv, hs⟩
     clear ho hall hl hQ
     generalize (Jrv22 wA g ao n cap cs gr c cp k m gt w0 a0) (lq.setIfInBounds 3 true) = K at hK ⊢
     clear hJ2 hS z1 z2 z3 z4 z6 z7
     go_simp
     exact hK _ _ z5 (fun _ _ h => h) rfl hs
   | 4, ho =>
     cases ho
     refine wpOp_of rfl rfl ?_
     have f3 : (aq.tmps.getD 161 undef) = .slice (some ⟨gr, 0, none⟩) c cp := z6 3 161 (hall { on := 3, ground := Ground.data } (by simp) rfl) rfl
     have hK := fun (v : Value) (W2 : World) hW hT hv (hs : Srv22 wA g ao n cap cs gr c cp k m gt W2) => show (Jrv22 wA g ao n cap cs gr c cp k m gt w0 a0) (lq.setIfInBounds 4 true) (aq.put (some 162) v) W2 from ⟨hJ2.put hS 4 162 rfl (by omega) (W' := W2) hW hT v hv, hs⟩
     clear ho hall hl hQ
     generalize (Jrv22 wA g ao n cap cs gr c cp k m gt w0 a0) (lq.setIfInBounds 4 true) = K at hK ⊢
     clear hJ2 hS z1 z2 z3 z4 z6 z7
     go_simp
     exact hK _ _ z5 (fun _ _ h => h) rfl hs
   | 5, ho =>
     cases ho
     refine wpOp_of rfl rfl ?_
     have f4 : (aq.tmps.getD 162 undef) = .int .i64 (c : Nat) := z6 4 162 (hall { on := 4, ground := Ground.data } (by simp) rfl) rfl
     have hK := fun (v : Value) (W2 : World) hW hT hv (hs : Srv22 wA g ao n cap cs gr c cp k m gt W2) => show (Jrv22 wA g ao n cap cs gr c cp k m gt w0 a0) (lq.setIfInBounds 5 true) (aq.put (some 163) v) W2 from ⟨hJ2.put hS 5 163 rfl (by omega) (W' := W2) hW hT v hv, hs⟩
     clear ho hall hl hQ
     generalize (Jrv22 wA g ao n cap cs gr c cp k m gt w0 a0) (lq.setIfInBounds 5 true) = K at hK ⊢
     clear hJ2 hS z1 z2 z3 z4 z6 z7
     go_simp
     exact hK _ _ z5 (fun _ _ h => h) rfl hs
   | 6, ho =>
     cases ho
     refine wpOp_of rfl rfl ?_
     have hK := fun (v : Value) (W2 : World) hW hT hv (hs : Srv22 wA g ao n cap cs gr c cp k m gt W2) => show (Jrv22 wA g ao n cap cs gr c cp k m gt w0 a0) (lq.setIfInBounds 6 true) (aq.put (some 164) v) W2 from ⟨hJ2.put hS 6 164 rfl (by omega) (W' := W2) hW hT v hv, hs⟩
     clear ho hall hl hQ
     generalize (Jrv22 wA g ao n cap cs gr c cp k m gt w0 a0) (lq.setIfInBounds 6 true) = K at hK ⊢
     clear hJ2 hS z1 z2 z3 z4 z6 z7
     go_simp
     exact hK _ _ z5 (fun _ _ h => h) rfl hs
   | 7, ho =>
     cases ho
     refine wpOp_of rfl rfl ?_
     have f5 : (aq.tmps.getD 163 undef) = .int .i64 (IntKind.i64.wrap ((c : Int) - 1)) := z6 5 163 (hall { on := 5, ground := Ground.data } (by simp) rfl) rfl
     have f6 : (aq.tmps.getD 164 undef) = .int .i64 (k : Nat) := z6 6 164 (hall { on := 6, ground := Ground.data } (by simp) rfl) rfl
     have hK := fun (v : Value) (W2 : World) hW hT hv (hs : Srv22 wA g ao n cap cs gr c cp k m gt W2) => show (Jrv22 wA g ao n cap cs gr c cp k m gt w0 a0) (lq.setIfInBounds 7 true) (aq.put (some 165) v) W2 from ⟨hJ2.put hS 7 165 rfl (by omega) (W' := W2) hW hT v hv, hs⟩
     clear ho hall hl hQ
     generalize (Jrv22 wA g ao n cap cs gr c cp k m gt w0 a0) (lq.setIfInBounds 7 true) = K at hK ⊢
     clear hJ2 hS z1 z2 z3 z4 z6 z7
     go_simp
     exact hK _ _ z5 (fun _ _ h => h) rfl hs
   | 8, ho =>
     cases ho
     refine wpOp_of rfl rfl ?_
     have f2 : (aq.tmps.getD 160 undef) = .slice (some ⟨gr, 0, none⟩) c cp := z6 2 160 (hall { on := 2, ground := Ground.data } (by simp) rfl) rfl
     have f7 : (aq.tmps.getD 165 undef) = .int .i64 (m : Nat) := z6 7 165 (hall { on := 7, ground := Ground.data } (by simp) rfl) rfl
     have hK := fun (v : Value) (W2 : World) hW hT hv (hs : Srv22 wA g ao n cap cs gr c cp k m gt W2) => show (Jrv22 wA g ao n cap cs gr c cp k m gt w0 a0) (lq.setIfInBounds 8 true) (aq.put (some 166) v) W2 from ⟨hJ2.put hS 8 166 rfl (by omega) (W' := W2) hW hT v hv, hs⟩
     clear ho hall hl hQ
     generalize (Jrv22 wA g ao n cap cs gr c cp k m gt w0 a0) (lq.setIfInBounds 8 true) = K at hK ⊢
     clear hJ2 hS z1 z2 z3 z4 z6 z7
     go_simp
     exact hK _ _ z5 (fun _ _ h => h) rfl hs
   | 9, ho =>
     cases ho
     refine wpOp_of rfl rfl ?_
     have f8 : (aq.tmps.getD 166 undef) = .pointer (some ⟨gr, m * 2, none⟩) := z6 8 166 (hall { on := 8, ground := Ground.data } (by simp) rfl) rfl
     have hK := fun (v : Value) (W2 : World) hW hT hv (hs : Srv22 wA g ao n cap cs gr c cp k m gt W2) => show (Jrv22 wA g ao n cap cs gr c cp k m gt w0 a0) (lq.setIfInBounds 9 true) (aq.put (some 167) v) W2 from ⟨hJ2.put hS 9 167 rfl (by omega) (W' := W2) hW hT v hv, hs⟩
     clear ho hall hl hQ
     generalize (Jrv22 wA g ao n cap cs gr c cp k m gt w0 a0) (lq.setIfInBounds 9 true) = K at hK ⊢
     clear hJ2 hS z1 z2 z3 z4 z6 z7
     obtain ⟨⟨Lq, Oq⟩, sR, sK, sB⟩ := hs.1
     obtain ⟨a1, b1, pz0, fz0, pz1, fz1⟩ := Oq.two (i := m) (by assumption)
     go_simp
     exact hK _ _ z5 (fun _ _ h => h) ⟨_, _, rfl⟩ hs
   | 10, ho =>
     cases ho
     refine wpOp_of rfl rfl ?_
     have f0 : (aq.tmps.getD 158 undef) = .slice (some ⟨gr, 0, none⟩) c cp := z6 0 158 (hall { on := 0, ground := Ground.data } (by simp) rfl) rfl
     have f1 : (aq.tmps.getD 159 undef) = .int .i64 (k : Nat) := z6 1 159 (hall { on := 1, ground := Ground.data } (by simp) rfl) rfl
     have hK := fun (v : Value) (W2 : World) hW hT hv (hs : Srv22 wA g ao n cap cs gr c cp k m gt W2) => show (Jrv22 wA g ao n cap cs gr c cp k m gt w0 a0) (lq.setIfInBounds 10 true) (aq.put (some 168) v) W2 from ⟨hJ2.put hS 10 168 rfl (by omega) (W' := W2) hW hT v hv, hs⟩
     clear ho hall hl hQ
     generalize (Jrv22 wA g ao n cap cs gr c cp k m gt w0 a0) (lq.setIfInBounds 10 true) = K at hK ⊢
     clear hJ2 hS z1 z2 z3 z4 z6 z7
     go_simp
     exact hK _ _ z5 (fun _ _ h => h) rfl hs
   | 11, ho =>
     cases ho
     refine wpOp_of rfl rfl ?_
     have f10 : (aq.tmps.getD 168 undef) = .pointer (some ⟨gr, k * 2, none⟩) := z6 10 168 (hall { on := 10, ground := Ground.data } (by simp) rfl) rfl
     have f9 : ∃ p q : Int, (aq.tmps.getD 167 undef) = .agg #[.int .i64 p, .int .i64 q] := z6 9 167 (hall { on := 9, ground := Ground.data } (by simp) rfl) rfl
     obtain ⟨p9q, r9q, f9⟩ := f9
     rw [Array.getD_eq_getD_getElem?] at f9
     have hK := fun (W2 : World) hW hT hv (hs : Srv22 wA g ao n cap cs gr c cp k m gt W2) => show (Jrv22 wA g ao n cap cs gr c cp k m gt w0 a0) (lq.setIfInBounds 11 true) aq W2 from ⟨hJ2.world 11 rfl (W' := W2) hW hT hv, hs⟩
     clear ho hall hl hQ
     generalize (Jrv22 wA g ao n cap cs gr c cp k m gt w0 a0) (lq.setIfInBounds 11 true) = K at hK ⊢
     clear hJ2 hS z1 z2 z3 z4 z6 z7
     obtain ⟨⟨Lq, Oq⟩, sR, sK, sB⟩ := hs.1
     obtain ⟨a1, b1, pz0, fz0, pz1, fz1⟩ := Oq.two (i := k) (by assumption)
     have gl : gr < W.heap.size := (Oq.lt gr rfl).2
     obtain ⟨pz, qz, Xz⟩ := hs.2
     have hs1 := hs.1
     clear Oq sR sK sB hs
     go_simp
     exact hK _ ((z5.setCell (p := ⟨gr, _, none⟩) (show g ≤ gr by omega) _).setCell (p := ⟨gr, _, none⟩) (show g ≤ gr by omega) _) (fun _ _ h => Vrv22.same h) trivial ⟨(hs1.set hb hgA _ _).set hb hgA _ _, pz, qz, (Xz.setO (p := ⟨gr, _, none⟩) (show gt ≠ gr by omega) _).setO (p := ⟨gr, _, none⟩) (show gt ≠ gr by omega) _⟩
   | iq + 12, ho => simp at ho
 · intro lq aq W ⟨hJ, hs⟩ hr
   obtain ⟨z1, z2, z3, z4, z5, z6, z7⟩ := hJ
   exact hQ aq W z2 z3 (fun e he => z4 e (by simpa using he))  z5 hs
def Vrv23 (_wA : World) (_g : Nat) (_ao : Option Addr) (_n _cap : Nat) (_cs : List Int) (gr c cp k m _gt : Nat) (_B : Nat) : Nat → Value → World → Prop
 | 0, v, _ => v = .slice (some ⟨gr, 0, none⟩) c cp
 | 1, v, _ => v = .slice (some ⟨gr, 0, none⟩) c cp
 | 2, v, _ => v = .int .i64 (c : Nat)
 | 3, v, _ => v = .int .i64 (IntKind.i64.wrap ((c : Int) - 1))
 | 4, v, _ => v = .int .i64 (k : Nat)
 | 5, v, _ => v = .int .i64 (m : Nat)
 | 6, v, _ => ∃ p q : Int, v = .agg #[.int .i64 p, .int .i64 q]
 | 7, v, _ => v = .pointer (some ⟨gr, m * 2, none⟩)
 | _, _, _ => True
theorem Vrv23.same {wA : World} {g : Nat} {ao : Option Addr} {n cap : Nat} {cs : List Int} {gr c cp k m gt : Nat} {B j : Nat} {v : Value} {W W2 : World} (h : Vrv23 wA g ao n cap cs gr c cp k m gt B j v W) : Vrv23 wA g ao n cap cs gr c cp k m gt B j v W2 := by
 unfold Vrv23 at *
 split <;> simp only at h <;> first | exact h | trivial
def Srv23 (wA : World) (g : Nat) (ao : Option Addr) (n cap : Nat) (cs : List Int) (gr c cp _k _m gt : Nat) (W : World) : Prop := RnSt wA W g ao n cap cs (.slice (some ⟨gr, 0, none⟩) c cp) c ∧ ∃ p q : Int, Blk W gt [.int .i64 p, .int .i64 q]
def Jrv23 (wA : World) (g : Nat) (ao : Option Addr) (n cap : Nat) (cs : List Int) (gr c cp k m gt : Nat) (w0 : World) (a0 : Act) (lz : Array Bool) (az : Act) (W : World) : Prop := InvQ (g) [some 169, some 170, some 171, some 172, some 173, some 174, some 175, some 176, none] (Vrv23 wA g ao n cap cs gr c cp k m gt (g)) w0 a0 lz az W ∧ Srv23 wA g ao n cap cs gr c cp k m gt W
set_option maxRecDepth 100000 in
set_option maxHeartbeats 4000000 in
theorem rv23 {Q : Exit → Act → World → Prop} {wA : World} {g : Nat} {ao : Option Addr} {n cap : Nat} {cs : List Int} {gr c cp k m gt : Nat}  {w0 : World} {a0 : Act} {idq : Nat} {t0 t1 t2 t3 t4 t5 t6 t7 t8 : TypeId} {q0 q1 q2 q3 q4 q5 q6 q7 q8 : String}
   (hgA : g < wA.heap.size) (hb : wA.heap.size + 1 ≤ gr) (hm : m < c) (mI : (m : Int) < (c : Int)) (hmI : IntKind.i64.wrap (IntKind.i64.wrap ((c : Int) - 1) - (k : Int)) = (m : Int)) (gtr : gt ≠ gr) (h7 : a0.tmps[7]? = some (.slice (some ⟨gr, 0, none⟩) c cp)) (h8 : a0.tmps[8]? = some (.int .i64 (k : Nat))) (h9 : a0.tmps[9]? = some (.pointer (some ⟨gt, 0, none⟩)))  (hz : a0.tmps.size = 195) (hs0 : Srv23 wA g ao n cap cs gr c cp k m gt w0)
   (hQ : ∀ aq W, aq.tmps.size = a0.tmps.size → aq.defers = a0.defers → (∀ e, e ∉ ([169, 170, 171, 172, 173, 174, 175, 176] : List Nat) → aq.tmps[e]? = a0.tmps[e]?) → Below (g) w0 W → Srv23 wA g ao n cap cs gr c cp k m gt W → Q .normal aq W) :
   (Code.region idq #[{ dst := some 169, op := Op.move (Operand.tmp 7), type := t0, pos := q0, after := #[], guard := none },
   { dst := some 170, op := Op.move (Operand.tmp 7), type := t1, pos := q1, after := #[], guard := none },
   { dst := some 171, op := Op.call { callee := Callee.builtin Builtin.len, args := #[Operand.tmp 170], argTypes := #[55] }, type := t2, pos := q2, after := #[{ on := 1, ground := Ground.data }], guard := none },
   { dst := some 172, op := Op.binOp BinOp.sub 3 (Operand.tmp 171) (Operand.const (Value.int IntKind.i64 1)) 3, type := t3, pos := q3, after := #[{ on := 2, ground := Ground.data }], guard := none },
   { dst := some 173, op := Op.move (Operand.tmp 8), type := t4, pos := q4, after := #[], guard := none },
   { dst := some 174, op := Op.binOp BinOp.sub 3 (Operand.tmp 172) (Operand.tmp 173) 3, type := t5, pos := q5, after := #[{ on := 3, ground := Ground.data }, { on := 4, ground := Ground.data }], guard := none },
   { dst := some 175, op := Op.load 51 (Operand.tmp 9), type := t6, pos := q6, after := #[], guard := none },
   { dst := some 176, op := Op.indexAddr 55 (Operand.tmp 169) (Operand.tmp 174), type := t7, pos := q7, after := #[{ on := 0, ground := Ground.data }, { on := 5, ground := Ground.data }, { on := 0, ground := Ground.phase }, { on := 1, ground := Ground.phase }, { on := 2, ground := Ground.phase }, { on := 3, ground := Ground.phase }, { on := 4, ground := Ground.phase }, { on := 5, ground := Ground.phase }, { on := 6, ground := Ground.phase }], guard := none },
   { dst := none, op := Op.store 51 (Operand.tmp 176) (Operand.tmp 175), type := t8, pos := q8, after := #[{ on := 7, ground := Ground.data }, { on := 6, ground := Ground.data }, { on := 0, ground := Ground.phase }, { on := 1, ground := Ground.phase }, { on := 2, ground := Ground.phase }, { on := 3, ground := Ground.phase }, { on := 4, ground := Ground.phase }, { on := 5, ground := Ground.phase }, { on := 6, ground := Ground.phase }], guard := none }] false).wp Tryz.prog Q a0 w0 := by
 have hS : distS [some 169, some 170, some 171, some 172, some 173, some 174, some 175, some 176, none] = true := rfl
 refine wp_region_invp (Jrv23 wA g ao n cap cs gr c cp k m gt w0 a0) (by kernel_rfl) ⟨⟨rfl, rfl, rfl, fun _ _ => rfl, Below.refl _ w0, fun j d hj => ?_, fun j hj => ?_⟩, hs0⟩ ?_ ?_
 · exfalso
   rw [Array.getD_eq_getD_getElem?, Array.getElem?_replicate] at hj
   split at hj <;> simp at hj
 · exfalso
   rw [Array.getD_eq_getD_getElem?, Array.getElem?_replicate] at hj
   split at hj <;> simp at hj
 · intro lq aq W iq oq ⟨hJ, hs⟩ hl ho hall
   have hJ2 := hJ
   obtain ⟨z1, z2, z3, z4, z5, z6, z7⟩ := hJ
   have g7 : aq.tmps.getD 7 undef = .slice (some ⟨gr, 0, none⟩) c cp := by rw [Array.getD_eq_getD_getElem?, z4 7 (by decide), h7]; rfl
   have g8 : aq.tmps.getD 8 undef = .int .i64 (k : Nat) := by rw [Array.getD_eq_getD_getElem?, z4 8 (by decide), h8]; rfl
   have g9 : aq.tmps.getD 9 undef = .pointer (some ⟨gt, 0, none⟩) := by rw [Array.getD_eq_getD_getElem?, z4 9 (by decide), h9]; rfl
   match iq, ho with
   | 0, ho =>
     cases ho
     refine wpOp_of rfl rfl ?_
     have hK := fun (v : Value) (W2 : World) hW hT hv (hs : Srv23 wA g ao n cap cs gr c cp k m gt W2) => show (Jrv23 wA g ao n cap cs gr c cp k m gt w0 a0) (lq.setIfInBounds 0 true) (aq.put (some 169) v) W2 from ⟨hJ2.put hS 0 169 rfl (by omega) (W' := W2) hW hT v hv, hs⟩
     clear ho hall hl hQ
     generalize (Jrv23 wA g ao n cap cs gr c cp k m gt w0 a0) (lq.setIfInBounds 0 true) = K at hK ⊢
     clear hJ2 hS z1 z2 z3 z4 z6 z7
     go_simp
     exact hK _ _ z5 (fun _ _ h => h) rfl hs
   | 1, ho =>
     cases ho
     refine wpOp_of rfl rfl ?_
     have hK := fun (v : Value) (W2 : World) hW hT hv (hs : Srv23 wA g ao n cap cs gr c cp k m gt W2) => show (Jrv23 wA g ao n cap cs gr c cp k m gt w0 a0) (lq.setIfInBounds 1 true) (aq.put (some 170) v) W2 from ⟨hJ2.put hS 1 170 rfl (by omega) (W' := W2) hW hT v hv, hs⟩
     clear ho hall hl hQ
     generalize (Jrv23 wA g ao n cap cs gr c cp k m gt w0 a0) (lq.setIfInBounds 1 true) = K at hK ⊢
     clear hJ2 hS z1 z2 z3 z4 z6 z7
     go_simp
     exact hK _ _ z5 (fun _ _ h => h) rfl hs
   | 2, ho =>
     cases ho
     refine wpOp_of rfl rfl ?_
     have f1 : (aq.tmps.getD 170 undef) = .slice (some ⟨gr, 0, none⟩) c cp := z6 1 170 (hall { on := 1, ground := Ground.data } (by simp) rfl) rfl
     have hK := fun (v : Value) (W2 : World) hW hT hv (hs : Srv23 wA g ao n cap cs gr c cp k m gt W2) => show (Jrv23 wA g ao n cap cs gr c cp k m gt w0 a0) (lq.setIfInBounds 2 true) (aq.put (some 171) v) W2 from ⟨hJ2.put hS 2 171 rfl (by omega) (W' := W2) hW hT v hv, hs⟩
     clear ho hall hl hQ
     generalize (Jrv23 wA g ao n cap cs gr c cp k m gt w0 a0) (lq.setIfInBounds 2 true) = K at hK ⊢
     clear hJ2 hS z1 z2 z3 z4 z6 z7
     go_simp
     exact hK _ _ z5 (fun _ _ h => h) rfl hs
   | 3, ho =>
     cases ho
     refine wpOp_of rfl rfl ?_
     have f2 : (aq.tmps.getD 171 undef) = .int .i64 (c : Nat) := z6 2 171 (hall { on := 2, ground := Ground.data } (by simp) rfl) rfl
     have hK := fun (v : Value) (W2 : World) hW hT hv (hs : Srv23 wA g ao n cap cs gr c cp k m gt W2) => show (Jrv23 wA g ao n cap cs gr c cp k m gt w0 a0) (lq.setIfInBounds 3 true) (aq.put (some 172) v) W2 from ⟨hJ2.put hS 3 172 rfl (by omega) (W' := W2) hW hT v hv, hs⟩
     clear ho hall hl hQ
     generalize (Jrv23 wA g ao n cap cs gr c cp k m gt w0 a0) (lq.setIfInBounds 3 true) = K at hK ⊢
     clear hJ2 hS z1 z2 z3 z4 z6 z7
     go_simp
     exact hK _ _ z5 (fun _ _ h => h) rfl hs
   | 4, ho =>
     cases ho
     refine wpOp_of rfl rfl ?_
     have hK := fun (v : Value) (W2 : World) hW hT hv (hs : Srv23 wA g ao n cap cs gr c cp k m gt W2) => show (Jrv23 wA g ao n cap cs gr c cp k m gt w0 a0) (lq.setIfInBounds 4 true) (aq.put (some 173) v) W2 from ⟨hJ2.put hS 4 173 rfl (by omega) (W' := W2) hW hT v hv, hs⟩
     clear ho hall hl hQ
     generalize (Jrv23 wA g ao n cap cs gr c cp k m gt w0 a0) (lq.setIfInBounds 4 true) = K at hK ⊢
     clear hJ2 hS z1 z2 z3 z4 z6 z7
     go_simp
     exact hK _ _ z5 (fun _ _ h => h) rfl hs
   | 5, ho =>
     cases ho
     refine wpOp_of rfl rfl ?_
     have f3 : (aq.tmps.getD 172 undef) = .int .i64 (IntKind.i64.wrap ((c : Int) - 1)) := z6 3 172 (hall { on := 3, ground := Ground.data } (by simp) rfl) rfl
     have f4 : (aq.tmps.getD 173 undef) = .int .i64 (k : Nat) := z6 4 173 (hall { on := 4, ground := Ground.data } (by simp) rfl) rfl
     have hK := fun (v : Value) (W2 : World) hW hT hv (hs : Srv23 wA g ao n cap cs gr c cp k m gt W2) => show (Jrv23 wA g ao n cap cs gr c cp k m gt w0 a0) (lq.setIfInBounds 5 true) (aq.put (some 174) v) W2 from ⟨hJ2.put hS 5 174 rfl (by omega) (W' := W2) hW hT v hv, hs⟩
     clear ho hall hl hQ
     generalize (Jrv23 wA g ao n cap cs gr c cp k m gt w0 a0) (lq.setIfInBounds 5 true) = K at hK ⊢
     clear hJ2 hS z1 z2 z3 z4 z6 z7
     go_simp
     exact hK _ _ z5 (fun _ _ h => h) rfl hs
   | 6, ho =>
     cases ho
     refine wpOp_of rfl rfl ?_
     have hK := fun (v : Value) (W2 : World) hW hT hv (hs : Srv23 wA g ao n cap cs gr c cp k m gt W2) => show (Jrv23 wA g ao n cap cs gr c cp k m gt w0 a0) (lq.setIfInBounds 6 true) (aq.put (some 175) v) W2 from ⟨hJ2.put hS 6 175 rfl (by omega) (W' := W2) hW hT v hv, hs⟩
     clear ho hall hl hQ
     generalize (Jrv23 wA g ao n cap cs gr c cp k m gt w0 a0) (lq.setIfInBounds 6 true) = K at hK ⊢
     clear hJ2 hS z1 z2 z3 z4 z6 z7
     obtain ⟨pz, qz, Xz⟩ := hs.2
     have pz0 := Xz.c 0 rfl; have pz1 := Xz.c 1 rfl
     go_simp
     exact hK _ _ z5 (fun _ _ h => h) ⟨_, _, rfl⟩ hs
   | 7, ho =>
     cases ho
     refine wpOp_of rfl rfl ?_
     have f0 : (aq.tmps.getD 169 undef) = .slice (some ⟨gr, 0, none⟩) c cp := z6 0 169 (hall { on := 0, ground := Ground.data } (by simp) rfl) rfl
     have f5 : (aq.tmps.getD 174 undef) = .int .i64 (m : Nat) := z6 5 174 (hall { on := 5, ground := Ground.data } (by simp) rfl) rfl
     have hK := fun (v : Value) (W2 : World) hW hT hv (hs : Srv23 wA g ao n cap cs gr c cp k m gt W2) => show (Jrv23 wA g ao n cap cs gr c cp k m gt w0 a0) (lq.setIfInBounds 7 true) (aq.put (some 176) v) W2 from ⟨hJ2.put hS 7 176 rfl (by omega) (W' := W2) hW hT v hv, hs⟩
     clear ho hall hl hQ
     generalize (Jrv23 wA g ao n cap cs gr c cp k m gt w0 a0) (lq.setIfInBounds 7 true) = K at hK ⊢
     clear hJ2 hS z1 z2 z3 z4 z6 z7
     go_simp
     exact hK _ _ z5 (fun _ _ h => h) rfl hs
   | 8, ho =>
     cases ho
     refine wpOp_of rfl rfl ?_
     have f7 : (aq.tmps.getD 176 undef) = .pointer (some ⟨gr, m * 2, none⟩) := z6 7 176 (hall { on := 7, ground := Ground.data } (by simp) rfl) rfl
     have f6 : ∃ p q : Int, (aq.tmps.getD 175 undef) = .agg #[.int .i64 p, .int .i64 q] := z6 6 175 (hall { on := 6, ground := Ground.data } (by simp) rfl) rfl
     obtain ⟨p6q, r6q, f6⟩ := f6
     rw [Array.getD_eq_getD_getElem?] at f6
     have hK := fun (W2 : World) hW hT hv (hs : Srv23 wA g ao n cap cs gr c cp k m gt W2) => show (Jrv23 wA g ao n cap cs gr c cp k m gt w0 a0) (lq.setIfInBounds 8 true) aq W2 from ⟨hJ2.world 8 rfl (W' := W2) hW hT hv, hs⟩
     clear ho hall hl hQ
     generalize (Jrv23 wA g ao n cap cs gr c cp k m gt w0 a0) (lq.setIfInBounds 8 true) = K at hK ⊢
     clear hJ2 hS z1 z2 z3 z4 z6 z7
     obtain ⟨⟨Lq, Oq⟩, sR, sK, sB⟩ := hs.1
     obtain ⟨a1, b1, pz0, fz0, pz1, fz1⟩ := Oq.two (i := m) (by assumption)
     have gl : gr < W.heap.size := (Oq.lt gr rfl).2
     obtain ⟨pz, qz, Xz⟩ := hs.2
     have hs1 := hs.1
     clear Oq sR sK sB hs
     go_simp
     exact hK _ ((z5.setCell (p := ⟨gr, _, none⟩) (show g ≤ gr by omega) _).setCell (p := ⟨gr, _, none⟩) (show g ≤ gr by omega) _) (fun _ _ h => Vrv23.same h) trivial ⟨(hs1.set hb hgA _ _).set hb hgA _ _, pz, qz, (Xz.setO (p := ⟨gr, _, none⟩) (show gt ≠ gr by omega) _).setO (p := ⟨gr, _, none⟩) (show gt ≠ gr by omega) _⟩
   | iq + 9, ho => simp at ho
 · intro lq aq W ⟨hJ, hs⟩ hr
   obtain ⟨z1, z2, z3, z4, z5, z6, z7⟩ := hJ
   exact hQ aq W z2 z3 (fun e he => z4 e (by simpa using he))  z5 hs
set_option maxRecDepth 100000 in
set_option maxHeartbeats 8000000 in
theorem rvl21 {Q : Exit → Act → World → Prop} {wA : World} {g : Nat} {ao : Option Addr} {n cap : Nat} {cs : List Int} {gr c cp k : Nat} {w0 : World} {idq : Nat} {t0 t1 t2 t3 t4 t5 : TypeId} {q0 q1 q2 q3 q4 q5 : String} {l0 l1 l2 l3 l4 l5 l6 l9 l10 l11 l12 l13 l14 l15 l16 l17 l18 l19 l20 l21 l22 l23 l24 l25 l26 l27 l28 l29 l30 l31 l32 l33 l34 l35 l36 l37 l38 l39 l40 l41 l42 l43 l44 l45 l46 l47 l48 l49 l50 l51 l52 l53 l54 l55 l56 l57 l58 l59 l60 l61 l62 l63 l64 l65 l66 l67 l68 l69 l70 l71 l72 l73 l74 l75 l76 l77 l78 l79 l80 l81 l82 l83 l84 l85 l86 l87 l88 l89 l90 l91 l92 l93 l94 l95 l96 l97 l98 l99 l100 l101 l102 l103 l104 l105 l106 l107 l108 l109 l110 l111 l112 l113 l114 l115 l116 l117 l118 l119 l120 l121 l122 l123 l124 l125 l126 l127 l128 l129 l130 l131 l132 l133 l134 l135 l136 l137 l138 l139 l140 l141 l142 l143 l144 l145 l146 l147 l148 l149 l150 l151 l152 l153 l154 l155 l156 l157 l158 l159 l160 l161 l162 l163 l164 l165 l166 l167 l168 l169 l170 l171 l172 l173 l174 l175 l176 l177 l178 l179 l180 l181 l182 l183 l184 l185 l186 l187 l188 l189 l190 l191 l192 l193 l194 : Value} (hgA : g < wA.heap.size) (hk : k < c) (kI : (k : Int) < (c : Int)) (hS : RnSt wA w0 g ao n cap cs (.slice (some ⟨gr, 0, none⟩) c cp) c)
   (hQ : ∀ (z154 z155 z156 z157 : Value) (gt : Nat) (W : World), wA.heap.size + 1 ≤ gt → gt ≠ gr → (∃ p q : Int, Blk W gt [.int .i64 p, .int .i64 q]) → RnSt wA W g ao n cap cs (.slice (some ⟨gr, 0, none⟩) c cp) c → Q .normal { tmps := #[l0, l1, l2, l3, l4, l5, l6, .slice (some ⟨gr, 0, none⟩) c cp, .int .i64 (k : Nat), .pointer (some ⟨gt, 0, none⟩), l10, l11, l12, l13, l14, l15, l16, l17, l18, l19, l20, l21, l22, l23, l24, l25, l26, l27, l28, l29, l30, l31, l32, l33, l34, l35, l36, l37, l38, l39, l40, l41, l42, l43, l44, l45, l46, l47, l48, l49, l50, l51, l52, l53, l54, l55, l56, l57, l58, l59, l60, l61, l62, l63, l64, l65, l66, l67, l68, l69, l70, l71, l72, l73, l74, l75, l76, l77, l78, l79, l80, l81, l82, l83, l84, l85, l86, l87, l88, l89, l90, l91, l92, l93, l94, l95, l96, l97, l98, l99, l100, l101, l102, l103, l104, l105, l106, l107, l108, l109, l110, l111, l112, l113, l114, l115, l116, l117, l118, l119, l120, l121, l122, l123, l124, l125, l126, l127, l128, l129, l130, l131, l132, l133, l134, l135, l136, l137, l138, l139, l140, l141, l142, l143, l144, l145, l146, l147, l148, l149, l150, l151, l152, l153, z154, z155, z156, z157, l158, l159, l160, l161, l162, l163, l164, l165, l166, l167, l168, l169, l170, l171, l172, l173, l174, l175, l176, l177, l178, l179, l180, l181, l182, l183, l184, l185, l186, l187, l188, l189, l190, l191, l192, l193, l194], defers := [] } W) :
   (Code.region idq #[{ dst := some 154, op := Op.move (Operand.tmp 7), type := t0, pos := q0, after := #[], guard := none },
   { dst := some 155, op := Op.move (Operand.tmp 8), type := t1, pos := q1, after := #[], guard := none },
   { dst := some 156, op := Op.indexAddr 55 (Operand.tmp 154) (Operand.tmp 155), type := t2, pos := q2, after := #[{ on := 0, ground := Ground.data }, { on := 1, ground := Ground.data }], guard := none },
   { dst := some 157, op := Op.load 51 (Operand.tmp 156), type := t3, pos := q3, after := #[{ on := 2, ground := Ground.data }], guard := none },
   { dst := some 9, op := Op.alloc 51, type := t4, pos := q4, after := #[], guard := none },
   { dst := none, op := Op.store 51 (Operand.tmp 9) (Operand.tmp 157), type := t5, pos := q5, after := #[{ on := 4, ground := Ground.data }, { on := 3, ground := Ground.data }, { on := 0, ground := Ground.phase }, { on := 1, ground := Ground.phase }, { on := 2, ground := Ground.phase }, { on := 3, ground := Ground.phase }, { on := 4, ground := Ground.phase }], guard := none }] false).wp Tryz.prog Q { tmps := #[l0, l1, l2, l3, l4, l5, l6, .slice (some ⟨gr, 0, none⟩) c cp, .int .i64 (k : Nat), l9, l10, l11, l12, l13, l14, l15, l16, l17, l18, l19, l20, l21, l22, l23, l24, l25, l26, l27, l28, l29, l30, l31, l32, l33, l34, l35, l36, l37, l38, l39, l40, l41, l42, l43, l44, l45, l46, l47, l48, l49, l50, l51, l52, l53, l54, l55, l56, l57, l58, l59, l60, l61, l62, l63, l64, l65, l66, l67, l68, l69, l70, l71, l72, l73, l74, l75, l76, l77, l78, l79, l80, l81, l82, l83, l84, l85, l86, l87, l88, l89, l90, l91, l92, l93, l94, l95, l96, l97, l98, l99, l100, l101, l102, l103, l104, l105, l106, l107, l108, l109, l110, l111, l112, l113, l114, l115, l116, l117, l118, l119, l120, l121, l122, l123, l124, l125, l126, l127, l128, l129, l130, l131, l132, l133, l134, l135, l136, l137, l138, l139, l140, l141, l142, l143, l144, l145, l146, l147, l148, l149, l150, l151, l152, l153, l154, l155, l156, l157, l158, l159, l160, l161, l162, l163, l164, l165, l166, l167, l168, l169, l170, l171, l172, l173, l174, l175, l176, l177, l178, l179, l180, l181, l182, l183, l184, l185, l186, l187, l188, l189, l190, l191, l192, l193, l194], defers := [] } w0 := by
 refine rv21 (wA := wA) (g := g) (ao := ao) (n := n) (cap := cap) (cs := cs) (gr := gr) (c := c) (cp := cp) (k := k) hgA hk kI rfl rfl rfl hS ?_
 rintro ⟨tm, df⟩ W hz hdf hoff hV _ S7
 simp only at hz hdf hoff hV
 subst hdf
 obtain ⟨gt, p, q, e9, n1, n2, X⟩ : ∃ (gt : Nat) (p q : Int), tm.getD 9 undef = .pointer (some ⟨gt, 0, none⟩) ∧ wA.heap.size + 1 ≤ gt ∧ gt ≠ gr ∧ Blk W gt [.int .i64 p, .int .i64 q] := hV
 have htm := tmps_fold [154, 155, 156, 157, 9] tm _ hz hoff
 simp only [List.foldl, List.setIfInBounds_toArray, List.set_cons_zero, List.set_cons_succ, e9] at htm
 clear hz hoff
 generalize tm.getD 154 undef = tz154, tm.getD 155 undef = tz155, tm.getD 156 undef = tz156, tm.getD 157 undef = tz157 at htm
 subst htm
 exact hQ tz154 tz155 tz156 tz157 gt W n1 n2 ⟨p, q, X⟩ S7
set_option maxRecDepth 100000 in
set_option maxHeartbeats 8000000 in
theorem rvl22 {Q : Exit → Act → World → Prop} {wA : World} {g : Nat} {ao : Option Addr} {n cap : Nat} {cs : List Int} {gr c cp k : Nat} {m gt : Nat} {w0 : World} {idq : Nat} {t0 t1 t2 t3 t4 t5 t6 t7 t8 t9 t10 t11 : TypeId} {q0 q1 q2 q3 q4 q5 q6 q7 q8 q9 q10 q11 : String} {l0 l1 l2 l3 l4 l5 l6 l9 l10 l11 l12 l13 l14 l15 l16 l17 l18 l19 l20 l21 l22 l23 l24 l25 l26 l27 l28 l29 l30 l31 l32 l33 l34 l35 l36 l37 l38 l39 l40 l41 l42 l43 l44 l45 l46 l47 l48 l49 l50 l51 l52 l53 l54 l55 l56 l57 l58 l59 l60 l61 l62 l63 l64 l65 l66 l67 l68 l69 l70 l71 l72 l73 l74 l75 l76 l77 l78 l79 l80 l81 l82 l83 l84 l85 l86 l87 l88 l89 l90 l91 l92 l93 l94 l95 l96 l97 l98 l99 l100 l101 l102 l103 l104 l105 l106 l107 l108 l109 l110 l111 l112 l113 l114 l115 l116 l117 l118 l119 l120 l121 l122 l123 l124 l125 l126 l127 l128 l129 l130 l131 l132 l133 l134 l135 l136 l137 l138 l139 l140 l141 l142 l143 l144 l145 l146 l147 l148 l149 l150 l151 l152 l153 l154 l155 l156 l157 l158 l159 l160 l161 l162 l163 l164 l165 l166 l167 l168 l169 l170 l171 l172 l173 l174 l175 l176 l177 l178 l179 l180 l181 l182 l183 l184 l185 l186 l187 l188 l189 l190 l191 l192 l193 l194 : Value} (hgA : g < wA.heap.size) (hb : wA.heap.size + 1 ≤ gr) (hk : k < c) (hm : m < c) (kI : (k : Int) < (c : Int)) (mI : (m : Int) < (c : Int)) (hmI : IntKind.i64.wrap (IntKind.i64.wrap ((c : Int) - 1) - (k : Int)) = (m : Int)) (gtr : gt ≠ gr) (hS : RnSt wA w0 g ao n cap cs (.slice (some ⟨gr, 0, none⟩) c cp) c ∧ ∃ p q : Int, Blk w0 gt [.int .i64 p, .int .i64 q])
   (hQ : ∀ (z158 z159 z160 z161 z162 z163 z164 z165 z166 z167 z168 : Value) (W : World), (RnSt wA W g ao n cap cs (.slice (some ⟨gr, 0, none⟩) c cp) c ∧ ∃ p q : Int, Blk W gt [.int .i64 p, .int .i64 q]) → Q .normal { tmps := #[l0, l1, l2, l3, l4, l5, l6, .slice (some ⟨gr, 0, none⟩) c cp, .int .i64 (k : Nat), l9, l10, l11, l12, l13, l14, l15, l16, l17, l18, l19, l20, l21, l22, l23, l24, l25, l26, l27, l28, l29, l30, l31, l32, l33, l34, l35, l36, l37, l38, l39, l40, l41, l42, l43, l44, l45, l46, l47, l48, l49, l50, l51, l52, l53, l54, l55, l56, l57, l58, l59, l60, l61, l62, l63, l64, l65, l66, l67, l68, l69, l70, l71, l72, l73, l74, l75, l76, l77, l78, l79, l80, l81, l82, l83, l84, l85, l86, l87, l88, l89, l90, l91, l92, l93, l94, l95, l96, l97, l98, l99, l100, l101, l102, l103, l104, l105, l106, l107, l108, l109, l110, l111, l112, l113, l114, l115, l116, l117, l118, l119, l120, l121, l122, l123, l124, l125, l126, l127, l128, l129, l130, l131, l132, l133, l134, l135, l136, l137, l138, l139, l140, l141, l142, l143, l144, l145, l146, l147, l148, l149, l150, l151, l152, l153, l154, l155, l156, l157, z158, z159, z160, z161, z162, z163, z164, z165, z166, z167, z168, l169, l170, l171, l172, l173, l174, l175, l176, l177, l178, l179, l180, l181, l182, l183, l184, l185, l186, l187, l188, l189, l190, l191, l192, l193, l194], defers := [] } W) :
   (Code.region idq #[{ dst := some 158, op := Op.move (Operand.tmp 7), type := t0, pos := q0, after := #[], guard := none },
   { dst := some 159, op := Op.move (Operand.tmp 8), type := t1, pos := q1, after := #[], guard := none },
   { dst := some 160, op := Op.move (Operand.tmp 7), type := t2, pos := q2, after := #[], guard := none },
   { dst := some 161, op := Op.move (Operand.tmp 7), type := t3, pos := q3, after := #[], guard := none },
   { dst := some 162, op := Op.call { callee := Callee.builtin Builtin.len, args := #[Operand.tmp 161], argTypes := #[55] }, type := t4, pos := q4, after := #[{ on := 3, ground := Ground.data }], guard := none },
   { dst := some 163, op := Op.binOp BinOp.sub 3 (Operand.tmp 162) (Operand.const (Value.int IntKind.i64 1)) 3, type := t5, pos := q5, after := #[{ on := 4, ground := Ground.data }], guard := none },
   { dst := some 164, op := Op.move (Operand.tmp 8), type := t6, pos := q6, after := #[], guard := none },
   { dst := some 165, op := Op.binOp BinOp.sub 3 (Operand.tmp 163) (Operand.tmp 164) 3, type := t7, pos := q7, after := #[{ on := 5, ground := Ground.data }, { on := 6, ground := Ground.data }], guard := none },
   { dst := some 166, op := Op.indexAddr 55 (Operand.tmp 160) (Operand.tmp 165), type := t8, pos := q8, after := #[{ on := 2, ground := Ground.data }, { on := 7, ground := Ground.data }], guard := none },
   { dst := some 167, op := Op.load 51 (Operand.tmp 166), type := t9, pos := q9, after := #[{ on := 8, ground := Ground.data }], guard := none },
   { dst := some 168, op := Op.indexAddr 55 (Operand.tmp 158) (Operand.tmp 159), type := t10, pos := q10, after := #[{ on := 0, ground := Ground.data }, { on := 1, ground := Ground.data }, { on := 0, ground := Ground.phase }, { on := 1, ground := Ground.phase }, { on := 2, ground := Ground.phase }, { on := 3, ground := Ground.phase }, { on := 4, ground := Ground.phase }, { on := 5, ground := Ground.phase }, { on := 6, ground := Ground.phase }, { on := 7, ground := Ground.phase }, { on := 8, ground := Ground.phase }, { on := 9, ground := Ground.phase }], guard := none },
   { dst := none, op := Op.store 51 (Operand.tmp 168) (Operand.tmp 167), type := t11, pos := q11, after := #[{ on := 10, ground := Ground.data }, { on := 9, ground := Ground.data }, { on := 0, ground := Ground.phase }, { on := 1, ground := Ground.phase }, { on := 2, ground := Ground.phase }, { on := 3, ground := Ground.phase }, { on := 4, ground := Ground.phase }, { on := 5, ground := Ground.phase }, { on := 6, ground := Ground.phase }, { on := 7, ground := Ground.phase }, { on := 8, ground := Ground.phase }, { on := 9, ground := Ground.phase }], guard := none }] false).wp Tryz.prog Q { tmps := #[l0, l1, l2, l3, l4, l5, l6, .slice (some ⟨gr, 0, none⟩) c cp, .int .i64 (k : Nat), l9, l10, l11, l12, l13, l14, l15, l16, l17, l18, l19, l20, l21, l22, l23, l24, l25, l26, l27, l28, l29, l30, l31, l32, l33, l34, l35, l36, l37, l38, l39, l40, l41, l42, l43, l44, l45, l46, l47, l48, l49, l50, l51, l52, l53, l54, l55, l56, l57, l58, l59, l60, l61, l62, l63, l64, l65, l66, l67, l68, l69, l70, l71, l72, l73, l74, l75, l76, l77, l78, l79, l80, l81, l82, l83, l84, l85, l86, l87, l88, l89, l90, l91, l92, l93, l94, l95, l96, l97, l98, l99, l100, l101, l102, l103, l104, l105, l106, l107, l108, l109, l110, l111, l112, l113, l114, l115, l116, l117, l118, l119, l120, l121, l122, l123, l124, l125, l126, l127, l128, l129, l130, l131, l132, l133, l134, l135, l136, l137, l138, l139, l140, l141, l142, l143, l144, l145, l146, l147, l148, l149, l150, l151, l152, l153, l154, l155, l156, l157, l158, l159, l160, l161, l162, l163, l164, l165, l166, l167, l168, l169, l170, l171, l172, l173, l174, l175, l176, l177, l178, l179, l180, l181, l182, l183, l184, l185, l186, l187, l188, l189, l190, l191, l192, l193, l194], defers := [] } w0 := by
 refine rv22 (wA := wA) (g := g) (ao := ao) (n := n) (cap := cap) (cs := cs) (gr := gr) (c := c) (cp := cp) (k := k) (m := m) (gt := gt) hgA hb hk hm kI mI hmI gtr rfl rfl rfl hS ?_
 rintro ⟨tm, df⟩ W hz hdf hoff _ S7
 simp only at hz hdf hoff
 subst hdf
 have htm := tmps_fold [158, 159, 160, 161, 162, 163, 164, 165, 166, 167, 168] tm _ hz hoff
 simp only [List.foldl, List.setIfInBounds_toArray, List.set_cons_zero, List.set_cons_succ] at htm
 clear hz hoff
 generalize tm.getD 158 undef = tz158, tm.getD 159 undef = tz159, tm.getD 160 undef = tz160, tm.getD 161 undef = tz161, tm.getD 162 undef = tz162, tm.getD 163 undef = tz163, tm.getD 164 undef = tz164, tm.getD 165 undef = tz165, tm.getD 166 undef = tz166, tm.getD 167 undef = tz167, tm.getD 168 undef = tz168 at htm
 subst htm
 exact hQ tz158 tz159 tz160 tz161 tz162 tz163 tz164 tz165 tz166 tz167 tz168 W S7
set_option maxRecDepth 100000 in
set_option maxHeartbeats 8000000 in
theorem rvl23 {Q : Exit → Act → World → Prop} {wA : World} {g : Nat} {ao : Option Addr} {n cap : Nat} {cs : List Int} {gr c cp k : Nat} {m gt : Nat} {w0 : World} {idq : Nat} {t0 t1 t2 t3 t4 t5 t6 t7 t8 : TypeId} {q0 q1 q2 q3 q4 q5 q6 q7 q8 : String} {l0 l1 l2 l3 l4 l5 l6 l10 l11 l12 l13 l14 l15 l16 l17 l18 l19 l20 l21 l22 l23 l24 l25 l26 l27 l28 l29 l30 l31 l32 l33 l34 l35 l36 l37 l38 l39 l40 l41 l42 l43 l44 l45 l46 l47 l48 l49 l50 l51 l52 l53 l54 l55 l56 l57 l58 l59 l60 l61 l62 l63 l64 l65 l66 l67 l68 l69 l70 l71 l72 l73 l74 l75 l76 l77 l78 l79 l80 l81 l82 l83 l84 l85 l86 l87 l88 l89 l90 l91 l92 l93 l94 l95 l96 l97 l98 l99 l100 l101 l102 l103 l104 l105 l106 l107 l108 l109 l110 l111 l112 l113 l114 l115 l116 l117 l118 l119 l120 l121 l122 l123 l124 l125 l126 l127 l128 l129 l130 l131 l132 l133 l134 l135 l136 l137 l138 l139 l140 l141 l142 l143 l144 l145 l146 l147 l148 l149 l150 l151 l152 l153 l154 l155 l156 l157 l158 l159 l160 l161 l162 l163 l164 l165 l166 l167 l168 l169 l170 l171 l172 l173 l174 l175 l176 l177 l178 l179 l180 l181 l182 l183 l184 l185 l186 l187 l188 l189 l190 l191 l192 l193 l194 : Value} (hgA : g < wA.heap.size) (hb : wA.heap.size + 1 ≤ gr) (hm : m < c) (mI : (m : Int) < (c : Int)) (hmI : IntKind.i64.wrap (IntKind.i64.wrap ((c : Int) - 1) - (k : Int)) = (m : Int)) (gtr : gt ≠ gr) (hS : RnSt wA w0 g ao n cap cs (.slice (some ⟨gr, 0, none⟩) c cp) c ∧ ∃ p q : Int, Blk w0 gt [.int .i64 p, .int .i64 q])
   (hQ : ∀ (z169 z170 z171 z172 z173 z174 z175 z176 : Value) (W : World), (RnSt wA W g ao n cap cs (.slice (some ⟨gr, 0, none⟩) c cp) c ∧ ∃ p q : Int, Blk W gt [.int .i64 p, .int .i64 q]) → Q .normal { tmps := #[l0, l1, l2, l3, l4, l5, l6, .slice (some ⟨gr, 0, none⟩) c cp, .int .i64 (k : Nat), .pointer (some ⟨gt, 0, none⟩), l10, l11, l12, l13, l14, l15, l16, l17, l18, l19, l20, l21, l22, l23, l24, l25, l26, l27, l28, l29, l30, l31, l32, l33, l34, l35, l36, l37, l38, l39, l40, l41, l42, l43, l44, l45, l46, l47, l48, l49, l50, l51, l52, l53, l54, l55, l56, l57, l58, l59, l60, l61, l62, l63, l64, l65, l66, l67, l68, l69, l70, l71, l72, l73, l74, l75, l76, l77, l78, l79, l80, l81, l82, l83, l84, l85, l86, l87, l88, l89, l90, l91, l92, l93, l94, l95, l96, l97, l98, l99, l100, l101, l102, l103, l104, l105, l106, l107, l108, l109, l110, l111, l112, l113, l114, l115, l116, l117, l118, l119, l120, l121, l122, l123, l124, l125, l126, l127, l128, l129, l130, l131, l132, l133, l134, l135, l136, l137, l138, l139, l140, l141, l142, l143, l144, l145, l146, l147, l148, l149, l150, l151, l152, l153, l154, l155, l156, l157, l158, l159, l160, l161, l162, l163, l164, l165, l166, l167, l168, z169, z170, z171, z172, z173, z174, z175, z176, l177, l178, l179, l180, l181, l182, l183, l184, l185, l186, l187, l188, l189, l190, l191, l192, l193, l194], defers := [] } W) :
   (Code.region idq #[{ dst := some 169, op := Op.move (Operand.tmp 7), type := t0, pos := q0, after := #[], guard := none },
   { dst := some 170, op := Op.move (Operand.tmp 7), type := t1, pos := q1, after := #[], guard := none },
   { dst := some 171, op := Op.call { callee := Callee.builtin Builtin.len, args := #[Operand.tmp 170], argTypes := #[55] }, type := t2, pos := q2, after := #[{ on := 1, ground := Ground.data }], guard := none },
   { dst := some 172, op := Op.binOp BinOp.sub 3 (Operand.tmp 171) (Operand.const (Value.int IntKind.i64 1)) 3, type := t3, pos := q3, after := #[{ on := 2, ground := Ground.data }], guard := none },
   { dst := some 173, op := Op.move (Operand.tmp 8), type := t4, pos := q4, after := #[], guard := none },
   { dst := some 174, op := Op.binOp BinOp.sub 3 (Operand.tmp 172) (Operand.tmp 173) 3, type := t5, pos := q5, after := #[{ on := 3, ground := Ground.data }, { on := 4, ground := Ground.data }], guard := none },
   { dst := some 175, op := Op.load 51 (Operand.tmp 9), type := t6, pos := q6, after := #[], guard := none },
   { dst := some 176, op := Op.indexAddr 55 (Operand.tmp 169) (Operand.tmp 174), type := t7, pos := q7, after := #[{ on := 0, ground := Ground.data }, { on := 5, ground := Ground.data }, { on := 0, ground := Ground.phase }, { on := 1, ground := Ground.phase }, { on := 2, ground := Ground.phase }, { on := 3, ground := Ground.phase }, { on := 4, ground := Ground.phase }, { on := 5, ground := Ground.phase }, { on := 6, ground := Ground.phase }], guard := none },
   { dst := none, op := Op.store 51 (Operand.tmp 176) (Operand.tmp 175), type := t8, pos := q8, after := #[{ on := 7, ground := Ground.data }, { on := 6, ground := Ground.data }, { on := 0, ground := Ground.phase }, { on := 1, ground := Ground.phase }, { on := 2, ground := Ground.phase }, { on := 3, ground := Ground.phase }, { on := 4, ground := Ground.phase }, { on := 5, ground := Ground.phase }, { on := 6, ground := Ground.phase }], guard := none }] false).wp Tryz.prog Q { tmps := #[l0, l1, l2, l3, l4, l5, l6, .slice (some ⟨gr, 0, none⟩) c cp, .int .i64 (k : Nat), .pointer (some ⟨gt, 0, none⟩), l10, l11, l12, l13, l14, l15, l16, l17, l18, l19, l20, l21, l22, l23, l24, l25, l26, l27, l28, l29, l30, l31, l32, l33, l34, l35, l36, l37, l38, l39, l40, l41, l42, l43, l44, l45, l46, l47, l48, l49, l50, l51, l52, l53, l54, l55, l56, l57, l58, l59, l60, l61, l62, l63, l64, l65, l66, l67, l68, l69, l70, l71, l72, l73, l74, l75, l76, l77, l78, l79, l80, l81, l82, l83, l84, l85, l86, l87, l88, l89, l90, l91, l92, l93, l94, l95, l96, l97, l98, l99, l100, l101, l102, l103, l104, l105, l106, l107, l108, l109, l110, l111, l112, l113, l114, l115, l116, l117, l118, l119, l120, l121, l122, l123, l124, l125, l126, l127, l128, l129, l130, l131, l132, l133, l134, l135, l136, l137, l138, l139, l140, l141, l142, l143, l144, l145, l146, l147, l148, l149, l150, l151, l152, l153, l154, l155, l156, l157, l158, l159, l160, l161, l162, l163, l164, l165, l166, l167, l168, l169, l170, l171, l172, l173, l174, l175, l176, l177, l178, l179, l180, l181, l182, l183, l184, l185, l186, l187, l188, l189, l190, l191, l192, l193, l194], defers := [] } w0 := by
 refine rv23 (wA := wA) (g := g) (ao := ao) (n := n) (cap := cap) (cs := cs) (gr := gr) (c := c) (cp := cp) (k := k) (m := m) (gt := gt) hgA hb hm mI hmI gtr rfl rfl rfl rfl hS ?_
 rintro ⟨tm, df⟩ W hz hdf hoff _ S7
 simp only at hz hdf hoff
 subst hdf
 have htm := tmps_fold [169, 170, 171, 172, 173, 174, 175, 176] tm _ hz hoff
 simp only [List.foldl, List.setIfInBounds_toArray, List.set_cons_zero, List.set_cons_succ] at htm
 clear hz hoff
 generalize tm.getD 169 undef = tz169, tm.getD 170 undef = tz170, tm.getD 171 undef = tz171, tm.getD 172 undef = tz172, tm.getD 173 undef = tz173, tm.getD 174 undef = tz174, tm.getD 175 undef = tz175, tm.getD 176 undef = tz176 at htm
 subst htm
 exact hQ tz169 tz170 tz171 tz172 tz173 tz174 tz175 tz176 W S7
def dropSeq : Nat → Go.Code → Go.Code
 | 0, c => c
 | k + 1, .seq _ b => dropSeq k b
 | _ + 1, c => c
set_option maxRecDepth 100000 in
set_option maxHeartbeats 16000000 in
theorem ringTail_any {g : Nat} {ao : Option Addr} {n cap : Nat} {cs : List Int} {w wc : World} {u1 u3 u4 u5 u6 u7 u8 u9 u10 u11 u12 u13 u14 u15 u16 u17 u18 u19 u20 u21 u22 u23 u24 u25 u26 u27 u28 u29 u30 u31 u32 u33 u34 u35 u36 u37 u38 u39 u40 u41 u42 u43 u44 u45 u46 u47 u48 u49 u50 u51 u52 u53 u54 u55 u56 u57 u58 u59 u60 u61 u62 u63 u64 u65 u66 u67 u68 u69 u70 u71 u72 u73 u74 u75 u76 u77 u78 u79 u80 u81 u82 u83 u84 u85 u86 u87 u88 u89 u90 u91 u92 u93 u94 u95 u96 u97 u98 u99 u100 u101 u102 u103 u104 u105 u106 u107 u108 u109 u110 u111 u112 u113 u114 u115 u116 u117 u118 u119 u120 u121 u122 u123 u124 u125 u126 u127 u128 u129 u130 u131 u132 u133 u134 u135 u136 u137 u138 u139 u140 u141 u142 u143 u144 u145 u146 u147 u148 u149 u150 u151 u152 u153 u154 u155 u156 u157 u158 u159 u160 u161 u162 u163 u164 u165 u166 u167 u168 u169 u170 u171 u172 u173 u174 u175 u176 u177 u178 u179 u180 u181 u182 u183 u184 u185 u186 u187 u188 u189 u190 u191 u192 u193 u194 : Value} (hg : g < w.heap.size) (c : Nat) (c3 : 3 ≤ c) (c6 : c ≤ 6) (S : RnSt w wc g ao n cap cs u7 c) :
   (dropSeq 7 ((Tryz.f76.body).getD Go.Code.skip)).wp Tryz.prog (bodyPost Tryz.prog Tryz.f76 (RngP g ao n cap cs w)) { tmps := #[.pointer (some ⟨g, 0, none⟩), u1, .pointer (some ⟨w.heap.size, 0, none⟩), u3, u4, u5, u6, u7, u8, u9, u10, u11, u12, u13, u14, u15, u16, u17, u18, u19, u20, u21, u22, u23, u24, u25, u26, u27, u28, u29, u30, u31, u32, u33, u34, u35, u36, u37, u38, u39, u40, u41, u42, u43, u44, u45, u46, u47, u48, u49, u50, u51, u52, u53, u54, u55, u56, u57, u58, u59, u60, u61, u62, u63, u64, u65, u66, u67, u68, u69, u70, u71, u72, u73, u74, u75, u76, u77, u78, u79, u80, u81, u82, u83, u84, u85, u86, u87, u88, u89, u90, u91, u92, u93, u94, u95, u96, u97, u98, u99, u100, u101, u102, u103, u104, u105, u106, u107, u108, u109, u110, u111, u112, u113, u114, u115, u116, u117, u118, u119, u120, u121, u122, u123, u124, u125, u126, u127, u128, u129, u130, u131, u132, u133, u134, u135, u136, u137, u138, u139, u140, u141, u142, u143, u144, u145, u146, u147, u148, u149, u150, u151, u152, u153, u154, u155, u156, u157, u158, u159, u160, u161, u162, u163, u164, u165, u166, u167, u168, u169, u170, u171, u172, u173, u174, u175, u176, u177, u178, u179, u180, u181, u182, u183, u184, u185, u186, u187, u188, u189, u190, u191, u192, u193, u194], defers := [] } wc := by
 generalize hF : bodyPost Tryz.prog Tryz.f76 (RngP g ao n cap cs w) = Q0
 simp only [Tryz.f76, Option.getD_some, dropSeq]
 subst hF
 go_upto_region 17 with fail
 go_cut [146] (fun pv wx => (∃ b : Bool, pv = .bool b) ∧ RnSt w wx g ao n cap cs u7 c)
 case first =>
   go_wp2_with fail
   refine (once_any 6 (by decide) (by decide) g ao n cap cs _ S.2.1).mono ?_
   rintro e w5 ⟨_, rfl, ⟨b, rfl⟩, R1, K1⟩
   replace S := S.kept hg R1 K1
   clear R1 K1
   go_wp2
   go_meet
   case rel => exact ⟨⟨b, rfl⟩, S⟩
 case rest =>
   clear S
   obtain ⟨⟨b, rfl⟩, S⟩ := hcut
   rename ∀ (a : Act) (w_1 : World), Code.wp _ _ _ _ _ → _ => hk
   refine hk _ _ ?_
   clear hk
   go_cut [] (fun wx => RnSt w wx g ao n cap cs u7 c)
   case first =>
     cases b
     · go_wp2
       go_meet
       case rel => exact S
     · obtain ⟨⟨L, O⟩, R, K, B⟩ := S
       obtain ⟨g', cap', rfl, hb, hcc, hmx⟩ := ownG_form O (by omega)
       have hq : ((c : Int)).tdiv 2 = ((c / 2 : Nat) : Int) := by rw [Int.tdiv_eq_ediv_of_nonneg (by omega)]; omega
       have hqe : (c : Int) / 2 = ((c / 2 : Nat) : Int) := by omega
       have HQ : Hid (c / 2 * 2 ≤ c) := by show _ ≤ _; omega
       generalize c / 2 = h2 at *
       have S : RnSt w wc g ao n cap cs (.slice (some ⟨g', 0, none⟩) c cap') c := ⟨⟨L, O⟩, R, K, B⟩
       clear O R K B
       go_wp2_with fail
       go_loopw [8] (fun i wr => ∃ k : Nat, k ≤ h2 ∧ i = .int .i64 k ∧ RnSt w wr g ao n cap cs (.slice (some ⟨g', 0, none⟩) c cap') c) (fun i _ => h2 - (intOf i).toNat)
       case atStart => exact ⟨0, by omega, rfl, S⟩
       case round =>
         clear S
         obtain ⟨k, hk, rfl, S⟩ := hrel
         by_cases hkn : k < h2
         · have hq2 := HQ.out
           have hkI : (k : Int) < h2 := by omega
           obtain ⟨m, hm⟩ : ∃ m : Nat, m = c - 1 - k := ⟨_, rfl⟩
           have w1 : IntKind.i64.wrap ((c : Int) - 1) = (c : Int) - 1 := by rw [IntKind.wrap_i64]; omega
           have hmI : IntKind.i64.wrap (IntKind.i64.wrap ((c : Int) - 1) - (k : Int)) = (m : Int) := by rw [w1, IntKind.wrap_i64]; omega
           have hmc : m < c := by omega
           have hkc : k < c := by omega
           clear hm hq2 w1
           go_upto_region 21 with fail
           refine rvl21 (wA := w) (g := g) (ao := ao) (n := n) (cap := cap) (cs := cs) (gr := g') (c := c) (cp := cap') (k := k) hg hkc (by omega) S ?_
           intro z154 z155 z156 z157 gt W1 n1 n2 T S1
           clear S
           go_upto_region 22 with fail
           refine rvl22 (wA := w) (g := g) (ao := ao) (n := n) (cap := cap) (cs := cs) (gr := g') (c := c) (cp := cap') (k := k) (m := m) (gt := gt) hg hb hkc hmc (by omega) (by omega) hmI n2 ⟨S1, T⟩ ?_
           intro z158 z159 z160 z161 z162 z163 z164 z165 z166 z167 z168 W2 S2
           clear S1 T
           go_upto_region 23 with fail
           refine rvl23 (wA := w) (g := g) (ao := ao) (n := n) (cap := cap) (cs := cs) (gr := g') (c := c) (cp := cap') (k := k) (m := m) (gt := gt) hg hb hmc (by omega) hmI n2 S2 ?_
           intro z169 z170 z171 z172 z173 z174 z175 z176 W3 S3
           clear S2
           go_wp2
           go_roundw
           case rel => exact ⟨k + 1, by omega, by go_num, S3.1⟩
           case measure => simp [intOf]; omega
         · obtain rfl : k = h2 := by omega
           go_wp2
           go_meet
           case rel => exact S
   case rest =>
     clear S
     have S := hcut
     clear hcut
     go_upto_region 24 with fail
     go_cut [178] (fun pv wx => (∃ b : Bool, pv = .bool b) ∧ RnSt w wx g ao n cap cs u7 c)
     case first =>
       go_wp2_with fail
       refine (once_any 40 (by decide) (by decide) g ao n cap cs _ S.2.1).mono ?_
       rintro e w5 ⟨_, rfl, ⟨b, rfl⟩, R1, K1⟩
       replace S := S.kept hg R1 K1
       clear R1 K1
       go_wp2
       go_meet
       case rel => exact ⟨⟨b, rfl⟩, S⟩
     case rest =>
       clear S
       obtain ⟨⟨b, rfl⟩, S⟩ := hcut
       rename ∀ (a : Act) (w_1 : World), Code.wp _ _ _ _ _ → _ => hk
       refine hk _ _ ?_
       clear hk
       go_cut [] (fun wx => RnSt w wx g ao n cap cs u7 c)
       case first =>
         cases b
         · go_wp2
           go_meet
           case rel => exact S
         · obtain ⟨⟨L, O⟩, R, K, B⟩ := S
           obtain ⟨g', cap', rfl, hb, hcc, hmx⟩ := ownG_form O (by omega)
           have S : RnSt w wc g ao n cap cs (.slice (some ⟨g', 0, none⟩) c cap') c := ⟨⟨L, O⟩, R, K, B⟩
           clear O R K B
           go_wp2_with fail
           refine (below_any (c : Int) (by omega) (by omega) g ao n cap cs _ S.2.1).mono ?_
           rintro e w6 ⟨_, rfl, ⟨jz, rfl, j0, j1⟩, R1, K1⟩
           replace S := S.kept hg R1 K1
           clear R1 K1
           obtain ⟨j, rfl⟩ := Int.eq_ofNat_of_zero_le j0
           go_wp2_with fail
           refine (off_any g ao n cap cs _ S.2.1).mono ?_
           rintro e w7 ⟨_, rfl, ⟨oz, rfl, _, _⟩, R1, K1⟩
           replace S := S.kept hg R1 K1
           clear R1 K1
           obtain ⟨⟨L, O⟩, R, K, B⟩ := S
           have hgl : g' < w7.heap.size := (O.lt g' rfl).2
           obtain ⟨a1, b1, p0, f0, p1, f1⟩ := O.two (i := j) (by omega)
           have S : RnSt w w7 g ao n cap cs (.slice (some ⟨g', 0, none⟩) c cap') c := ⟨⟨L, O⟩, R, K, B⟩
           clear O R K B
           go_wp2
           go_meet
           case rel => exact S.set hb hg _ _
       case rest =>
         clear S
         have S := hcut
         clear hcut
         go_upto_region 26 with fail
         go_cut [189] (fun pv wx => (∃ b : Bool, pv = .bool b) ∧ RnSt w wx g ao n cap cs u7 c)
         case first =>
           go_wp2_with fail
           refine (once_any 40 (by decide) (by decide) g ao n cap cs _ S.2.1).mono ?_
           rintro e w5 ⟨_, rfl, ⟨b, rfl⟩, R1, K1⟩
           replace S := S.kept hg R1 K1
           clear R1 K1
           go_wp2
           go_meet
           case rel => exact ⟨⟨b, rfl⟩, S⟩
         case rest =>
           clear S
           obtain ⟨⟨b, rfl⟩, S⟩ := hcut
           rename ∀ (a : Act) (w_1 : World), Code.wp _ _ _ _ _ → _ => hk
           refine hk _ _ ?_
           clear hk
           go_cut [7] (fun pv wx => ∃ d : Nat, 3 ≤ d ∧ d ≤ 12 ∧ RnSt w wx g ao n cap cs pv d)
           case first =>
             cases b
             · go_wp2
               go_meet
               case rel => exact ⟨c, by omega, by omega, S⟩
             · obtain ⟨i0, hi, hz0, hz1, hz2⟩ := info_parts Tryz.infoSpotR
               obtain ⟨⟨L, O⟩, R, K, B⟩ := S
               obtain ⟨g', cap', rfl, hb, hcc, hmx⟩ := ownG_form O (by omega)
               have hbl := B.lt
               have hks := K.size
               go_wp2_with (at_builtin; refine wpList_append_own _ rfl _ _ 55 rfl (w.heap.size + 1) 51 i0 (.agg #[.int .i64 0, .int .i64 0]) 2 16 Tryz.underlying55 hi hz0 hz1 hz2 rfl (by decide) _ _ _ rfl O ⟨g', 0, none⟩ c cap' (L.map (Value.int .i64)) rfl (by rw [List.length_map, SpRow.len O]) (rn_news O) (rn_oneU L) (by unfold maxLen; omega) (by omega) (by omega) ?_)
               intro v' w6 ho2 hgr _
               have S : RnSt w w6 g ao n cap cs v' (c + c) := ⟨⟨L ++ L, by unfold SpRow; rw [List.map_append]; exact ho2⟩, rdr_grown R hgr (fun k hk => by have := (O.lt k hk).1; omega), kept_grown K hgr (fun k hk => by have := (O.lt k hk).1; omega), blk_grown B hgr (fun e => by have := (O.lt _ e.symm).1; omega)⟩
               clear O R K B hgr ho2
               go_wp2
               go_meet
               case rel => exact ⟨c + c, by omega, by omega, S⟩
           case rest =>
             clear S
             obtain ⟨d, d3, d12, S⟩ := hcut
             obtain ⟨⟨L, O⟩, R, K, B⟩ := S
             obtain ⟨g', cap', rfl, hb, hcc, hmx⟩ := ownG_form O (by omega)
             have r0 := B.c 0 rfl; have rf := B.f 0 rfl; have hbl := B.lt
             have O2 : SpRow (wc.setCell ⟨w.heap.size, 0, none⟩ (.slice (some ⟨g', 0, none⟩) d cap')) w.heap.size (.slice (some ⟨g', 0, none⟩) d cap') d L := ownG_mono (ownG_setO O (by show w.heap.size < w.heap.size + 1; omega) _) (by omega)
             have R2 := rdr_below R ((Below.refl w.heap.size wc).setCell (p := ⟨w.heap.size, 0, none⟩) (Nat.le_refl _) (.slice (some ⟨g', 0, none⟩) d cap')) hg
             have K2 : Kept g w (wc.setCell ⟨w.heap.size, 0, none⟩ (.slice (some ⟨g', 0, none⟩) d cap')) := kept_setO K hg
             have HH : Hid (SpRow (wc.setCell ⟨w.heap.size, 0, none⟩ (.slice (some ⟨g', 0, none⟩) d cap')) w.heap.size (.slice (some ⟨g', 0, none⟩) d cap') d L ∧ Rdr (wc.setCell ⟨w.heap.size, 0, none⟩ (.slice (some ⟨g', 0, none⟩) d cap')) g ao n cap cs ∧ Kept g w (wc.setCell ⟨w.heap.size, 0, none⟩ (.slice (some ⟨g', 0, none⟩) d cap'))) := ⟨O2, R2, K2⟩
             clear O R K B O2 R2 K2
             go_wp2
             refine bodyPost_ret (v := .agg #[.slice (some ⟨g', 0, none⟩) d cap']) (by simp [results, Tryz.results76, go_sem, r0]) rfl ?_
             exact ⟨_, d, L, rfl, d3, d12, HH.out⟩
set_option maxRecDepth 100000 in
set_option maxHeartbeats 16000000 in
theorem ring_any (g : Nat) (ao : Option Addr) (n cap : Nat) (cs : List Int) (w : World) (R : Rdr w g ao n cap cs) :
   Calls Tryz.prog 76 #[.pointer (some ⟨g, 0, none⟩)] w (RngP g ao n cap cs w) := by
 have hg := R.lt
 replace R := R.alloc (.cells #[.slice none 0 0] 57)
 have K := (Kept.refl g w).alloc (.cells #[.slice none 0 0] 57)
 have B := Blk.new w [.slice none 0 0] 57 rfl
 go_enter Tryz.func76, Tryz.ntmps76
 go_wp2_with fail
 refine (near_m64 g ao n cap cs _ R).mono ?_
 rintro e w1 ⟨_, rfl, ⟨x, rfl, x0, x1⟩, R1, K1⟩
 replace B := B.kept K1 (by omega)
 replace K := K.trans K1
 clear R K1
 have R := R1
 clear R1
 go_wp2_with fail
 refine (near_m64 g ao n cap cs _ R).mono ?_
 rintro e w2 ⟨_, rfl, ⟨y, rfl, y0, y1⟩, R1, K1⟩
 replace B := B.kept K1 (by omega)
 replace K := K.trans K1
 clear R K1
 have R := R1
 clear R1
 go_wp2_with fail
 refine (near_p06 g ao n cap cs _ R).mono ?_
 rintro e w3 ⟨_, rfl, ⟨s, rfl, s0, s1⟩, R1, K1⟩
 replace B := B.kept K1 (by omega)
 replace K := K.trans K1
 clear R K1
 have R := R1
 clear R1
 go_wp2_with fail
 refine (near_p06 g ao n cap cs _ R).mono ?_
 rintro e w4 ⟨_, rfl, ⟨t, rfl, t0, t1⟩, R1, K1⟩
 replace B := B.kept K1 (by omega)
 replace K := K.trans K1
 clear R K1
 have R := R1
 clear R1
 go_upto_region 5 with fail
 refine rl5 (wA := w) (g := g) (ao := ao) (n := n) (cap := cap) (cs := cs) hg ⟨R, K, B⟩ ?_
 intro tz7 tz20 tz21 tz22 tz23 tz24 tz25 tz26 tz27 tz28 tz29 tz30 tz31 tz32 tz33 tz34 tz35 tz36 tz37 tz38 tz39 tz40 W7 S7
 clear R K B
 go_upto_region 6 with fail
 go_wp2_with fail
 refine (below_any 8 (by decide) (by decide) g ao n cap cs _ S7.2.1).mono ?_
 rintro e w5 ⟨_, rfl, ⟨z, rfl, z0, z1⟩, R1, K1⟩
 replace S7 := S7.kept hg R1 K1
 clear R1 K1
 obtain rfl | rfl | rfl | rfl | rfl | hz : z = 0 ∨ z = 1 ∨ z = 2 ∨ z = 3 ∨ z = 4 ∨ 5 ≤ z := by omega
 · go_upto_region 8 with fail
   refine rl8 (wA := w) (g := g) (ao := ao) (n := n) (cap := cap) (cs := cs) hg S7.2 ?_
   intro tz7 tz45 tz46 tz47 tz48 tz49 tz50 tz51 W8 S8
   clear S7
   rename ∀ (a : Act) (w_1 : World), Code.wp _ _ _ _ _ → _ => hk
   refine hk _ _ ?_
   exact ringTail_any hg 3 (by omega) (by omega) S8
 · go_upto_region 10 with fail
   refine rl10 (wA := w) (g := g) (ao := ao) (n := n) (cap := cap) (cs := cs) hg S7.2 ?_
   intro tz7 tz54 tz55 tz56 tz57 tz58 tz59 tz60 tz61 tz62 tz63 tz64 tz65 tz66 tz67 tz68 tz69 tz70 tz71 tz72 tz73 tz74 tz75 tz76 tz77 tz78 tz79 tz80 tz81 tz82 tz83 tz84 tz85 tz86 tz87 tz88 W8 S8
   clear S7
   rename ∀ (a : Act) (w_1 : World), Code.wp _ _ _ _ _ → _ => hk
   refine hk _ _ ?_
   exact ringTail_any hg 6 (by omega) (by omega) S8
 · go_upto_region 12 with fail
   refine rl12 (wA := w) (g := g) (ao := ao) (n := n) (cap := cap) (cs := cs) hg S7.2 ?_
   intro tz7 tz91 tz92 tz93 tz94 tz95 tz96 tz97 tz98 tz99 W8 S8
   clear S7
   rename ∀ (a : Act) (w_1 : World), Code.wp _ _ _ _ _ → _ => hk
   refine hk _ _ ?_
   exact ringTail_any hg 4 (by omega) (by omega) S8
 · go_upto_region 14 with fail
   refine rl14 (wA := w) (g := g) (ao := ao) (n := n) (cap := cap) (cs := cs) hg S7.2 ?_
   intro tz7 tz102 tz103 tz104 tz105 tz106 tz107 tz108 tz109 tz110 tz111 tz112 tz113 tz114 tz115 tz116 tz117 tz118 W8 S8
   clear S7
   rename ∀ (a : Act) (w_1 : World), Code.wp _ _ _ _ _ → _ => hk
   refine hk _ _ ?_
   exact ringTail_any hg 3 (by omega) (by omega) S8
 · go_upto_region 16 with fail
   refine rl16 (wA := w) (g := g) (ao := ao) (n := n) (cap := cap) (cs := cs) hg S7.2 ?_
   intro tz7 tz121 tz122 tz123 tz124 tz125 tz126 tz127 tz128 tz129 tz130 tz131 tz132 tz133 tz134 tz135 tz136 tz137 tz138 tz139 tz140 tz141 tz142 tz143 tz144 W8 S8
   clear S7
   rename ∀ (a : Act) (w_1 : World), Code.wp _ _ _ _ _ → _ => hk
   refine hk _ _ ?_
   exact ringTail_any hg 4 (by omega) (by omega) S8
 · have e0 : (z == 0) = false := by simp; omega
   have e1 : (z == 1) = false := by simp; omega
   have e2 : (z == 2) = false := by simp; omega
   have e3 : (z == 3) = false := by simp; omega
   have e4 : (z == 4) = false := by simp; omega
   go_upto_region 7 with fail
   rename ∀ (a : Act) (w_1 : World), Code.wp _ (Go.Code.seq _ _) _ _ _ → _ => hk
   have HK := PLift.up hk
   clear hk
   go_wp2_with fail
   refine HK.down _ _ ?_
   exact ringTail_any hg 4 (by omega) (by omega) S7
def psOf (L : List Int) : Ps := fun i => (L.getD (i * 2) 0, L.getD (i * 2 + 1) 0)
theorem psOf_at (L : List Int) (i : Nat) : spW (psOf L) i = L.getD i 0 := by
 rcases Nat.mod_two_eq_zero_or_one i with e | e
 · have := spW0 (psOf L) (i / 2)
   rw [show i / 2 * 2 = i by omega] at this
   rw [this]
   show L.getD (i / 2 * 2) 0 = _
   rw [show i / 2 * 2 = i by omega]
 · have := spW1 (psOf L) (i / 2)
   rw [show i / 2 * 2 + 1 = i by omega] at this
   rw [this]
   show L.getD (i / 2 * 2 + 1) 0 = _
   rw [show i / 2 * 2 + 1 = i by omega]
theorem psOf_cells {L : List Int} {c : Nat} (h : L.length = c * 2) : L.map (Value.int .i64) = spL c (psOf L) := by
 refine List.ext_getElem? fun i => ?_
 by_cases hi : i < c * 2
 · rw [spL_at hi, psOf_at, List.getElem?_map, List.getElem?_eq_getElem (by omega)]
   simp [List.getD_eq_getElem?_getD, List.getElem?_eq_getElem (show i < L.length by omega)]
 · rw [List.getElem?_eq_none (by rw [List.length_map]; omega), List.getElem?_eq_none (by rw [spL_len]; omega)]
theorem SpRow.spots {w : World} {base : Nat} {v : Value} {c : Nat} {L : List Int} (h : SpRow w base v c L) : w.ownsRow base 51 2 v c (spL c (psOf L)) := by
 have hl := h.len
 unfold SpRow at h
 rw [psOf_cells hl] at h
 exact h
end Go.Proofs.YteakhlipmmfilaaGreat
