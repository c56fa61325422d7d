/- Part 13 of the walks that the proof leans on. -/
import Derived.Test.YtniccikkhddofaaGreatPart12
import Derived.Test.YtniccikkhddofaaGreatPart7
import Derived.Test.YtniccikkhddofaaGreatPart10
/- The last regions in which a segment and a point are drawn. -/
namespace Go.Proofs.YtniccikkhddofaaGreat
open Go.RowKit
theorem Rdr.setM {w : World} {g : Nat} {ao : Option Addr} {n cap : Nat} {cs : List Int} (h : Rdr w g ao n cap cs) {p : Addr} (hp : p.block ≠ g) (hc : ∀ i, i < cs.length → ∃ b off, ao = some ⟨b, off, none⟩ ∧ b < p.block) (u : Value) : Rdr (w.setCell p u) g ao n cap cs := by
  obtain ⟨q, hq, B⟩ := h.blk
  refine ⟨⟨q, hq, B.setO (by omega) u⟩, fun i hi => ?_, h.len, h.small, h.byte⟩
  obtain ⟨b, off, e, hb, hc'⟩ := h.bytes i hi
  obtain ⟨b', off', e', hb'⟩ := hc i hi
  rw [e] at e'
  cases e'
  exact ⟨b, off, e, hb, (World.cell?_setCell_other _ _ _ _ (by intro e; rw [e] at hb'; simp at hb')).trans hc'⟩
def VsdR (R0 R1 _A5 _A6 : Nat) (a b c d p q r : Int) (_B : Nat) : Nat → Value → World → Prop
  | 0, v, _ => v = .agg #[.int .i64 a, .int .i64 b, .int .i64 c, .int .i64 d]
  | 1, v, _ => v = .agg #[.int .u64 (ww3 p), .int .u64 (ww2 p), .int .u64 (ww1 p), .int .u64 (ww0 p), .int .u64 (ww3 q), .int .u64 (ww2 q), .int .u64 (ww1 q), .int .u64 (ww0 q), .int .u64 (ww3 r), .int .u64 (ww2 r), .int .u64 (ww1 r), .int .u64 (ww0 r)]
  | 2, _, W => Blk W R0 [.int .i64 a, .int .i64 b, .int .i64 c, .int .i64 d]
  | 3, _, W => Blk W R1 [.int .u64 (ww3 p), .int .u64 (ww2 p), .int .u64 (ww1 p), .int .u64 (ww0 p), .int .u64 (ww3 q), .int .u64 (ww2 q), .int .u64 (ww1 q), .int .u64 (ww0 q), .int .u64 (ww3 r), .int .u64 (ww2 r), .int .u64 (ww1 r), .int .u64 (ww0 r)]
  | _, _, _ => True
theorem VsdR.mono {R0 R1 A5 A6 : Nat} {a b c d p q r : Int} {B j : Nat} {v : Value} {W W2 : World} (hB : Below W.heap.size W W2) (h : VsdR R0 R1 A5 A6 a b c d p q r B j v W) : VsdR R0 R1 A5 A6 a b c d p q r B j v W2 := by
  unfold VsdR at *
  split <;> simp only at h <;> first | exact h | exact h.step hB | trivial
theorem VsdR.put {R0 R1 A5 A6 : Nat} {a b c d p q r : Int} {B j : Nat} {v : Value} {W W2 : World} (h1 : Blk W R1 [.int .u64 (ww3 p), .int .u64 (ww2 p), .int .u64 (ww1 p), .int .u64 (ww0 p), .int .u64 (ww3 q), .int .u64 (ww2 q), .int .u64 (ww1 q), .int .u64 (ww0 q), .int .u64 (ww3 r), .int .u64 (ww2 r), .int .u64 (ww1 r), .int .u64 (ww0 r)] → Blk W2 R1 [.int .u64 (ww3 p), .int .u64 (ww2 p), .int .u64 (ww1 p), .int .u64 (ww0 p), .int .u64 (ww3 q), .int .u64 (ww2 q), .int .u64 (ww1 q), .int .u64 (ww0 q), .int .u64 (ww3 r), .int .u64 (ww2 r), .int .u64 (ww1 r), .int .u64 (ww0 r)]) (h0 : Blk W R0 [.int .i64 a, .int .i64 b, .int .i64 c, .int .i64 d] → Blk W2 R0 [.int .i64 a, .int .i64 b, .int .i64 c, .int .i64 d]) (h : VsdR R0 R1 A5 A6 a b c d p q r B j v W) : VsdR R0 R1 A5 A6 a b c d p q r B j v W2 := by
  unfold VsdR at *
  split <;> simp only at h <;> first | exact h | exact h0 h | exact h1 h | trivial
def SsdR (R0 R1 A5 A6 : Nat) (a b c d p q r : Int) (W : World) : Prop := Blk W A5 [.int .i64 a, .int .i64 b, .int .i64 c, .int .i64 d] ∧ Blk W A6 [.int .u64 (ww3 p), .int .u64 (ww2 p), .int .u64 (ww1 p), .int .u64 (ww0 p), .int .u64 (ww3 q), .int .u64 (ww2 q), .int .u64 (ww1 q), .int .u64 (ww0 q), .int .u64 (ww3 r), .int .u64 (ww2 r), .int .u64 (ww1 r), .int .u64 (ww0 r)] ∧ (∃ e0 e1 e2 e3, Blk W R0 [e0, e1, e2, e3]) ∧ ∃ y0 y1 y2 y3 y4 y5 y6 y7 y8 y9 y10 y11, Blk W R1 [y0, y1, y2, y3, y4, y5, y6, y7, y8, y9, y10, y11]
def JsdR (R0 R1 A5 A6 : Nat) (a b c d p q r : Int) (w0 : World) (a0 : Act) (lz : Array Bool) (az : Act) (W : World) : Prop := InvQ (R0) [some 24, some 25, none, none] (VsdR R0 R1 A5 A6 a b c d p q r (R0)) w0 a0 lz az W ∧ SsdR R0 R1 A5 A6 a b c d p q r W
set_option maxRecDepth 100000 in
set_option maxHeartbeats 4000000 in
theorem sdR {Q : Exit → Act → World → Prop} {R0 R1 A5 A6 : Nat} {a b c d p q r : Int}  {w0 : World} {a0 : Act} {idq : Nat} {t0 t1 t2 t3 : TypeId} {q0 q1 q2 q3 : String}
    (n50 : A5 ≠ R0) (n51 : A5 ≠ R1) (n60 : A6 ≠ R0) (n61 : A6 ≠ R1) (n01 : R0 ≠ R1) (n10 : R1 ≠ R0) (hle : R0 ≤ R1) (h5 : a0.tmps[5]? = some (.pointer (some ⟨A5, 0, none⟩))) (h6 : a0.tmps[6]? = some (.pointer (some ⟨A6, 0, none⟩))) (h2 : a0.tmps[2]? = some (.pointer (some ⟨R0, 0, none⟩))) (h3 : a0.tmps[3]? = some (.pointer (some ⟨R1, 0, none⟩)))  (hz : a0.tmps.size = 29) (hs0 : SsdR R0 R1 A5 A6 a b c d p q r w0.drew)
    (hQ : ∀ aq W, aq.tmps.size = a0.tmps.size → aq.defers = a0.defers → (∀ e, e ∉ ([24, 25] : List Nat) → aq.tmps[e]? = a0.tmps[e]?) → VsdR R0 R1 A5 A6 a b c d p q r (R0) 2 undef W → VsdR R0 R1 A5 A6 a b c d p q r (R0) 3 undef W → Below (R0) w0 W → SsdR R0 R1 A5 A6 a b c d p q r W → Q .normal aq W) :
    (Code.region idq #[{ dst := some 24, op := Op.load 27 (Operand.tmp 5), type := t0, pos := q0, after := #[], guard := none },
    { dst := some 25, op := Op.load 32 (Operand.tmp 6), type := t1, pos := q1, after := #[{ on := 2, ground := Ground.gcOnly Departure.lateStores }], guard := none },
    { dst := none, op := Op.store 27 (Operand.tmp 2) (Operand.tmp 24), type := t2, pos := q2, after := #[{ on := 0, ground := Ground.data }, { on := 0, ground := Ground.phase }, { on := 1, ground := Ground.textOnly Departure.lateStores }], guard := none },
    { dst := none, op := Op.store 32 (Operand.tmp 3) (Operand.tmp 25), type := t3, pos := q3, after := #[{ on := 1, ground := Ground.data }, { on := 2, ground := Ground.chain }, { on := 0, ground := Ground.phase }, { on := 1, ground := Ground.phase }, { on := 2, ground := Ground.phase }], guard := none }] true).wp Tryz.prog Q a0 w0 := by
  have hS : distS [some 24, some 25, none, none] = true := rfl
  refine wp_region_inv (by kernel_rfl) (JsdR R0 R1 A5 A6 a b c d p q r w0 a0) ⟨⟨rfl, rfl, rfl, fun _ _ => rfl, (Below.refl _ w0).drew, fun j d hj => ?_, fun j hj => ?_⟩, hs0⟩ ?_ ?_
  · exfalso
    rw [Array.getD_eq_getD_getElem?, Array.getElem?_replicate] at hj
    split at hj <;> simp at hj
  · exfalso
    rw [Array.getD_eq_getD_getElem?, Array.getElem?_replicate] at hj
    split at hj <;> simp at hj
  · intro lq aq W iq oq ⟨hJ, hs⟩ hl ho hall
    have hJ2 := hJ
    obtain ⟨z1, z2, z3, z4, z5, z6, z7⟩ := hJ
    obtain ⟨xa, xb, ⟨e0, e1, e2, e3, xc⟩, y0, y1, y2, y3, y4, y5, y6, y7, y8, y9, y10, y11, xd⟩ := hs
    have ca0 := xa.c 0 rfl; have ca1 := xa.c 1 rfl; have ca2 := xa.c 2 rfl; have ca3 := xa.c 3 rfl
    have cb0 := xb.c 0 rfl; have cb1 := xb.c 1 rfl; have cb2 := xb.c 2 rfl; have cb3 := xb.c 3 rfl; have cb4 := xb.c 4 rfl; have cb5 := xb.c 5 rfl; have cb6 := xb.c 6 rfl; have cb7 := xb.c 7 rfl; have cb8 := xb.c 8 rfl; have cb9 := xb.c 9 rfl; have cb10 := xb.c 10 rfl; have cb11 := xb.c 11 rfl
    have ra0 := xc.c 0 rfl; have sa0 := xc.f 0 rfl; have ra1 := xc.c 1 rfl; have sa1 := xc.f 1 rfl; have ra2 := xc.c 2 rfl; have sa2 := xc.f 2 rfl; have ra3 := xc.c 3 rfl; have sa3 := xc.f 3 rfl
    have rb0 := xd.c 0 rfl; have sb0 := xd.f 0 rfl; have rb1 := xd.c 1 rfl; have sb1 := xd.f 1 rfl; have rb2 := xd.c 2 rfl; have sb2 := xd.f 2 rfl; have rb3 := xd.c 3 rfl; have sb3 := xd.f 3 rfl; have rb4 := xd.c 4 rfl; have sb4 := xd.f 4 rfl; have rb5 := xd.c 5 rfl; have sb5 := xd.f 5 rfl; have rb6 := xd.c 6 rfl; have sb6 := xd.f 6 rfl; have rb7 := xd.c 7 rfl; have sb7 := xd.f 7 rfl; have rb8 := xd.c 8 rfl; have sb8 := xd.f 8 rfl; have rb9 := xd.c 9 rfl; have sb9 := xd.f 9 rfl; have rb10 := xd.c 10 rfl; have sb10 := xd.f 10 rfl; have rb11 := xd.c 11 rfl; have sb11 := xd.f 11 rfl
    have rla := xc.lt; have rlb := xd.lt
    have hs : SsdR R0 R1 A5 A6 a b c d p q r W := ⟨xa, xb, ⟨_, _, _, _, xc⟩, _, _, _, _, _, _, _, _, _, _, _, _, xd⟩
    have g5 : aq.tmps.getD 5 undef = .pointer (some ⟨A5, 0, none⟩) := by rw [Array.getD_eq_getD_getElem?, z4 5 (by decide), h5]; rfl
    have g6 : aq.tmps.getD 6 undef = .pointer (some ⟨A6, 0, none⟩) := by rw [Array.getD_eq_getD_getElem?, z4 6 (by decide), h6]; rfl
    have g2 : aq.tmps.getD 2 undef = .pointer (some ⟨R0, 0, none⟩) := by rw [Array.getD_eq_getD_getElem?, z4 2 (by decide), h2]; rfl
    have g3 : aq.tmps.getD 3 undef = .pointer (some ⟨R1, 0, none⟩) := by rw [Array.getD_eq_getD_getElem?, z4 3 (by decide), h3]; rfl
    match iq, ho with
    | 0, ho =>
      cases ho
      refine wpOp_of rfl rfl ?_
      have hK := fun (v : Value) (W2 : World) hW hT hv (hs : SsdR R0 R1 A5 A6 a b c d p q r W2) => show (JsdR R0 R1 A5 A6 a b c d p q r w0 a0) (lq.setIfInBounds 0 true) (aq.put (some 24) v) W2 from ⟨hJ2.put hS 0 24 rfl (by omega) (W' := W2) hW hT v hv, hs⟩
      clear ho hall hl hQ
      generalize (JsdR R0 R1 A5 A6 a b c d p q r w0 a0) (lq.setIfInBounds 0 true) = K at hK ⊢
      clear hJ2 hS z1 z2 z3 z4 z6 z7
      go_simp
      exact hK _ _ z5 (fun _ _ h => h) rfl hs
    | 1, ho =>
      cases ho
      refine wpOp_of rfl rfl ?_
      have hK := fun (v : Value) (W2 : World) hW hT hv (hs : SsdR R0 R1 A5 A6 a b c d p q r W2) => show (JsdR R0 R1 A5 A6 a b c d p q r w0 a0) (lq.setIfInBounds 1 true) (aq.put (some 25) v) W2 from ⟨hJ2.put hS 1 25 rfl (by omega) (W' := W2) hW hT v hv, hs⟩
      clear ho hall hl hQ
      generalize (JsdR R0 R1 A5 A6 a b c d p q r w0 a0) (lq.setIfInBounds 1 true) = K at hK ⊢
      clear hJ2 hS z1 z2 z3 z4 z6 z7
      go_simp
      exact hK _ _ z5 (fun _ _ h => h) rfl hs
    | 2, ho =>
      cases ho
      refine wpOp_of rfl rfl ?_
      have f0 : (aq.tmps.getD 24 undef) = .agg #[.int .i64 a, .int .i64 b, .int .i64 c, .int .i64 d] := z6 0 24 (hall { on := 0, ground := Ground.data } (by simp) rfl) rfl
      have hK := fun (W2 : World) hW hT hv (hs : SsdR R0 R1 A5 A6 a b c d p q r W2) => show (JsdR R0 R1 A5 A6 a b c d p q r w0 a0) (lq.setIfInBounds 2 true) aq W2 from ⟨hJ2.world 2 rfl (W' := W2) hW hT hv, hs⟩
      clear ho hall hl hQ
      generalize (JsdR R0 R1 A5 A6 a b c d p q r w0 a0) (lq.setIfInBounds 2 true) = K at hK ⊢
      clear hJ2 hS z1 z2 z3 z4 z6 z7
      have nb : Blk ((((W.setCell ⟨R0, 0, none⟩ (.int .i64 a)).setCell ⟨R0, 1, none⟩ (.int .i64 b)).setCell ⟨R0, 2, none⟩ (.int .i64 c)).setCell ⟨R0, 3, none⟩ (.int .i64 d)) R0 [.int .i64 a, .int .i64 b, .int .i64 c, .int .i64 d] := Blk.stored4g xc _ _ _ _
      have ns : SsdR R0 R1 A5 A6 a b c d p q r ((((W.setCell ⟨R0, 0, none⟩ (.int .i64 a)).setCell ⟨R0, 1, none⟩ (.int .i64 b)).setCell ⟨R0, 2, none⟩ (.int .i64 c)).setCell ⟨R0, 3, none⟩ (.int .i64 d)) := ⟨xa.set4 n50, xb.set4 n60, ⟨_, _, _, _, nb⟩, _, _, _, _, _, _, _, _, _, _, _, _, xd.set4 n10⟩
      have nB : Below R0 w0 ((((W.setCell ⟨R0, 0, none⟩ (.int .i64 a)).setCell ⟨R0, 1, none⟩ (.int .i64 b)).setCell ⟨R0, 2, none⟩ (.int .i64 c)).setCell ⟨R0, 3, none⟩ (.int .i64 d)) := (((z5.setCell (p := ⟨R0, 0, none⟩) (Nat.le_refl _) _).setCell (p := ⟨R0, 1, none⟩) (Nat.le_refl _) _).setCell (p := ⟨R0, 2, none⟩) (Nat.le_refl _) _).setCell (p := ⟨R0, 3, none⟩) (Nat.le_refl _) _
      clear xa xb xc xd
      go_simp
      exact hK _ nB (fun j v h => VsdR.put (fun h => h.set4 n10) (fun _ => nb) h) nb ns
    | 3, ho =>
      cases ho
      refine wpOp_of rfl rfl ?_
      have f1 : (aq.tmps.getD 25 undef) = .agg #[.int .u64 (ww3 p), .int .u64 (ww2 p), .int .u64 (ww1 p), .int .u64 (ww0 p), .int .u64 (ww3 q), .int .u64 (ww2 q), .int .u64 (ww1 q), .int .u64 (ww0 q), .int .u64 (ww3 r), .int .u64 (ww2 r), .int .u64 (ww1 r), .int .u64 (ww0 r)] := z6 1 25 (hall { on := 1, ground := Ground.data } (by simp) rfl) rfl
      have hK := fun (W2 : World) hW hT hv (hs : SsdR R0 R1 A5 A6 a b c d p q r W2) => show (JsdR R0 R1 A5 A6 a b c d p q r w0 a0) (lq.setIfInBounds 3 true) aq W2 from ⟨hJ2.world 3 rfl (W' := W2) hW hT hv, hs⟩
      clear ho hall hl hQ
      generalize (JsdR R0 R1 A5 A6 a b c d p q r w0 a0) (lq.setIfInBounds 3 true) = K at hK ⊢
      clear hJ2 hS z1 z2 z3 z4 z6 z7
      have nb : Blk ((((((((((((W.setCell ⟨R1, 0, none⟩ (.int .u64 (ww3 p))).setCell ⟨R1, 1, none⟩ (.int .u64 (ww2 p))).setCell ⟨R1, 2, none⟩ (.int .u64 (ww1 p))).setCell ⟨R1, 3, none⟩ (.int .u64 (ww0 p))).setCell ⟨R1, 4, none⟩ (.int .u64 (ww3 q))).setCell ⟨R1, 5, none⟩ (.int .u64 (ww2 q))).setCell ⟨R1, 6, none⟩ (.int .u64 (ww1 q))).setCell ⟨R1, 7, none⟩ (.int .u64 (ww0 q))).setCell ⟨R1, 8, none⟩ (.int .u64 (ww3 r))).setCell ⟨R1, 9, none⟩ (.int .u64 (ww2 r))).setCell ⟨R1, 10, none⟩ (.int .u64 (ww1 r))).setCell ⟨R1, 11, none⟩ (.int .u64 (ww0 r))) R1 [.int .u64 (ww3 p), .int .u64 (ww2 p), .int .u64 (ww1 p), .int .u64 (ww0 p), .int .u64 (ww3 q), .int .u64 (ww2 q), .int .u64 (ww1 q), .int .u64 (ww0 q), .int .u64 (ww3 r), .int .u64 (ww2 r), .int .u64 (ww1 r), .int .u64 (ww0 r)] := xd.stored12 _ _ _ _ _ _ _ _ _ _ _ _
      have ns : SsdR R0 R1 A5 A6 a b c d p q r ((((((((((((W.setCell ⟨R1, 0, none⟩ (.int .u64 (ww3 p))).setCell ⟨R1, 1, none⟩ (.int .u64 (ww2 p))).setCell ⟨R1, 2, none⟩ (.int .u64 (ww1 p))).setCell ⟨R1, 3, none⟩ (.int .u64 (ww0 p))).setCell ⟨R1, 4, none⟩ (.int .u64 (ww3 q))).setCell ⟨R1, 5, none⟩ (.int .u64 (ww2 q))).setCell ⟨R1, 6, none⟩ (.int .u64 (ww1 q))).setCell ⟨R1, 7, none⟩ (.int .u64 (ww0 q))).setCell ⟨R1, 8, none⟩ (.int .u64 (ww3 r))).setCell ⟨R1, 9, none⟩ (.int .u64 (ww2 r))).setCell ⟨R1, 10, none⟩ (.int .u64 (ww1 r))).setCell ⟨R1, 11, none⟩ (.int .u64 (ww0 r))) := ⟨xa.set12 n51, xb.set12 n61, ⟨_, _, _, _, xc.set12 n01⟩, _, _, _, _, _, _, _, _, _, _, _, _, nb⟩
      have nB : Below R0 w0 ((((((((((((W.setCell ⟨R1, 0, none⟩ (.int .u64 (ww3 p))).setCell ⟨R1, 1, none⟩ (.int .u64 (ww2 p))).setCell ⟨R1, 2, none⟩ (.int .u64 (ww1 p))).setCell ⟨R1, 3, none⟩ (.int .u64 (ww0 p))).setCell ⟨R1, 4, none⟩ (.int .u64 (ww3 q))).setCell ⟨R1, 5, none⟩ (.int .u64 (ww2 q))).setCell ⟨R1, 6, none⟩ (.int .u64 (ww1 q))).setCell ⟨R1, 7, none⟩ (.int .u64 (ww0 q))).setCell ⟨R1, 8, none⟩ (.int .u64 (ww3 r))).setCell ⟨R1, 9, none⟩ (.int .u64 (ww2 r))).setCell ⟨R1, 10, none⟩ (.int .u64 (ww1 r))).setCell ⟨R1, 11, none⟩ (.int .u64 (ww0 r))) := Below.set12 hle z5
      clear xa xb xc xd
      go_simp
      exact hK _ nB (fun j v h => VsdR.put (fun _ => nb) (fun h => h.set12 n01) h) nb ns
    | iq + 4, ho => simp at ho
  · intro lq aq W ⟨hJ, hs⟩ hr
    obtain ⟨z1, z2, z3, z4, z5, z6, z7⟩ := hJ
    have hl := listed_of hr [0, 2, 1, 3] [] (by simp) (by kernel_rfl) (by rw [z1]; decide)
    exact hQ aq W z2 z3 (fun e he => z4 e (by simpa using he)) (z7 2 (hl 2 (by simp)) rfl) (z7 3 (hl 3 (by simp)) rfl) z5 hs

def VsdQ (R0 R1 _A5 G : Nat) (_ao : Option Addr) (_n _cap : Nat) (_cs : List Int) (a b c d : Int) (_B : Nat) : Nat → Value → World → Prop
  | 0, v, _ => v = .agg #[.int .i64 a, .int .i64 b, .int .i64 c, .int .i64 d]
  | 1, v, _ => v = .pointer (some ⟨G, 0, none⟩)
  | 2, v, _ => ∃ x y z : Int, v = .agg #[.int .u64 (ww3 x), .int .u64 (ww2 x), .int .u64 (ww1 x), .int .u64 (ww0 x), .int .u64 (ww3 y), .int .u64 (ww2 y), .int .u64 (ww1 y), .int .u64 (ww0 y), .int .u64 (ww3 z), .int .u64 (ww2 z), .int .u64 (ww1 z), .int .u64 (ww0 z)] ∧ told x = true ∧ told y = true ∧ told z = true
  | 3, _, W => Blk W R0 [.int .i64 a, .int .i64 b, .int .i64 c, .int .i64 d]
  | 4, _, W => ∃ x y z : Int, told x = true ∧ told y = true ∧ told z = true ∧ Blk W R1 [.int .u64 (ww3 x), .int .u64 (ww2 x), .int .u64 (ww1 x), .int .u64 (ww0 x), .int .u64 (ww3 y), .int .u64 (ww2 y), .int .u64 (ww1 y), .int .u64 (ww0 y), .int .u64 (ww3 z), .int .u64 (ww2 z), .int .u64 (ww1 z), .int .u64 (ww0 z)]
  | _, _, _ => True
theorem VsdQ.mono {R0 R1 A5 G : Nat} {ao : Option Addr} {n cap : Nat} {cs : List Int} {a b c d : Int} {B j : Nat} {v : Value} {W W2 : World} (hB : Below W.heap.size W W2) (h : VsdQ R0 R1 A5 G ao n cap cs a b c d B j v W) : VsdQ R0 R1 A5 G ao n cap cs a b c d B j v W2 := by
  unfold VsdQ at *
  split <;> simp only at h <;> first | exact h | (obtain ⟨x, y, z, t1, t2, t3, h4⟩ := h; exact ⟨x, y, z, t1, t2, t3, h4.step hB⟩) | exact h.step hB | trivial
theorem VsdQ.put {R0 R1 A5 G : Nat} {ao : Option Addr} {n cap : Nat} {cs : List Int} {a b c d : Int} {B j : Nat} {v : Value} {W W2 : World} (h1 : (∃ x y z : Int, told x = true ∧ told y = true ∧ told z = true ∧ Blk W R1 [.int .u64 (ww3 x), .int .u64 (ww2 x), .int .u64 (ww1 x), .int .u64 (ww0 x), .int .u64 (ww3 y), .int .u64 (ww2 y), .int .u64 (ww1 y), .int .u64 (ww0 y), .int .u64 (ww3 z), .int .u64 (ww2 z), .int .u64 (ww1 z), .int .u64 (ww0 z)]) → ∃ x y z : Int, told x = true ∧ told y = true ∧ told z = true ∧ Blk W2 R1 [.int .u64 (ww3 x), .int .u64 (ww2 x), .int .u64 (ww1 x), .int .u64 (ww0 x), .int .u64 (ww3 y), .int .u64 (ww2 y), .int .u64 (ww1 y), .int .u64 (ww0 y), .int .u64 (ww3 z), .int .u64 (ww2 z), .int .u64 (ww1 z), .int .u64 (ww0 z)]) (h0 : Blk W R0 [.int .i64 a, .int .i64 b, .int .i64 c, .int .i64 d] → Blk W2 R0 [.int .i64 a, .int .i64 b, .int .i64 c, .int .i64 d]) (h : VsdQ R0 R1 A5 G ao n cap cs a b c d B j v W) : VsdQ R0 R1 A5 G ao n cap cs a b c d B j v W2 := by
  unfold VsdQ at *
  split <;> simp only at h <;> first | exact h | exact h0 h | exact h1 h | trivial
def SsdQ (R0 R1 A5 G : Nat) (ao : Option Addr) (n cap : Nat) (cs : List Int) (a b c d : Int) (W : World) : Prop := Blk W A5 [.int .i64 a, .int .i64 b, .int .i64 c, .int .i64 d] ∧ Rdr W G ao n cap cs ∧ (∃ e0 e1 e2 e3, Blk W R0 [e0, e1, e2, e3]) ∧ ∃ y0 y1 y2 y3 y4 y5 y6 y7 y8 y9 y10 y11, Blk W R1 [y0, y1, y2, y3, y4, y5, y6, y7, y8, y9, y10, y11]
def JsdQ (R0 R1 A5 G : Nat) (ao : Option Addr) (n cap : Nat) (cs : List Int) (a b c d : Int) (w0 : World) (a0 : Act) (lz : Array Bool) (az : Act) (W : World) : Prop := InvQ (R0) [some 26, some 27, some 28, none, none] (VsdQ R0 R1 A5 G ao n cap cs a b c d (R0)) w0 a0 lz az W ∧ SsdQ R0 R1 A5 G ao n cap cs a b c d W
set_option maxRecDepth 100000 in
set_option maxHeartbeats 4000000 in
theorem sdQ {Q : Exit → Act → World → Prop} {R0 R1 A5 G : Nat} {ao : Option Addr} {n cap : Nat} {cs : List Int} {a b c d : Int}  {w0 : World} {a0 : Act} {idq : Nat} {t0 t1 t2 t3 t4 : TypeId} {q0 q1 q2 q3 q4 : String}
    (n50 : A5 ≠ R0) (n51 : A5 ≠ R1) (n5G : A5 ≠ G) (n0G : R0 ≠ G) (n1G : R1 ≠ G) (lG0 : R0 < G) (n01 : R0 ≠ R1) (n10 : R1 ≠ R0) (hle : R0 ≤ R1) (hcd : ∀ i, i < cs.length → ∃ b off, ao = some ⟨b, off, none⟩ ∧ b < R0) (hcd1 : ∀ i, i < cs.length → ∃ b off, ao = some ⟨b, off, none⟩ ∧ b < R1) (h5 : a0.tmps[5]? = some (.pointer (some ⟨A5, 0, none⟩))) (h4 : a0.tmps[4]? = some (.pointer (some ⟨G, 0, none⟩))) (h2 : a0.tmps[2]? = some (.pointer (some ⟨R0, 0, none⟩))) (h3 : a0.tmps[3]? = some (.pointer (some ⟨R1, 0, none⟩)))  (hz : a0.tmps.size = 29) (hs0 : SsdQ R0 R1 A5 G ao n cap cs a b c d w0.drew)
    (hQ : ∀ aq W, aq.tmps.size = a0.tmps.size → aq.defers = a0.defers → (∀ e, e ∉ ([26, 27, 28] : List Nat) → aq.tmps[e]? = a0.tmps[e]?) → VsdQ R0 R1 A5 G ao n cap cs a b c d (R0) 3 undef W → VsdQ R0 R1 A5 G ao n cap cs a b c d (R0) 4 undef W → Below (R0) w0 W → SsdQ R0 R1 A5 G ao n cap cs a b c d W → Q .normal aq W) :
    (Code.region idq #[{ dst := some 26, op := Op.load 27 (Operand.tmp 5), type := t0, pos := q0, after := #[], guard := none },
    { dst := some 27, op := Op.move (Operand.tmp 4), type := t1, pos := q1, after := #[], guard := none },
    { dst := some 28, op := Op.call { callee := Callee.value (Operand.func 29), args := #[Operand.tmp 27], argTypes := #[52] }, type := t2, pos := q2, after := #[{ on := 1, ground := Ground.data }], guard := none },
    { dst := none, op := Op.store 27 (Operand.tmp 2) (Operand.tmp 26), type := t3, pos := q3, after := #[{ on := 0, ground := Ground.data }, { on := 2, ground := Ground.chain }, { on := 0, ground := Ground.phase }, { on := 1, ground := Ground.textOnly Departure.lateStores }, { on := 2, ground := Ground.textOnly Departure.lateStoresUnsure }], guard := none },
    { dst := none, op := Op.store 32 (Operand.tmp 3) (Operand.tmp 28), type := t4, pos := q4, after := #[{ on := 2, ground := Ground.data }, { on := 3, ground := Ground.chain }, { on := 0, ground := Ground.phase }, { on := 1, ground := Ground.phase }, { on := 2, ground := Ground.phase }, { on := 3, ground := Ground.phase }], guard := none }] true).wp Tryz.prog Q a0 w0 := by
  have hS : distS [some 26, some 27, some 28, none, none] = true := rfl
  refine wp_region_inv (by kernel_rfl) (JsdQ R0 R1 A5 G ao n cap cs a b c d w0 a0) ⟨⟨rfl, rfl, rfl, fun _ _ => rfl, (Below.refl _ w0).drew, fun j d hj => ?_, fun j hj => ?_⟩, hs0⟩ ?_ ?_
  · exfalso
    rw [Array.getD_eq_getD_getElem?, Array.getElem?_replicate] at hj
    split at hj <;> simp at hj
  · exfalso
    rw [Array.getD_eq_getD_getElem?, Array.getElem?_replicate] at hj
    split at hj <;> simp at hj
  · intro lq aq W iq oq ⟨hJ, hs⟩ hl ho hall
    have hJ2 := hJ
    obtain ⟨z1, z2, z3, z4, z5, z6, z7⟩ := hJ
    obtain ⟨xa, xr, ⟨e0, e1, e2, e3, xc⟩, y0, y1, y2, y3, y4, y5, y6, y7, y8, y9, y10, y11, xd⟩ := hs
    have ca0 := xa.c 0 rfl; have ca1 := xa.c 1 rfl; have ca2 := xa.c 2 rfl; have ca3 := xa.c 3 rfl
    have ra0 := xc.c 0 rfl; have sa0 := xc.f 0 rfl; have ra1 := xc.c 1 rfl; have sa1 := xc.f 1 rfl; have ra2 := xc.c 2 rfl; have sa2 := xc.f 2 rfl; have ra3 := xc.c 3 rfl; have sa3 := xc.f 3 rfl
    have rb0 := xd.c 0 rfl; have sb0 := xd.f 0 rfl; have rb1 := xd.c 1 rfl; have sb1 := xd.f 1 rfl; have rb2 := xd.c 2 rfl; have sb2 := xd.f 2 rfl; have rb3 := xd.c 3 rfl; have sb3 := xd.f 3 rfl; have rb4 := xd.c 4 rfl; have sb4 := xd.f 4 rfl; have rb5 := xd.c 5 rfl; have sb5 := xd.f 5 rfl; have rb6 := xd.c 6 rfl; have sb6 := xd.f 6 rfl; have rb7 := xd.c 7 rfl; have sb7 := xd.f 7 rfl; have rb8 := xd.c 8 rfl; have sb8 := xd.f 8 rfl; have rb9 := xd.c 9 rfl; have sb9 := xd.f 9 rfl; have rb10 := xd.c 10 rfl; have sb10 := xd.f 10 rfl; have rb11 := xd.c 11 rfl; have sb11 := xd.f 11 rfl
    have rla := xc.lt; have rlb := xd.lt
    have hs : SsdQ R0 R1 A5 G ao n cap cs a b c d W := ⟨xa, xr, ⟨_, _, _, _, xc⟩, _, _, _, _, _, _, _, _, _, _, _, _, xd⟩
    have g5 : aq.tmps.getD 5 undef = .pointer (some ⟨A5, 0, none⟩) := by rw [Array.getD_eq_getD_getElem?, z4 5 (by decide), h5]; rfl
    have g4 : aq.tmps.getD 4 undef = .pointer (some ⟨G, 0, none⟩) := by rw [Array.getD_eq_getD_getElem?, z4 4 (by decide), h4]; rfl
    have g2 : aq.tmps.getD 2 undef = .pointer (some ⟨R0, 0, none⟩) := by rw [Array.getD_eq_getD_getElem?, z4 2 (by decide), h2]; rfl
    have g3 : aq.tmps.getD 3 undef = .pointer (some ⟨R1, 0, none⟩) := by rw [Array.getD_eq_getD_getElem?, z4 3 (by decide), h3]; rfl
    match iq, ho with
    | 0, ho =>
      cases ho
      refine wpOp_of rfl rfl ?_
      have hK := fun (v : Value) (W2 : World) hW hT hv (hs : SsdQ R0 R1 A5 G ao n cap cs a b c d W2) => show (JsdQ R0 R1 A5 G ao n cap cs a b c d w0 a0) (lq.setIfInBounds 0 true) (aq.put (some 26) v) W2 from ⟨hJ2.put hS 0 26 rfl (by omega) (W' := W2) hW hT v hv, hs⟩
      clear ho hall hl hQ
      generalize (JsdQ R0 R1 A5 G ao n cap cs a b c d w0 a0) (lq.setIfInBounds 0 true) = K at hK ⊢
      clear hJ2 hS z1 z2 z3 z4 z6 z7
      go_simp
      exact hK _ _ z5 (fun _ _ h => h) rfl hs
    | 1, ho =>
      cases ho
      refine wpOp_of rfl rfl ?_
      have hK := fun (v : Value) (W2 : World) hW hT hv (hs : SsdQ R0 R1 A5 G ao n cap cs a b c d W2) => show (JsdQ R0 R1 A5 G ao n cap cs a b c d w0 a0) (lq.setIfInBounds 1 true) (aq.put (some 27) v) W2 from ⟨hJ2.put hS 1 27 rfl (by omega) (W' := W2) hW hT v hv, hs⟩
      clear ho hall hl hQ
      generalize (JsdQ R0 R1 A5 G ao n cap cs a b c d w0 a0) (lq.setIfInBounds 1 true) = K at hK ⊢
      clear hJ2 hS z1 z2 z3 z4 z6 z7
      go_simp
      exact hK _ _ z5 (fun _ _ h => h) rfl hs
    | 2, ho =>
      cases ho
      refine wpOp_of rfl rfl ?_
      have f1 : (aq.tmps.getD 27 undef) = .pointer (some ⟨G, 0, none⟩) := z6 1 27 (hall { on := 1, ground := Ground.data } (by simp) rfl) rfl
      have hK := fun (v : Value) (W2 : World) hW hT hv (hs : SsdQ R0 R1 A5 G ao n cap cs a b c d W2) => show (JsdQ R0 R1 A5 G ao n cap cs a b c d w0 a0) (lq.setIfInBounds 2 true) (aq.put (some 28) v) W2 from ⟨hJ2.put hS 2 28 rfl (by omega) (W' := W2) hW hT v hv, hs⟩
      clear ho hall hl hQ
      generalize (JsdQ R0 R1 A5 G ao n cap cs a b c d w0 a0) (lq.setIfInBounds 2 true) = K at hK ⊢
      clear hJ2 hS z1 z2 z3 z4 z6 z7
      have rwl := xc.lt
      go_simp
      refine (point_any G ao n cap cs _ xr).mono ?_
      rintro e v1 ⟨_, rfl, ⟨x, y, z, rfl, tx, ty, tz⟩, xr2, hk⟩
      exact hK _ _ (z5.trans (hk.below (Nat.le_of_lt lG0) (Nat.le_of_lt rwl))) (fun j v h => VsdQ.put (fun ⟨x, y, z, t1, t2, t3, h⟩ => ⟨x, y, z, t1, t2, t3, h.kept hk n1G⟩) (fun h => h.kept hk n0G) h) ⟨x, y, z, rfl, tx, ty, tz⟩ ⟨xa.kept hk n5G, xr2, ⟨_, _, _, _, xc.kept hk n0G⟩, _, _, _, _, _, _, _, _, _, _, _, _, xd.kept hk n1G⟩
    | 3, ho =>
      cases ho
      refine wpOp_of rfl rfl ?_
      have f0 : (aq.tmps.getD 26 undef) = .agg #[.int .i64 a, .int .i64 b, .int .i64 c, .int .i64 d] := z6 0 26 (hall { on := 0, ground := Ground.data } (by simp) rfl) rfl
      have hK := fun (W2 : World) hW hT hv (hs : SsdQ R0 R1 A5 G ao n cap cs a b c d W2) => show (JsdQ R0 R1 A5 G ao n cap cs a b c d w0 a0) (lq.setIfInBounds 3 true) aq W2 from ⟨hJ2.world 3 rfl (W' := W2) hW hT hv, hs⟩
      clear ho hall hl hQ
      generalize (JsdQ R0 R1 A5 G ao n cap cs a b c d w0 a0) (lq.setIfInBounds 3 true) = K at hK ⊢
      clear hJ2 hS z1 z2 z3 z4 z6 z7
      have nb : Blk ((((W.setCell ⟨R0, 0, none⟩ (.int .i64 a)).setCell ⟨R0, 1, none⟩ (.int .i64 b)).setCell ⟨R0, 2, none⟩ (.int .i64 c)).setCell ⟨R0, 3, none⟩ (.int .i64 d)) R0 [.int .i64 a, .int .i64 b, .int .i64 c, .int .i64 d] := Blk.stored4g xc _ _ _ _
      have ns : SsdQ R0 R1 A5 G ao n cap cs a b c d ((((W.setCell ⟨R0, 0, none⟩ (.int .i64 a)).setCell ⟨R0, 1, none⟩ (.int .i64 b)).setCell ⟨R0, 2, none⟩ (.int .i64 c)).setCell ⟨R0, 3, none⟩ (.int .i64 d)) := ⟨xa.set4 n50, (((xr.setM (p := ⟨R0, 0, none⟩) n0G hcd _).setM (p := ⟨R0, 1, none⟩) n0G hcd _).setM (p := ⟨R0, 2, none⟩) n0G hcd _).setM (p := ⟨R0, 3, none⟩) n0G hcd _, ⟨_, _, _, _, nb⟩, _, _, _, _, _, _, _, _, _, _, _, _, xd.set4 n10⟩
      have nB : Below R0 w0 ((((W.setCell ⟨R0, 0, none⟩ (.int .i64 a)).setCell ⟨R0, 1, none⟩ (.int .i64 b)).setCell ⟨R0, 2, none⟩ (.int .i64 c)).setCell ⟨R0, 3, none⟩ (.int .i64 d)) := (((z5.setCell (p := ⟨R0, 0, none⟩) (Nat.le_refl _) _).setCell (p := ⟨R0, 1, none⟩) (Nat.le_refl _) _).setCell (p := ⟨R0, 2, none⟩) (Nat.le_refl _) _).setCell (p := ⟨R0, 3, none⟩) (Nat.le_refl _) _
      clear xa xr xc xd
      go_simp
      exact hK _ nB (fun j v h => VsdQ.put (fun ⟨x, y, z, t1, t2, t3, h⟩ => ⟨x, y, z, t1, t2, t3, h.set4 n10⟩) (fun _ => nb) h) nb ns
    | 4, ho =>
      cases ho
      refine wpOp_of rfl rfl ?_
      have f2 : ∃ x y z : Int, (aq.tmps.getD 28 undef) = .agg #[.int .u64 (ww3 x), .int .u64 (ww2 x), .int .u64 (ww1 x), .int .u64 (ww0 x), .int .u64 (ww3 y), .int .u64 (ww2 y), .int .u64 (ww1 y), .int .u64 (ww0 y), .int .u64 (ww3 z), .int .u64 (ww2 z), .int .u64 (ww1 z), .int .u64 (ww0 z)] ∧ told x = true ∧ told y = true ∧ told z = true := z6 2 28 (hall { on := 2, ground := Ground.data } (by simp) rfl) rfl
      have hK := fun (W2 : World) hW hT hv (hs : SsdQ R0 R1 A5 G ao n cap cs a b c d W2) => show (JsdQ R0 R1 A5 G ao n cap cs a b c d w0 a0) (lq.setIfInBounds 4 true) aq W2 from ⟨hJ2.world 4 rfl (W' := W2) hW hT hv, hs⟩
      clear ho hall hl hQ
      generalize (JsdQ R0 R1 A5 G ao n cap cs a b c d w0 a0) (lq.setIfInBounds 4 true) = K at hK ⊢
      clear hJ2 hS z1 z2 z3 z4 z6 z7
      obtain ⟨x, y, z, e2, tx, ty, tz⟩ := f2
      have nb : Blk ((((((((((((W.setCell ⟨R1, 0, none⟩ (.int .u64 (ww3 x))).setCell ⟨R1, 1, none⟩ (.int .u64 (ww2 x))).setCell ⟨R1, 2, none⟩ (.int .u64 (ww1 x))).setCell ⟨R1, 3, none⟩ (.int .u64 (ww0 x))).setCell ⟨R1, 4, none⟩ (.int .u64 (ww3 y))).setCell ⟨R1, 5, none⟩ (.int .u64 (ww2 y))).setCell ⟨R1, 6, none⟩ (.int .u64 (ww1 y))).setCell ⟨R1, 7, none⟩ (.int .u64 (ww0 y))).setCell ⟨R1, 8, none⟩ (.int .u64 (ww3 z))).setCell ⟨R1, 9, none⟩ (.int .u64 (ww2 z))).setCell ⟨R1, 10, none⟩ (.int .u64 (ww1 z))).setCell ⟨R1, 11, none⟩ (.int .u64 (ww0 z))) R1 [.int .u64 (ww3 x), .int .u64 (ww2 x), .int .u64 (ww1 x), .int .u64 (ww0 x), .int .u64 (ww3 y), .int .u64 (ww2 y), .int .u64 (ww1 y), .int .u64 (ww0 y), .int .u64 (ww3 z), .int .u64 (ww2 z), .int .u64 (ww1 z), .int .u64 (ww0 z)] := xd.stored12 _ _ _ _ _ _ _ _ _ _ _ _
      have ns : SsdQ R0 R1 A5 G ao n cap cs a b c d ((((((((((((W.setCell ⟨R1, 0, none⟩ (.int .u64 (ww3 x))).setCell ⟨R1, 1, none⟩ (.int .u64 (ww2 x))).setCell ⟨R1, 2, none⟩ (.int .u64 (ww1 x))).setCell ⟨R1, 3, none⟩ (.int .u64 (ww0 x))).setCell ⟨R1, 4, none⟩ (.int .u64 (ww3 y))).setCell ⟨R1, 5, none⟩ (.int .u64 (ww2 y))).setCell ⟨R1, 6, none⟩ (.int .u64 (ww1 y))).setCell ⟨R1, 7, none⟩ (.int .u64 (ww0 y))).setCell ⟨R1, 8, none⟩ (.int .u64 (ww3 z))).setCell ⟨R1, 9, none⟩ (.int .u64 (ww2 z))).setCell ⟨R1, 10, none⟩ (.int .u64 (ww1 z))).setCell ⟨R1, 11, none⟩ (.int .u64 (ww0 z))) := ⟨xa.set12 n51, ((((((((((((xr.setM (p := ⟨R1, 0, none⟩) n1G hcd1 _).setM (p := ⟨R1, 1, none⟩) n1G hcd1 _).setM (p := ⟨R1, 2, none⟩) n1G hcd1 _).setM (p := ⟨R1, 3, none⟩) n1G hcd1 _).setM (p := ⟨R1, 4, none⟩) n1G hcd1 _).setM (p := ⟨R1, 5, none⟩) n1G hcd1 _).setM (p := ⟨R1, 6, none⟩) n1G hcd1 _).setM (p := ⟨R1, 7, none⟩) n1G hcd1 _).setM (p := ⟨R1, 8, none⟩) n1G hcd1 _).setM (p := ⟨R1, 9, none⟩) n1G hcd1 _).setM (p := ⟨R1, 10, none⟩) n1G hcd1 _).setM (p := ⟨R1, 11, none⟩) n1G hcd1 _), ⟨_, _, _, _, xc.set12 n01⟩, _, _, _, _, _, _, _, _, _, _, _, _, nb⟩
      have nB : Below R0 w0 ((((((((((((W.setCell ⟨R1, 0, none⟩ (.int .u64 (ww3 x))).setCell ⟨R1, 1, none⟩ (.int .u64 (ww2 x))).setCell ⟨R1, 2, none⟩ (.int .u64 (ww1 x))).setCell ⟨R1, 3, none⟩ (.int .u64 (ww0 x))).setCell ⟨R1, 4, none⟩ (.int .u64 (ww3 y))).setCell ⟨R1, 5, none⟩ (.int .u64 (ww2 y))).setCell ⟨R1, 6, none⟩ (.int .u64 (ww1 y))).setCell ⟨R1, 7, none⟩ (.int .u64 (ww0 y))).setCell ⟨R1, 8, none⟩ (.int .u64 (ww3 z))).setCell ⟨R1, 9, none⟩ (.int .u64 (ww2 z))).setCell ⟨R1, 10, none⟩ (.int .u64 (ww1 z))).setCell ⟨R1, 11, none⟩ (.int .u64 (ww0 z))) := Below.set12 hle z5
      clear xa xr xc xd
      go_simp
      exact hK _ nB (fun j v h => VsdQ.put (fun _ => ⟨x, y, z, tx, ty, tz, nb⟩) (fun h => h.set12 n01) h) ⟨x, y, z, tx, ty, tz, nb⟩ ns
    | iq + 5, ho => simp at ho
  · intro lq aq W ⟨hJ, hs⟩ hr
    obtain ⟨z1, z2, z3, z4, z5, z6, z7⟩ := hJ
    have hl := listed_of hr [0, 1, 2, 3, 4] [] (by simp) (by kernel_rfl) (by rw [z1]; decide)
    exact hQ aq W z2 z3 (fun e he => z4 e (by simpa using he)) (z7 3 (hl 3 (by simp)) rfl) (z7 4 (hl 4 (by simp)) rfl) z5 hs
end Go.Proofs.YtniccikkhddofaaGreat

/- A segment and a point drawn from a code. -/
namespace Go.Proofs.YtniccikkhddofaaGreat
open Go.RowKit
theorem put16_ret {Pg : Program} {f : Func} {post : Ending → World → Prop} {ex : Exit} {act : Act} {w W : World} {g g' : Nat} {z0 z1 z2 z3 y0 y1 y2 y3 y4 y5 y6 y7 y8 y9 y10 y11 v0 v1 v2 v3 u0 u1 u2 u3 u4 u5 u6 u7 u8 u9 u10 u11 : Value} (BP : Blk W g [z0, z1, z2, z3]) (BQ : Blk W g' [y0, y1, y2, y3, y4, y5, y6, y7, y8, y9, y10, y11]) (hne : g ≠ g') (hg : w.heap.size ≤ g) (hg' : w.heap.size ≤ g') (HB : Below w.heap.size w W)
    (h : ∀ WF, Blk WF g [v0, v1, v2, v3] → Blk WF g' [u0, u1, u2, u3, u4, u5, u6, u7, u8, u9, u10, u11] → Below w.heap.size w WF → bodyPost Pg f post ex act WF) : bodyPost Pg f post ex act ((((((((((((((((W.setCell ⟨g, 0, none⟩ v0).setCell ⟨g, 1, none⟩ v1).setCell ⟨g, 2, none⟩ v2).setCell ⟨g, 3, none⟩ v3).setCell ⟨g', 0, none⟩ u0).setCell ⟨g', 1, none⟩ u1).setCell ⟨g', 2, none⟩ u2).setCell ⟨g', 3, none⟩ u3).setCell ⟨g', 4, none⟩ u4).setCell ⟨g', 5, none⟩ u5).setCell ⟨g', 6, none⟩ u6).setCell ⟨g', 7, none⟩ u7).setCell ⟨g', 8, none⟩ u8).setCell ⟨g', 9, none⟩ u9).setCell ⟨g', 10, none⟩ u10).setCell ⟨g', 11, none⟩ u11) :=
  h _ ((Blk.stored4g BP v0 v1 v2 v3).set12 hne) ((BQ.set4 (Ne.symm hne)).stored12 u0 u1 u2 u3 u4 u5 u6 u7 u8 u9 u10 u11) (Below.set12 hg' ((((HB.setCell (p := ⟨g, 0, none⟩) hg v0).setCell (p := ⟨g, 1, none⟩) hg v1).setCell (p := ⟨g, 2, none⟩) hg v2).setCell (p := ⟨g, 3, none⟩) hg v3))
/-- A segment and a point, whatever their numbers. -/
def SgPtP (w : World) (e : Ending) (w' : World) : Prop := ∃ a b c d x y z : Int, e = .returned (.tuple #[.agg #[.int .i64 a, .int .i64 b, .int .i64 c, .int .i64 d], .agg #[.int .u64 (ww3 x), .int .u64 (ww2 x), .int .u64 (ww1 x), .int .u64 (ww0 x), .int .u64 (ww3 y), .int .u64 (ww2 y), .int .u64 (ww1 y), .int .u64 (ww0 y), .int .u64 (ww3 z), .int .u64 (ww2 z), .int .u64 (ww1 z), .int .u64 (ww0 z)]]) ∧ (I64 a ∧ I64 b ∧ I64 c ∧ I64 d) ∧ (told x = true ∧ told y = true ∧ told z = true) ∧ Below w.heap.size w w'
theorem told64 {a : Int} (h : I64 a) : told a = true := decide_eq_true (by have := h.1; have := h.2; omega)
theorem midW_pt (a b c d : Int) : ∃ x y z f, midV a b 1 c d 1 = .tuple #[.agg #[.int .u64 (ww3 x), .int .u64 (ww2 x), .int .u64 (ww1 x), .int .u64 (ww0 x), .int .u64 (ww3 y), .int .u64 (ww2 y), .int .u64 (ww1 y), .int .u64 (ww0 y), .int .u64 (ww3 z), .int .u64 (ww2 z), .int .u64 (ww1 z), .int .u64 (ww0 z)], .bool f] ∧ told x = true ∧ told y = true ∧ told z = true := by
  unfold midV
  split
  · exact pmV_pt _ _ _
  · exact ⟨0, 0, 0, false, rfl, by decide, by decide, by decide⟩
set_option maxRecDepth 100000 in
set_option maxHeartbeats 8000000 in
theorem drawSideOf_any (ao : Option Addr) (n cap : Nat) (cs : List Int) (w : World) (h : Code w ao n cs) : Calls Tryz.prog 10 #[.slice ao n cap] w (SgPtP w) := by
  have B0 := (Blk.new w [.int .i64 0, .int .i64 0, .int .i64 0, .int .i64 0] 27 rfl).alloc (.cells #[.int .u64 0, .int .u64 0, .int .u64 0, .int .u64 0, .int .u64 0, .int .u64 0, .int .u64 0, .int .u64 0, .int .u64 0, .int .u64 0, .int .u64 0, .int .u64 0] 32)
  have B1 := Blk.new (w.alloc (.cells #[.int .i64 0, .int .i64 0, .int .i64 0, .int .i64 0] 27)) [.int .u64 0, .int .u64 0, .int .u64 0, .int .u64 0, .int .u64 0, .int .u64 0, .int .u64 0, .int .u64 0, .int .u64 0, .int .u64 0, .int .u64 0, .int .u64 0] 32 (g := w.heap.size + 1) (by simp)
  have HB : Below w.heap.size w ((w.alloc (.cells #[.int .i64 0, .int .i64 0, .int .i64 0, .int .i64 0] 27)).alloc (.cells #[.int .u64 0, .int .u64 0, .int .u64 0, .int .u64 0, .int .u64 0, .int .u64 0, .int .u64 0, .int .u64 0, .int .u64 0, .int .u64 0, .int .u64 0, .int .u64 0] 32)) := ((Below.refl _ _).alloc (Nat.le_refl _) _).alloc (by simp) _
  have hcd : ∀ i, i < cs.length → ∃ b off, ao = some ⟨b, off, none⟩ ∧ b < w.heap.size := fun i hi => by
    obtain ⟨b, off, e, hb, _⟩ := h.bytes i hi
    exact ⟨b, off, e, hb⟩
  replace h := h.below HB
  go_enter Tryz.func10, Tryz.ntmps10
  go_wp2_with fail
  refine (open_any ao n cap cs _ h).mono ?_
  rintro e w1 ⟨g, rfl, hG, R, hB⟩
  simp at hG
  have h0 : w.heap.size ≠ g := by omega
  have h1 : w.heap.size + 1 ≠ g := by omega
  replace B0 := B0.step hB
  replace B1 := B1.step hB
  replace HB : Below w.heap.size w w1 := HB.trans (hB.mono HB.size)
  have K := Kept.refl g w1
  have hl := HB.size
  clear h hB
  go_wp2_with fail
  refine (seg_any g ao n cap cs _ R).mono ?_
  rintro e w2 ⟨_, rfl, ⟨a, b, c, d, rfl, ia, ib, ic, id⟩, R1, K1⟩
  replace K := K.trans K1
  replace B0 := B0.kept K1 h0
  replace B1 := B1.kept K1 h1
  clear R K1
  have R := R1
  clear R1
  have gl2 := R.lt
  have hn2 : w2.heap.size ≠ g := by omega
  have bl := B1.lt
  have X := Blk.new w2 [.int .i64 a, .int .i64 b, .int .i64 c, .int .i64 d] 27 rfl
  rw [show ([.int .i64 a, .int .i64 b, .int .i64 c, .int .i64 d] : List Value).toArray = #[.int .i64 a, .int .i64 b, .int .i64 c, .int .i64 d] from rfl] at X
  replace R := R.alloc (.cells #[.int .i64 a, .int .i64 b, .int .i64 c, .int .i64 d] 27)
  replace K := K.alloc (.cells #[.int .i64 a, .int .i64 b, .int .i64 c, .int .i64 d] 27)
  replace B0 := B0.alloc (.cells #[.int .i64 a, .int .i64 b, .int .i64 c, .int .i64 d] 27)
  replace B1 := B1.alloc (.cells #[.int .i64 a, .int .i64 b, .int .i64 c, .int .i64 d] 27)
  go_wp2_with fail
  generalize (w2.alloc (.cells #[.int .i64 a, .int .i64 b, .int .i64 c, .int .i64 d] 27)) = W2 at *
  generalize w2.heap.size = g5 at *
  refine (once_any 4 (by decide) (by decide) g ao n cap cs _ R).mono ?_
  rintro e w3 ⟨_, rfl, ⟨bb, rfl⟩, R1, K1⟩
  replace K := K.trans K1
  replace B0 := B0.kept K1 h0
  replace B1 := B1.kept K1 h1
  replace X := X.kept K1 hn2
  clear R K1
  have R := R1
  clear R1
  have rl0 := B0.lt
  have rl1 := B1.lt
  replace HB : Below w.heap.size w w3 := HB.trans (K.below (by omega) hl)
  clear K
  cases bb
  · go_upto_region 6 with fail
    refine sdQ (R0 := w.heap.size) (R1 := w.heap.size + 1) (A5 := g5) (G := g) (ao := ao) (n := n) (cap := cap) (cs := cs) (a := a) (b := b) (c := c) (d := d) (by omega) (by omega) hn2 h0 h1 (by omega) (by omega) (by omega) (by omega) hcd (fun i hi => by obtain ⟨b, off, e, hb⟩ := hcd i hi; exact ⟨b, off, e, by omega⟩) rfl rfl rfl rfl rfl ⟨X.drew, R.drew, ⟨_, _, _, _, B0.drew⟩, _, _, _, _, _, _, _, _, _, _, _, _, B1.drew⟩ ?_
    rintro ⟨tm, df⟩ Wz hz hdf hoff F0 F1 hBz _
    obtain ⟨x, y, z, tx, ty, tz, F1⟩ := F1
    have F0 : Blk Wz w.heap.size [.int .i64 a, .int .i64 b, .int .i64 c, .int .i64 d] := F0
    simp only at hz hdf hoff
    subst hdf
    have htm := tmps_fold [26, 27, 28] tm _ hz hoff
    simp only [List.foldl, List.setIfInBounds_toArray, List.set_cons_zero, List.set_cons_succ] at htm
    clear hz hoff
    generalize tm.getD 26 undef = u0, tm.getD 27 undef = u1, tm.getD 28 undef = u2 at htm
    subst htm
    have HBF := HB.trans (hBz.mono (Nat.le_refl _))
    clear X R B0 B1 HB hBz
    have m0 := F0.c 0 rfl; have m1 := F0.c 1 rfl; have m2 := F0.c 2 rfl; have m3 := F0.c 3 rfl; have n0 := F1.c 0 rfl; have n1 := F1.c 1 rfl; have n2 := F1.c 2 rfl; have n3 := F1.c 3 rfl; have n4 := F1.c 4 rfl; have n5 := F1.c 5 rfl; have n6 := F1.c 6 rfl; have n7 := F1.c 7 rfl; have n8 := F1.c 8 rfl; have n9 := F1.c 9 rfl; have n10 := F1.c 10 rfl; have n11 := F1.c 11 rfl
    go_wp2
    refine bodyPost_ret (v := .tuple #[.agg #[.int .i64 a, .int .i64 b, .int .i64 c, .int .i64 d], .agg #[.int .u64 (ww3 x), .int .u64 (ww2 x), .int .u64 (ww1 x), .int .u64 (ww0 x), .int .u64 (ww3 y), .int .u64 (ww2 y), .int .u64 (ww1 y), .int .u64 (ww0 y), .int .u64 (ww3 z), .int .u64 (ww2 z), .int .u64 (ww1 z), .int .u64 (ww0 z)]]) (by simp [results, Tryz.results10, go_sem, m0, m1, m2, m3, n0, n1, n2, n3, n4, n5, n6, n7, n8, n9, n10, n11]) rfl ?_
    exact ⟨a, b, c, d, x, y, z, rfl, ⟨ia, ib, ic, id⟩, ⟨tx, ty, tz⟩, HBF⟩
  · obtain ⟨x, y, z, f, hmd, tx, ty, tz⟩ := midW_pt a b c d
    have CM := specMiddle_det a b 1 c d 1 (told64 ia) (told64 ib) (by decide) (told64 ic) (told64 id) (by decide)
    rw [hmd] at CM
    have C1 := fun w => specPointOf_any a b ia.1 ia.2 ib.1 ib.2 w
    have C2 := fun w => specPointOf_any c d ic.1 ic.2 id.1 id.2 w
    clear hmd R
    go_upto_region 4 with fail
    refine sdM (A5 := g5) (a := a) (b := b) (c := c) (d := d) (x := x) (y := y) (z := z) (f := f) C1 C2 CM tx ty tz rfl (X.c 0 rfl) X.lt (X.c 1 rfl) X.lt (X.c 2 rfl) X.lt (X.c 3 rfl) X.lt rfl ?_
    rintro ⟨tm, df⟩ Wz hz hdf hoff h6 hBz
    obtain ⟨gz, h6, hgz, p, q, r, tp, tq, tr, GZ⟩ := h6
    simp only at hz hdf hoff
    change tm.getD 6 undef = .pointer (some ⟨gz, 0, none⟩) at h6
    subst hdf
    have htm := tmps_fold [15, 16, 17, 18, 19, 20, 21, 14, 22, 23, 6, 7] tm _ hz hoff
    simp only [List.foldl, List.setIfInBounds_toArray, List.set_cons_zero, List.set_cons_succ, h6] at htm
    clear hz hoff
    generalize tm.getD 15 undef = u0, tm.getD 16 undef = u1, tm.getD 17 undef = u2, tm.getD 18 undef = u3, tm.getD 19 undef = u4, tm.getD 20 undef = u5, tm.getD 21 undef = u6, tm.getD 14 undef = u7, tm.getD 22 undef = u8, tm.getD 23 undef = u9, tm.getD 7 undef = u10 at htm
    clear h6
    subst htm
    replace B0 := B0.step hBz
    replace B1 := B1.step hBz
    have X5 := X.step hBz
    have hx5 := X.lt
    replace HB := HB.trans (hBz.mono HB.size)
    have nz0 : gz ≠ w.heap.size := by omega
    have nz1 : gz ≠ w.heap.size + 1 := by omega
    clear X hBz C1 C2 CM
    go_upto_region 5 with fail
    refine sdR (R0 := w.heap.size) (R1 := w.heap.size + 1) (A5 := g5) (A6 := gz) (a := a) (b := b) (c := c) (d := d) (p := p) (q := q) (r := r) (by omega) (by omega) nz0 nz1 (by omega) (by omega) (by omega) rfl rfl rfl rfl rfl ⟨X5.drew, GZ.drew, ⟨_, _, _, _, B0.drew⟩, _, _, _, _, _, _, _, _, _, _, _, _, B1.drew⟩ ?_
    rintro ⟨tm, df⟩ Wy hz hdf hoff F0 F1 hBz _
    have F0 : Blk Wy w.heap.size [.int .i64 a, .int .i64 b, .int .i64 c, .int .i64 d] := F0
    have F1 : Blk Wy (w.heap.size + 1) [.int .u64 (ww3 p), .int .u64 (ww2 p), .int .u64 (ww1 p), .int .u64 (ww0 p), .int .u64 (ww3 q), .int .u64 (ww2 q), .int .u64 (ww1 q), .int .u64 (ww0 q), .int .u64 (ww3 r), .int .u64 (ww2 r), .int .u64 (ww1 r), .int .u64 (ww0 r)] := F1
    simp only at hz hdf hoff
    subst hdf
    have htm := tmps_fold [24, 25] tm _ hz hoff
    simp only [List.foldl, List.setIfInBounds_toArray, List.set_cons_zero, List.set_cons_succ] at htm
    clear hz hoff
    generalize tm.getD 24 undef = y0, tm.getD 25 undef = y1 at htm
    subst htm
    have HBF := HB.trans (hBz.mono (Nat.le_refl _))
    clear X5 GZ B0 B1 HB hBz
    have m0 := F0.c 0 rfl; have m1 := F0.c 1 rfl; have m2 := F0.c 2 rfl; have m3 := F0.c 3 rfl; have n0 := F1.c 0 rfl; have n1 := F1.c 1 rfl; have n2 := F1.c 2 rfl; have n3 := F1.c 3 rfl; have n4 := F1.c 4 rfl; have n5 := F1.c 5 rfl; have n6 := F1.c 6 rfl; have n7 := F1.c 7 rfl; have n8 := F1.c 8 rfl; have n9 := F1.c 9 rfl; have n10 := F1.c 10 rfl; have n11 := F1.c 11 rfl
    go_wp2
    refine bodyPost_ret (v := .tuple #[.agg #[.int .i64 a, .int .i64 b, .int .i64 c, .int .i64 d], .agg #[.int .u64 (ww3 p), .int .u64 (ww2 p), .int .u64 (ww1 p), .int .u64 (ww0 p), .int .u64 (ww3 q), .int .u64 (ww2 q), .int .u64 (ww1 q), .int .u64 (ww0 q), .int .u64 (ww3 r), .int .u64 (ww2 r), .int .u64 (ww1 r), .int .u64 (ww0 r)]]) (by simp [results, Tryz.results10, go_sem, m0, m1, m2, m3, n0, n1, n2, n3, n4, n5, n6, n7, n8, n9, n10, n11]) rfl ?_
    exact ⟨a, b, c, d, p, q, r, rfl, ⟨ia, ib, ic, id⟩, ⟨tp, tq, tr⟩, HBF⟩
set_option maxRecDepth 100000 in
set_option maxHeartbeats 8000000 in
theorem drawOverAt_any (ao : Option Addr) (n cap : Nat) (cs : List Int) (w : World) (h : Code w ao n cs) : Calls Tryz.prog 5 #[.slice ao n cap] w (SgPtP w) := by
  have B0 := (Blk.new w [.int .i64 0, .int .i64 0, .int .i64 0, .int .i64 0] 27 rfl).alloc (.cells #[.int .u64 0, .int .u64 0, .int .u64 0, .int .u64 0, .int .u64 0, .int .u64 0, .int .u64 0, .int .u64 0, .int .u64 0, .int .u64 0, .int .u64 0, .int .u64 0] 32)
  have B1 := Blk.new (w.alloc (.cells #[.int .i64 0, .int .i64 0, .int .i64 0, .int .i64 0] 27)) [.int .u64 0, .int .u64 0, .int .u64 0, .int .u64 0, .int .u64 0, .int .u64 0, .int .u64 0, .int .u64 0, .int .u64 0, .int .u64 0, .int .u64 0, .int .u64 0] 32 (g := w.heap.size + 1) (by simp)
  have HB : Below w.heap.size w ((w.alloc (.cells #[.int .i64 0, .int .i64 0, .int .i64 0, .int .i64 0] 27)).alloc (.cells #[.int .u64 0, .int .u64 0, .int .u64 0, .int .u64 0, .int .u64 0, .int .u64 0, .int .u64 0, .int .u64 0, .int .u64 0, .int .u64 0, .int .u64 0, .int .u64 0] 32)) := ((Below.refl _ _).alloc (Nat.le_refl _) _).alloc (by simp) _
  replace h := h.below HB
  go_enter Tryz.func5, Tryz.ntmps5
  go_wp2_with fail
  refine (drawSideOf_any ao n cap cs _ h).mono ?_
  rintro e w1 ⟨a, b, c, d, x, y, z, rfl, hi, ht, hB⟩
  replace B0 := B0.step hB
  replace B1 := B1.step hB
  replace HB : Below w.heap.size w w1 := HB.trans (hB.mono HB.size)
  clear h hB
  have o0 := B0.c 0 rfl; have p0 := B0.f 0 rfl; have o1 := B0.c 1 rfl; have p1 := B0.f 1 rfl; have o2 := B0.c 2 rfl; have p2 := B0.f 2 rfl; have o3 := B0.c 3 rfl; have p3 := B0.f 3 rfl; have k0 := B1.c 0 rfl; have q0 := B1.f 0 rfl; have k1 := B1.c 1 rfl; have q1 := B1.f 1 rfl; have k2 := B1.c 2 rfl; have q2 := B1.f 2 rfl; have k3 := B1.c 3 rfl; have q3 := B1.f 3 rfl; have k4 := B1.c 4 rfl; have q4 := B1.f 4 rfl; have k5 := B1.c 5 rfl; have q5 := B1.f 5 rfl; have k6 := B1.c 6 rfl; have q6 := B1.f 6 rfl; have k7 := B1.c 7 rfl; have q7 := B1.f 7 rfl; have k8 := B1.c 8 rfl; have q8 := B1.f 8 rfl; have k9 := B1.c 9 rfl; have q9 := B1.f 9 rfl; have k10 := B1.c 10 rfl; have q10 := B1.f 10 rfl; have k11 := B1.c 11 rfl; have q11 := B1.f 11 rfl; have ol := B0.lt; have kl := B1.lt
  go_wp2
  refine put16_ret B0 B1 (by omega) (by omega) (by omega) HB fun WF F0 F1 HBF => ?_
  have m0 := F0.c 0 rfl; have m1 := F0.c 1 rfl; have m2 := F0.c 2 rfl; have m3 := F0.c 3 rfl; have n0 := F1.c 0 rfl; have n1 := F1.c 1 rfl; have n2 := F1.c 2 rfl; have n3 := F1.c 3 rfl; have n4 := F1.c 4 rfl; have n5 := F1.c 5 rfl; have n6 := F1.c 6 rfl; have n7 := F1.c 7 rfl; have n8 := F1.c 8 rfl; have n9 := F1.c 9 rfl; have n10 := F1.c 10 rfl; have n11 := F1.c 11 rfl
  refine bodyPost_ret (v := .tuple #[.agg #[.int .i64 a, .int .i64 b, .int .i64 c, .int .i64 d], .agg #[.int .u64 (ww3 x), .int .u64 (ww2 x), .int .u64 (ww1 x), .int .u64 (ww0 x), .int .u64 (ww3 y), .int .u64 (ww2 y), .int .u64 (ww1 y), .int .u64 (ww0 y), .int .u64 (ww3 z), .int .u64 (ww2 z), .int .u64 (ww1 z), .int .u64 (ww0 z)]]) (by simp [results, Tryz.results5, go_sem, m0, m1, m2, m3, n0, n1, n2, n3, n4, n5, n6, n7, n8, n9, n10, n11]) rfl ?_
  exact ⟨a, b, c, d, x, y, z, rfl, hi, ht, HBF⟩
end Go.Proofs.YtniccikkhddofaaGreat

/- The determinant of three points and its sign, the turn: the program's walks. -/
namespace Go.Proofs.YtniccikkhddofaaGreat
open Go.RowKit
theorem t3_cells {x y z u v t a b c : Int} {w W : World} (T0 : ArgsB w W [[.int .u64 (ww3 x), .int .u64 (ww2 x), .int .u64 (ww1 x), .int .u64 (ww0 x), .int .u64 (ww3 y), .int .u64 (ww2 y), .int .u64 (ww1 y), .int .u64 (ww0 y), .int .u64 (ww3 z), .int .u64 (ww2 z), .int .u64 (ww1 z), .int .u64 (ww0 z)], [.int .u64 (ww3 u), .int .u64 (ww2 u), .int .u64 (ww1 u), .int .u64 (ww0 u), .int .u64 (ww3 v), .int .u64 (ww2 v), .int .u64 (ww1 v), .int .u64 (ww0 v), .int .u64 (ww3 t), .int .u64 (ww2 t), .int .u64 (ww1 t), .int .u64 (ww0 t)], [.int .u64 (ww3 a), .int .u64 (ww2 a), .int .u64 (ww1 a), .int .u64 (ww0 a), .int .u64 (ww3 b), .int .u64 (ww2 b), .int .u64 (ww1 b), .int .u64 (ww0 b), .int .u64 (ww3 c), .int .u64 (ww2 c), .int .u64 (ww1 c), .int .u64 (ww0 c)], [.int .u64 0, .int .u64 0, .int .u64 0, .int .u64 0, .int .u64 0, .int .u64 0, .int .u64 0, .int .u64 0]]) : (fun w' => w'.cell? ⟨w.heap.size, 0, none⟩ = some (.int .u64 (ww3 x)) ∧ w'.cell? ⟨w.heap.size, 1, none⟩ = some (.int .u64 (ww2 x)) ∧ w'.cell? ⟨w.heap.size, 2, none⟩ = some (.int .u64 (ww1 x)) ∧ w'.cell? ⟨w.heap.size, 3, none⟩ = some (.int .u64 (ww0 x)) ∧ w'.cell? ⟨w.heap.size, 4, none⟩ = some (.int .u64 (ww3 y)) ∧ w'.cell? ⟨w.heap.size, 5, none⟩ = some (.int .u64 (ww2 y)) ∧ w'.cell? ⟨w.heap.size, 6, none⟩ = some (.int .u64 (ww1 y)) ∧ w'.cell? ⟨w.heap.size, 7, none⟩ = some (.int .u64 (ww0 y)) ∧ w'.cell? ⟨w.heap.size, 8, none⟩ = some (.int .u64 (ww3 z)) ∧ w'.cell? ⟨w.heap.size, 9, none⟩ = some (.int .u64 (ww2 z)) ∧ w'.cell? ⟨w.heap.size, 10, none⟩ = some (.int .u64 (ww1 z)) ∧ w'.cell? ⟨w.heap.size, 11, none⟩ = some (.int .u64 (ww0 z)) ∧ w'.cell? ⟨w.heap.size + 1, 0, none⟩ = some (.int .u64 (ww3 u)) ∧ w'.cell? ⟨w.heap.size + 1, 1, none⟩ = some (.int .u64 (ww2 u)) ∧ w'.cell? ⟨w.heap.size + 1, 2, none⟩ = some (.int .u64 (ww1 u)) ∧ w'.cell? ⟨w.heap.size + 1, 3, none⟩ = some (.int .u64 (ww0 u)) ∧ w'.cell? ⟨w.heap.size + 1, 4, none⟩ = some (.int .u64 (ww3 v)) ∧ w'.cell? ⟨w.heap.size + 1, 5, none⟩ = some (.int .u64 (ww2 v)) ∧ w'.cell? ⟨w.heap.size + 1, 6, none⟩ = some (.int .u64 (ww1 v)) ∧ w'.cell? ⟨w.heap.size + 1, 7, none⟩ = some (.int .u64 (ww0 v)) ∧ w'.cell? ⟨w.heap.size + 1, 8, none⟩ = some (.int .u64 (ww3 t)) ∧ w'.cell? ⟨w.heap.size + 1, 9, none⟩ = some (.int .u64 (ww2 t)) ∧ w'.cell? ⟨w.heap.size + 1, 10, none⟩ = some (.int .u64 (ww1 t)) ∧ w'.cell? ⟨w.heap.size + 1, 11, none⟩ = some (.int .u64 (ww0 t)) ∧ w'.cell? ⟨w.heap.size + 2, 0, none⟩ = some (.int .u64 (ww3 a)) ∧ w'.cell? ⟨w.heap.size + 2, 1, none⟩ = some (.int .u64 (ww2 a)) ∧ w'.cell? ⟨w.heap.size + 2, 2, none⟩ = some (.int .u64 (ww1 a)) ∧ w'.cell? ⟨w.heap.size + 2, 3, none⟩ = some (.int .u64 (ww0 a)) ∧ w'.cell? ⟨w.heap.size + 2, 4, none⟩ = some (.int .u64 (ww3 b)) ∧ w'.cell? ⟨w.heap.size + 2, 5, none⟩ = some (.int .u64 (ww2 b)) ∧ w'.cell? ⟨w.heap.size + 2, 6, none⟩ = some (.int .u64 (ww1 b)) ∧ w'.cell? ⟨w.heap.size + 2, 7, none⟩ = some (.int .u64 (ww0 b)) ∧ w'.cell? ⟨w.heap.size + 2, 8, none⟩ = some (.int .u64 (ww3 c)) ∧ w'.cell? ⟨w.heap.size + 2, 9, none⟩ = some (.int .u64 (ww2 c)) ∧ w'.cell? ⟨w.heap.size + 2, 10, none⟩ = some (.int .u64 (ww1 c)) ∧ w'.cell? ⟨w.heap.size + 2, 11, none⟩ = some (.int .u64 (ww0 c))) W := ⟨(T0.b 0 rfl).c 0 rfl, (T0.b 0 rfl).c 1 rfl, (T0.b 0 rfl).c 2 rfl, (T0.b 0 rfl).c 3 rfl, (T0.b 0 rfl).c 4 rfl, (T0.b 0 rfl).c 5 rfl, (T0.b 0 rfl).c 6 rfl, (T0.b 0 rfl).c 7 rfl, (T0.b 0 rfl).c 8 rfl, (T0.b 0 rfl).c 9 rfl, (T0.b 0 rfl).c 10 rfl, (T0.b 0 rfl).c 11 rfl, (T0.b 1 rfl).c 0 rfl, (T0.b 1 rfl).c 1 rfl, (T0.b 1 rfl).c 2 rfl, (T0.b 1 rfl).c 3 rfl, (T0.b 1 rfl).c 4 rfl, (T0.b 1 rfl).c 5 rfl, (T0.b 1 rfl).c 6 rfl, (T0.b 1 rfl).c 7 rfl, (T0.b 1 rfl).c 8 rfl, (T0.b 1 rfl).c 9 rfl, (T0.b 1 rfl).c 10 rfl, (T0.b 1 rfl).c 11 rfl, (T0.b 2 rfl).c 0 rfl, (T0.b 2 rfl).c 1 rfl, (T0.b 2 rfl).c 2 rfl, (T0.b 2 rfl).c 3 rfl, (T0.b 2 rfl).c 4 rfl, (T0.b 2 rfl).c 5 rfl, (T0.b 2 rfl).c 6 rfl, (T0.b 2 rfl).c 7 rfl, (T0.b 2 rfl).c 8 rfl, (T0.b 2 rfl).c 9 rfl, (T0.b 2 rfl).c 10 rfl, (T0.b 2 rfl).c 11 rfl⟩
theorem t3_cells3 {x y z u v t a b c : Int} {w W : World} (T0 : ArgsB w W [[.int .u64 (ww3 x), .int .u64 (ww2 x), .int .u64 (ww1 x), .int .u64 (ww0 x), .int .u64 (ww3 y), .int .u64 (ww2 y), .int .u64 (ww1 y), .int .u64 (ww0 y), .int .u64 (ww3 z), .int .u64 (ww2 z), .int .u64 (ww1 z), .int .u64 (ww0 z)], [.int .u64 (ww3 u), .int .u64 (ww2 u), .int .u64 (ww1 u), .int .u64 (ww0 u), .int .u64 (ww3 v), .int .u64 (ww2 v), .int .u64 (ww1 v), .int .u64 (ww0 v), .int .u64 (ww3 t), .int .u64 (ww2 t), .int .u64 (ww1 t), .int .u64 (ww0 t)], [.int .u64 (ww3 a), .int .u64 (ww2 a), .int .u64 (ww1 a), .int .u64 (ww0 a), .int .u64 (ww3 b), .int .u64 (ww2 b), .int .u64 (ww1 b), .int .u64 (ww0 b), .int .u64 (ww3 c), .int .u64 (ww2 c), .int .u64 (ww1 c), .int .u64 (ww0 c)]]) : (fun w' => w'.cell? ⟨w.heap.size, 0, none⟩ = some (.int .u64 (ww3 x)) ∧ w'.cell? ⟨w.heap.size, 1, none⟩ = some (.int .u64 (ww2 x)) ∧ w'.cell? ⟨w.heap.size, 2, none⟩ = some (.int .u64 (ww1 x)) ∧ w'.cell? ⟨w.heap.size, 3, none⟩ = some (.int .u64 (ww0 x)) ∧ w'.cell? ⟨w.heap.size, 4, none⟩ = some (.int .u64 (ww3 y)) ∧ w'.cell? ⟨w.heap.size, 5, none⟩ = some (.int .u64 (ww2 y)) ∧ w'.cell? ⟨w.heap.size, 6, none⟩ = some (.int .u64 (ww1 y)) ∧ w'.cell? ⟨w.heap.size, 7, none⟩ = some (.int .u64 (ww0 y)) ∧ w'.cell? ⟨w.heap.size, 8, none⟩ = some (.int .u64 (ww3 z)) ∧ w'.cell? ⟨w.heap.size, 9, none⟩ = some (.int .u64 (ww2 z)) ∧ w'.cell? ⟨w.heap.size, 10, none⟩ = some (.int .u64 (ww1 z)) ∧ w'.cell? ⟨w.heap.size, 11, none⟩ = some (.int .u64 (ww0 z)) ∧ w'.cell? ⟨w.heap.size + 1, 0, none⟩ = some (.int .u64 (ww3 u)) ∧ w'.cell? ⟨w.heap.size + 1, 1, none⟩ = some (.int .u64 (ww2 u)) ∧ w'.cell? ⟨w.heap.size + 1, 2, none⟩ = some (.int .u64 (ww1 u)) ∧ w'.cell? ⟨w.heap.size + 1, 3, none⟩ = some (.int .u64 (ww0 u)) ∧ w'.cell? ⟨w.heap.size + 1, 4, none⟩ = some (.int .u64 (ww3 v)) ∧ w'.cell? ⟨w.heap.size + 1, 5, none⟩ = some (.int .u64 (ww2 v)) ∧ w'.cell? ⟨w.heap.size + 1, 6, none⟩ = some (.int .u64 (ww1 v)) ∧ w'.cell? ⟨w.heap.size + 1, 7, none⟩ = some (.int .u64 (ww0 v)) ∧ w'.cell? ⟨w.heap.size + 1, 8, none⟩ = some (.int .u64 (ww3 t)) ∧ w'.cell? ⟨w.heap.size + 1, 9, none⟩ = some (.int .u64 (ww2 t)) ∧ w'.cell? ⟨w.heap.size + 1, 10, none⟩ = some (.int .u64 (ww1 t)) ∧ w'.cell? ⟨w.heap.size + 1, 11, none⟩ = some (.int .u64 (ww0 t)) ∧ w'.cell? ⟨w.heap.size + 2, 0, none⟩ = some (.int .u64 (ww3 a)) ∧ w'.cell? ⟨w.heap.size + 2, 1, none⟩ = some (.int .u64 (ww2 a)) ∧ w'.cell? ⟨w.heap.size + 2, 2, none⟩ = some (.int .u64 (ww1 a)) ∧ w'.cell? ⟨w.heap.size + 2, 3, none⟩ = some (.int .u64 (ww0 a)) ∧ w'.cell? ⟨w.heap.size + 2, 4, none⟩ = some (.int .u64 (ww3 b)) ∧ w'.cell? ⟨w.heap.size + 2, 5, none⟩ = some (.int .u64 (ww2 b)) ∧ w'.cell? ⟨w.heap.size + 2, 6, none⟩ = some (.int .u64 (ww1 b)) ∧ w'.cell? ⟨w.heap.size + 2, 7, none⟩ = some (.int .u64 (ww0 b)) ∧ w'.cell? ⟨w.heap.size + 2, 8, none⟩ = some (.int .u64 (ww3 c)) ∧ w'.cell? ⟨w.heap.size + 2, 9, none⟩ = some (.int .u64 (ww2 c)) ∧ w'.cell? ⟨w.heap.size + 2, 10, none⟩ = some (.int .u64 (ww1 c)) ∧ w'.cell? ⟨w.heap.size + 2, 11, none⟩ = some (.int .u64 (ww0 c))) W := ⟨(T0.b 0 rfl).c 0 rfl, (T0.b 0 rfl).c 1 rfl, (T0.b 0 rfl).c 2 rfl, (T0.b 0 rfl).c 3 rfl, (T0.b 0 rfl).c 4 rfl, (T0.b 0 rfl).c 5 rfl, (T0.b 0 rfl).c 6 rfl, (T0.b 0 rfl).c 7 rfl, (T0.b 0 rfl).c 8 rfl, (T0.b 0 rfl).c 9 rfl, (T0.b 0 rfl).c 10 rfl, (T0.b 0 rfl).c 11 rfl, (T0.b 1 rfl).c 0 rfl, (T0.b 1 rfl).c 1 rfl, (T0.b 1 rfl).c 2 rfl, (T0.b 1 rfl).c 3 rfl, (T0.b 1 rfl).c 4 rfl, (T0.b 1 rfl).c 5 rfl, (T0.b 1 rfl).c 6 rfl, (T0.b 1 rfl).c 7 rfl, (T0.b 1 rfl).c 8 rfl, (T0.b 1 rfl).c 9 rfl, (T0.b 1 rfl).c 10 rfl, (T0.b 1 rfl).c 11 rfl, (T0.b 2 rfl).c 0 rfl, (T0.b 2 rfl).c 1 rfl, (T0.b 2 rfl).c 2 rfl, (T0.b 2 rfl).c 3 rfl, (T0.b 2 rfl).c 4 rfl, (T0.b 2 rfl).c 5 rfl, (T0.b 2 rfl).c 6 rfl, (T0.b 2 rfl).c 7 rfl, (T0.b 2 rfl).c 8 rfl, (T0.b 2 rfl).c 9 rfl, (T0.b 2 rfl).c 10 rfl, (T0.b 2 rfl).c 11 rfl⟩
theorem times_sm {r m : Int} (hr : small r = true) (hm : m.natAbs ≤ 2923003274661805836407369665432566039311865085952) (w : World) : Calls Tryz.prog 86 #[W4 r, W4 m] w (VP (LV (r * m)) w) := times_det r m (told_small hr) (told_of (by omega)) w
theorem triple_abs {r m : Int} (hr : small r = true) (hm : m.natAbs ≤ 2923003274661805836407369665432566039311865085952) : (r * m).natAbs ≤ 3533694129556768659166595001485837031654967793751237916243212402585239552 := by
  have := abs_mul (show r.natAbs ≤ 1208925819614629174706176 by have := sm_lt hr; omega) hm
  omega
/-- The turn of three points, as the program reckons it. -/
def turnJ (x y z u v t a b c : Int) : Int := cmpI (a * (y * t - z * v) - b * (x * t - z * u) + c * (x * v - y * u)) 0
theorem cutK_new {w X : World} {vss : List (List Value)} {rs : List Value} {T : TypeId} {B : Nat} (h : ArgsB w X vss) (hl : B ≤ X.heap.size) : ∃ g, (Value.pointer (some ⟨X.heap.size, 0, none⟩)) = .pointer (some ⟨g, 0, none⟩) ∧ B ≤ g ∧ ArgsB w (X.alloc (.cells rs.toArray T)) vss ∧ Blk (X.alloc (.cells rs.toArray T)) g rs :=
  ⟨_, rfl, hl, h.alloc _, Blk.new X rs T rfl⟩
theorem cutK_set {w X : World} {vss : List (List Value)} {v0 v1 v2 v3 v4 v5 v6 v7 z0 z1 z2 z3 z4 z5 z6 z7 : Value} {g B : Nat} (h : ArgsB w X vss) (G : Blk X g [z0, z1, z2, z3, z4, z5, z6, z7]) (hl : B ≤ g) (hg : w.heap.size + vss.length ≤ g) : ∃ g', (Value.pointer (some ⟨g, 0, none⟩)) = .pointer (some ⟨g', 0, none⟩) ∧ B ≤ g' ∧ ArgsB w ((((((((X.setCell ⟨g, 0, none⟩ v0).setCell ⟨g, 1, none⟩ v1).setCell ⟨g, 2, none⟩ v2).setCell ⟨g, 3, none⟩ v3).setCell ⟨g, 4, none⟩ v4).setCell ⟨g, 5, none⟩ v5).setCell ⟨g, 6, none⟩ v6).setCell ⟨g, 7, none⟩ v7) vss ∧ Blk ((((((((X.setCell ⟨g, 0, none⟩ v0).setCell ⟨g, 1, none⟩ v1).setCell ⟨g, 2, none⟩ v2).setCell ⟨g, 3, none⟩ v3).setCell ⟨g, 4, none⟩ v4).setCell ⟨g, 5, none⟩ v5).setCell ⟨g, 6, none⟩ v6).setCell ⟨g, 7, none⟩ v7) g' [v0, v1, v2, v3, v4, v5, v6, v7] :=
  ⟨g, rfl, hl, h.set8g hg _ _ _ _ _ _ _ _, (((((((G.setI 0 (by simp) v0).setI 1 (by simp) v1).setI 2 (by simp) v2).setI 3 (by simp) v3).setI 4 (by simp) v4).setI 5 (by simp) v5).setI 6 (by simp) v6).setI 7 (by simp) v7⟩
theorem tl_cells8 {X Y Z : Int} {W : World} {gX gY gZ g : Nat} {v0 v1 v2 v3 v4 v5 v6 v7 : Value} (BX : Blk W gX [.int .u64 (lw0 X), .int .u64 (lw1 X), .int .u64 (lw2 X), .int .u64 (lw3 X), .int .u64 (lw4 X), .int .u64 (lw5 X), .int .u64 (lw6 X), .int .u64 (lw7 X)]) (BY : Blk W gY [.int .u64 (lw0 Y), .int .u64 (lw1 Y), .int .u64 (lw2 Y), .int .u64 (lw3 Y), .int .u64 (lw4 Y), .int .u64 (lw5 Y), .int .u64 (lw6 Y), .int .u64 (lw7 Y)]) (BZ : Blk W gZ [.int .u64 (lw0 Z), .int .u64 (lw1 Z), .int .u64 (lw2 Z), .int .u64 (lw3 Z), .int .u64 (lw4 Z), .int .u64 (lw5 Z), .int .u64 (lw6 Z), .int .u64 (lw7 Z)]) (hX : gX ≠ g) (hY : gY ≠ g) (hZ : gZ ≠ g) : (fun w' => w'.cell? ⟨gX, 0, none⟩ = some (.int .u64 (lw0 X)) ∧ w'.cell? ⟨gX, 1, none⟩ = some (.int .u64 (lw1 X)) ∧ w'.cell? ⟨gX, 2, none⟩ = some (.int .u64 (lw2 X)) ∧ w'.cell? ⟨gX, 3, none⟩ = some (.int .u64 (lw3 X)) ∧ w'.cell? ⟨gX, 4, none⟩ = some (.int .u64 (lw4 X)) ∧ w'.cell? ⟨gX, 5, none⟩ = some (.int .u64 (lw5 X)) ∧ w'.cell? ⟨gX, 6, none⟩ = some (.int .u64 (lw6 X)) ∧ w'.cell? ⟨gX, 7, none⟩ = some (.int .u64 (lw7 X)) ∧ w'.cell? ⟨gY, 0, none⟩ = some (.int .u64 (lw0 Y)) ∧ w'.cell? ⟨gY, 1, none⟩ = some (.int .u64 (lw1 Y)) ∧ w'.cell? ⟨gY, 2, none⟩ = some (.int .u64 (lw2 Y)) ∧ w'.cell? ⟨gY, 3, none⟩ = some (.int .u64 (lw3 Y)) ∧ w'.cell? ⟨gY, 4, none⟩ = some (.int .u64 (lw4 Y)) ∧ w'.cell? ⟨gY, 5, none⟩ = some (.int .u64 (lw5 Y)) ∧ w'.cell? ⟨gY, 6, none⟩ = some (.int .u64 (lw6 Y)) ∧ w'.cell? ⟨gY, 7, none⟩ = some (.int .u64 (lw7 Y)) ∧ w'.cell? ⟨gZ, 0, none⟩ = some (.int .u64 (lw0 Z)) ∧ w'.cell? ⟨gZ, 1, none⟩ = some (.int .u64 (lw1 Z)) ∧ w'.cell? ⟨gZ, 2, none⟩ = some (.int .u64 (lw2 Z)) ∧ w'.cell? ⟨gZ, 3, none⟩ = some (.int .u64 (lw3 Z)) ∧ w'.cell? ⟨gZ, 4, none⟩ = some (.int .u64 (lw4 Z)) ∧ w'.cell? ⟨gZ, 5, none⟩ = some (.int .u64 (lw5 Z)) ∧ w'.cell? ⟨gZ, 6, none⟩ = some (.int .u64 (lw6 Z)) ∧ w'.cell? ⟨gZ, 7, none⟩ = some (.int .u64 (lw7 Z))) ((((((((W.setCell ⟨g, 0, none⟩ v0).setCell ⟨g, 1, none⟩ v1).setCell ⟨g, 2, none⟩ v2).setCell ⟨g, 3, none⟩ v3).setCell ⟨g, 4, none⟩ v4).setCell ⟨g, 5, none⟩ v5).setCell ⟨g, 6, none⟩ v6).setCell ⟨g, 7, none⟩ v7) := ⟨(BX.set8 hX).c 0 rfl, (BX.set8 hX).c 1 rfl, (BX.set8 hX).c 2 rfl, (BX.set8 hX).c 3 rfl, (BX.set8 hX).c 4 rfl, (BX.set8 hX).c 5 rfl, (BX.set8 hX).c 6 rfl, (BX.set8 hX).c 7 rfl, (BY.set8 hY).c 0 rfl, (BY.set8 hY).c 1 rfl, (BY.set8 hY).c 2 rfl, (BY.set8 hY).c 3 rfl, (BY.set8 hY).c 4 rfl, (BY.set8 hY).c 5 rfl, (BY.set8 hY).c 6 rfl, (BY.set8 hY).c 7 rfl, (BZ.set8 hZ).c 0 rfl, (BZ.set8 hZ).c 1 rfl, (BZ.set8 hZ).c 2 rfl, (BZ.set8 hZ).c 3 rfl, (BZ.set8 hZ).c 4 rfl, (BZ.set8 hZ).c 5 rfl, (BZ.set8 hZ).c 6 rfl, (BZ.set8 hZ).c 7 rfl⟩
theorem tl_cells {X Y Z : Int} {W : World} {gX gY gZ : Nat} (BX : Blk W gX [.int .u64 (lw0 X), .int .u64 (lw1 X), .int .u64 (lw2 X), .int .u64 (lw3 X), .int .u64 (lw4 X), .int .u64 (lw5 X), .int .u64 (lw6 X), .int .u64 (lw7 X)]) (BY : Blk W gY [.int .u64 (lw0 Y), .int .u64 (lw1 Y), .int .u64 (lw2 Y), .int .u64 (lw3 Y), .int .u64 (lw4 Y), .int .u64 (lw5 Y), .int .u64 (lw6 Y), .int .u64 (lw7 Y)]) (BZ : Blk W gZ [.int .u64 (lw0 Z), .int .u64 (lw1 Z), .int .u64 (lw2 Z), .int .u64 (lw3 Z), .int .u64 (lw4 Z), .int .u64 (lw5 Z), .int .u64 (lw6 Z), .int .u64 (lw7 Z)]) : (fun w' => w'.cell? ⟨gX, 0, none⟩ = some (.int .u64 (lw0 X)) ∧ w'.cell? ⟨gX, 1, none⟩ = some (.int .u64 (lw1 X)) ∧ w'.cell? ⟨gX, 2, none⟩ = some (.int .u64 (lw2 X)) ∧ w'.cell? ⟨gX, 3, none⟩ = some (.int .u64 (lw3 X)) ∧ w'.cell? ⟨gX, 4, none⟩ = some (.int .u64 (lw4 X)) ∧ w'.cell? ⟨gX, 5, none⟩ = some (.int .u64 (lw5 X)) ∧ w'.cell? ⟨gX, 6, none⟩ = some (.int .u64 (lw6 X)) ∧ w'.cell? ⟨gX, 7, none⟩ = some (.int .u64 (lw7 X)) ∧ w'.cell? ⟨gY, 0, none⟩ = some (.int .u64 (lw0 Y)) ∧ w'.cell? ⟨gY, 1, none⟩ = some (.int .u64 (lw1 Y)) ∧ w'.cell? ⟨gY, 2, none⟩ = some (.int .u64 (lw2 Y)) ∧ w'.cell? ⟨gY, 3, none⟩ = some (.int .u64 (lw3 Y)) ∧ w'.cell? ⟨gY, 4, none⟩ = some (.int .u64 (lw4 Y)) ∧ w'.cell? ⟨gY, 5, none⟩ = some (.int .u64 (lw5 Y)) ∧ w'.cell? ⟨gY, 6, none⟩ = some (.int .u64 (lw6 Y)) ∧ w'.cell? ⟨gY, 7, none⟩ = some (.int .u64 (lw7 Y)) ∧ w'.cell? ⟨gZ, 0, none⟩ = some (.int .u64 (lw0 Z)) ∧ w'.cell? ⟨gZ, 1, none⟩ = some (.int .u64 (lw1 Z)) ∧ w'.cell? ⟨gZ, 2, none⟩ = some (.int .u64 (lw2 Z)) ∧ w'.cell? ⟨gZ, 3, none⟩ = some (.int .u64 (lw3 Z)) ∧ w'.cell? ⟨gZ, 4, none⟩ = some (.int .u64 (lw4 Z)) ∧ w'.cell? ⟨gZ, 5, none⟩ = some (.int .u64 (lw5 Z)) ∧ w'.cell? ⟨gZ, 6, none⟩ = some (.int .u64 (lw6 Z)) ∧ w'.cell? ⟨gZ, 7, none⟩ = some (.int .u64 (lw7 Z))) W := ⟨BX.c 0 rfl, BX.c 1 rfl, BX.c 2 rfl, BX.c 3 rfl, BX.c 4 rfl, BX.c 5 rfl, BX.c 6 rfl, BX.c 7 rfl, BY.c 0 rfl, BY.c 1 rfl, BY.c 2 rfl, BY.c 3 rfl, BY.c 4 rfl, BY.c 5 rfl, BY.c 6 rfl, BY.c 7 rfl, BZ.c 0 rfl, BZ.c 1 rfl, BZ.c 2 rfl, BZ.c 3 rfl, BZ.c 4 rfl, BZ.c 5 rfl, BZ.c 6 rfl, BZ.c 7 rfl⟩
/-- The determinant of three points, as the program reckons it. -/
def detJ (x y z u v t a b c : Int) : Int := a * (y * t - z * v) - b * (x * t - z * u) + c * (x * v - y * u)
set_option maxRecDepth 100000 in
set_option maxHeartbeats 8000000 in
theorem corners_det (x y z u v t a b c : Int) (sx : small x = true) (sy : small y = true) (sz : small z = true) (su : small u = true) (sv : small v = true) (st : small t = true) (sa : small a = true) (sb : small b = true) (sc : small c = true) (w : World) : Calls Tryz.prog 64 #[PV x y z, PV u v t, PV a b c] w (VP (LV (detJ x y z u v t a b c)) w) := by
  have T0 : ArgsB w ((((w.alloc (.cells #[.int .u64 (ww3 x), .int .u64 (ww2 x), .int .u64 (ww1 x), .int .u64 (ww0 x), .int .u64 (ww3 y), .int .u64 (ww2 y), .int .u64 (ww1 y), .int .u64 (ww0 y), .int .u64 (ww3 z), .int .u64 (ww2 z), .int .u64 (ww1 z), .int .u64 (ww0 z)] 32)).alloc (.cells #[.int .u64 (ww3 u), .int .u64 (ww2 u), .int .u64 (ww1 u), .int .u64 (ww0 u), .int .u64 (ww3 v), .int .u64 (ww2 v), .int .u64 (ww1 v), .int .u64 (ww0 v), .int .u64 (ww3 t), .int .u64 (ww2 t), .int .u64 (ww1 t), .int .u64 (ww0 t)] 32)).alloc (.cells #[.int .u64 (ww3 a), .int .u64 (ww2 a), .int .u64 (ww1 a), .int .u64 (ww0 a), .int .u64 (ww3 b), .int .u64 (ww2 b), .int .u64 (ww1 b), .int .u64 (ww0 b), .int .u64 (ww3 c), .int .u64 (ww2 c), .int .u64 (ww1 c), .int .u64 (ww0 c)] 32)).alloc (.cells #[.int .u64 0, .int .u64 0, .int .u64 0, .int .u64 0, .int .u64 0, .int .u64 0, .int .u64 0, .int .u64 0] 87)) [[.int .u64 (ww3 x), .int .u64 (ww2 x), .int .u64 (ww1 x), .int .u64 (ww0 x), .int .u64 (ww3 y), .int .u64 (ww2 y), .int .u64 (ww1 y), .int .u64 (ww0 y), .int .u64 (ww3 z), .int .u64 (ww2 z), .int .u64 (ww1 z), .int .u64 (ww0 z)], [.int .u64 (ww3 u), .int .u64 (ww2 u), .int .u64 (ww1 u), .int .u64 (ww0 u), .int .u64 (ww3 v), .int .u64 (ww2 v), .int .u64 (ww1 v), .int .u64 (ww0 v), .int .u64 (ww3 t), .int .u64 (ww2 t), .int .u64 (ww1 t), .int .u64 (ww0 t)], [.int .u64 (ww3 a), .int .u64 (ww2 a), .int .u64 (ww1 a), .int .u64 (ww0 a), .int .u64 (ww3 b), .int .u64 (ww2 b), .int .u64 (ww1 b), .int .u64 (ww0 b), .int .u64 (ww3 c), .int .u64 (ww2 c), .int .u64 (ww1 c), .int .u64 (ww0 c)], [.int .u64 0, .int .u64 0, .int .u64 0, .int .u64 0, .int .u64 0, .int .u64 0, .int .u64 0, .int .u64 0]] := ar4 _ _ _ _ _ _ _ _ w
  have m0 := minor_abs sy sz sv st
  have C0 := minor_sm y z v t sy sz sv st
  have D0 := times_sm sa m0
  have e0 := triple_abs sa m0
  have m1 := minor_abs sx sz su st
  have C1 := minor_sm x z u t sx sz su st
  have D1 := times_sm sb m1
  have e1 := triple_abs sb m1
  have m2 := minor_abs sx sy su sv
  have C2 := minor_sm x y u v sx sy su sv
  have D2 := times_sm sc m2
  have e2 := triple_abs sc m2
  have HO : Hid (detJ x y z u v t a b c = a * (y * t - z * v) - b * (x * t - z * u) + c * (x * v - y * u)) := rfl
  clear sx sy sz su sv st sa sb sc m0 m1 m2
  generalize hv0 : a * (y * t - z * v) = X at *
  generalize hv1 : b * (x * t - z * u) = Y at *
  generalize hv2 : c * (x * v - y * u) = Z at *
  generalize hw0 : y * t - z * v = M0 at *
  generalize hw1 : x * t - z * u = M1 at *
  generalize hw2 : x * v - y * u = M2 at *
  clear hv0 hv1 hv2 hw0 hw1 hw2
  have E1 := minus_det X Y (lr_abs (by omega)) (lr_abs (by omega)) (lr_abs (by omega))
  have E2 := plus_det (X - Y) Z (lr_abs (by omega)) (lr_abs (by omega)) (lr_abs (by omega))
  clear e0 e1 e2
  go_enter Tryz.func64, Tryz.ntmps64
  go_upto_region 1 with fail
  generalize ((((w.alloc (.cells #[.int .u64 (ww3 x), .int .u64 (ww2 x), .int .u64 (ww1 x), .int .u64 (ww0 x), .int .u64 (ww3 y), .int .u64 (ww2 y), .int .u64 (ww1 y), .int .u64 (ww0 y), .int .u64 (ww3 z), .int .u64 (ww2 z), .int .u64 (ww1 z), .int .u64 (ww0 z)] 32)).alloc (.cells #[.int .u64 (ww3 u), .int .u64 (ww2 u), .int .u64 (ww1 u), .int .u64 (ww0 u), .int .u64 (ww3 v), .int .u64 (ww2 v), .int .u64 (ww1 v), .int .u64 (ww0 v), .int .u64 (ww3 t), .int .u64 (ww2 t), .int .u64 (ww1 t), .int .u64 (ww0 t)] 32)).alloc (.cells #[.int .u64 (ww3 a), .int .u64 (ww2 a), .int .u64 (ww1 a), .int .u64 (ww0 a), .int .u64 (ww3 b), .int .u64 (ww2 b), .int .u64 (ww1 b), .int .u64 (ww0 b), .int .u64 (ww3 c), .int .u64 (ww2 c), .int .u64 (ww1 c), .int .u64 (ww0 c)] 32)).alloc (.cells #[.int .u64 0, .int .u64 0, .int .u64 0, .int .u64 0, .int .u64 0, .int .u64 0, .int .u64 0, .int .u64 0] 87)) = W at *
  have h0 := (T0.b 3 rfl).lt
  go_cut [7] (fun p wx => (∃ g, p = .pointer (some ⟨g, 0, none⟩) ∧ w.heap.size + 4 ≤ g ∧ ArgsB w wx [[.int .u64 (ww3 x), .int .u64 (ww2 x), .int .u64 (ww1 x), .int .u64 (ww0 x), .int .u64 (ww3 y), .int .u64 (ww2 y), .int .u64 (ww1 y), .int .u64 (ww0 y), .int .u64 (ww3 z), .int .u64 (ww2 z), .int .u64 (ww1 z), .int .u64 (ww0 z)], [.int .u64 (ww3 u), .int .u64 (ww2 u), .int .u64 (ww1 u), .int .u64 (ww0 u), .int .u64 (ww3 v), .int .u64 (ww2 v), .int .u64 (ww1 v), .int .u64 (ww0 v), .int .u64 (ww3 t), .int .u64 (ww2 t), .int .u64 (ww1 t), .int .u64 (ww0 t)], [.int .u64 (ww3 a), .int .u64 (ww2 a), .int .u64 (ww1 a), .int .u64 (ww0 a), .int .u64 (ww3 b), .int .u64 (ww2 b), .int .u64 (ww1 b), .int .u64 (ww0 b), .int .u64 (ww3 c), .int .u64 (ww2 c), .int .u64 (ww1 c), .int .u64 (ww0 c)], [.int .u64 0, .int .u64 0, .int .u64 0, .int .u64 0, .int .u64 0, .int .u64 0, .int .u64 0, .int .u64 0]] ∧ Blk wx g [.int .u64 (lw0 X), .int .u64 (lw1 X), .int .u64 (lw2 X), .int .u64 (lw3 X), .int .u64 (lw4 X), .int .u64 (lw5 X), .int .u64 (lw6 X), .int .u64 (lw7 X)]))
  case first =>
    go_region_held3 (fun w' => w'.cell? ⟨w.heap.size, 0, none⟩ = some (.int .u64 (ww3 x)) ∧ w'.cell? ⟨w.heap.size, 1, none⟩ = some (.int .u64 (ww2 x)) ∧ w'.cell? ⟨w.heap.size, 2, none⟩ = some (.int .u64 (ww1 x)) ∧ w'.cell? ⟨w.heap.size, 3, none⟩ = some (.int .u64 (ww0 x)) ∧ w'.cell? ⟨w.heap.size, 4, none⟩ = some (.int .u64 (ww3 y)) ∧ w'.cell? ⟨w.heap.size, 5, none⟩ = some (.int .u64 (ww2 y)) ∧ w'.cell? ⟨w.heap.size, 6, none⟩ = some (.int .u64 (ww1 y)) ∧ w'.cell? ⟨w.heap.size, 7, none⟩ = some (.int .u64 (ww0 y)) ∧ w'.cell? ⟨w.heap.size, 8, none⟩ = some (.int .u64 (ww3 z)) ∧ w'.cell? ⟨w.heap.size, 9, none⟩ = some (.int .u64 (ww2 z)) ∧ w'.cell? ⟨w.heap.size, 10, none⟩ = some (.int .u64 (ww1 z)) ∧ w'.cell? ⟨w.heap.size, 11, none⟩ = some (.int .u64 (ww0 z)) ∧ w'.cell? ⟨w.heap.size + 1, 0, none⟩ = some (.int .u64 (ww3 u)) ∧ w'.cell? ⟨w.heap.size + 1, 1, none⟩ = some (.int .u64 (ww2 u)) ∧ w'.cell? ⟨w.heap.size + 1, 2, none⟩ = some (.int .u64 (ww1 u)) ∧ w'.cell? ⟨w.heap.size + 1, 3, none⟩ = some (.int .u64 (ww0 u)) ∧ w'.cell? ⟨w.heap.size + 1, 4, none⟩ = some (.int .u64 (ww3 v)) ∧ w'.cell? ⟨w.heap.size + 1, 5, none⟩ = some (.int .u64 (ww2 v)) ∧ w'.cell? ⟨w.heap.size + 1, 6, none⟩ = some (.int .u64 (ww1 v)) ∧ w'.cell? ⟨w.heap.size + 1, 7, none⟩ = some (.int .u64 (ww0 v)) ∧ w'.cell? ⟨w.heap.size + 1, 8, none⟩ = some (.int .u64 (ww3 t)) ∧ w'.cell? ⟨w.heap.size + 1, 9, none⟩ = some (.int .u64 (ww2 t)) ∧ w'.cell? ⟨w.heap.size + 1, 10, none⟩ = some (.int .u64 (ww1 t)) ∧ w'.cell? ⟨w.heap.size + 1, 11, none⟩ = some (.int .u64 (ww0 t)) ∧ w'.cell? ⟨w.heap.size + 2, 0, none⟩ = some (.int .u64 (ww3 a)) ∧ w'.cell? ⟨w.heap.size + 2, 1, none⟩ = some (.int .u64 (ww2 a)) ∧ w'.cell? ⟨w.heap.size + 2, 2, none⟩ = some (.int .u64 (ww1 a)) ∧ w'.cell? ⟨w.heap.size + 2, 3, none⟩ = some (.int .u64 (ww0 a)) ∧ w'.cell? ⟨w.heap.size + 2, 4, none⟩ = some (.int .u64 (ww3 b)) ∧ w'.cell? ⟨w.heap.size + 2, 5, none⟩ = some (.int .u64 (ww2 b)) ∧ w'.cell? ⟨w.heap.size + 2, 6, none⟩ = some (.int .u64 (ww1 b)) ∧ w'.cell? ⟨w.heap.size + 2, 7, none⟩ = some (.int .u64 (ww0 b)) ∧ w'.cell? ⟨w.heap.size + 2, 8, none⟩ = some (.int .u64 (ww3 c)) ∧ w'.cell? ⟨w.heap.size + 2, 9, none⟩ = some (.int .u64 (ww2 c)) ∧ w'.cell? ⟨w.heap.size + 2, 10, none⟩ = some (.int .u64 (ww1 c)) ∧ w'.cell? ⟨w.heap.size + 2, 11, none⟩ = some (.int .u64 (ww0 c))) ((refine t3_cells ?_ <;> repeat (first | (with_reducible exact T0) | (with_reducible refine ArgsB.drew ?_) | (with_reducible refine ArgsB.alloc ?_ _) | (with_reducible refine ArgsB.set8g ?_ (by simp; omega) _ _ _ _ _ _ _ _))))
      (first
        | (go_at_call 63; refine (C0 _).mono ?_; rintro e v01 ⟨rfl, hB⟩; (first | (have T1 : ArgsB w v01 _ := (by with_reducible exact T0.step hB); have tltv01 := (T0.b 3 rfl).lt; (try (replace G0 := G0.step hB; obtain ⟨j0c, j0f, j1c, j1f, j2c, j2f, j3c, j3f, j4c, j4f, j5c, j5f, j6c, j6f, j7c, j7f⟩ := G0.cf8; have jlt := G0.lt))) | (have T1 : ArgsB w v01 _ := (by with_reducible exact T0.drew.step hB); have tltv01 := (T0.b 3 rfl).lt; (try (replace G0 := G0.drew.step hB; obtain ⟨j0c, j0f, j1c, j1f, j2c, j2f, j3c, j3f, j4c, j4f, j5c, j5f, j6c, j6f, j7c, j7f⟩ := G0.cf8; have jlt := G0.lt))) | (have T1 : ArgsB w v01 _ := (by with_reducible exact (T0.alloc _).step hB); have tltv01 := (T0.b 3 rfl).lt; (have G0 := (Blk.new _ [.int .u64 0, .int .u64 0, .int .u64 0, .int .u64 0, .int .u64 0, .int .u64 0, .int .u64 0, .int .u64 0] _ rfl).step hB; obtain ⟨j0c, j0f, j1c, j1f, j2c, j2f, j3c, j3f, j4c, j4f, j5c, j5f, j6c, j6f, j7c, j7f⟩ := G0.cf8; have jlt := G0.lt)) | (have T1 : ArgsB w v01 _ := (by with_reducible exact (T0.alloc _).drew.step hB); have tltv01 := (T0.b 3 rfl).lt; (have G0 := (Blk.new _ [.int .u64 0, .int .u64 0, .int .u64 0, .int .u64 0, .int .u64 0, .int .u64 0, .int .u64 0, .int .u64 0] _ rfl).drew.step hB; obtain ⟨j0c, j0f, j1c, j1f, j2c, j2f, j3c, j3f, j4c, j4f, j5c, j5f, j6c, j6f, j7c, j7f⟩ := G0.cf8; have jlt := G0.lt))); clear T0; have T0 := T1; clear T1; clear hB)
        | (go_at_call 86; refine (D0 _).mono ?_; rintro e v02 ⟨rfl, hB⟩; (first | (have T1 : ArgsB w v02 _ := (by with_reducible exact T0.step hB); have tltv02 := (T0.b 3 rfl).lt; (try (replace G0 := G0.step hB; obtain ⟨j0c, j0f, j1c, j1f, j2c, j2f, j3c, j3f, j4c, j4f, j5c, j5f, j6c, j6f, j7c, j7f⟩ := G0.cf8; have jlt := G0.lt))) | (have T1 : ArgsB w v02 _ := (by with_reducible exact T0.drew.step hB); have tltv02 := (T0.b 3 rfl).lt; (try (replace G0 := G0.drew.step hB; obtain ⟨j0c, j0f, j1c, j1f, j2c, j2f, j3c, j3f, j4c, j4f, j5c, j5f, j6c, j6f, j7c, j7f⟩ := G0.cf8; have jlt := G0.lt))) | (have T1 : ArgsB w v02 _ := (by with_reducible exact (T0.alloc _).step hB); have tltv02 := (T0.b 3 rfl).lt; (have G0 := (Blk.new _ [.int .u64 0, .int .u64 0, .int .u64 0, .int .u64 0, .int .u64 0, .int .u64 0, .int .u64 0, .int .u64 0] _ rfl).step hB; obtain ⟨j0c, j0f, j1c, j1f, j2c, j2f, j3c, j3f, j4c, j4f, j5c, j5f, j6c, j6f, j7c, j7f⟩ := G0.cf8; have jlt := G0.lt)) | (have T1 : ArgsB w v02 _ := (by with_reducible exact (T0.alloc _).drew.step hB); have tltv02 := (T0.b 3 rfl).lt; (have G0 := (Blk.new _ [.int .u64 0, .int .u64 0, .int .u64 0, .int .u64 0, .int .u64 0, .int .u64 0, .int .u64 0, .int .u64 0] _ rfl).drew.step hB; obtain ⟨j0c, j0f, j1c, j1f, j2c, j2f, j3c, j3f, j4c, j4f, j5c, j5f, j6c, j6f, j7c, j7f⟩ := G0.cf8; have jlt := G0.lt))); clear T0; have T0 := T1; clear T1; clear hB))
    all_goals go_wp2_with fail
    all_goals go_meet
    all_goals have hl := (T0.b 3 rfl).lt
    all_goals first | (with_reducible exact cutK_new T0 (by omega)) | (with_reducible exact cutK_set T0 G0 (by omega) (by simp; omega))
  case rest =>
    clear T0 h0 C0 D0 
    obtain ⟨gX, hp, hgX, T0, BX⟩ := hcut
    subst hp
    have h0 := (T0.b 3 rfl).lt
    go_upto_region 2 with fail
    go_cut [8] (fun p wx => (∃ g, p = .pointer (some ⟨g, 0, none⟩) ∧ gX + 1 ≤ g ∧ ArgsB w wx [[.int .u64 (ww3 x), .int .u64 (ww2 x), .int .u64 (ww1 x), .int .u64 (ww0 x), .int .u64 (ww3 y), .int .u64 (ww2 y), .int .u64 (ww1 y), .int .u64 (ww0 y), .int .u64 (ww3 z), .int .u64 (ww2 z), .int .u64 (ww1 z), .int .u64 (ww0 z)], [.int .u64 (ww3 u), .int .u64 (ww2 u), .int .u64 (ww1 u), .int .u64 (ww0 u), .int .u64 (ww3 v), .int .u64 (ww2 v), .int .u64 (ww1 v), .int .u64 (ww0 v), .int .u64 (ww3 t), .int .u64 (ww2 t), .int .u64 (ww1 t), .int .u64 (ww0 t)], [.int .u64 (ww3 a), .int .u64 (ww2 a), .int .u64 (ww1 a), .int .u64 (ww0 a), .int .u64 (ww3 b), .int .u64 (ww2 b), .int .u64 (ww1 b), .int .u64 (ww0 b), .int .u64 (ww3 c), .int .u64 (ww2 c), .int .u64 (ww1 c), .int .u64 (ww0 c)], [.int .u64 0, .int .u64 0, .int .u64 0, .int .u64 0, .int .u64 0, .int .u64 0, .int .u64 0, .int .u64 0]] ∧ Blk wx g [.int .u64 (lw0 Y), .int .u64 (lw1 Y), .int .u64 (lw2 Y), .int .u64 (lw3 Y), .int .u64 (lw4 Y), .int .u64 (lw5 Y), .int .u64 (lw6 Y), .int .u64 (lw7 Y)]) ∧ Blk wx gX [.int .u64 (lw0 X), .int .u64 (lw1 X), .int .u64 (lw2 X), .int .u64 (lw3 X), .int .u64 (lw4 X), .int .u64 (lw5 X), .int .u64 (lw6 X), .int .u64 (lw7 X)])
    case first =>
      go_region_held3 (fun w' => w'.cell? ⟨w.heap.size, 0, none⟩ = some (.int .u64 (ww3 x)) ∧ w'.cell? ⟨w.heap.size, 1, none⟩ = some (.int .u64 (ww2 x)) ∧ w'.cell? ⟨w.heap.size, 2, none⟩ = some (.int .u64 (ww1 x)) ∧ w'.cell? ⟨w.heap.size, 3, none⟩ = some (.int .u64 (ww0 x)) ∧ w'.cell? ⟨w.heap.size, 4, none⟩ = some (.int .u64 (ww3 y)) ∧ w'.cell? ⟨w.heap.size, 5, none⟩ = some (.int .u64 (ww2 y)) ∧ w'.cell? ⟨w.heap.size, 6, none⟩ = some (.int .u64 (ww1 y)) ∧ w'.cell? ⟨w.heap.size, 7, none⟩ = some (.int .u64 (ww0 y)) ∧ w'.cell? ⟨w.heap.size, 8, none⟩ = some (.int .u64 (ww3 z)) ∧ w'.cell? ⟨w.heap.size, 9, none⟩ = some (.int .u64 (ww2 z)) ∧ w'.cell? ⟨w.heap.size, 10, none⟩ = some (.int .u64 (ww1 z)) ∧ w'.cell? ⟨w.heap.size, 11, none⟩ = some (.int .u64 (ww0 z)) ∧ w'.cell? ⟨w.heap.size + 1, 0, none⟩ = some (.int .u64 (ww3 u)) ∧ w'.cell? ⟨w.heap.size + 1, 1, none⟩ = some (.int .u64 (ww2 u)) ∧ w'.cell? ⟨w.heap.size + 1, 2, none⟩ = some (.int .u64 (ww1 u)) ∧ w'.cell? ⟨w.heap.size + 1, 3, none⟩ = some (.int .u64 (ww0 u)) ∧ w'.cell? ⟨w.heap.size + 1, 4, none⟩ = some (.int .u64 (ww3 v)) ∧ w'.cell? ⟨w.heap.size + 1, 5, none⟩ = some (.int .u64 (ww2 v)) ∧ w'.cell? ⟨w.heap.size + 1, 6, none⟩ = some (.int .u64 (ww1 v)) ∧ w'.cell? ⟨w.heap.size + 1, 7, none⟩ = some (.int .u64 (ww0 v)) ∧ w'.cell? ⟨w.heap.size + 1, 8, none⟩ = some (.int .u64 (ww3 t)) ∧ w'.cell? ⟨w.heap.size + 1, 9, none⟩ = some (.int .u64 (ww2 t)) ∧ w'.cell? ⟨w.heap.size + 1, 10, none⟩ = some (.int .u64 (ww1 t)) ∧ w'.cell? ⟨w.heap.size + 1, 11, none⟩ = some (.int .u64 (ww0 t)) ∧ w'.cell? ⟨w.heap.size + 2, 0, none⟩ = some (.int .u64 (ww3 a)) ∧ w'.cell? ⟨w.heap.size + 2, 1, none⟩ = some (.int .u64 (ww2 a)) ∧ w'.cell? ⟨w.heap.size + 2, 2, none⟩ = some (.int .u64 (ww1 a)) ∧ w'.cell? ⟨w.heap.size + 2, 3, none⟩ = some (.int .u64 (ww0 a)) ∧ w'.cell? ⟨w.heap.size + 2, 4, none⟩ = some (.int .u64 (ww3 b)) ∧ w'.cell? ⟨w.heap.size + 2, 5, none⟩ = some (.int .u64 (ww2 b)) ∧ w'.cell? ⟨w.heap.size + 2, 6, none⟩ = some (.int .u64 (ww1 b)) ∧ w'.cell? ⟨w.heap.size + 2, 7, none⟩ = some (.int .u64 (ww0 b)) ∧ w'.cell? ⟨w.heap.size + 2, 8, none⟩ = some (.int .u64 (ww3 c)) ∧ w'.cell? ⟨w.heap.size + 2, 9, none⟩ = some (.int .u64 (ww2 c)) ∧ w'.cell? ⟨w.heap.size + 2, 10, none⟩ = some (.int .u64 (ww1 c)) ∧ w'.cell? ⟨w.heap.size + 2, 11, none⟩ = some (.int .u64 (ww0 c))) ((refine t3_cells ?_ <;> repeat (first | (with_reducible exact T0) | (with_reducible refine ArgsB.drew ?_) | (with_reducible refine ArgsB.alloc ?_ _) | (with_reducible refine ArgsB.set8g ?_ (by simp; omega) _ _ _ _ _ _ _ _))))
        (first
          | (go_at_call 63; refine (C1 _).mono ?_; rintro e v11 ⟨rfl, hB⟩; (first | (have T1 : ArgsB w v11 _ := (by with_reducible exact T0.step hB); have tltv11 := (T0.b 3 rfl).lt; have lBXv11 := BX.lt; replace BX := BX.step hB; (try (replace G0 := G0.step hB; obtain ⟨j0c, j0f, j1c, j1f, j2c, j2f, j3c, j3f, j4c, j4f, j5c, j5f, j6c, j6f, j7c, j7f⟩ := G0.cf8; have jlt := G0.lt))) | (have T1 : ArgsB w v11 _ := (by with_reducible exact T0.drew.step hB); have tltv11 := (T0.b 3 rfl).lt; have lBXv11 := BX.lt; replace BX := BX.drew.step hB; (try (replace G0 := G0.drew.step hB; obtain ⟨j0c, j0f, j1c, j1f, j2c, j2f, j3c, j3f, j4c, j4f, j5c, j5f, j6c, j6f, j7c, j7f⟩ := G0.cf8; have jlt := G0.lt))) | (have T1 : ArgsB w v11 _ := (by with_reducible exact (T0.alloc _).step hB); have tltv11 := (T0.b 3 rfl).lt; have lBXv11 := BX.lt; replace BX := (BX.alloc _).step hB; (have G0 := (Blk.new _ [.int .u64 0, .int .u64 0, .int .u64 0, .int .u64 0, .int .u64 0, .int .u64 0, .int .u64 0, .int .u64 0] _ rfl).step hB; obtain ⟨j0c, j0f, j1c, j1f, j2c, j2f, j3c, j3f, j4c, j4f, j5c, j5f, j6c, j6f, j7c, j7f⟩ := G0.cf8; have jlt := G0.lt)) | (have T1 : ArgsB w v11 _ := (by with_reducible exact (T0.alloc _).drew.step hB); have tltv11 := (T0.b 3 rfl).lt; have lBXv11 := BX.lt; replace BX := (BX.alloc _).drew.step hB; (have G0 := (Blk.new _ [.int .u64 0, .int .u64 0, .int .u64 0, .int .u64 0, .int .u64 0, .int .u64 0, .int .u64 0, .int .u64 0] _ rfl).drew.step hB; obtain ⟨j0c, j0f, j1c, j1f, j2c, j2f, j3c, j3f, j4c, j4f, j5c, j5f, j6c, j6f, j7c, j7f⟩ := G0.cf8; have jlt := G0.lt))); clear T0; have T0 := T1; clear T1; clear hB)
          | (go_at_call 86; refine (D1 _).mono ?_; rintro e v12 ⟨rfl, hB⟩; (first | (have T1 : ArgsB w v12 _ := (by with_reducible exact T0.step hB); have tltv12 := (T0.b 3 rfl).lt; have lBXv12 := BX.lt; replace BX := BX.step hB; (try (replace G0 := G0.step hB; obtain ⟨j0c, j0f, j1c, j1f, j2c, j2f, j3c, j3f, j4c, j4f, j5c, j5f, j6c, j6f, j7c, j7f⟩ := G0.cf8; have jlt := G0.lt))) | (have T1 : ArgsB w v12 _ := (by with_reducible exact T0.drew.step hB); have tltv12 := (T0.b 3 rfl).lt; have lBXv12 := BX.lt; replace BX := BX.drew.step hB; (try (replace G0 := G0.drew.step hB; obtain ⟨j0c, j0f, j1c, j1f, j2c, j2f, j3c, j3f, j4c, j4f, j5c, j5f, j6c, j6f, j7c, j7f⟩ := G0.cf8; have jlt := G0.lt))) | (have T1 : ArgsB w v12 _ := (by with_reducible exact (T0.alloc _).step hB); have tltv12 := (T0.b 3 rfl).lt; have lBXv12 := BX.lt; replace BX := (BX.alloc _).step hB; (have G0 := (Blk.new _ [.int .u64 0, .int .u64 0, .int .u64 0, .int .u64 0, .int .u64 0, .int .u64 0, .int .u64 0, .int .u64 0] _ rfl).step hB; obtain ⟨j0c, j0f, j1c, j1f, j2c, j2f, j3c, j3f, j4c, j4f, j5c, j5f, j6c, j6f, j7c, j7f⟩ := G0.cf8; have jlt := G0.lt)) | (have T1 : ArgsB w v12 _ := (by with_reducible exact (T0.alloc _).drew.step hB); have tltv12 := (T0.b 3 rfl).lt; have lBXv12 := BX.lt; replace BX := (BX.alloc _).drew.step hB; (have G0 := (Blk.new _ [.int .u64 0, .int .u64 0, .int .u64 0, .int .u64 0, .int .u64 0, .int .u64 0, .int .u64 0, .int .u64 0] _ rfl).drew.step hB; obtain ⟨j0c, j0f, j1c, j1f, j2c, j2f, j3c, j3f, j4c, j4f, j5c, j5f, j6c, j6f, j7c, j7f⟩ := G0.cf8; have jlt := G0.lt))); clear T0; have T0 := T1; clear T1; clear hB))
      all_goals go_wp2_with fail
      all_goals go_meet
      all_goals have hl := (T0.b 3 rfl).lt
      all_goals have hlX := BX.lt
      all_goals first | (with_reducible exact ⟨cutK_new T0 (by omega), BX.alloc _⟩) | (with_reducible exact ⟨cutK_set T0 G0 (by omega) (by simp; omega), BX.set8 (by omega)⟩)
    case rest =>
      clear T0 h0 C1 D1 BX
      obtain ⟨⟨gY, hp, hgY, T0, BY⟩, BX⟩ := hcut
      subst hp
      have h0 := (T0.b 3 rfl).lt
      go_upto_region 3 with fail
      go_cut [9] (fun p wx => (∃ g, p = .pointer (some ⟨g, 0, none⟩) ∧ gY + 1 ≤ g ∧ ArgsB w wx [[.int .u64 (ww3 x), .int .u64 (ww2 x), .int .u64 (ww1 x), .int .u64 (ww0 x), .int .u64 (ww3 y), .int .u64 (ww2 y), .int .u64 (ww1 y), .int .u64 (ww0 y), .int .u64 (ww3 z), .int .u64 (ww2 z), .int .u64 (ww1 z), .int .u64 (ww0 z)], [.int .u64 (ww3 u), .int .u64 (ww2 u), .int .u64 (ww1 u), .int .u64 (ww0 u), .int .u64 (ww3 v), .int .u64 (ww2 v), .int .u64 (ww1 v), .int .u64 (ww0 v), .int .u64 (ww3 t), .int .u64 (ww2 t), .int .u64 (ww1 t), .int .u64 (ww0 t)], [.int .u64 (ww3 a), .int .u64 (ww2 a), .int .u64 (ww1 a), .int .u64 (ww0 a), .int .u64 (ww3 b), .int .u64 (ww2 b), .int .u64 (ww1 b), .int .u64 (ww0 b), .int .u64 (ww3 c), .int .u64 (ww2 c), .int .u64 (ww1 c), .int .u64 (ww0 c)], [.int .u64 0, .int .u64 0, .int .u64 0, .int .u64 0, .int .u64 0, .int .u64 0, .int .u64 0, .int .u64 0]] ∧ Blk wx g [.int .u64 (lw0 Z), .int .u64 (lw1 Z), .int .u64 (lw2 Z), .int .u64 (lw3 Z), .int .u64 (lw4 Z), .int .u64 (lw5 Z), .int .u64 (lw6 Z), .int .u64 (lw7 Z)]) ∧ Blk wx gX [.int .u64 (lw0 X), .int .u64 (lw1 X), .int .u64 (lw2 X), .int .u64 (lw3 X), .int .u64 (lw4 X), .int .u64 (lw5 X), .int .u64 (lw6 X), .int .u64 (lw7 X)] ∧ Blk wx gY [.int .u64 (lw0 Y), .int .u64 (lw1 Y), .int .u64 (lw2 Y), .int .u64 (lw3 Y), .int .u64 (lw4 Y), .int .u64 (lw5 Y), .int .u64 (lw6 Y), .int .u64 (lw7 Y)])
      case first =>
        go_region_held3 (fun w' => w'.cell? ⟨w.heap.size, 0, none⟩ = some (.int .u64 (ww3 x)) ∧ w'.cell? ⟨w.heap.size, 1, none⟩ = some (.int .u64 (ww2 x)) ∧ w'.cell? ⟨w.heap.size, 2, none⟩ = some (.int .u64 (ww1 x)) ∧ w'.cell? ⟨w.heap.size, 3, none⟩ = some (.int .u64 (ww0 x)) ∧ w'.cell? ⟨w.heap.size, 4, none⟩ = some (.int .u64 (ww3 y)) ∧ w'.cell? ⟨w.heap.size, 5, none⟩ = some (.int .u64 (ww2 y)) ∧ w'.cell? ⟨w.heap.size, 6, none⟩ = some (.int .u64 (ww1 y)) ∧ w'.cell? ⟨w.heap.size, 7, none⟩ = some (.int .u64 (ww0 y)) ∧ w'.cell? ⟨w.heap.size, 8, none⟩ = some (.int .u64 (ww3 z)) ∧ w'.cell? ⟨w.heap.size, 9, none⟩ = some (.int .u64 (ww2 z)) ∧ w'.cell? ⟨w.heap.size, 10, none⟩ = some (.int .u64 (ww1 z)) ∧ w'.cell? ⟨w.heap.size, 11, none⟩ = some (.int .u64 (ww0 z)) ∧ w'.cell? ⟨w.heap.size + 1, 0, none⟩ = some (.int .u64 (ww3 u)) ∧ w'.cell? ⟨w.heap.size + 1, 1, none⟩ = some (.int .u64 (ww2 u)) ∧ w'.cell? ⟨w.heap.size + 1, 2, none⟩ = some (.int .u64 (ww1 u)) ∧ w'.cell? ⟨w.heap.size + 1, 3, none⟩ = some (.int .u64 (ww0 u)) ∧ w'.cell? ⟨w.heap.size + 1, 4, none⟩ = some (.int .u64 (ww3 v)) ∧ w'.cell? ⟨w.heap.size + 1, 5, none⟩ = some (.int .u64 (ww2 v)) ∧ w'.cell? ⟨w.heap.size + 1, 6, none⟩ = some (.int .u64 (ww1 v)) ∧ w'.cell? ⟨w.heap.size + 1, 7, none⟩ = some (.int .u64 (ww0 v)) ∧ w'.cell? ⟨w.heap.size + 1, 8, none⟩ = some (.int .u64 (ww3 t)) ∧ w'.cell? ⟨w.heap.size + 1, 9, none⟩ = some (.int .u64 (ww2 t)) ∧ w'.cell? ⟨w.heap.size + 1, 10, none⟩ = some (.int .u64 (ww1 t)) ∧ w'.cell? ⟨w.heap.size + 1, 11, none⟩ = some (.int .u64 (ww0 t)) ∧ w'.cell? ⟨w.heap.size + 2, 0, none⟩ = some (.int .u64 (ww3 a)) ∧ w'.cell? ⟨w.heap.size + 2, 1, none⟩ = some (.int .u64 (ww2 a)) ∧ w'.cell? ⟨w.heap.size + 2, 2, none⟩ = some (.int .u64 (ww1 a)) ∧ w'.cell? ⟨w.heap.size + 2, 3, none⟩ = some (.int .u64 (ww0 a)) ∧ w'.cell? ⟨w.heap.size + 2, 4, none⟩ = some (.int .u64 (ww3 b)) ∧ w'.cell? ⟨w.heap.size + 2, 5, none⟩ = some (.int .u64 (ww2 b)) ∧ w'.cell? ⟨w.heap.size + 2, 6, none⟩ = some (.int .u64 (ww1 b)) ∧ w'.cell? ⟨w.heap.size + 2, 7, none⟩ = some (.int .u64 (ww0 b)) ∧ w'.cell? ⟨w.heap.size + 2, 8, none⟩ = some (.int .u64 (ww3 c)) ∧ w'.cell? ⟨w.heap.size + 2, 9, none⟩ = some (.int .u64 (ww2 c)) ∧ w'.cell? ⟨w.heap.size + 2, 10, none⟩ = some (.int .u64 (ww1 c)) ∧ w'.cell? ⟨w.heap.size + 2, 11, none⟩ = some (.int .u64 (ww0 c))) ((refine t3_cells ?_ <;> repeat (first | (with_reducible exact T0) | (with_reducible refine ArgsB.drew ?_) | (with_reducible refine ArgsB.alloc ?_ _) | (with_reducible refine ArgsB.set8g ?_ (by simp; omega) _ _ _ _ _ _ _ _))))
          (first
            | (go_at_call 63; refine (C2 _).mono ?_; rintro e v21 ⟨rfl, hB⟩; (first | (have T1 : ArgsB w v21 _ := (by with_reducible exact T0.step hB); have tltv21 := (T0.b 3 rfl).lt; have lBXv21 := BX.lt; replace BX := BX.step hB; have lBYv21 := BY.lt; replace BY := BY.step hB; (try (replace G0 := G0.step hB; obtain ⟨j0c, j0f, j1c, j1f, j2c, j2f, j3c, j3f, j4c, j4f, j5c, j5f, j6c, j6f, j7c, j7f⟩ := G0.cf8; have jlt := G0.lt))) | (have T1 : ArgsB w v21 _ := (by with_reducible exact T0.drew.step hB); have tltv21 := (T0.b 3 rfl).lt; have lBXv21 := BX.lt; replace BX := BX.drew.step hB; have lBYv21 := BY.lt; replace BY := BY.drew.step hB; (try (replace G0 := G0.drew.step hB; obtain ⟨j0c, j0f, j1c, j1f, j2c, j2f, j3c, j3f, j4c, j4f, j5c, j5f, j6c, j6f, j7c, j7f⟩ := G0.cf8; have jlt := G0.lt))) | (have T1 : ArgsB w v21 _ := (by with_reducible exact (T0.alloc _).step hB); have tltv21 := (T0.b 3 rfl).lt; have lBXv21 := BX.lt; replace BX := (BX.alloc _).step hB; have lBYv21 := BY.lt; replace BY := (BY.alloc _).step hB; (have G0 := (Blk.new _ [.int .u64 0, .int .u64 0, .int .u64 0, .int .u64 0, .int .u64 0, .int .u64 0, .int .u64 0, .int .u64 0] _ rfl).step hB; obtain ⟨j0c, j0f, j1c, j1f, j2c, j2f, j3c, j3f, j4c, j4f, j5c, j5f, j6c, j6f, j7c, j7f⟩ := G0.cf8; have jlt := G0.lt)) | (have T1 : ArgsB w v21 _ := (by with_reducible exact (T0.alloc _).drew.step hB); have tltv21 := (T0.b 3 rfl).lt; have lBXv21 := BX.lt; replace BX := (BX.alloc _).drew.step hB; have lBYv21 := BY.lt; replace BY := (BY.alloc _).drew.step hB; (have G0 := (Blk.new _ [.int .u64 0, .int .u64 0, .int .u64 0, .int .u64 0, .int .u64 0, .int .u64 0, .int .u64 0, .int .u64 0] _ rfl).drew.step hB; obtain ⟨j0c, j0f, j1c, j1f, j2c, j2f, j3c, j3f, j4c, j4f, j5c, j5f, j6c, j6f, j7c, j7f⟩ := G0.cf8; have jlt := G0.lt))); clear T0; have T0 := T1; clear T1; clear hB)
            | (go_at_call 86; refine (D2 _).mono ?_; rintro e v22 ⟨rfl, hB⟩; (first | (have T1 : ArgsB w v22 _ := (by with_reducible exact T0.step hB); have tltv22 := (T0.b 3 rfl).lt; have lBXv22 := BX.lt; replace BX := BX.step hB; have lBYv22 := BY.lt; replace BY := BY.step hB; (try (replace G0 := G0.step hB; obtain ⟨j0c, j0f, j1c, j1f, j2c, j2f, j3c, j3f, j4c, j4f, j5c, j5f, j6c, j6f, j7c, j7f⟩ := G0.cf8; have jlt := G0.lt))) | (have T1 : ArgsB w v22 _ := (by with_reducible exact T0.drew.step hB); have tltv22 := (T0.b 3 rfl).lt; have lBXv22 := BX.lt; replace BX := BX.drew.step hB; have lBYv22 := BY.lt; replace BY := BY.drew.step hB; (try (replace G0 := G0.drew.step hB; obtain ⟨j0c, j0f, j1c, j1f, j2c, j2f, j3c, j3f, j4c, j4f, j5c, j5f, j6c, j6f, j7c, j7f⟩ := G0.cf8; have jlt := G0.lt))) | (have T1 : ArgsB w v22 _ := (by with_reducible exact (T0.alloc _).step hB); have tltv22 := (T0.b 3 rfl).lt; have lBXv22 := BX.lt; replace BX := (BX.alloc _).step hB; have lBYv22 := BY.lt; replace BY := (BY.alloc _).step hB; (have G0 := (Blk.new _ [.int .u64 0, .int .u64 0, .int .u64 0, .int .u64 0, .int .u64 0, .int .u64 0, .int .u64 0, .int .u64 0] _ rfl).step hB; obtain ⟨j0c, j0f, j1c, j1f, j2c, j2f, j3c, j3f, j4c, j4f, j5c, j5f, j6c, j6f, j7c, j7f⟩ := G0.cf8; have jlt := G0.lt)) | (have T1 : ArgsB w v22 _ := (by with_reducible exact (T0.alloc _).drew.step hB); have tltv22 := (T0.b 3 rfl).lt; have lBXv22 := BX.lt; replace BX := (BX.alloc _).drew.step hB; have lBYv22 := BY.lt; replace BY := (BY.alloc _).drew.step hB; (have G0 := (Blk.new _ [.int .u64 0, .int .u64 0, .int .u64 0, .int .u64 0, .int .u64 0, .int .u64 0, .int .u64 0, .int .u64 0] _ rfl).drew.step hB; obtain ⟨j0c, j0f, j1c, j1f, j2c, j2f, j3c, j3f, j4c, j4f, j5c, j5f, j6c, j6f, j7c, j7f⟩ := G0.cf8; have jlt := G0.lt))); clear T0; have T0 := T1; clear T1; clear hB))
        all_goals go_wp2_with fail
        all_goals go_meet
        all_goals have hl := (T0.b 3 rfl).lt
        all_goals have hlX := BX.lt
        all_goals have hlY := BY.lt
        all_goals first | (with_reducible exact ⟨cutK_new T0 (by omega), BX.alloc _, BY.alloc _⟩) | (with_reducible exact ⟨cutK_set T0 G0 (by omega) (by simp; omega), BX.set8 (by omega), BY.set8 (by omega)⟩)
      case rest =>
        clear T0 h0 C2 D2 BX BY
        obtain ⟨⟨gZ, hp, hgZ, T0, BZ⟩, BX, BY⟩ := hcut
        subst hp
        have h0 := (T0.b 3 rfl).lt
        clear h0
        go_upto_region 4 with fail
        go_region_held3 (fun w' => w'.cell? ⟨gX, 0, none⟩ = some (.int .u64 (lw0 X)) ∧ w'.cell? ⟨gX, 1, none⟩ = some (.int .u64 (lw1 X)) ∧ w'.cell? ⟨gX, 2, none⟩ = some (.int .u64 (lw2 X)) ∧ w'.cell? ⟨gX, 3, none⟩ = some (.int .u64 (lw3 X)) ∧ w'.cell? ⟨gX, 4, none⟩ = some (.int .u64 (lw4 X)) ∧ w'.cell? ⟨gX, 5, none⟩ = some (.int .u64 (lw5 X)) ∧ w'.cell? ⟨gX, 6, none⟩ = some (.int .u64 (lw6 X)) ∧ w'.cell? ⟨gX, 7, none⟩ = some (.int .u64 (lw7 X)) ∧ w'.cell? ⟨gY, 0, none⟩ = some (.int .u64 (lw0 Y)) ∧ w'.cell? ⟨gY, 1, none⟩ = some (.int .u64 (lw1 Y)) ∧ w'.cell? ⟨gY, 2, none⟩ = some (.int .u64 (lw2 Y)) ∧ w'.cell? ⟨gY, 3, none⟩ = some (.int .u64 (lw3 Y)) ∧ w'.cell? ⟨gY, 4, none⟩ = some (.int .u64 (lw4 Y)) ∧ w'.cell? ⟨gY, 5, none⟩ = some (.int .u64 (lw5 Y)) ∧ w'.cell? ⟨gY, 6, none⟩ = some (.int .u64 (lw6 Y)) ∧ w'.cell? ⟨gY, 7, none⟩ = some (.int .u64 (lw7 Y)) ∧ w'.cell? ⟨gZ, 0, none⟩ = some (.int .u64 (lw0 Z)) ∧ w'.cell? ⟨gZ, 1, none⟩ = some (.int .u64 (lw1 Z)) ∧ w'.cell? ⟨gZ, 2, none⟩ = some (.int .u64 (lw2 Z)) ∧ w'.cell? ⟨gZ, 3, none⟩ = some (.int .u64 (lw3 Z)) ∧ w'.cell? ⟨gZ, 4, none⟩ = some (.int .u64 (lw4 Z)) ∧ w'.cell? ⟨gZ, 5, none⟩ = some (.int .u64 (lw5 Z)) ∧ w'.cell? ⟨gZ, 6, none⟩ = some (.int .u64 (lw6 Z)) ∧ w'.cell? ⟨gZ, 7, none⟩ = some (.int .u64 (lw7 Z))) (first | (with_reducible exact tl_cells BX BY BZ) | (with_reducible exact tl_cells BX.drew BY.drew BZ.drew) | (with_reducible exact tl_cells8 BX BY BZ (by omega) (by omega) (by omega)))
          (first
            | (go_at_call 87; refine (E1 _).mono ?_; rintro e f1 ⟨rfl, hB⟩; (first | (replace BX := BX.step hB; replace BY := BY.step hB; replace BZ := BZ.step hB; replace T0 := T0.step hB) | (replace BX := BX.drew.step hB; replace BY := BY.drew.step hB; replace BZ := BZ.drew.step hB; replace T0 := T0.drew.step hB)); clear hB)
            | (go_at_call 88; refine (E2 _).mono ?_; rintro e f2 ⟨rfl, hB⟩; (first | (replace BX := BX.step hB; replace BY := BY.step hB; replace BZ := BZ.step hB; replace T0 := T0.step hB) | (replace BX := BX.drew.step hB; replace BY := BY.drew.step hB; replace BZ := BZ.drew.step hB; replace T0 := T0.drew.step hB)); clear hB; have o0 := (T0.b 3 rfl).c 0 rfl; have p0 := (T0.b 3 rfl).f 0 rfl; have o1 := (T0.b 3 rfl).c 1 rfl; have p1 := (T0.b 3 rfl).f 1 rfl; have o2 := (T0.b 3 rfl).c 2 rfl; have p2 := (T0.b 3 rfl).f 2 rfl; have o3 := (T0.b 3 rfl).c 3 rfl; have p3 := (T0.b 3 rfl).f 3 rfl; have o4 := (T0.b 3 rfl).c 4 rfl; have p4 := (T0.b 3 rfl).f 4 rfl; have o5 := (T0.b 3 rfl).c 5 rfl; have p5 := (T0.b 3 rfl).f 5 rfl; have o6 := (T0.b 3 rfl).c 6 rfl; have p6 := (T0.b 3 rfl).f 6 rfl; have o7 := (T0.b 3 rfl).c 7 rfl; have p7 := (T0.b 3 rfl).f 7 rfl; have olt := (T0.b 3 rfl).lt))
        all_goals have HB := T0.below
        all_goals clear BX BY BZ T0
        all_goals go_wp2
        all_goals refine bodyPost_ret (v := LV (X - Y + Z)) (by simp [results, Tryz.results64, go_sem, o0, o1, o2, o3, o4, o5, o6, o7]) rfl ?_
        all_goals refine ⟨by rw [HO.out], ?_⟩
        all_goals repeat' (refine Below.setCell ?_ (by simp; try omega) _)
        all_goals first | exact HB | exact HB.drew
theorem det_abs {x y z u v t a b c : Int} (sx : small x = true) (sy : small y = true) (sz : small z = true) (su : small u = true) (sv : small v = true) (st : small t = true) (sa : small a = true) (sb : small b = true) (sc : small c = true) : (detJ x y z u v t a b c).natAbs ≤ 10601082388670305977499785004457511094964903381253713748729637207755718656 := by
  have e0 := triple_abs sa (minor_abs sy sz sv st)
  have e1 := triple_abs sb (minor_abs sx sz su st)
  have e2 := triple_abs sc (minor_abs sx sy su sv)
  unfold detJ
  omega
set_option maxRecDepth 100000 in
set_option maxHeartbeats 2000000 in
theorem turn_det (x y z u v t a b c : Int) (sx : small x = true) (sy : small y = true) (sz : small z = true) (su : small u = true) (sv : small v = true) (st : small t = true) (sa : small a = true) (sb : small b = true) (sc : small c = true) (w : World) : Calls Tryz.prog 34 #[PV x y z, PV u v t, PV a b c] w (VP (.int .i64 (turnJ x y z u v t a b c)) w) := by
  have T0 : ArgsB w (((w.alloc (.cells #[.int .u64 (ww3 x), .int .u64 (ww2 x), .int .u64 (ww1 x), .int .u64 (ww0 x), .int .u64 (ww3 y), .int .u64 (ww2 y), .int .u64 (ww1 y), .int .u64 (ww0 y), .int .u64 (ww3 z), .int .u64 (ww2 z), .int .u64 (ww1 z), .int .u64 (ww0 z)] 32)).alloc (.cells #[.int .u64 (ww3 u), .int .u64 (ww2 u), .int .u64 (ww1 u), .int .u64 (ww0 u), .int .u64 (ww3 v), .int .u64 (ww2 v), .int .u64 (ww1 v), .int .u64 (ww0 v), .int .u64 (ww3 t), .int .u64 (ww2 t), .int .u64 (ww1 t), .int .u64 (ww0 t)] 32)).alloc (.cells #[.int .u64 (ww3 a), .int .u64 (ww2 a), .int .u64 (ww1 a), .int .u64 (ww0 a), .int .u64 (ww3 b), .int .u64 (ww2 b), .int .u64 (ww1 b), .int .u64 (ww0 b), .int .u64 (ww3 c), .int .u64 (ww2 c), .int .u64 (ww1 c), .int .u64 (ww0 c)] 32)) [[.int .u64 (ww3 x), .int .u64 (ww2 x), .int .u64 (ww1 x), .int .u64 (ww0 x), .int .u64 (ww3 y), .int .u64 (ww2 y), .int .u64 (ww1 y), .int .u64 (ww0 y), .int .u64 (ww3 z), .int .u64 (ww2 z), .int .u64 (ww1 z), .int .u64 (ww0 z)], [.int .u64 (ww3 u), .int .u64 (ww2 u), .int .u64 (ww1 u), .int .u64 (ww0 u), .int .u64 (ww3 v), .int .u64 (ww2 v), .int .u64 (ww1 v), .int .u64 (ww0 v), .int .u64 (ww3 t), .int .u64 (ww2 t), .int .u64 (ww1 t), .int .u64 (ww0 t)], [.int .u64 (ww3 a), .int .u64 (ww2 a), .int .u64 (ww1 a), .int .u64 (ww0 a), .int .u64 (ww3 b), .int .u64 (ww2 b), .int .u64 (ww1 b), .int .u64 (ww0 b), .int .u64 (ww3 c), .int .u64 (ww2 c), .int .u64 (ww1 c), .int .u64 (ww0 c)]] := ar3 _ _ _ _ _ _ w
  have C := corners_det x y z u v t a b c sx sy sz su sv st sa sb sc
  have E := signL_det (detJ x y z u v t a b c) (lr_abs (by have := det_abs sx sy sz su sv st sa sb sc; omega))
  have HO : Hid (turnJ x y z u v t a b c = cmpI (detJ x y z u v t a b c) 0) := rfl
  clear sx sy sz su sv st sa sb sc
  generalize detJ x y z u v t a b c = D at *
  have q := t3_cells3 T0
  go_enter Tryz.func34, Tryz.ntmps34
  go_upto_region 1 with fail
  generalize (((w.alloc (.cells #[.int .u64 (ww3 x), .int .u64 (ww2 x), .int .u64 (ww1 x), .int .u64 (ww0 x), .int .u64 (ww3 y), .int .u64 (ww2 y), .int .u64 (ww1 y), .int .u64 (ww0 y), .int .u64 (ww3 z), .int .u64 (ww2 z), .int .u64 (ww1 z), .int .u64 (ww0 z)] 32)).alloc (.cells #[.int .u64 (ww3 u), .int .u64 (ww2 u), .int .u64 (ww1 u), .int .u64 (ww0 u), .int .u64 (ww3 v), .int .u64 (ww2 v), .int .u64 (ww1 v), .int .u64 (ww0 v), .int .u64 (ww3 t), .int .u64 (ww2 t), .int .u64 (ww1 t), .int .u64 (ww0 t)] 32)).alloc (.cells #[.int .u64 (ww3 a), .int .u64 (ww2 a), .int .u64 (ww1 a), .int .u64 (ww0 a), .int .u64 (ww3 b), .int .u64 (ww2 b), .int .u64 (ww1 b), .int .u64 (ww0 b), .int .u64 (ww3 c), .int .u64 (ww2 c), .int .u64 (ww1 c), .int .u64 (ww0 c)] 32)) = W at *
  obtain ⟨q0, q1, q2, q3, q4, q5, q6, q7, q8, q9, q10, q11, q12, q13, q14, q15, q16, q17, q18, q19, q20, q21, q22, q23, q24, q25, q26, q27, q28, q29, q30, q31, q32, q33, q34, q35⟩ := q
  have HB := T0.below
  clear T0
  go_wp2_with fail
  refine (C _).mono ?_
  rintro e w1 ⟨rfl, hB⟩
  replace HB := HB.trans (hB.mono HB.size)
  clear hB q0 q1 q2 q3 q4 q5 q6 q7 q8 q9 q10 q11 q12 q13 q14 q15 q16 q17 q18 q19 q20 q21 q22 q23 q24 q25 q26 q27 q28 q29 q30 q31 q32 q33 q34 q35
  go_wp2_with fail
  refine (E _).mono ?_
  rintro e w2 ⟨rfl, hB⟩
  replace HB := HB.trans (hB.mono HB.size)
  clear hB
  go_wp2
  go_ret
  exact ⟨by rw [HO.out]; rfl, HB⟩
end Go.Proofs.YtniccikkhddofaaGreat
