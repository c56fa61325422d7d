/- Part 12 of the walks that the proof leans on. -/
import Derived.Test.YtjhmacpejfldoaaPart9
import Derived.Test.YtjhmacpejfldoaaPart5
import Derived.Test.YtjhmacpejfldoaaPart11
import Derived.Test.YtjhmacpejfldoaaPart7
/- The drawn regions of the program's walk to the nearest segment. -/
namespace Go.Proofs.Ytjhmacpejfldoaa
open Go.RowKit
def VnkR (_B4 _gs gl gb _A8 _gp _gr : Nat) (_p _q k y0 y1 y2 y3 y4 y5 y6 y7 : Int) (_B : Nat) : Nat → Value → World → Prop
  | 0, v, _ => v = .int .i64 k
  | 1, v, _ => v = .agg #[.int .u64 y0, .int .u64 y1, .int .u64 y2, .int .u64 y3, .int .u64 y4, .int .u64 y5, .int .u64 y6, .int .u64 y7]
  | 2, _, W => Blk W gb [.int .i64 k]
  | 3, _, W => Blk W gl [.int .u64 y0, .int .u64 y1, .int .u64 y2, .int .u64 y3, .int .u64 y4, .int .u64 y5, .int .u64 y6, .int .u64 y7]
  | _, _, _ => True
theorem VnkR.mono {B4 gs gl gb A8 gp gr : Nat} {p q k y0 y1 y2 y3 y4 y5 y6 y7 : Int} {B j : Nat} {v : Value} {W W2 : World} (hB : Below W.heap.size W W2) (h : VnkR B4 gs gl gb A8 gp gr p q k y0 y1 y2 y3 y4 y5 y6 y7 B j v W) : VnkR B4 gs gl gb A8 gp gr p q k y0 y1 y2 y3 y4 y5 y6 y7 B j v W2 := by
  unfold VnkR at *
  split <;> simp only at h <;> first | exact h | exact h.step hB | trivial
theorem VnkR.put {B4 gs gl gb A8 gp gr : Nat} {p q k y0 y1 y2 y3 y4 y5 y6 y7 : Int} {B j : Nat} {v : Value} {W W2 : World} (h0 : Blk W gb [.int .i64 k] → Blk W2 gb [.int .i64 k]) (h1 : Blk W gl [.int .u64 y0, .int .u64 y1, .int .u64 y2, .int .u64 y3, .int .u64 y4, .int .u64 y5, .int .u64 y6, .int .u64 y7] → Blk W2 gl [.int .u64 y0, .int .u64 y1, .int .u64 y2, .int .u64 y3, .int .u64 y4, .int .u64 y5, .int .u64 y6, .int .u64 y7]) (h : VnkR B4 gs gl gb A8 gp gr p q k y0 y1 y2 y3 y4 y5 y6 y7 B j v W) : VnkR B4 gs gl gb A8 gp gr p q k y0 y1 y2 y3 y4 y5 y6 y7 B j v W2 := by
  unfold VnkR at *
  split <;> simp only at h <;> first | exact h | exact h0 h | exact h1 h | trivial
def SnkR (_B4 gs gl gb A8 gp gr : Nat) (p q k y0 y1 y2 y3 y4 y5 y6 y7 : Int) (W : World) : Prop := Blk W gs [.int .i64 k] ∧ Blk W A8 [.int .u64 y0, .int .u64 y1, .int .u64 y2, .int .u64 y3, .int .u64 y4, .int .u64 y5, .int .u64 y6, .int .u64 y7] ∧ Blk W gp [.int .i64 p, .int .i64 q] ∧ Blk W gr [.int .u64 0, .int .u64 0, .int .u64 0, .int .u64 0, .int .u64 0, .int .u64 0, .int .u64 0, .int .u64 0] ∧ (∃ e0, Blk W gb [e0]) ∧ ∃ z0q z1q z2q z3q z4q z5q z6q z7q, Blk W gl [z0q, z1q, z2q, z3q, z4q, z5q, z6q, z7q]
def JnkR (B4 gs gl gb A8 gp gr : Nat) (p q k y0 y1 y2 y3 y4 y5 y6 y7 : Int) (w0 : World) (a0 : Act) (lz : Array Bool) (az : Act) (W : World) : Prop := InvQ (B4) [some 24, some 25, none, none] (VnkR B4 gs gl gb A8 gp gr p q k y0 y1 y2 y3 y4 y5 y6 y7 (B4)) w0 a0 lz az W ∧ SnkR B4 gs gl gb A8 gp gr p q k y0 y1 y2 y3 y4 y5 y6 y7 W
set_option maxRecDepth 100000 in
set_option maxHeartbeats 4000000 in
theorem nkR {Q : Exit → Act → World → Prop} {B4 gs gl gb A8 gp gr : Nat} {p q k y0 y1 y2 y3 y4 y5 y6 y7 : Int}  {w0 : World} {a0 : Act} {idq : Nat} {t0 t1 t2 t3 : TypeId} {q0 q1 q2 q3 : String}
    (nsb : gs ≠ gb) (nsl : gs ≠ gl) (n8b : A8 ≠ gb) (n8l : A8 ≠ gl) (nbl : gb ≠ gl) (nlb : gl ≠ gb) (npb : gp ≠ gb) (npl : gp ≠ gl) (nrb : gr ≠ gb) (nrl : gr ≠ gl) (hbb : B4 ≤ gb) (hbl : B4 ≤ gl) (h2 : a0.tmps[2]? = some (.pointer (some ⟨gs, 0, none⟩))) (h3 : a0.tmps[3]? = some (.pointer (some ⟨gl, 0, none⟩))) (h4 : a0.tmps[4]? = some (.pointer (some ⟨gb, 0, none⟩))) (h8 : a0.tmps[8]? = some (.pointer (some ⟨A8, 0, none⟩)))  (hz : a0.tmps.size = 30) (hs0 : SnkR B4 gs gl gb A8 gp gr p q k y0 y1 y2 y3 y4 y5 y6 y7 w0.drew)
    (hQ : ∀ aq W, aq.tmps.size = a0.tmps.size → aq.defers = a0.defers → (∀ e, e ∉ ([24, 25] : List Nat) → aq.tmps[e]? = a0.tmps[e]?) → VnkR B4 gs gl gb A8 gp gr p q k y0 y1 y2 y3 y4 y5 y6 y7 (B4) 2 undef W → VnkR B4 gs gl gb A8 gp gr p q k y0 y1 y2 y3 y4 y5 y6 y7 (B4) 3 undef W → Below (B4) w0 W → SnkR B4 gs gl gb A8 gp gr p q k y0 y1 y2 y3 y4 y5 y6 y7 W → Q .normal aq W) :
    (Code.region idq #[{ dst := some 24, op := Op.load 2 (Operand.tmp 2), type := t0, pos := q0, after := #[], guard := none },
    { dst := some 25, op := Op.load 33 (Operand.tmp 8), type := t1, pos := q1, after := #[{ on := 2, ground := Ground.gcOnly Departure.lateStores }], guard := none },
    { dst := none, op := Op.store 2 (Operand.tmp 4) (Operand.tmp 24), type := t2, pos := q2, after := #[{ on := 0, ground := Ground.data }, { on := 0, ground := Ground.phase }, { on := 1, ground := Ground.textOnly Departure.lateStores }], guard := none },
    { dst := none, op := Op.store 33 (Operand.tmp 3) (Operand.tmp 25), type := t3, pos := q3, after := #[{ on := 1, ground := Ground.data }, { on := 2, ground := Ground.chain }, { on := 0, ground := Ground.phase }, { on := 1, ground := Ground.phase }, { on := 2, ground := Ground.phase }], guard := none }] true).wp Try.prog Q a0 w0 := by
  have hS : distS [some 24, some 25, none, none] = true := rfl
  refine wp_region_inv (by kernel_rfl) (JnkR B4 gs gl gb A8 gp gr p q k y0 y1 y2 y3 y4 y5 y6 y7 w0 a0) ⟨⟨rfl, rfl, rfl, fun _ _ => rfl, (Below.refl _ w0).drew, fun j d hj => ?_, fun j hj => ?_⟩, hs0⟩ ?_ ?_
  · exfalso
    rw [Array.getD_eq_getD_getElem?, Array.getElem?_replicate] at hj
    split at hj <;> simp at hj
  · exfalso
    rw [Array.getD_eq_getD_getElem?, Array.getElem?_replicate] at hj
    split at hj <;> simp at hj
  · intro lq aq W iq oq ⟨hJ, hs⟩ hl ho hall
    have hJ2 := hJ
    obtain ⟨z1, z2, z3, z4, z5, z6, z7⟩ := hJ
    obtain ⟨xa, xb, xp, xr, ⟨e0, xc⟩, z0q, z1q, z2q, z3q, z4q, z5q, z6q, z7q, xd⟩ := hs
    have ca0 := xa.c 0 rfl; have cb0 := xb.c 0 rfl; have cb1 := xb.c 1 rfl; have cb2 := xb.c 2 rfl; have cb3 := xb.c 3 rfl; have cb4 := xb.c 4 rfl; have cb5 := xb.c 5 rfl; have cb6 := xb.c 6 rfl; have cb7 := xb.c 7 rfl; have ra0 := xc.c 0 rfl; have sa0 := xc.f 0 rfl; have rb0 := xd.c 0 rfl; have sb0 := xd.f 0 rfl; have rb1 := xd.c 1 rfl; have sb1 := xd.f 1 rfl; have rb2 := xd.c 2 rfl; have sb2 := xd.f 2 rfl; have rb3 := xd.c 3 rfl; have sb3 := xd.f 3 rfl; have rb4 := xd.c 4 rfl; have sb4 := xd.f 4 rfl; have rb5 := xd.c 5 rfl; have sb5 := xd.f 5 rfl; have rb6 := xd.c 6 rfl; have sb6 := xd.f 6 rfl; have rb7 := xd.c 7 rfl; have sb7 := xd.f 7 rfl
    have rla := xc.lt; have rlb := xd.lt
    have hs : SnkR B4 gs gl gb A8 gp gr p q k y0 y1 y2 y3 y4 y5 y6 y7 W := ⟨xa, xb, xp, xr, ⟨_, xc⟩, _, _, _, _, _, _, _, _, xd⟩
    have g2 : aq.tmps.getD 2 undef = .pointer (some ⟨gs, 0, none⟩) := by rw [Array.getD_eq_getD_getElem?, z4 2 (by decide), h2]; rfl
    have g3 : aq.tmps.getD 3 undef = .pointer (some ⟨gl, 0, none⟩) := by rw [Array.getD_eq_getD_getElem?, z4 3 (by decide), h3]; rfl
    have g4 : aq.tmps.getD 4 undef = .pointer (some ⟨gb, 0, none⟩) := by rw [Array.getD_eq_getD_getElem?, z4 4 (by decide), h4]; rfl
    have g8 : aq.tmps.getD 8 undef = .pointer (some ⟨A8, 0, none⟩) := by rw [Array.getD_eq_getD_getElem?, z4 8 (by decide), h8]; rfl
    match iq, ho with
    | 0, ho =>
      cases ho
      refine wpOp_of rfl rfl ?_
      have hK := fun (v : Value) (W2 : World) hW hT hv (hs : SnkR B4 gs gl gb A8 gp gr p q k y0 y1 y2 y3 y4 y5 y6 y7 W2) => show (JnkR B4 gs gl gb A8 gp gr p q k y0 y1 y2 y3 y4 y5 y6 y7 w0 a0) (lq.setIfInBounds 0 true) (aq.put (some 24) v) W2 from ⟨hJ2.put hS 0 24 rfl (by omega) (W' := W2) hW hT v hv, hs⟩
      clear ho hall hl hQ
      generalize (JnkR B4 gs gl gb A8 gp gr p q k y0 y1 y2 y3 y4 y5 y6 y7 w0 a0) (lq.setIfInBounds 0 true) = K at hK ⊢
      clear hJ2 hS z1 z2 z3 z4 z6 z7
      go_simp
      exact hK _ _ z5 (fun _ _ h => h) rfl hs
    | 1, ho =>
      cases ho
      refine wpOp_of rfl rfl ?_
      have hK := fun (v : Value) (W2 : World) hW hT hv (hs : SnkR B4 gs gl gb A8 gp gr p q k y0 y1 y2 y3 y4 y5 y6 y7 W2) => show (JnkR B4 gs gl gb A8 gp gr p q k y0 y1 y2 y3 y4 y5 y6 y7 w0 a0) (lq.setIfInBounds 1 true) (aq.put (some 25) v) W2 from ⟨hJ2.put hS 1 25 rfl (by omega) (W' := W2) hW hT v hv, hs⟩
      clear ho hall hl hQ
      generalize (JnkR B4 gs gl gb A8 gp gr p q k y0 y1 y2 y3 y4 y5 y6 y7 w0 a0) (lq.setIfInBounds 1 true) = K at hK ⊢
      clear hJ2 hS z1 z2 z3 z4 z6 z7
      go_simp
      exact hK _ _ z5 (fun _ _ h => h) rfl hs
    | 2, ho =>
      cases ho
      refine wpOp_of rfl rfl ?_
      have f0 : (aq.tmps.getD 24 undef) = .int .i64 k := z6 0 24 (hall { on := 0, ground := Ground.data } (by simp) rfl) rfl
      have hK := fun (W2 : World) hW hT hv (hs : SnkR B4 gs gl gb A8 gp gr p q k y0 y1 y2 y3 y4 y5 y6 y7 W2) => show (JnkR B4 gs gl gb A8 gp gr p q k y0 y1 y2 y3 y4 y5 y6 y7 w0 a0) (lq.setIfInBounds 2 true) aq W2 from ⟨hJ2.world 2 rfl (W' := W2) hW hT hv, hs⟩
      clear ho hall hl hQ
      generalize (JnkR B4 gs gl gb A8 gp gr p q k y0 y1 y2 y3 y4 y5 y6 y7 w0 a0) (lq.setIfInBounds 2 true) = K at hK ⊢
      clear hJ2 hS z1 z2 z3 z4 z6 z7
      have nb : Blk (W.setCell ⟨gb, 0, none⟩ (.int .i64 k)) gb [.int .i64 k] := xc.setI 0 (by simp) _
      have ns : SnkR B4 gs gl gb A8 gp gr p q k y0 y1 y2 y3 y4 y5 y6 y7 (W.setCell ⟨gb, 0, none⟩ (.int .i64 k)) := ⟨xa.setO (p := ⟨gb, 0, none⟩) nsb _, xb.setO (p := ⟨gb, 0, none⟩) n8b _, xp.setO (p := ⟨gb, 0, none⟩) npb _, xr.setO (p := ⟨gb, 0, none⟩) nrb _, ⟨_, nb⟩, _, _, _, _, _, _, _, _, xd.setO (p := ⟨gb, 0, none⟩) nlb _⟩
      have nB : Below B4 w0 (W.setCell ⟨gb, 0, none⟩ (.int .i64 k)) := z5.setCell (p := ⟨gb, 0, none⟩) hbb _
      clear xa xb xc xd xp xr
      go_simp
      exact hK _ nB (fun j v h => VnkR.put (fun _ => nb) (fun h => h.setO (p := ⟨gb, 0, none⟩) nlb _) h) nb ns
    | 3, ho =>
      cases ho
      refine wpOp_of rfl rfl ?_
      have f1 : (aq.tmps.getD 25 undef) = .agg #[.int .u64 y0, .int .u64 y1, .int .u64 y2, .int .u64 y3, .int .u64 y4, .int .u64 y5, .int .u64 y6, .int .u64 y7] := z6 1 25 (hall { on := 1, ground := Ground.data } (by simp) rfl) rfl
      have hK := fun (W2 : World) hW hT hv (hs : SnkR B4 gs gl gb A8 gp gr p q k y0 y1 y2 y3 y4 y5 y6 y7 W2) => show (JnkR B4 gs gl gb A8 gp gr p q k y0 y1 y2 y3 y4 y5 y6 y7 w0 a0) (lq.setIfInBounds 3 true) aq W2 from ⟨hJ2.world 3 rfl (W' := W2) hW hT hv, hs⟩
      clear ho hall hl hQ
      generalize (JnkR B4 gs gl gb A8 gp gr p q k y0 y1 y2 y3 y4 y5 y6 y7 w0 a0) (lq.setIfInBounds 3 true) = K at hK ⊢
      clear hJ2 hS z1 z2 z3 z4 z6 z7
      have nb : Blk ((((((((W.setCell ⟨gl, 0, none⟩ (.int .u64 y0)).setCell ⟨gl, 1, none⟩ (.int .u64 y1)).setCell ⟨gl, 2, none⟩ (.int .u64 y2)).setCell ⟨gl, 3, none⟩ (.int .u64 y3)).setCell ⟨gl, 4, none⟩ (.int .u64 y4)).setCell ⟨gl, 5, none⟩ (.int .u64 y5)).setCell ⟨gl, 6, none⟩ (.int .u64 y6)).setCell ⟨gl, 7, none⟩ (.int .u64 y7)) gl [.int .u64 y0, .int .u64 y1, .int .u64 y2, .int .u64 y3, .int .u64 y4, .int .u64 y5, .int .u64 y6, .int .u64 y7] := Blk.stored8 xd _ _ _ _ _ _ _ _
      have ns : SnkR B4 gs gl gb A8 gp gr p q k y0 y1 y2 y3 y4 y5 y6 y7 ((((((((W.setCell ⟨gl, 0, none⟩ (.int .u64 y0)).setCell ⟨gl, 1, none⟩ (.int .u64 y1)).setCell ⟨gl, 2, none⟩ (.int .u64 y2)).setCell ⟨gl, 3, none⟩ (.int .u64 y3)).setCell ⟨gl, 4, none⟩ (.int .u64 y4)).setCell ⟨gl, 5, none⟩ (.int .u64 y5)).setCell ⟨gl, 6, none⟩ (.int .u64 y6)).setCell ⟨gl, 7, none⟩ (.int .u64 y7)) := ⟨xa.set8 nsl, xb.set8 n8l, xp.set8 npl, xr.set8 nrl, ⟨_, xc.set8 nbl⟩, _, _, _, _, _, _, _, _, nb⟩
      have nB : Below B4 w0 ((((((((W.setCell ⟨gl, 0, none⟩ (.int .u64 y0)).setCell ⟨gl, 1, none⟩ (.int .u64 y1)).setCell ⟨gl, 2, none⟩ (.int .u64 y2)).setCell ⟨gl, 3, none⟩ (.int .u64 y3)).setCell ⟨gl, 4, none⟩ (.int .u64 y4)).setCell ⟨gl, 5, none⟩ (.int .u64 y5)).setCell ⟨gl, 6, none⟩ (.int .u64 y6)).setCell ⟨gl, 7, none⟩ (.int .u64 y7)) := ((((((((z5.setCell (p := ⟨gl, 0, none⟩) hbl _).setCell (p := ⟨gl, 1, none⟩) hbl _).setCell (p := ⟨gl, 2, none⟩) hbl _).setCell (p := ⟨gl, 3, none⟩) hbl _).setCell (p := ⟨gl, 4, none⟩) hbl _).setCell (p := ⟨gl, 5, none⟩) hbl _).setCell (p := ⟨gl, 6, none⟩) hbl _).setCell (p := ⟨gl, 7, none⟩) hbl _)
      clear xa xb xc xd xp xr
      go_simp
      exact hK _ nB (fun j v h => VnkR.put (fun h => h.set8 nbl) (fun _ => nb) h) nb ns
    | iq + 4, ho => simp at ho
  · intro lq aq W ⟨hJ, hs⟩ hr
    obtain ⟨z1, z2, z3, z4, z5, z6, z7⟩ := hJ
    have hl := listed_of hr [0, 2, 1, 3] [] (by simp) (by kernel_rfl) (by rw [z1]; decide)
    exact hQ aq W z2 z3 (fun e he => z4 e (by simpa using he)) (z7 2 (hl 2 (by simp)) rfl) (z7 3 (hl 3 (by simp)) rfl) z5 hs

def VnkS (_B4 _gl _gb A7 : Nat) (k y0 y1 y2 y3 y4 y5 y6 y7 : Int) (_B : Nat) : Nat → Value → World → Prop
  | 0, v, _ => v = .int .i64 k
  | 1, v, _ => v = .agg #[.int .u64 y0, .int .u64 y1, .int .u64 y2, .int .u64 y3, .int .u64 y4, .int .u64 y5, .int .u64 y6, .int .u64 y7]
  | 2, v, _ => v = .int .i64 k
  | 3, _, W => Blk W A7 [.int .u64 y0, .int .u64 y1, .int .u64 y2, .int .u64 y3, .int .u64 y4, .int .u64 y5, .int .u64 y6, .int .u64 y7]
  | _, _, _ => True
theorem VnkS.mono {B4 gl gb A7 : Nat} {k y0 y1 y2 y3 y4 y5 y6 y7 : Int} {B j : Nat} {v : Value} {W W2 : World} (hB : Below W.heap.size W W2) (h : VnkS B4 gl gb A7 k y0 y1 y2 y3 y4 y5 y6 y7 B j v W) : VnkS B4 gl gb A7 k y0 y1 y2 y3 y4 y5 y6 y7 B j v W2 := by
  unfold VnkS at *
  split <;> simp only at h <;> first | exact h | exact h.step hB | trivial
theorem VnkS.put {B4 gl gb A7 : Nat} {k y0 y1 y2 y3 y4 y5 y6 y7 : Int} {B j : Nat} {v : Value} {W W2 : World} (h1 : Blk W A7 [.int .u64 y0, .int .u64 y1, .int .u64 y2, .int .u64 y3, .int .u64 y4, .int .u64 y5, .int .u64 y6, .int .u64 y7] → Blk W2 A7 [.int .u64 y0, .int .u64 y1, .int .u64 y2, .int .u64 y3, .int .u64 y4, .int .u64 y5, .int .u64 y6, .int .u64 y7]) (h : VnkS B4 gl gb A7 k y0 y1 y2 y3 y4 y5 y6 y7 B j v W) : VnkS B4 gl gb A7 k y0 y1 y2 y3 y4 y5 y6 y7 B j v W2 := by
  unfold VnkS at *
  split <;> simp only at h <;> first | exact h | exact h1 h | trivial
def SnkS (_B4 gl gb A7 : Nat) (k y0 y1 y2 y3 y4 y5 y6 y7 : Int) (W : World) : Prop := Blk W gb [.int .i64 k] ∧ Blk W gl [.int .u64 y0, .int .u64 y1, .int .u64 y2, .int .u64 y3, .int .u64 y4, .int .u64 y5, .int .u64 y6, .int .u64 y7] ∧ ∃ z0q z1q z2q z3q z4q z5q z6q z7q, Blk W A7 [z0q, z1q, z2q, z3q, z4q, z5q, z6q, z7q]
def JnkS (B4 gl gb A7 : Nat) (k y0 y1 y2 y3 y4 y5 y6 y7 : Int) (w0 : World) (a0 : Act) (lz : Array Bool) (az : Act) (W : World) : Prop := InvQ (B4) [some 28, some 29, some 6, none] (VnkS B4 gl gb A7 k y0 y1 y2 y3 y4 y5 y6 y7 (B4)) w0 a0 lz az W ∧ SnkS B4 gl gb A7 k y0 y1 y2 y3 y4 y5 y6 y7 W
set_option maxRecDepth 100000 in
set_option maxHeartbeats 4000000 in
theorem nkS {Q : Exit → Act → World → Prop} {B4 gl gb A7 : Nat} {k y0 y1 y2 y3 y4 y5 y6 y7 : Int}  {w0 : World} {a0 : Act} {idq : Nat} {t0 t1 t2 t3 : TypeId} {q0 q1 q2 q3 : String}
    (nb7 : gb ≠ A7) (nl7 : gl ≠ A7) (hb7 : B4 ≤ A7) (h3 : a0.tmps[3]? = some (.pointer (some ⟨gl, 0, none⟩))) (h4 : a0.tmps[4]? = some (.pointer (some ⟨gb, 0, none⟩))) (h7 : a0.tmps[7]? = some (.pointer (some ⟨A7, 0, none⟩)))  (hz : a0.tmps.size = 30) (hs0 : SnkS B4 gl gb A7 k y0 y1 y2 y3 y4 y5 y6 y7 w0.drew)
    (hQ : ∀ aq W, aq.tmps.size = a0.tmps.size → aq.defers = a0.defers → (∀ e, e ∉ ([28, 29, 6] : List Nat) → aq.tmps[e]? = a0.tmps[e]?) → VnkS B4 gl gb A7 k y0 y1 y2 y3 y4 y5 y6 y7 (B4) 2 (aq.tmps.getD 6 undef) W → VnkS B4 gl gb A7 k y0 y1 y2 y3 y4 y5 y6 y7 (B4) 3 undef W → Below (B4) w0 W → SnkS B4 gl gb A7 k y0 y1 y2 y3 y4 y5 y6 y7 W → Q .normal aq W) :
    (Code.region idq #[{ dst := some 28, op := Op.load 2 (Operand.tmp 4), type := t0, pos := q0, after := #[], guard := none },
    { dst := some 29, op := Op.load 33 (Operand.tmp 3), type := t1, pos := q1, after := #[{ on := 2, ground := Ground.gcOnly Departure.lateStores }], guard := none },
    { dst := some 6, op := Op.assign (Operand.tmp 28), type := t2, pos := q2, after := #[{ on := 0, ground := Ground.data }, { on := 0, ground := Ground.phase }, { on := 1, ground := Ground.textOnly Departure.lateStores }], guard := none },
    { dst := none, op := Op.store 33 (Operand.tmp 7) (Operand.tmp 29), type := t3, pos := q3, after := #[{ on := 1, ground := Ground.data }, { on := 2, ground := Ground.chain }, { on := 0, ground := Ground.phase }, { on := 1, ground := Ground.phase }, { on := 2, ground := Ground.phase }], guard := none }] true).wp Try.prog Q a0 w0 := by
  have hS : distS [some 28, some 29, some 6, none] = true := rfl
  refine wp_region_inv (by kernel_rfl) (JnkS B4 gl gb A7 k y0 y1 y2 y3 y4 y5 y6 y7 w0 a0) ⟨⟨rfl, rfl, rfl, fun _ _ => rfl, (Below.refl _ w0).drew, fun j d hj => ?_, fun j hj => ?_⟩, hs0⟩ ?_ ?_
  · exfalso
    rw [Array.getD_eq_getD_getElem?, Array.getElem?_replicate] at hj
    split at hj <;> simp at hj
  · exfalso
    rw [Array.getD_eq_getD_getElem?, Array.getElem?_replicate] at hj
    split at hj <;> simp at hj
  · intro lq aq W iq oq ⟨hJ, hs⟩ hl ho hall
    have hJ2 := hJ
    obtain ⟨z1, z2, z3, z4, z5, z6, z7⟩ := hJ
    obtain ⟨xa, xb, z0q, z1q, z2q, z3q, z4q, z5q, z6q, z7q, xd⟩ := hs
    have ca0 := xa.c 0 rfl; have cb0 := xb.c 0 rfl; have cb1 := xb.c 1 rfl; have cb2 := xb.c 2 rfl; have cb3 := xb.c 3 rfl; have cb4 := xb.c 4 rfl; have cb5 := xb.c 5 rfl; have cb6 := xb.c 6 rfl; have cb7 := xb.c 7 rfl; have rb0 := xd.c 0 rfl; have sb0 := xd.f 0 rfl; have rb1 := xd.c 1 rfl; have sb1 := xd.f 1 rfl; have rb2 := xd.c 2 rfl; have sb2 := xd.f 2 rfl; have rb3 := xd.c 3 rfl; have sb3 := xd.f 3 rfl; have rb4 := xd.c 4 rfl; have sb4 := xd.f 4 rfl; have rb5 := xd.c 5 rfl; have sb5 := xd.f 5 rfl; have rb6 := xd.c 6 rfl; have sb6 := xd.f 6 rfl; have rb7 := xd.c 7 rfl; have sb7 := xd.f 7 rfl
    have rlb := xd.lt
    have hs : SnkS B4 gl gb A7 k y0 y1 y2 y3 y4 y5 y6 y7 W := ⟨xa, xb, _, _, _, _, _, _, _, _, xd⟩
    have g3 : aq.tmps.getD 3 undef = .pointer (some ⟨gl, 0, none⟩) := by rw [Array.getD_eq_getD_getElem?, z4 3 (by decide), h3]; rfl
    have g4 : aq.tmps.getD 4 undef = .pointer (some ⟨gb, 0, none⟩) := by rw [Array.getD_eq_getD_getElem?, z4 4 (by decide), h4]; rfl
    have g7 : aq.tmps.getD 7 undef = .pointer (some ⟨A7, 0, none⟩) := by rw [Array.getD_eq_getD_getElem?, z4 7 (by decide), h7]; rfl
    match iq, ho with
    | 0, ho =>
      cases ho
      refine wpOp_of rfl rfl ?_
      have hK := fun (v : Value) (W2 : World) hW hT hv (hs : SnkS B4 gl gb A7 k y0 y1 y2 y3 y4 y5 y6 y7 W2) => show (JnkS B4 gl gb A7 k y0 y1 y2 y3 y4 y5 y6 y7 w0 a0) (lq.setIfInBounds 0 true) (aq.put (some 28) v) W2 from ⟨hJ2.put hS 0 28 rfl (by omega) (W' := W2) hW hT v hv, hs⟩
      clear ho hall hl hQ
      generalize (JnkS B4 gl gb A7 k y0 y1 y2 y3 y4 y5 y6 y7 w0 a0) (lq.setIfInBounds 0 true) = K at hK ⊢
      clear hJ2 hS z1 z2 z3 z4 z6 z7
      go_simp
      exact hK _ _ z5 (fun _ _ h => h) rfl hs
    | 1, ho =>
      cases ho
      refine wpOp_of rfl rfl ?_
      have hK := fun (v : Value) (W2 : World) hW hT hv (hs : SnkS B4 gl gb A7 k y0 y1 y2 y3 y4 y5 y6 y7 W2) => show (JnkS B4 gl gb A7 k y0 y1 y2 y3 y4 y5 y6 y7 w0 a0) (lq.setIfInBounds 1 true) (aq.put (some 29) v) W2 from ⟨hJ2.put hS 1 29 rfl (by omega) (W' := W2) hW hT v hv, hs⟩
      clear ho hall hl hQ
      generalize (JnkS B4 gl gb A7 k y0 y1 y2 y3 y4 y5 y6 y7 w0 a0) (lq.setIfInBounds 1 true) = K at hK ⊢
      clear hJ2 hS z1 z2 z3 z4 z6 z7
      go_simp
      exact hK _ _ z5 (fun _ _ h => h) rfl hs
    | 2, ho =>
      cases ho
      refine wpOp_of rfl rfl ?_
      have f0 : (aq.tmps.getD 28 undef) = .int .i64 k := z6 0 28 (hall { on := 0, ground := Ground.data } (by simp) rfl) rfl
      have hK := fun (v : Value) (W2 : World) hW hT hv (hs : SnkS B4 gl gb A7 k y0 y1 y2 y3 y4 y5 y6 y7 W2) => show (JnkS B4 gl gb A7 k y0 y1 y2 y3 y4 y5 y6 y7 w0 a0) (lq.setIfInBounds 2 true) (aq.put (some 6) v) W2 from ⟨hJ2.put hS 2 6 rfl (by omega) (W' := W2) hW hT v hv, hs⟩
      clear ho hall hl hQ
      generalize (JnkS B4 gl gb A7 k y0 y1 y2 y3 y4 y5 y6 y7 w0 a0) (lq.setIfInBounds 2 true) = K at hK ⊢
      clear hJ2 hS z1 z2 z3 z4 z6 z7
      go_simp
      exact hK _ _ z5 (fun _ _ h => h) rfl hs
    | 3, ho =>
      cases ho
      refine wpOp_of rfl rfl ?_
      have f1 : (aq.tmps.getD 29 undef) = .agg #[.int .u64 y0, .int .u64 y1, .int .u64 y2, .int .u64 y3, .int .u64 y4, .int .u64 y5, .int .u64 y6, .int .u64 y7] := z6 1 29 (hall { on := 1, ground := Ground.data } (by simp) rfl) rfl
      have hK := fun (W2 : World) hW hT hv (hs : SnkS B4 gl gb A7 k y0 y1 y2 y3 y4 y5 y6 y7 W2) => show (JnkS B4 gl gb A7 k y0 y1 y2 y3 y4 y5 y6 y7 w0 a0) (lq.setIfInBounds 3 true) aq W2 from ⟨hJ2.world 3 rfl (W' := W2) hW hT hv, hs⟩
      clear ho hall hl hQ
      generalize (JnkS B4 gl gb A7 k y0 y1 y2 y3 y4 y5 y6 y7 w0 a0) (lq.setIfInBounds 3 true) = K at hK ⊢
      clear hJ2 hS z1 z2 z3 z4 z6 z7
      have nb : Blk ((((((((W.setCell ⟨A7, 0, none⟩ (.int .u64 y0)).setCell ⟨A7, 1, none⟩ (.int .u64 y1)).setCell ⟨A7, 2, none⟩ (.int .u64 y2)).setCell ⟨A7, 3, none⟩ (.int .u64 y3)).setCell ⟨A7, 4, none⟩ (.int .u64 y4)).setCell ⟨A7, 5, none⟩ (.int .u64 y5)).setCell ⟨A7, 6, none⟩ (.int .u64 y6)).setCell ⟨A7, 7, none⟩ (.int .u64 y7)) A7 [.int .u64 y0, .int .u64 y1, .int .u64 y2, .int .u64 y3, .int .u64 y4, .int .u64 y5, .int .u64 y6, .int .u64 y7] := Blk.stored8 xd _ _ _ _ _ _ _ _
      have ns : SnkS B4 gl gb A7 k y0 y1 y2 y3 y4 y5 y6 y7 ((((((((W.setCell ⟨A7, 0, none⟩ (.int .u64 y0)).setCell ⟨A7, 1, none⟩ (.int .u64 y1)).setCell ⟨A7, 2, none⟩ (.int .u64 y2)).setCell ⟨A7, 3, none⟩ (.int .u64 y3)).setCell ⟨A7, 4, none⟩ (.int .u64 y4)).setCell ⟨A7, 5, none⟩ (.int .u64 y5)).setCell ⟨A7, 6, none⟩ (.int .u64 y6)).setCell ⟨A7, 7, none⟩ (.int .u64 y7)) := ⟨xa.set8 nb7, xb.set8 nl7, _, _, _, _, _, _, _, _, nb⟩
      have nB : Below B4 w0 ((((((((W.setCell ⟨A7, 0, none⟩ (.int .u64 y0)).setCell ⟨A7, 1, none⟩ (.int .u64 y1)).setCell ⟨A7, 2, none⟩ (.int .u64 y2)).setCell ⟨A7, 3, none⟩ (.int .u64 y3)).setCell ⟨A7, 4, none⟩ (.int .u64 y4)).setCell ⟨A7, 5, none⟩ (.int .u64 y5)).setCell ⟨A7, 6, none⟩ (.int .u64 y6)).setCell ⟨A7, 7, none⟩ (.int .u64 y7)) := ((((((((z5.setCell (p := ⟨A7, 0, none⟩) hb7 _).setCell (p := ⟨A7, 1, none⟩) hb7 _).setCell (p := ⟨A7, 2, none⟩) hb7 _).setCell (p := ⟨A7, 3, none⟩) hb7 _).setCell (p := ⟨A7, 4, none⟩) hb7 _).setCell (p := ⟨A7, 5, none⟩) hb7 _).setCell (p := ⟨A7, 6, none⟩) hb7 _).setCell (p := ⟨A7, 7, none⟩) hb7 _)
      clear xa xb xd
      go_simp
      exact hK _ nB (fun j v h => VnkS.put (fun _ => nb) h) nb ns
    | iq + 4, ho => simp at ho
  · intro lq aq W ⟨hJ, hs⟩ hr
    obtain ⟨z1, z2, z3, z4, z5, z6, z7⟩ := hJ
    have hl := listed_of hr [0, 2, 1, 3] [] (by simp) (by kernel_rfl) (by rw [z1]; decide)
    exact hQ aq W z2 z3 (fun e he => z4 e (by simpa using he)) (z6 2 6 (hl 2 (by simp)) rfl) (z7 3 (hl 3 (by simp)) rfl) z5 hs

def VnkE (_B4 A5 _A8 : Nat) (k y0 y1 y2 y3 y4 y5 y6 y7 : Int) (_B : Nat) : Nat → Value → World → Prop
  | 0, v, _ => v = .int .i64 k
  | 1, v, _ => v = .agg #[.int .u64 y0, .int .u64 y1, .int .u64 y2, .int .u64 y3, .int .u64 y4, .int .u64 y5, .int .u64 y6, .int .u64 y7]
  | 2, v, _ => v = .int .i64 k
  | 3, _, W => Blk W A5 [.int .u64 y0, .int .u64 y1, .int .u64 y2, .int .u64 y3, .int .u64 y4, .int .u64 y5, .int .u64 y6, .int .u64 y7]
  | 4, v, _ => v = .bool true
  | _, _, _ => True
theorem VnkE.mono {B4 A5 A8 : Nat} {k y0 y1 y2 y3 y4 y5 y6 y7 : Int} {B j : Nat} {v : Value} {W W2 : World} (hB : Below W.heap.size W W2) (h : VnkE B4 A5 A8 k y0 y1 y2 y3 y4 y5 y6 y7 B j v W) : VnkE B4 A5 A8 k y0 y1 y2 y3 y4 y5 y6 y7 B j v W2 := by
  unfold VnkE at *
  split <;> simp only at h <;> first | exact h | exact h.step hB | trivial
theorem VnkE.put {B4 A5 A8 : Nat} {k y0 y1 y2 y3 y4 y5 y6 y7 : Int} {B j : Nat} {v : Value} {W W2 : World} (h1 : Blk W A5 [.int .u64 y0, .int .u64 y1, .int .u64 y2, .int .u64 y3, .int .u64 y4, .int .u64 y5, .int .u64 y6, .int .u64 y7] → Blk W2 A5 [.int .u64 y0, .int .u64 y1, .int .u64 y2, .int .u64 y3, .int .u64 y4, .int .u64 y5, .int .u64 y6, .int .u64 y7]) (h : VnkE B4 A5 A8 k y0 y1 y2 y3 y4 y5 y6 y7 B j v W) : VnkE B4 A5 A8 k y0 y1 y2 y3 y4 y5 y6 y7 B j v W2 := by
  unfold VnkE at *
  split <;> simp only at h <;> first | exact h | exact h1 h | trivial
def SnkE (_B4 A5 A8 : Nat) (_k y0 y1 y2 y3 y4 y5 y6 y7 : Int) (W : World) : Prop := Blk W A8 [.int .u64 y0, .int .u64 y1, .int .u64 y2, .int .u64 y3, .int .u64 y4, .int .u64 y5, .int .u64 y6, .int .u64 y7] ∧ ∃ z0q z1q z2q z3q z4q z5q z6q z7q, Blk W A5 [z0q, z1q, z2q, z3q, z4q, z5q, z6q, z7q]
def JnkE (B4 A5 A8 : Nat) (k y0 y1 y2 y3 y4 y5 y6 y7 : Int) (w0 : World) (a0 : Act) (lz : Array Bool) (az : Act) (W : World) : Prop := InvQ (B4) [some 41, some 42, some 4, none, some 6] (VnkE B4 A5 A8 k y0 y1 y2 y3 y4 y5 y6 y7 (B4)) w0 a0 lz az W ∧ SnkE B4 A5 A8 k y0 y1 y2 y3 y4 y5 y6 y7 W
set_option maxRecDepth 100000 in
set_option maxHeartbeats 4000000 in
theorem nkE {Q : Exit → Act → World → Prop} {B4 A5 A8 : Nat} {k y0 y1 y2 y3 y4 y5 y6 y7 : Int}  {w0 : World} {a0 : Act} {idq : Nat} {t0 t1 t2 t3 t4 : TypeId} {q0 q1 q2 q3 q4 : String}
    (n85 : A8 ≠ A5) (hb5 : B4 ≤ A5) (h7 : a0.tmps[7]? = some (.int .i64 k)) (h8 : a0.tmps[8]? = some (.pointer (some ⟨A8, 0, none⟩))) (h5 : a0.tmps[5]? = some (.pointer (some ⟨A5, 0, none⟩)))  (hz : a0.tmps.size = 43) (hs0 : SnkE B4 A5 A8 k y0 y1 y2 y3 y4 y5 y6 y7 w0.drew)
    (hQ : ∀ aq W, aq.tmps.size = a0.tmps.size → aq.defers = a0.defers → (∀ e, e ∉ ([41, 42, 4, 6] : List Nat) → aq.tmps[e]? = a0.tmps[e]?) → VnkE B4 A5 A8 k y0 y1 y2 y3 y4 y5 y6 y7 (B4) 2 (aq.tmps.getD 4 undef) W → VnkE B4 A5 A8 k y0 y1 y2 y3 y4 y5 y6 y7 (B4) 3 undef W → VnkE B4 A5 A8 k y0 y1 y2 y3 y4 y5 y6 y7 (B4) 4 (aq.tmps.getD 6 undef) W → Below (B4) w0 W → SnkE B4 A5 A8 k y0 y1 y2 y3 y4 y5 y6 y7 W → Q .normal aq W) :
    (Code.region idq #[{ dst := some 41, op := Op.move (Operand.tmp 7), type := t0, pos := q0, after := #[], guard := none },
    { dst := some 42, op := Op.load 33 (Operand.tmp 8), type := t1, pos := q1, after := #[{ on := 2, ground := Ground.gcOnly Departure.lateStores }], guard := none },
    { dst := some 4, op := Op.assign (Operand.tmp 41), type := t2, pos := q2, after := #[{ on := 0, ground := Ground.data }, { on := 0, ground := Ground.phase }, { on := 1, ground := Ground.textOnly Departure.lateStores }], guard := none },
    { dst := none, op := Op.store 33 (Operand.tmp 5) (Operand.tmp 42), type := t3, pos := q3, after := #[{ on := 1, ground := Ground.data }, { on := 2, ground := Ground.chain }, { on := 0, ground := Ground.phase }, { on := 1, ground := Ground.phase }, { on := 2, ground := Ground.phase }], guard := none },
    { dst := some 6, op := Op.assign (Operand.const (Value.bool true)), type := t4, pos := q4, after := #[{ on := 3, ground := Ground.chain }, { on := 0, ground := Ground.phase }, { on := 1, ground := Ground.phase }, { on := 2, ground := Ground.phase }, { on := 3, ground := Ground.phase }], guard := none }] true).wp Try.prog Q a0 w0 := by
  have hS : distS [some 41, some 42, some 4, none, some 6] = true := rfl
  refine wp_region_inv (by kernel_rfl) (JnkE B4 A5 A8 k y0 y1 y2 y3 y4 y5 y6 y7 w0 a0) ⟨⟨rfl, rfl, rfl, fun _ _ => rfl, (Below.refl _ w0).drew, fun j d hj => ?_, fun j hj => ?_⟩, hs0⟩ ?_ ?_
  · exfalso
    rw [Array.getD_eq_getD_getElem?, Array.getElem?_replicate] at hj
    split at hj <;> simp at hj
  · exfalso
    rw [Array.getD_eq_getD_getElem?, Array.getElem?_replicate] at hj
    split at hj <;> simp at hj
  · intro lq aq W iq oq ⟨hJ, hs⟩ hl ho hall
    have hJ2 := hJ
    obtain ⟨z1, z2, z3, z4, z5, z6, z7⟩ := hJ
    obtain ⟨xb, z0q, z1q, z2q, z3q, z4q, z5q, z6q, z7q, xd⟩ := hs
    have cb0 := xb.c 0 rfl; have cb1 := xb.c 1 rfl; have cb2 := xb.c 2 rfl; have cb3 := xb.c 3 rfl; have cb4 := xb.c 4 rfl; have cb5 := xb.c 5 rfl; have cb6 := xb.c 6 rfl; have cb7 := xb.c 7 rfl; have rb0 := xd.c 0 rfl; have sb0 := xd.f 0 rfl; have rb1 := xd.c 1 rfl; have sb1 := xd.f 1 rfl; have rb2 := xd.c 2 rfl; have sb2 := xd.f 2 rfl; have rb3 := xd.c 3 rfl; have sb3 := xd.f 3 rfl; have rb4 := xd.c 4 rfl; have sb4 := xd.f 4 rfl; have rb5 := xd.c 5 rfl; have sb5 := xd.f 5 rfl; have rb6 := xd.c 6 rfl; have sb6 := xd.f 6 rfl; have rb7 := xd.c 7 rfl; have sb7 := xd.f 7 rfl
    have rlb := xd.lt
    have hs : SnkE B4 A5 A8 k y0 y1 y2 y3 y4 y5 y6 y7 W := ⟨xb, _, _, _, _, _, _, _, _, xd⟩
    have g7 : aq.tmps.getD 7 undef = .int .i64 k := by rw [Array.getD_eq_getD_getElem?, z4 7 (by decide), h7]; rfl
    have g8 : aq.tmps.getD 8 undef = .pointer (some ⟨A8, 0, none⟩) := by rw [Array.getD_eq_getD_getElem?, z4 8 (by decide), h8]; rfl
    have g5 : aq.tmps.getD 5 undef = .pointer (some ⟨A5, 0, none⟩) := by rw [Array.getD_eq_getD_getElem?, z4 5 (by decide), h5]; rfl
    match iq, ho with
    | 0, ho =>
      cases ho
      refine wpOp_of rfl rfl ?_
      have hK := fun (v : Value) (W2 : World) hW hT hv (hs : SnkE B4 A5 A8 k y0 y1 y2 y3 y4 y5 y6 y7 W2) => show (JnkE B4 A5 A8 k y0 y1 y2 y3 y4 y5 y6 y7 w0 a0) (lq.setIfInBounds 0 true) (aq.put (some 41) v) W2 from ⟨hJ2.put hS 0 41 rfl (by omega) (W' := W2) hW hT v hv, hs⟩
      clear ho hall hl hQ
      generalize (JnkE B4 A5 A8 k y0 y1 y2 y3 y4 y5 y6 y7 w0 a0) (lq.setIfInBounds 0 true) = K at hK ⊢
      clear hJ2 hS z1 z2 z3 z4 z6 z7
      go_simp
      exact hK _ _ z5 (fun _ _ h => h) rfl hs
    | 1, ho =>
      cases ho
      refine wpOp_of rfl rfl ?_
      have hK := fun (v : Value) (W2 : World) hW hT hv (hs : SnkE B4 A5 A8 k y0 y1 y2 y3 y4 y5 y6 y7 W2) => show (JnkE B4 A5 A8 k y0 y1 y2 y3 y4 y5 y6 y7 w0 a0) (lq.setIfInBounds 1 true) (aq.put (some 42) v) W2 from ⟨hJ2.put hS 1 42 rfl (by omega) (W' := W2) hW hT v hv, hs⟩
      clear ho hall hl hQ
      generalize (JnkE B4 A5 A8 k y0 y1 y2 y3 y4 y5 y6 y7 w0 a0) (lq.setIfInBounds 1 true) = K at hK ⊢
      clear hJ2 hS z1 z2 z3 z4 z6 z7
      go_simp
      exact hK _ _ z5 (fun _ _ h => h) rfl hs
    | 2, ho =>
      cases ho
      refine wpOp_of rfl rfl ?_
      have f0 : (aq.tmps.getD 41 undef) = .int .i64 k := z6 0 41 (hall { on := 0, ground := Ground.data } (by simp) rfl) rfl
      have hK := fun (v : Value) (W2 : World) hW hT hv (hs : SnkE B4 A5 A8 k y0 y1 y2 y3 y4 y5 y6 y7 W2) => show (JnkE B4 A5 A8 k y0 y1 y2 y3 y4 y5 y6 y7 w0 a0) (lq.setIfInBounds 2 true) (aq.put (some 4) v) W2 from ⟨hJ2.put hS 2 4 rfl (by omega) (W' := W2) hW hT v hv, hs⟩
      clear ho hall hl hQ
      generalize (JnkE B4 A5 A8 k y0 y1 y2 y3 y4 y5 y6 y7 w0 a0) (lq.setIfInBounds 2 true) = K at hK ⊢
      clear hJ2 hS z1 z2 z3 z4 z6 z7
      go_simp
      exact hK _ _ z5 (fun _ _ h => h) rfl hs
    | 3, ho =>
      cases ho
      refine wpOp_of rfl rfl ?_
      have f1 : (aq.tmps.getD 42 undef) = .agg #[.int .u64 y0, .int .u64 y1, .int .u64 y2, .int .u64 y3, .int .u64 y4, .int .u64 y5, .int .u64 y6, .int .u64 y7] := z6 1 42 (hall { on := 1, ground := Ground.data } (by simp) rfl) rfl
      have hK := fun (W2 : World) hW hT hv (hs : SnkE B4 A5 A8 k y0 y1 y2 y3 y4 y5 y6 y7 W2) => show (JnkE B4 A5 A8 k y0 y1 y2 y3 y4 y5 y6 y7 w0 a0) (lq.setIfInBounds 3 true) aq W2 from ⟨hJ2.world 3 rfl (W' := W2) hW hT hv, hs⟩
      clear ho hall hl hQ
      generalize (JnkE B4 A5 A8 k y0 y1 y2 y3 y4 y5 y6 y7 w0 a0) (lq.setIfInBounds 3 true) = K at hK ⊢
      clear hJ2 hS z1 z2 z3 z4 z6 z7
      have nb : Blk ((((((((W.setCell ⟨A5, 0, none⟩ (.int .u64 y0)).setCell ⟨A5, 1, none⟩ (.int .u64 y1)).setCell ⟨A5, 2, none⟩ (.int .u64 y2)).setCell ⟨A5, 3, none⟩ (.int .u64 y3)).setCell ⟨A5, 4, none⟩ (.int .u64 y4)).setCell ⟨A5, 5, none⟩ (.int .u64 y5)).setCell ⟨A5, 6, none⟩ (.int .u64 y6)).setCell ⟨A5, 7, none⟩ (.int .u64 y7)) A5 [.int .u64 y0, .int .u64 y1, .int .u64 y2, .int .u64 y3, .int .u64 y4, .int .u64 y5, .int .u64 y6, .int .u64 y7] := Blk.stored8 xd _ _ _ _ _ _ _ _
      have ns : SnkE B4 A5 A8 k y0 y1 y2 y3 y4 y5 y6 y7 ((((((((W.setCell ⟨A5, 0, none⟩ (.int .u64 y0)).setCell ⟨A5, 1, none⟩ (.int .u64 y1)).setCell ⟨A5, 2, none⟩ (.int .u64 y2)).setCell ⟨A5, 3, none⟩ (.int .u64 y3)).setCell ⟨A5, 4, none⟩ (.int .u64 y4)).setCell ⟨A5, 5, none⟩ (.int .u64 y5)).setCell ⟨A5, 6, none⟩ (.int .u64 y6)).setCell ⟨A5, 7, none⟩ (.int .u64 y7)) := ⟨xb.set8 n85, _, _, _, _, _, _, _, _, nb⟩
      have nB : Below B4 w0 ((((((((W.setCell ⟨A5, 0, none⟩ (.int .u64 y0)).setCell ⟨A5, 1, none⟩ (.int .u64 y1)).setCell ⟨A5, 2, none⟩ (.int .u64 y2)).setCell ⟨A5, 3, none⟩ (.int .u64 y3)).setCell ⟨A5, 4, none⟩ (.int .u64 y4)).setCell ⟨A5, 5, none⟩ (.int .u64 y5)).setCell ⟨A5, 6, none⟩ (.int .u64 y6)).setCell ⟨A5, 7, none⟩ (.int .u64 y7)) := ((((((((z5.setCell (p := ⟨A5, 0, none⟩) hb5 _).setCell (p := ⟨A5, 1, none⟩) hb5 _).setCell (p := ⟨A5, 2, none⟩) hb5 _).setCell (p := ⟨A5, 3, none⟩) hb5 _).setCell (p := ⟨A5, 4, none⟩) hb5 _).setCell (p := ⟨A5, 5, none⟩) hb5 _).setCell (p := ⟨A5, 6, none⟩) hb5 _).setCell (p := ⟨A5, 7, none⟩) hb5 _)
      clear xb xd
      go_simp
      exact hK _ nB (fun j v h => VnkE.put (fun _ => nb) h) nb ns
    | 4, ho =>
      cases ho
      refine wpOp_of rfl rfl ?_
      have hK := fun (v : Value) (W2 : World) hW hT hv (hs : SnkE B4 A5 A8 k y0 y1 y2 y3 y4 y5 y6 y7 W2) => show (JnkE B4 A5 A8 k y0 y1 y2 y3 y4 y5 y6 y7 w0 a0) (lq.setIfInBounds 4 true) (aq.put (some 6) v) W2 from ⟨hJ2.put hS 4 6 rfl (by omega) (W' := W2) hW hT v hv, hs⟩
      clear ho hall hl hQ
      generalize (JnkE B4 A5 A8 k y0 y1 y2 y3 y4 y5 y6 y7 w0 a0) (lq.setIfInBounds 4 true) = K at hK ⊢
      clear hJ2 hS z1 z2 z3 z4 z6 z7
      go_simp
      exact hK _ _ z5 (fun _ _ h => h) rfl hs
    | iq + 5, ho => simp at ho
  · intro lq aq W ⟨hJ, hs⟩ hr
    obtain ⟨z1, z2, z3, z4, z5, z6, z7⟩ := hJ
    have hl := listed_of hr [0, 2, 1, 3, 4] [] (by simp) (by kernel_rfl) (by rw [z1]; decide)
    exact hQ aq W z2 z3 (fun e he => z4 e (by simpa using he)) (z6 2 4 (hl 2 (by simp)) rfl) (z7 3 (hl 3 (by simp)) rfl) (z6 4 6 (hl 4 (by simp)) rfl) z5 hs
end Go.Proofs.Ytjhmacpejfldoaa

/- The region of the law in which a segment is asked for its distance. -/
namespace Go.Proofs.Ytjhmacpejfldoaa
open Go.RowKit
def VneL (_B4 _A4 A off n cap jx : Nat) (a b c d p q y0 y1 y2 y3 y4 y5 y6 y7 : Int) (_B : Nat) : Nat → Value → World → Prop
  | 0, v, _ => v = .slice (some ⟨A, off, none⟩) n cap
  | 1, v, _ => v = .int .i64 (jx : Nat)
  | 2, v, _ => v = .pointer (some ⟨A, off + jx * 4, none⟩)
  | 3, v, _ => v = .agg #[.int .i64 a, .int .i64 b, .int .i64 c, .int .i64 d]
  | 4, v, _ => v = .agg #[.int .i64 p, .int .i64 q]
  | 5, v, _ => v = .tuple #[.agg #[.int .u64 y0, .int .u64 y1, .int .u64 y2, .int .u64 y3, .int .u64 y4, .int .u64 y5, .int .u64 y6, .int .u64 y7], .bool true]
  | 6, v, _ => v = .tuple #[.agg #[.int .u64 y0, .int .u64 y1, .int .u64 y2, .int .u64 y3, .int .u64 y4, .int .u64 y5, .int .u64 y6, .int .u64 y7], .bool true]
  | 7, v, _ => v = .agg #[.int .u64 y0, .int .u64 y1, .int .u64 y2, .int .u64 y3, .int .u64 y4, .int .u64 y5, .int .u64 y6, .int .u64 y7]
  | 8, v, _ => v = .bool true
  | 11, v, _ => v = .bool true
  | _, _, _ => True
theorem VneL.mono {B4 A4 A off n cap jx : Nat} {a b c d p q y0 y1 y2 y3 y4 y5 y6 y7 : Int} {B j : Nat} {v : Value} {W W2 : World} (_hB : Below W.heap.size W W2) (h : VneL B4 A4 A off n cap jx a b c d p q y0 y1 y2 y3 y4 y5 y6 y7 B j v W) : VneL B4 A4 A off n cap jx a b c d p q y0 y1 y2 y3 y4 y5 y6 y7 B j v W2 := by
  unfold VneL at *
  split <;> simp only at h <;> first | exact h | trivial
theorem VneL.same {B4 A4 A off n cap jx : Nat} {a b c d p q y0 y1 y2 y3 y4 y5 y6 y7 : Int} {B j' : Nat} {v : Value} {W W2 : World} (h : VneL B4 A4 A off n cap jx a b c d p q y0 y1 y2 y3 y4 y5 y6 y7 B j' v W) : VneL B4 A4 A off n cap jx a b c d p q y0 y1 y2 y3 y4 y5 y6 y7 B j' v W2 := by
  unfold VneL at *
  split <;> simp only at h <;> first | exact h | trivial
theorem getD_listedN {l : Array Bool} {i : Nat} (h : l.getD i true = false) : l.getD i false = false := by
  rcases Nat.lt_or_ge i l.size with h' | h'
  · simpa [Array.getD, h'] using h
  · simp [Array.getD, Nat.not_lt.2 h'] at h
def SneL (B4 _A4 _A _off _n _cap _jx : Nat) (_a _b _c _d _p _q y0 y1 y2 y3 y4 y5 y6 y7 : Int) (lz : Array Bool) (az : Act) (W : World) : Prop := (lz.getD 10 false = true → lz.getD 9 false = true) ∧ (lz.getD 9 false = true → ∃ gz, az.tmps.getD 12 undef = .pointer (some ⟨gz, 0, none⟩) ∧ B4 ≤ gz ∧ (∃ z0q z1q z2q z3q z4q z5q z6q z7q, Blk W gz [z0q, z1q, z2q, z3q, z4q, z5q, z6q, z7q]) ∧ (lz.getD 10 false = true → Blk W gz [.int .u64 y0, .int .u64 y1, .int .u64 y2, .int .u64 y3, .int .u64 y4, .int .u64 y5, .int .u64 y6, .int .u64 y7]))
theorem SneL.quiet {B4 A4 A off n cap jx : Nat} {a b c d p q y0 y1 y2 y3 y4 y5 y6 y7 : Int} {lz : Array Bool} {az : Act} {W : World} (h : SneL B4 A4 A off n cap jx a b c d p q y0 y1 y2 y3 y4 y5 y6 y7 lz az W) (i d : Nat) (v : Value) (hi : i ≠ 9 ∧ i ≠ 10) (hd : d ≠ 12) : SneL B4 A4 A off n cap jx a b c d p q y0 y1 y2 y3 y4 y5 y6 y7 (lz.setIfInBounds i true) (az.put (some d) v) W := by
  obtain ⟨h2, h3⟩ := h
  refine ⟨fun hl => ?_, fun hl => ?_⟩
  · rw [getD_set_ne false hi.2] at hl
    rw [getD_set_ne false hi.1]
    exact h2 hl
  · rw [getD_set_ne false hi.1] at hl
    obtain ⟨gz, e1, e2, e3, e4⟩ := h3 hl
    exact ⟨gz, by rw [put_getD_ne hd]; exact e1, e2, e3, fun h => e4 (by rw [getD_set_ne false hi.2] at h; exact h)⟩
theorem SneL.step {B4 A4 A off n cap jx : Nat} {a b c d p q y0 y1 y2 y3 y4 y5 y6 y7 : Int} {lz : Array Bool} {az : Act} {W W2 : World} (h : SneL B4 A4 A off n cap jx a b c d p q y0 y1 y2 y3 y4 y5 y6 y7 lz az W) (hB : Below W.heap.size W W2) : SneL B4 A4 A off n cap jx a b c d p q y0 y1 y2 y3 y4 y5 y6 y7 lz az W2 := by
  obtain ⟨h2, h3⟩ := h
  refine ⟨h2, fun hl => ?_⟩
  obtain ⟨gz, e1, e2, ⟨z0q, z1q, z2q, z3q, z4q, z5q, z6q, z7q, e3⟩, e4⟩ := h3 hl
  exact ⟨gz, e1, e2, ⟨_, _, _, _, _, _, _, _, e3.step hB⟩, fun h => (e4 h).step hB⟩
theorem SneL.nine {B4 A4 A off n cap jx : Nat} {a b c d p q y0 y1 y2 y3 y4 y5 y6 y7 : Int} {lz : Array Bool} {az : Act} {W : World} (h : SneL B4 A4 A off n cap jx a b c d p q y0 y1 y2 y3 y4 y5 y6 y7 lz az W) (hn : lz.getD 9 true = false) {gz : Nat} (hs : 12 < az.tmps.size) (hz : B4 ≤ gz) (hb : Blk W gz [.int .u64 0, .int .u64 0, .int .u64 0, .int .u64 0, .int .u64 0, .int .u64 0, .int .u64 0, .int .u64 0]) : SneL B4 A4 A off n cap jx a b c d p q y0 y1 y2 y3 y4 y5 y6 y7 (lz.setIfInBounds 9 true) (az.put (some 12) (.pointer (some ⟨gz, 0, none⟩))) W := by
  obtain ⟨h2, h3⟩ := h
  have hn' : lz.getD 9 false = false := getD_listedN hn
  refine ⟨fun hl => ?_, fun _ => ⟨gz, put_getD_same hs, hz, ⟨_, _, _, _, _, _, _, _, hb⟩, fun hl => ?_⟩⟩
  · rw [getD_set_ne false (by decide)] at hl
    rw [h2 hl] at hn'
    cases hn'
  · rw [getD_set_ne false (by decide)] at hl
    rw [h2 hl] at hn'
    cases hn'
theorem SneL.ten {B4 A4 A off n cap jx : Nat} {a b c d p q y0 y1 y2 y3 y4 y5 y6 y7 : Int} {lz : Array Bool} {az : Act} {W W2 : World} (_ : SneL B4 A4 A off n cap jx a b c d p q y0 y1 y2 y3 y4 y5 y6 y7 lz az W) (h9 : lz.getD 9 false = true) {gz : Nat} (e1 : az.tmps.getD 12 undef = .pointer (some ⟨gz, 0, none⟩)) (e2 : B4 ≤ gz) (hb : Blk W2 gz [.int .u64 y0, .int .u64 y1, .int .u64 y2, .int .u64 y3, .int .u64 y4, .int .u64 y5, .int .u64 y6, .int .u64 y7]) : SneL B4 A4 A off n cap jx a b c d p q y0 y1 y2 y3 y4 y5 y6 y7 (lz.setIfInBounds 10 true) az W2 := by
  refine ⟨fun _ => ?_, fun _ => ⟨gz, e1, e2, ⟨_, _, _, _, _, _, _, _, hb⟩, fun _ => hb⟩⟩
  rw [getD_set_ne false (by decide)]; exact h9

def JneL (B4 A4 A off n cap jx : Nat) (a b c d p q y0 y1 y2 y3 y4 y5 y6 y7 : Int) (w0 : World) (a0 : Act) (lz : Array Bool) (az : Act) (W : World) : Prop := InvQ (w0.heap.size) [some 74, some 75, some 76, some 77, some 78, some 79, some 73, some 80, some 81, some 12, none, some 13] (VneL B4 A4 A off n cap jx a b c d p q y0 y1 y2 y3 y4 y5 y6 y7 (w0.heap.size)) w0 a0 lz az W ∧ SneL B4 A4 A off n cap jx a b c d p q y0 y1 y2 y3 y4 y5 y6 y7 lz az W
set_option maxRecDepth 100000 in
set_option maxHeartbeats 4000000 in
theorem neL {Q : Exit → Act → World → Prop} {B4 A4 A off n cap jx : Nat} {a b c d p q y0 y1 y2 y3 y4 y5 y6 y7 : Int}  {w0 : World} {a0 : Act} {idq : Nat} {t0 t1 t2 t3 t4 t5 t6 t7 t8 t9 t10 t11 : TypeId} {q0 q1 q2 q3 q4 q5 q6 q7 q8 q9 q10 q11 : String}
    (hB4 : B4 = w0.heap.size) (jn : (jx : Int) < (n : Int)) (hN : ∀ w, Calls Try.prog 9 #[.agg #[.int .i64 a, .int .i64 b, .int .i64 c, .int .i64 d], .agg #[.int .i64 p, .int .i64 q]] w (VP (.tuple #[.agg #[.int .u64 y0, .int .u64 y1, .int .u64 y2, .int .u64 y3, .int .u64 y4, .int .u64 y5, .int .u64 y6, .int .u64 y7], .bool true]) w)) (h3 : a0.tmps[3]? = some (.slice (some ⟨A, off, none⟩) n cap)) (h11 : a0.tmps[11]? = some (.int .i64 (jx : Nat))) (h4 : a0.tmps[4]? = some (.pointer (some ⟨A4, 0, none⟩))) (k0 : w0.cell? ⟨A, off + jx * 4, none⟩ = some (.int .i64 a)) (l0 : (⟨A, off + jx * 4, none⟩ : Addr).block < w0.heap.size) (k1 : w0.cell? ⟨A, off + jx * 4 + 1, none⟩ = some (.int .i64 b)) (l1 : (⟨A, off + jx * 4 + 1, none⟩ : Addr).block < w0.heap.size) (k2 : w0.cell? ⟨A, off + jx * 4 + 2, none⟩ = some (.int .i64 c)) (l2 : (⟨A, off + jx * 4 + 2, none⟩ : Addr).block < w0.heap.size) (k3 : w0.cell? ⟨A, off + jx * 4 + 3, none⟩ = some (.int .i64 d)) (l3 : (⟨A, off + jx * 4 + 3, none⟩ : Addr).block < w0.heap.size) (k4 : w0.cell? ⟨A4, 0, none⟩ = some (.int .i64 p)) (l4 : (⟨A4, 0, none⟩ : Addr).block < w0.heap.size) (k5 : w0.cell? ⟨A4, 1, none⟩ = some (.int .i64 q)) (l5 : (⟨A4, 1, none⟩ : Addr).block < w0.heap.size) (hz : a0.tmps.size = 113)
    (hQ : ∀ aq W, aq.tmps.size = a0.tmps.size → aq.defers = a0.defers → (∀ e, e ∉ ([74, 75, 76, 77, 78, 79, 73, 80, 81, 12, 13] : List Nat) → aq.tmps[e]? = a0.tmps[e]?) → VneL B4 A4 A off n cap jx a b c d p q y0 y1 y2 y3 y4 y5 y6 y7 (w0.heap.size) 10 undef W → VneL B4 A4 A off n cap jx a b c d p q y0 y1 y2 y3 y4 y5 y6 y7 (w0.heap.size) 11 (aq.tmps.getD 13 undef) W → Below (w0.heap.size) w0 W → (∃ gz, aq.tmps.getD 12 undef = .pointer (some ⟨gz, 0, none⟩) ∧ w0.heap.size ≤ gz ∧ Blk W gz [.int .u64 y0, .int .u64 y1, .int .u64 y2, .int .u64 y3, .int .u64 y4, .int .u64 y5, .int .u64 y6, .int .u64 y7]) → Q .normal aq W) :
    (Code.region idq #[{ dst := some 74, op := Op.move (Operand.tmp 3), type := t0, pos := q0, after := #[], guard := none },
    { dst := some 75, op := Op.move (Operand.tmp 11), type := t1, pos := q1, after := #[], guard := none },
    { dst := some 76, op := Op.indexAddr 24 (Operand.tmp 74) (Operand.tmp 75), type := t2, pos := q2, after := #[{ on := 0, ground := Ground.data }, { on := 1, ground := Ground.data }], guard := none },
    { dst := some 77, op := Op.load 39 (Operand.tmp 76), type := t3, pos := q3, after := #[{ on := 2, ground := Ground.data }], guard := none },
    { dst := some 78, op := Op.load 26 (Operand.tmp 4), type := t4, pos := q4, after := #[], guard := none },
    { dst := some 79, op := Op.call { callee := Callee.value (Operand.func 9), args := #[Operand.tmp 77, Operand.tmp 78], argTypes := #[39, 26] }, type := t5, pos := q5, after := #[{ on := 3, ground := Ground.data }, { on := 4, ground := Ground.data }], guard := none },
    { dst := some 73, op := Op.move (Operand.tmp 79), type := t6, pos := q6, after := #[{ on := 5, ground := Ground.data }], guard := none },
    { dst := some 80, op := Op.extract (Operand.tmp 73) 0, type := t7, pos := q7, after := #[{ on := 6, ground := Ground.data }], guard := none },
    { dst := some 81, op := Op.extract (Operand.tmp 73) 1, type := t8, pos := q8, after := #[{ on := 6, ground := Ground.data }, { on := 10, ground := Ground.gcOnly Departure.lateStores }], guard := none },
    { dst := some 12, op := Op.alloc 33, type := t9, pos := q9, after := #[], guard := none },
    { dst := none, op := Op.store 33 (Operand.tmp 12) (Operand.tmp 80), type := t10, pos := q10, after := #[{ on := 9, ground := Ground.data }, { on := 7, ground := Ground.data }, { on := 5, ground := Ground.chain }, { on := 0, ground := Ground.phase }, { on := 1, ground := Ground.phase }, { on := 2, ground := Ground.phase }, { on := 3, ground := Ground.phase }, { on := 4, ground := Ground.phase }, { on := 5, ground := Ground.phase }, { on := 6, ground := Ground.phase }, { on := 7, ground := Ground.phase }, { on := 8, ground := Ground.textOnly Departure.lateStores }, { on := 9, ground := Ground.phase }], guard := none },
    { dst := some 13, op := Op.assign (Operand.tmp 81), type := t11, pos := q11, after := #[{ on := 8, ground := Ground.data }, { on := 10, ground := Ground.chain }, { on := 0, ground := Ground.phase }, { on := 1, ground := Ground.phase }, { on := 2, ground := Ground.phase }, { on := 3, ground := Ground.phase }, { on := 4, ground := Ground.phase }, { on := 5, ground := Ground.phase }, { on := 6, ground := Ground.phase }, { on := 7, ground := Ground.phase }, { on := 8, ground := Ground.phase }, { on := 9, ground := Ground.phase }, { on := 10, ground := Ground.phase }], guard := none }] true).wp Try.prog Q a0 w0 := by
  have hS : distS [some 74, some 75, some 76, some 77, some 78, some 79, some 73, some 80, some 81, some 12, none, some 13] = true := rfl
  refine wp_region_inv (by kernel_rfl) (JneL B4 A4 A off n cap jx a b c d p q y0 y1 y2 y3 y4 y5 y6 y7 w0 a0) ⟨⟨rfl, rfl, rfl, fun _ _ => rfl, (Below.refl _ w0).drew, fun j d hj => ?_, fun j hj => ?_⟩, ⟨fun h => by exfalso; rw [Array.getD_eq_getD_getElem?, Array.getElem?_replicate] at h; split at h <;> simp at h, fun h => by exfalso; rw [Array.getD_eq_getD_getElem?, Array.getElem?_replicate] at h; split at h <;> simp at h⟩⟩ ?_ ?_
  · exfalso
    rw [Array.getD_eq_getD_getElem?, Array.getElem?_replicate] at hj
    split at hj <;> simp at hj
  · exfalso
    rw [Array.getD_eq_getD_getElem?, Array.getElem?_replicate] at hj
    split at hj <;> simp at hj
  · intro lq aq W iq oq ⟨hJ, hs⟩ hl ho hall
    have hJ2 := hJ
    obtain ⟨z1, z2, z3, z4, z5, z6, z7⟩ := hJ
    have g3 : aq.tmps.getD 3 undef = .slice (some ⟨A, off, none⟩) n cap := by rw [Array.getD_eq_getD_getElem?, z4 3 (by decide), h3]; rfl
    have g11 : aq.tmps.getD 11 undef = .int .i64 (jx : Nat) := by rw [Array.getD_eq_getD_getElem?, z4 11 (by decide), h11]; rfl
    have g4 : aq.tmps.getD 4 undef = .pointer (some ⟨A4, 0, none⟩) := by rw [Array.getD_eq_getD_getElem?, z4 4 (by decide), h4]; rfl
    have c0 : W.cell? ⟨A, off + jx * 4, none⟩ = some (.int .i64 a) := (z5.cell l0).trans k0
    have c1 : W.cell? ⟨A, off + jx * 4 + 1, none⟩ = some (.int .i64 b) := (z5.cell l1).trans k1
    have c2 : W.cell? ⟨A, off + jx * 4 + 2, none⟩ = some (.int .i64 c) := (z5.cell l2).trans k2
    have c3 : W.cell? ⟨A, off + jx * 4 + 3, none⟩ = some (.int .i64 d) := (z5.cell l3).trans k3
    have c4 : W.cell? ⟨A4, 0, none⟩ = some (.int .i64 p) := (z5.cell l4).trans k4
    have c5 : W.cell? ⟨A4, 1, none⟩ = some (.int .i64 q) := (z5.cell l5).trans k5
    match iq, ho with
    | 0, ho =>
      cases ho
      refine wpOp_of rfl rfl ?_
      have hK := fun (v : Value) (W2 : World) hW hT hv (hs : SneL B4 A4 A off n cap jx a b c d p q y0 y1 y2 y3 y4 y5 y6 y7 (lq.setIfInBounds 0 true) (aq.put (some 74) v) W2) => show (JneL B4 A4 A off n cap jx a b c d p q y0 y1 y2 y3 y4 y5 y6 y7 w0 a0) (lq.setIfInBounds 0 true) (aq.put (some 74) v) W2 from ⟨hJ2.put hS 0 74 rfl (by omega) (W' := W2) hW hT v hv, hs⟩
      clear ho hall hl hQ
      generalize (JneL B4 A4 A off n cap jx a b c d p q y0 y1 y2 y3 y4 y5 y6 y7 w0 a0) (lq.setIfInBounds 0 true) = K at hK ⊢
      clear hJ2 hS z1 z2 z3 z4 z6 z7
      go_simp
      exact hK _ _ z5 (fun _ _ h => h) rfl (hs.quiet 0 74 _ (by decide) (by decide))
    | 1, ho =>
      cases ho
      refine wpOp_of rfl rfl ?_
      have hK := fun (v : Value) (W2 : World) hW hT hv (hs : SneL B4 A4 A off n cap jx a b c d p q y0 y1 y2 y3 y4 y5 y6 y7 (lq.setIfInBounds 1 true) (aq.put (some 75) v) W2) => show (JneL B4 A4 A off n cap jx a b c d p q y0 y1 y2 y3 y4 y5 y6 y7 w0 a0) (lq.setIfInBounds 1 true) (aq.put (some 75) v) W2 from ⟨hJ2.put hS 1 75 rfl (by omega) (W' := W2) hW hT v hv, hs⟩
      clear ho hall hl hQ
      generalize (JneL B4 A4 A off n cap jx a b c d p q y0 y1 y2 y3 y4 y5 y6 y7 w0 a0) (lq.setIfInBounds 1 true) = K at hK ⊢
      clear hJ2 hS z1 z2 z3 z4 z6 z7
      go_simp
      exact hK _ _ z5 (fun _ _ h => h) rfl (hs.quiet 1 75 _ (by decide) (by decide))
    | 2, ho =>
      cases ho
      refine wpOp_of rfl rfl ?_
      have f0 : (aq.tmps.getD 74 undef) = .slice (some ⟨A, off, none⟩) n cap := z6 0 74 (hall { on := 0, ground := Ground.data } (by simp) rfl) rfl
      have f1 : (aq.tmps.getD 75 undef) = .int .i64 (jx : Nat) := z6 1 75 (hall { on := 1, ground := Ground.data } (by simp) rfl) rfl
      have hK := fun (v : Value) (W2 : World) hW hT hv (hs : SneL B4 A4 A off n cap jx a b c d p q y0 y1 y2 y3 y4 y5 y6 y7 (lq.setIfInBounds 2 true) (aq.put (some 76) v) W2) => show (JneL B4 A4 A off n cap jx a b c d p q y0 y1 y2 y3 y4 y5 y6 y7 w0 a0) (lq.setIfInBounds 2 true) (aq.put (some 76) v) W2 from ⟨hJ2.put hS 2 76 rfl (by omega) (W' := W2) hW hT v hv, hs⟩
      clear ho hall hl hQ
      generalize (JneL B4 A4 A off n cap jx a b c d p q y0 y1 y2 y3 y4 y5 y6 y7 w0 a0) (lq.setIfInBounds 2 true) = K at hK ⊢
      clear hJ2 hS z1 z2 z3 z4 z6 z7
      go_simp
      exact hK _ _ z5 (fun _ _ h => h) rfl (hs.quiet 2 76 _ (by decide) (by decide))
    | 3, ho =>
      cases ho
      refine wpOp_of rfl rfl ?_
      have f2 : (aq.tmps.getD 76 undef) = .pointer (some ⟨A, off + jx * 4, none⟩) := z6 2 76 (hall { on := 2, ground := Ground.data } (by simp) rfl) rfl
      have hK := fun (v : Value) (W2 : World) hW hT hv (hs : SneL B4 A4 A off n cap jx a b c d p q y0 y1 y2 y3 y4 y5 y6 y7 (lq.setIfInBounds 3 true) (aq.put (some 77) v) W2) => show (JneL B4 A4 A off n cap jx a b c d p q y0 y1 y2 y3 y4 y5 y6 y7 w0 a0) (lq.setIfInBounds 3 true) (aq.put (some 77) v) W2 from ⟨hJ2.put hS 3 77 rfl (by omega) (W' := W2) hW hT v hv, hs⟩
      clear ho hall hl hQ
      generalize (JneL B4 A4 A off n cap jx a b c d p q y0 y1 y2 y3 y4 y5 y6 y7 w0 a0) (lq.setIfInBounds 3 true) = K at hK ⊢
      clear hJ2 hS z1 z2 z3 z4 z6 z7
      go_simp
      exact hK _ _ z5 (fun _ _ h => h) rfl (hs.quiet 3 77 _ (by decide) (by decide))
    | 4, ho =>
      cases ho
      refine wpOp_of rfl rfl ?_
      have hK := fun (v : Value) (W2 : World) hW hT hv (hs : SneL B4 A4 A off n cap jx a b c d p q y0 y1 y2 y3 y4 y5 y6 y7 (lq.setIfInBounds 4 true) (aq.put (some 78) v) W2) => show (JneL B4 A4 A off n cap jx a b c d p q y0 y1 y2 y3 y4 y5 y6 y7 w0 a0) (lq.setIfInBounds 4 true) (aq.put (some 78) v) W2 from ⟨hJ2.put hS 4 78 rfl (by omega) (W' := W2) hW hT v hv, hs⟩
      clear ho hall hl hQ
      generalize (JneL B4 A4 A off n cap jx a b c d p q y0 y1 y2 y3 y4 y5 y6 y7 w0 a0) (lq.setIfInBounds 4 true) = K at hK ⊢
      clear hJ2 hS z1 z2 z3 z4 z6 z7
      go_simp
      exact hK _ _ z5 (fun _ _ h => h) rfl (hs.quiet 4 78 _ (by decide) (by decide))
    | 5, ho =>
      cases ho
      refine wpOp_of rfl rfl ?_
      have f3 : (aq.tmps.getD 77 undef) = .agg #[.int .i64 a, .int .i64 b, .int .i64 c, .int .i64 d] := z6 3 77 (hall { on := 3, ground := Ground.data } (by simp) rfl) rfl
      have f4 : (aq.tmps.getD 78 undef) = .agg #[.int .i64 p, .int .i64 q] := z6 4 78 (hall { on := 4, ground := Ground.data } (by simp) rfl) rfl
      have hK := fun (v : Value) (W2 : World) hW hT hv (hs : SneL B4 A4 A off n cap jx a b c d p q y0 y1 y2 y3 y4 y5 y6 y7 (lq.setIfInBounds 5 true) (aq.put (some 79) v) W2) => show (JneL B4 A4 A off n cap jx a b c d p q y0 y1 y2 y3 y4 y5 y6 y7 w0 a0) (lq.setIfInBounds 5 true) (aq.put (some 79) v) W2 from ⟨hJ2.put hS 5 79 rfl (by omega) (W' := W2) hW hT v hv, hs⟩
      clear ho hall hl hQ
      generalize (JneL B4 A4 A off n cap jx a b c d p q y0 y1 y2 y3 y4 y5 y6 y7 w0 a0) (lq.setIfInBounds 5 true) = K at hK ⊢
      clear hJ2 hS z1 z2 z3 z4 z6 z7
      go_simp
      refine (hN W).mono ?_
      rintro e v1 ⟨rfl, hBv⟩
      exact hK _ _ (z5.trans (hBv.mono z5.size)) (fun _ _ h => h.mono hBv) rfl ((hs.step hBv).quiet 5 79 _ (by decide) (by decide))
    | 6, ho =>
      cases ho
      refine wpOp_of rfl rfl ?_
      have f5 : (aq.tmps.getD 79 undef) = .tuple #[.agg #[.int .u64 y0, .int .u64 y1, .int .u64 y2, .int .u64 y3, .int .u64 y4, .int .u64 y5, .int .u64 y6, .int .u64 y7], .bool true] := z6 5 79 (hall { on := 5, ground := Ground.data } (by simp) rfl) rfl
      have hK := fun (v : Value) (W2 : World) hW hT hv (hs : SneL B4 A4 A off n cap jx a b c d p q y0 y1 y2 y3 y4 y5 y6 y7 (lq.setIfInBounds 6 true) (aq.put (some 73) v) W2) => show (JneL B4 A4 A off n cap jx a b c d p q y0 y1 y2 y3 y4 y5 y6 y7 w0 a0) (lq.setIfInBounds 6 true) (aq.put (some 73) v) W2 from ⟨hJ2.put hS 6 73 rfl (by omega) (W' := W2) hW hT v hv, hs⟩
      clear ho hall hl hQ
      generalize (JneL B4 A4 A off n cap jx a b c d p q y0 y1 y2 y3 y4 y5 y6 y7 w0 a0) (lq.setIfInBounds 6 true) = K at hK ⊢
      clear hJ2 hS z1 z2 z3 z4 z6 z7
      go_simp
      exact hK _ _ z5 (fun _ _ h => h) rfl (hs.quiet 6 73 _ (by decide) (by decide))
    | 7, ho =>
      cases ho
      refine wpOp_of rfl rfl ?_
      have f6 : (aq.tmps.getD 73 undef) = .tuple #[.agg #[.int .u64 y0, .int .u64 y1, .int .u64 y2, .int .u64 y3, .int .u64 y4, .int .u64 y5, .int .u64 y6, .int .u64 y7], .bool true] := z6 6 73 (hall { on := 6, ground := Ground.data } (by simp) rfl) rfl
      have hK := fun (v : Value) (W2 : World) hW hT hv (hs : SneL B4 A4 A off n cap jx a b c d p q y0 y1 y2 y3 y4 y5 y6 y7 (lq.setIfInBounds 7 true) (aq.put (some 80) v) W2) => show (JneL B4 A4 A off n cap jx a b c d p q y0 y1 y2 y3 y4 y5 y6 y7 w0 a0) (lq.setIfInBounds 7 true) (aq.put (some 80) v) W2 from ⟨hJ2.put hS 7 80 rfl (by omega) (W' := W2) hW hT v hv, hs⟩
      clear ho hall hl hQ
      generalize (JneL B4 A4 A off n cap jx a b c d p q y0 y1 y2 y3 y4 y5 y6 y7 w0 a0) (lq.setIfInBounds 7 true) = K at hK ⊢
      clear hJ2 hS z1 z2 z3 z4 z6 z7
      go_simp
      exact hK _ _ z5 (fun _ _ h => h) rfl (hs.quiet 7 80 _ (by decide) (by decide))
    | 8, ho =>
      cases ho
      refine wpOp_of rfl rfl ?_
      have f6 : (aq.tmps.getD 73 undef) = .tuple #[.agg #[.int .u64 y0, .int .u64 y1, .int .u64 y2, .int .u64 y3, .int .u64 y4, .int .u64 y5, .int .u64 y6, .int .u64 y7], .bool true] := z6 6 73 (hall { on := 6, ground := Ground.data } (by simp) rfl) rfl
      have hK := fun (v : Value) (W2 : World) hW hT hv (hs : SneL B4 A4 A off n cap jx a b c d p q y0 y1 y2 y3 y4 y5 y6 y7 (lq.setIfInBounds 8 true) (aq.put (some 81) v) W2) => show (JneL B4 A4 A off n cap jx a b c d p q y0 y1 y2 y3 y4 y5 y6 y7 w0 a0) (lq.setIfInBounds 8 true) (aq.put (some 81) v) W2 from ⟨hJ2.put hS 8 81 rfl (by omega) (W' := W2) hW hT v hv, hs⟩
      clear ho hall hl hQ
      generalize (JneL B4 A4 A off n cap jx a b c d p q y0 y1 y2 y3 y4 y5 y6 y7 w0 a0) (lq.setIfInBounds 8 true) = K at hK ⊢
      clear hJ2 hS z1 z2 z3 z4 z6 z7
      go_simp
      exact hK _ _ z5 (fun _ _ h => h) rfl (hs.quiet 8 81 _ (by decide) (by decide))
    | 9, ho =>
      cases ho
      refine wpOp_of rfl rfl ?_
      have hl9 := hl
      have hsz : 12 < aq.tmps.size := by omega
      have hK := fun (v : Value) (W2 : World) hW hT hv (hs : SneL B4 A4 A off n cap jx a b c d p q y0 y1 y2 y3 y4 y5 y6 y7 (lq.setIfInBounds 9 true) (aq.put (some 12) v) W2) => show (JneL B4 A4 A off n cap jx a b c d p q y0 y1 y2 y3 y4 y5 y6 y7 w0 a0) (lq.setIfInBounds 9 true) (aq.put (some 12) v) W2 from ⟨hJ2.put hS 9 12 rfl (by omega) (W' := W2) hW hT v hv, hs⟩
      clear ho hall hl hQ
      generalize (JneL B4 A4 A off n cap jx a b c d p q y0 y1 y2 y3 y4 y5 y6 y7 w0 a0) (lq.setIfInBounds 9 true) = K at hK ⊢
      clear hJ2 hS z1 z2 z3 z4 z6 z7
      go_simp
      exact hK _ _ (z5.alloc z5.size _) (fun _ _ h => h.mono ((Below.refl _ _).alloc (Nat.le_refl _) _)) trivial ((hs.step ((Below.refl _ _).alloc (Nat.le_refl _) _)).nine hl9 hsz (by have := z5.size; omega) (Blk.new W [.int .u64 0, .int .u64 0, .int .u64 0, .int .u64 0, .int .u64 0, .int .u64 0, .int .u64 0, .int .u64 0] _ rfl))
    | 10, ho =>
      cases ho
      refine wpOp_of rfl rfl ?_
      have f9 : True := z6 9 12 (hall { on := 9, ground := Ground.data } (by simp) rfl) rfl
      have f7 : (aq.tmps.getD 80 undef) = .agg #[.int .u64 y0, .int .u64 y1, .int .u64 y2, .int .u64 y3, .int .u64 y4, .int .u64 y5, .int .u64 y6, .int .u64 y7] := z6 7 80 (hall { on := 7, ground := Ground.data } (by simp) rfl) rfl
      have l9 : lq.getD 9 false = true := hall { on := 9, ground := Ground.data } (by simp) rfl
      have hK := fun (W2 : World) hW hT hv (hs : SneL B4 A4 A off n cap jx a b c d p q y0 y1 y2 y3 y4 y5 y6 y7 (lq.setIfInBounds 10 true) aq W2) => show (JneL B4 A4 A off n cap jx a b c d p q y0 y1 y2 y3 y4 y5 y6 y7 w0 a0) (lq.setIfInBounds 10 true) aq W2 from ⟨hJ2.world 10 rfl (W' := W2) hW hT hv, hs⟩
      clear ho hall hl hQ
      generalize (JneL B4 A4 A off n cap jx a b c d p q y0 y1 y2 y3 y4 y5 y6 y7 w0 a0) (lq.setIfInBounds 10 true) = K at hK ⊢
      clear hJ2 hS z1 z2 z3 z4 z6 z7
      obtain ⟨gz, e7, hgz, ⟨z0q, z1q, z2q, z3q, z4q, z5q, z6q, z7q, GZ⟩, _⟩ := hs.2 l9
      have gl := GZ.lt
      have c0z := GZ.c 0 rfl; have d0z := GZ.f 0 rfl; have c1z := GZ.c 1 rfl; have d1z := GZ.f 1 rfl; have c2z := GZ.c 2 rfl; have d2z := GZ.f 2 rfl; have c3z := GZ.c 3 rfl; have d3z := GZ.f 3 rfl; have c4z := GZ.c 4 rfl; have d4z := GZ.f 4 rfl; have c5z := GZ.c 5 rfl; have d5z := GZ.f 5 rfl; have c6z := GZ.c 6 rfl; have d6z := GZ.f 6 rfl; have c7z := GZ.c 7 rfl; have d7z := GZ.f 7 rfl
      have NB : Blk ((((((((W.setCell ⟨gz, 0, none⟩ (.int .u64 y0)).setCell ⟨gz, 1, none⟩ (.int .u64 y1)).setCell ⟨gz, 2, none⟩ (.int .u64 y2)).setCell ⟨gz, 3, none⟩ (.int .u64 y3)).setCell ⟨gz, 4, none⟩ (.int .u64 y4)).setCell ⟨gz, 5, none⟩ (.int .u64 y5)).setCell ⟨gz, 6, none⟩ (.int .u64 y6)).setCell ⟨gz, 7, none⟩ (.int .u64 y7)) gz [.int .u64 y0, .int .u64 y1, .int .u64 y2, .int .u64 y3, .int .u64 y4, .int .u64 y5, .int .u64 y6, .int .u64 y7] := Blk.stored8 GZ _ _ _ _ _ _ _ _
      have hgw : w0.heap.size ≤ gz := by omega
      have NL : Below w0.heap.size w0 ((((((((W.setCell ⟨gz, 0, none⟩ (.int .u64 y0)).setCell ⟨gz, 1, none⟩ (.int .u64 y1)).setCell ⟨gz, 2, none⟩ (.int .u64 y2)).setCell ⟨gz, 3, none⟩ (.int .u64 y3)).setCell ⟨gz, 4, none⟩ (.int .u64 y4)).setCell ⟨gz, 5, none⟩ (.int .u64 y5)).setCell ⟨gz, 6, none⟩ (.int .u64 y6)).setCell ⟨gz, 7, none⟩ (.int .u64 y7)) := ((((((((z5.setCell (p := ⟨gz, 0, none⟩) hgw _).setCell (p := ⟨gz, 1, none⟩) hgw _).setCell (p := ⟨gz, 2, none⟩) hgw _).setCell (p := ⟨gz, 3, none⟩) hgw _).setCell (p := ⟨gz, 4, none⟩) hgw _).setCell (p := ⟨gz, 5, none⟩) hgw _).setCell (p := ⟨gz, 6, none⟩) hgw _).setCell (p := ⟨gz, 7, none⟩) hgw _)
      have HS := hs.ten l9 e7 hgz NB
      clear GZ NB hs
      go_simp
      exact hK _ NL (fun j v h => VneL.same h) trivial HS
    | 11, ho =>
      cases ho
      refine wpOp_of rfl rfl ?_
      have f8 : (aq.tmps.getD 81 undef) = .bool true := z6 8 81 (hall { on := 8, ground := Ground.data } (by simp) rfl) rfl
      have hK := fun (v : Value) (W2 : World) hW hT hv (hs : SneL B4 A4 A off n cap jx a b c d p q y0 y1 y2 y3 y4 y5 y6 y7 (lq.setIfInBounds 11 true) (aq.put (some 13) v) W2) => show (JneL B4 A4 A off n cap jx a b c d p q y0 y1 y2 y3 y4 y5 y6 y7 w0 a0) (lq.setIfInBounds 11 true) (aq.put (some 13) v) W2 from ⟨hJ2.put hS 11 13 rfl (by omega) (W' := W2) hW hT v hv, hs⟩
      clear ho hall hl hQ
      generalize (JneL B4 A4 A off n cap jx a b c d p q y0 y1 y2 y3 y4 y5 y6 y7 w0 a0) (lq.setIfInBounds 11 true) = K at hK ⊢
      clear hJ2 hS z1 z2 z3 z4 z6 z7
      go_simp
      exact hK _ _ z5 (fun _ _ h => h) rfl (hs.quiet 11 13 _ (by decide) (by decide))
    | iq + 12, ho => simp at ho
  · intro lq aq W ⟨hJ, hs⟩ hr
    obtain ⟨z1, z2, z3, z4, z5, z6, z7⟩ := hJ
    have hl := listed_of hr [9, 0, 1, 2, 3, 4, 5, 6, 7, 10, 8, 11] [] (by simp) (by kernel_rfl) (by rw [z1]; decide)
    exact hQ aq W z2 z3 (fun e he => z4 e (by simpa using he)) (z7 10 (hl 10 (by simp)) rfl) (z6 11 13 (hl 11 (by simp)) rfl) z5 (by obtain ⟨gz, e1, e2, _, e4⟩ := hs.2 (hl 9 (by simp)); exact ⟨gz, e1, by omega, e4 (hl 10 (by simp))⟩)
end Go.Proofs.Ytjhmacpejfldoaa

/- What keepNearest hands out: a function over four blocks of its own. -/
namespace Go.Proofs.Ytjhmacpejfldoaa
open Go.RowKit
set_option maxRecDepth 100000 in
set_option maxHeartbeats 2000000 in
theorem keepNearest_any (p q : Int) (w : World) : Calls Try.prog 24 #[Sp p q] w (fun e w' => e = .returned (.func (.func 49) #[] #[.pointer (some ⟨w.heap.size, 0, none⟩), .pointer (some ⟨w.heap.size + 1, 0, none⟩), .pointer (some ⟨w.heap.size + 1 + 1 + 1, 0, none⟩), .pointer (some ⟨w.heap.size + 1 + 1, 0, none⟩)]) ∧ Blk w' w.heap.size [.int .i64 p, .int .i64 q] ∧ Blk w' (w.heap.size + 1) [.int .i64 0] ∧ Blk w' (w.heap.size + 1 + 1) [.int .i64 0] ∧ Blk w' (w.heap.size + 1 + 1 + 1) [.int .u64 0, .int .u64 0, .int .u64 0, .int .u64 0, .int .u64 0, .int .u64 0, .int .u64 0, .int .u64 0] ∧ Below w.heap.size w w') := by
  have HB : Below w.heap.size w ((((w.alloc (.cells #[.int .i64 p, .int .i64 q] 26)).alloc (.cells #[.int .i64 0] 2)).alloc (.cells #[.int .i64 0] 2)).alloc (.cells #[.int .u64 0, .int .u64 0, .int .u64 0, .int .u64 0, .int .u64 0, .int .u64 0, .int .u64 0, .int .u64 0] 33)) := ((((Below.refl _ w).alloc (Nat.le_refl _) _).alloc (by simp) _).alloc (by simp; omega) _).alloc (by simp; omega) _
  have B0 := (((Blk.new w [.int .i64 p, .int .i64 q] 26 rfl).alloc (.cells #[.int .i64 0] 2)).alloc (.cells #[.int .i64 0] 2)).alloc (.cells #[.int .u64 0, .int .u64 0, .int .u64 0, .int .u64 0, .int .u64 0, .int .u64 0, .int .u64 0, .int .u64 0] 33)
  have B1 := ((Blk.new (w.alloc (.cells #[.int .i64 p, .int .i64 q] 26)) [.int .i64 0] 2 (g := w.heap.size + 1) (by simp)).alloc (.cells #[.int .i64 0] 2)).alloc (.cells #[.int .u64 0, .int .u64 0, .int .u64 0, .int .u64 0, .int .u64 0, .int .u64 0, .int .u64 0, .int .u64 0] 33)
  have B2 := (Blk.new ((w.alloc (.cells #[.int .i64 p, .int .i64 q] 26)).alloc (.cells #[.int .i64 0] 2)) [.int .i64 0] 2 (g := w.heap.size + 1 + 1) (by simp)).alloc (.cells #[.int .u64 0, .int .u64 0, .int .u64 0, .int .u64 0, .int .u64 0, .int .u64 0, .int .u64 0, .int .u64 0] 33)
  have B3 := Blk.new (((w.alloc (.cells #[.int .i64 p, .int .i64 q] 26)).alloc (.cells #[.int .i64 0] 2)).alloc (.cells #[.int .i64 0] 2)) [.int .u64 0, .int .u64 0, .int .u64 0, .int .u64 0, .int .u64 0, .int .u64 0, .int .u64 0, .int .u64 0] 33 (g := w.heap.size + 1 + 1 + 1) (by simp)
  go_enter Try.func24, Try.ntmps24
  go_wp2
  go_ret
  exact ⟨rfl, B0, B1, B2, B3, HB⟩
end Go.Proofs.Ytjhmacpejfldoaa

/- The function that keepNearest hands out. -/
namespace Go.Proofs.Ytjhmacpejfldoaa
open Go.RowKit
/-- What one call of it leaves. -/
def NeP1 (B4 gp gs gl gb : Nat) (p q k l m t : Int) (w : World) (e : Ending) (w' : World) : Prop :=
  e = .returned (.tuple #[.int .i64 t, .agg #[.int .u64 (ww3 l), .int .u64 (ww2 l), .int .u64 (ww1 l), .int .u64 (ww0 l), .int .u64 (ww3 m), .int .u64 (ww2 m), .int .u64 (ww1 m), .int .u64 (ww0 m)]]) ∧ Blk w' gp [.int .i64 p, .int .i64 q] ∧ Blk w' gs [.int .i64 k] ∧ Blk w' gl [.int .u64 (ww3 l), .int .u64 (ww2 l), .int .u64 (ww1 l), .int .u64 (ww0 l), .int .u64 (ww3 m), .int .u64 (ww2 m), .int .u64 (ww1 m), .int .u64 (ww0 m)] ∧ Blk w' gb [.int .i64 t] ∧ Below B4 w w'
set_option maxRecDepth 100000 in
set_option maxHeartbeats 8000000 in
theorem near1_any (B4 gp gs gl gb : Nat) (a b c d p q u v l m k t o : Int) (up : Bool) (hN : ∀ w, Calls Try.prog 9 #[.agg #[.int .i64 a, .int .i64 b, .int .i64 c, .int .i64 d], .agg #[.int .i64 p, .int .i64 q]] w (VP (.tuple #[.agg #[.int .u64 (ww3 u), .int .u64 (ww2 u), .int .u64 (ww1 u), .int .u64 (ww0 u), .int .u64 (ww3 v), .int .u64 (ww2 v), .int .u64 (ww1 v), .int .u64 (ww0 v)], .bool true]) w)) (hO : k ≠ 0 → ∀ w, Calls Try.prog 39 #[.agg #[.int .u64 (ww3 u), .int .u64 (ww2 u), .int .u64 (ww1 u), .int .u64 (ww0 u), .int .u64 (ww3 v), .int .u64 (ww2 v), .int .u64 (ww1 v), .int .u64 (ww0 v)], .agg #[.int .u64 (ww3 l), .int .u64 (ww2 l), .int .u64 (ww1 l), .int .u64 (ww0 l), .int .u64 (ww3 m), .int .u64 (ww2 m), .int .u64 (ww1 m), .int .u64 (ww0 m)]] w (VP (.int .i64 o) w)) (hk0 : 0 ≤ k) (hk1 : k ≤ 2000000) (hup : up = (decide (k = 0) || decide (o < 0))) (w : World)
    (XP : Blk w gp [.int .i64 p, .int .i64 q]) (XS : Blk w gs [.int .i64 k]) (XL : Blk w gl [.int .u64 (ww3 l), .int .u64 (ww2 l), .int .u64 (ww1 l), .int .u64 (ww0 l), .int .u64 (ww3 m), .int .u64 (ww2 m), .int .u64 (ww1 m), .int .u64 (ww0 m)]) (XB : Blk w gb [.int .i64 t]) (nps : gp ≠ gs) (npl : gp ≠ gl) (npb : gp ≠ gb) (nsl : gs ≠ gl) (nsb : gs ≠ gb) (nlb : gl ≠ gb) (hp : B4 ≤ gp) (hs : B4 ≤ gs) (hl : B4 ≤ gl) (hb : B4 ≤ gb) :
    Calls Try.prog 49 #[.agg #[.int .i64 a, .int .i64 b, .int .i64 c, .int .i64 d], .pointer (some ⟨gp, 0, none⟩), .pointer (some ⟨gs, 0, none⟩), .pointer (some ⟨gl, 0, none⟩), .pointer (some ⟨gb, 0, none⟩)] w (NeP1 B4 gp gs gl gb p q (k + 1) (cond up u l) (cond up v m) (cond up k t) w) := by
  have lp := XP.lt
  have ls := XS.lt
  have ll := XL.lt
  have lb := XB.lt
  have HB : Below B4 w ((w.alloc (.cells #[.int .i64 a, .int .i64 b, .int .i64 c, .int .i64 d] 39)).alloc (.cells #[.int .u64 0, .int .u64 0, .int .u64 0, .int .u64 0, .int .u64 0, .int .u64 0, .int .u64 0, .int .u64 0] 33)) := ((Below.refl _ _).alloc (by omega) _).alloc (by simp; omega) _
  replace XP := (XP.alloc (.cells #[.int .i64 a, .int .i64 b, .int .i64 c, .int .i64 d] 39)).alloc (.cells #[.int .u64 0, .int .u64 0, .int .u64 0, .int .u64 0, .int .u64 0, .int .u64 0, .int .u64 0, .int .u64 0] 33)
  replace XS := (XS.alloc (.cells #[.int .i64 a, .int .i64 b, .int .i64 c, .int .i64 d] 39)).alloc (.cells #[.int .u64 0, .int .u64 0, .int .u64 0, .int .u64 0, .int .u64 0, .int .u64 0, .int .u64 0, .int .u64 0] 33)
  replace XL := (XL.alloc (.cells #[.int .i64 a, .int .i64 b, .int .i64 c, .int .i64 d] 39)).alloc (.cells #[.int .u64 0, .int .u64 0, .int .u64 0, .int .u64 0, .int .u64 0, .int .u64 0, .int .u64 0, .int .u64 0] 33)
  replace XB := (XB.alloc (.cells #[.int .i64 a, .int .i64 b, .int .i64 c, .int .i64 d] 39)).alloc (.cells #[.int .u64 0, .int .u64 0, .int .u64 0, .int .u64 0, .int .u64 0, .int .u64 0, .int .u64 0, .int .u64 0] 33)
  have XR := Blk.new (w.alloc (.cells #[.int .i64 a, .int .i64 b, .int .i64 c, .int .i64 d] 39)) [.int .u64 0, .int .u64 0, .int .u64 0, .int .u64 0, .int .u64 0, .int .u64 0, .int .u64 0, .int .u64 0] 33 (g := w.heap.size + 1) (by simp)
  rw [show ([.int .u64 0, .int .u64 0, .int .u64 0, .int .u64 0, .int .u64 0, .int .u64 0, .int .u64 0, .int .u64 0] : List Value).toArray = #[.int .u64 0, .int .u64 0, .int .u64 0, .int .u64 0, .int .u64 0, .int .u64 0, .int .u64 0, .int .u64 0] from rfl] at XR
  have wk : IntKind.i64.wrap (k + 1) = k + 1 := by rw [IntKind.wrap_i64]; omega
  obtain ⟨p0, p1⟩ := XP.cs2
  go_enter Try.func49, Try.ntmps49
  go_wp2_with fail
  clear p0 p1
  generalize ((w.alloc (.cells #[.int .i64 a, .int .i64 b, .int .i64 c, .int .i64 d] 39)).alloc (.cells #[.int .u64 0, .int .u64 0, .int .u64 0, .int .u64 0, .int .u64 0, .int .u64 0, .int .u64 0, .int .u64 0] 33)) = W1 at *
  have lpr : gp < w.heap.size + 1 := by omega
  have lsr : gs < w.heap.size + 1 := by omega
  have llr : gl < w.heap.size + 1 := by omega
  have lbr : gb < w.heap.size + 1 := by omega
  have hbr : B4 ≤ w.heap.size + 1 := by omega
  generalize w.heap.size + 1 = gr at *
  have nbr : gb ≠ gr := by omega
  have nlr : gl ≠ gr := by omega
  have nrb : gr ≠ gb := by omega
  have nrl : gr ≠ gl := by omega
  have nrs : gr ≠ gs := by omega
  have nls : gl ≠ gs := by omega
  have nbs : gb ≠ gs := by omega
  have nbl : gb ≠ gl := by omega
  refine (hN _).mono ?_
  rintro e w1 ⟨rfl, hB⟩
  replace HB := HB.trans (hB.mono (by have := XP.lt; omega))
  replace XP := XP.step hB
  replace XS := XS.step hB
  replace XL := XL.step hB
  replace XB := XB.step hB
  replace XR := XR.step hB
  clear hB hN
  have r1 := XR.lt
  have X8 := Blk.new w1 [.int .u64 (ww3 u), .int .u64 (ww2 u), .int .u64 (ww1 u), .int .u64 (ww0 u), .int .u64 (ww3 v), .int .u64 (ww2 v), .int .u64 (ww1 v), .int .u64 (ww0 v)] 33 rfl
  rw [show ([.int .u64 (ww3 u), .int .u64 (ww2 u), .int .u64 (ww1 u), .int .u64 (ww0 u), .int .u64 (ww3 v), .int .u64 (ww2 v), .int .u64 (ww1 v), .int .u64 (ww0 v)] : List Value).toArray = #[.int .u64 (ww3 u), .int .u64 (ww2 u), .int .u64 (ww1 u), .int .u64 (ww0 u), .int .u64 (ww3 v), .int .u64 (ww2 v), .int .u64 (ww1 v), .int .u64 (ww0 v)] from rfl] at X8
  replace HB := HB.alloc (by omega) (.cells #[.int .u64 (ww3 u), .int .u64 (ww2 u), .int .u64 (ww1 u), .int .u64 (ww0 u), .int .u64 (ww3 v), .int .u64 (ww2 v), .int .u64 (ww1 v), .int .u64 (ww0 v)] 33)
  replace XP := XP.alloc (.cells #[.int .u64 (ww3 u), .int .u64 (ww2 u), .int .u64 (ww1 u), .int .u64 (ww0 u), .int .u64 (ww3 v), .int .u64 (ww2 v), .int .u64 (ww1 v), .int .u64 (ww0 v)] 33)
  replace XS := XS.alloc (.cells #[.int .u64 (ww3 u), .int .u64 (ww2 u), .int .u64 (ww1 u), .int .u64 (ww0 u), .int .u64 (ww3 v), .int .u64 (ww2 v), .int .u64 (ww1 v), .int .u64 (ww0 v)] 33)
  replace XL := XL.alloc (.cells #[.int .u64 (ww3 u), .int .u64 (ww2 u), .int .u64 (ww1 u), .int .u64 (ww0 u), .int .u64 (ww3 v), .int .u64 (ww2 v), .int .u64 (ww1 v), .int .u64 (ww0 v)] 33)
  replace XB := XB.alloc (.cells #[.int .u64 (ww3 u), .int .u64 (ww2 u), .int .u64 (ww1 u), .int .u64 (ww0 u), .int .u64 (ww3 v), .int .u64 (ww2 v), .int .u64 (ww1 v), .int .u64 (ww0 v)] 33)
  replace XR := XR.alloc (.cells #[.int .u64 (ww3 u), .int .u64 (ww2 u), .int .u64 (ww1 u), .int .u64 (ww0 u), .int .u64 (ww3 v), .int .u64 (ww2 v), .int .u64 (ww1 v), .int .u64 (ww0 v)] 33)
  have n8b : w1.heap.size ≠ gb := by omega
  have n8l : w1.heap.size ≠ gl := by omega
  go_upto_region 2 with fail
  generalize (w1.alloc (.cells #[.int .u64 (ww3 u), .int .u64 (ww2 u), .int .u64 (ww1 u), .int .u64 (ww0 u), .int .u64 (ww3 v), .int .u64 (ww2 v), .int .u64 (ww1 v), .int .u64 (ww0 v)] 33)) = W2 at *
  generalize w1.heap.size = g8 at *
  by_cases h0 : k = 0
  · have hu : up = true := by rw [hup, decide_eq_true h0]; rfl
    subst hu
    have kk : (k == 0) = true := beq_iff_eq.2 h0
    have xs0 := XS.c 0 rfl
    clear hup hO h0
    go_upto_region 3 with fail
    refine nkR (B4 := B4) (gs := gs) (gl := gl) (gb := gb) (A8 := g8) (gp := gp) (gr := gr) (p := p) (q := q) nsb nsl n8b n8l nbl nlb npb npl nrb nrl hb hl rfl rfl rfl rfl rfl ⟨XS.drew, X8.drew, XP.drew, XR.drew, ⟨_, XB.drew⟩, _, _, _, _, _, _, _, _, XL.drew⟩ ?_
    rintro ⟨tm, df⟩ W4 hz hdf hoff hB1 hL1 hBz ⟨XS4, _, XP4, XR4, _, _⟩
    have hB1 : Blk W4 gb [.int .i64 k] := hB1
    have hL1 : Blk W4 gl [.int .u64 (ww3 u), .int .u64 (ww2 u), .int .u64 (ww1 u), .int .u64 (ww0 u), .int .u64 (ww3 v), .int .u64 (ww2 v), .int .u64 (ww1 v), .int .u64 (ww0 v)] := hL1
    simp only at hz hdf hoff
    subst hdf
    have htm := tmps_fold [24, 25] tm _ hz hoff
    simp only [List.foldl, List.setIfInBounds_toArray, List.set_cons_zero, List.set_cons_succ] at htm
    clear hz hoff
    generalize tm.getD 24 undef = u0, tm.getD 25 undef = u1 at htm
    subst htm
    replace HB := HB.trans hBz
    clear XP XS XL XB XR X8 hBz
    have XP := XP4
    have XS := XS4
    have XR := XR4
    have XL := hL1
    have XB := hB1
    clear XP4 XS4 XR4 hL1 hB1
    clear xs0 kk
    have xs0 := XS.c 0 rfl
    have xf0 := XS.f 0 rfl
    have xsl := XS.lt
    go_upto_region 5 with fail
    replace HB := HB.setCell (p := ⟨gs, 0, none⟩) hs (.int .i64 (k + 1))
    replace XP := XP.setO (p := ⟨gs, 0, none⟩) nps (.int .i64 (k + 1))
    replace XL := XL.setO (p := ⟨gs, 0, none⟩) nls (.int .i64 (k + 1))
    replace XB := XB.setO (p := ⟨gs, 0, none⟩) nbs (.int .i64 (k + 1))
    replace XR := XR.setO (p := ⟨gs, 0, none⟩) nrs (.int .i64 (k + 1))
    have XS2 : Blk (W4.setCell ⟨gs, 0, none⟩ (.int .i64 (k + 1))) gs [.int .i64 (k + 1)] := XS.setI 0 (by simp) _
    clear xs0 xf0 xsl XS
    generalize (W4.setCell ⟨gs, 0, none⟩ (.int .i64 (k + 1))) = W5 at *
    refine nkS (B4 := gr) (gl := gl) (gb := gb) (A7 := gr) nbr nlr (Nat.le_refl _) rfl rfl rfl rfl ⟨XB.drew, XL.drew, _, _, _, _, _, _, _, _, XR.drew⟩ ?_
    rintro ⟨tm, df⟩ Wz hz hdf hoff h6 hR hBz hS
    have hR : Blk Wz gr [.int .u64 (ww3 u), .int .u64 (ww2 u), .int .u64 (ww1 u), .int .u64 (ww0 u), .int .u64 (ww3 v), .int .u64 (ww2 v), .int .u64 (ww1 v), .int .u64 (ww0 v)] := hR
    simp only at hz hdf hoff
    change tm.getD 6 undef = .int .i64 k at h6
    subst hdf
    have htm := tmps_fold [28, 29, 6] tm _ hz hoff
    simp only [List.foldl, List.setIfInBounds_toArray, List.set_cons_zero, List.set_cons_succ, h6] at htm
    clear hz hoff
    generalize tm.getD 28 undef = s0, tm.getD 29 undef = s1 at htm
    clear h6
    subst htm
    have HBF := HB.trans (hBz.mono hbr)
    have YP := XP.below hBz lpr
    have YS := XS2.below hBz lsr
    have YL := XL.below hBz llr
    have YB := XB.below hBz lbr
    clear XP XS2 XL XB XR HB hBz hS
    have m0 := hR.c 0 rfl; have m1 := hR.c 1 rfl; have m2 := hR.c 2 rfl; have m3 := hR.c 3 rfl; have m4 := hR.c 4 rfl; have m5 := hR.c 5 rfl; have m6 := hR.c 6 rfl; have m7 := hR.c 7 rfl
    go_wp2
    refine bodyPost_ret (v := .tuple #[.int .i64 k, .agg #[.int .u64 (ww3 u), .int .u64 (ww2 u), .int .u64 (ww1 u), .int .u64 (ww0 u), .int .u64 (ww3 v), .int .u64 (ww2 v), .int .u64 (ww1 v), .int .u64 (ww0 v)]]) (by simp [results, Try.results49, go_sem, m0, m1, m2, m3, m4, m5, m6, m7]) rfl ?_
    exact ⟨rfl, YP, YS, YL, YB, HBF⟩
  · have hO := hO h0
    have kk : (k == 0) = false := beq_eq_false_iff_ne.2 h0
    have xs0 := XS.c 0 rfl
    obtain ⟨c0, c1, c2, c3, c4, c5, c6, c7⟩ := X8.cs8
    obtain ⟨d0, d1, d2, d3, d4, d5, d6, d7⟩ := XL.cs8
    go_wp2_with fail
    clear c0 c1 c2 c3 c4 c5 c6 c7 d0 d1 d2 d3 d4 d5 d6 d7 xs0
    refine (hO _).mono ?_
    rintro e w3 ⟨rfl, hB⟩
    replace HB := HB.trans (hB.mono (by have := XP.lt; omega))
    replace XP := XP.step hB
    replace XS := XS.step hB
    replace XL := XL.step hB
    replace XB := XB.step hB
    replace XR := XR.step hB
    replace X8 := X8.step hB
    clear hB hO
    by_cases ho : o < 0
    · have hu : up = true := by rw [hup, decide_eq_true ho]; simp
      subst hu
      clear hup
      go_upto_region 3 with fail
      refine nkR (B4 := B4) (gs := gs) (gl := gl) (gb := gb) (A8 := g8) (gp := gp) (gr := gr) (p := p) (q := q) nsb nsl n8b n8l nbl nlb npb npl nrb nrl hb hl rfl rfl rfl rfl rfl ⟨XS.drew, X8.drew, XP.drew, XR.drew, ⟨_, XB.drew⟩, _, _, _, _, _, _, _, _, XL.drew⟩ ?_
      rintro ⟨tm, df⟩ W4 hz hdf hoff hB1 hL1 hBz ⟨XS4, _, XP4, XR4, _, _⟩
      have hB1 : Blk W4 gb [.int .i64 k] := hB1
      have hL1 : Blk W4 gl [.int .u64 (ww3 u), .int .u64 (ww2 u), .int .u64 (ww1 u), .int .u64 (ww0 u), .int .u64 (ww3 v), .int .u64 (ww2 v), .int .u64 (ww1 v), .int .u64 (ww0 v)] := hL1
      simp only at hz hdf hoff
      subst hdf
      have htm := tmps_fold [24, 25] tm _ hz hoff
      simp only [List.foldl, List.setIfInBounds_toArray, List.set_cons_zero, List.set_cons_succ] at htm
      clear hz hoff
      generalize tm.getD 24 undef = u0, tm.getD 25 undef = u1 at htm
      subst htm
      replace HB := HB.trans hBz
      clear XP XS XL XB XR X8 hBz
      have XP := XP4
      have XS := XS4
      have XR := XR4
      have XL := hL1
      have XB := hB1
      clear XP4 XS4 XR4 hL1 hB1
      have xs0 := XS.c 0 rfl
      have xf0 := XS.f 0 rfl
      have xsl := XS.lt
      go_upto_region 5 with fail
      replace HB := HB.setCell (p := ⟨gs, 0, none⟩) hs (.int .i64 (k + 1))
      replace XP := XP.setO (p := ⟨gs, 0, none⟩) nps (.int .i64 (k + 1))
      replace XL := XL.setO (p := ⟨gs, 0, none⟩) nls (.int .i64 (k + 1))
      replace XB := XB.setO (p := ⟨gs, 0, none⟩) nbs (.int .i64 (k + 1))
      replace XR := XR.setO (p := ⟨gs, 0, none⟩) nrs (.int .i64 (k + 1))
      have XS2 : Blk (W4.setCell ⟨gs, 0, none⟩ (.int .i64 (k + 1))) gs [.int .i64 (k + 1)] := XS.setI 0 (by simp) _
      clear xs0 xf0 xsl XS
      generalize (W4.setCell ⟨gs, 0, none⟩ (.int .i64 (k + 1))) = W5 at *
      refine nkS (B4 := gr) (gl := gl) (gb := gb) (A7 := gr) nbr nlr (Nat.le_refl _) rfl rfl rfl rfl ⟨XB.drew, XL.drew, _, _, _, _, _, _, _, _, XR.drew⟩ ?_
      rintro ⟨tm, df⟩ Wz hz hdf hoff h6 hR hBz hS
      have hR : Blk Wz gr [.int .u64 (ww3 u), .int .u64 (ww2 u), .int .u64 (ww1 u), .int .u64 (ww0 u), .int .u64 (ww3 v), .int .u64 (ww2 v), .int .u64 (ww1 v), .int .u64 (ww0 v)] := hR
      simp only at hz hdf hoff
      change tm.getD 6 undef = .int .i64 k at h6
      subst hdf
      have htm := tmps_fold [28, 29, 6] tm _ hz hoff
      simp only [List.foldl, List.setIfInBounds_toArray, List.set_cons_zero, List.set_cons_succ, h6] at htm
      clear hz hoff
      generalize tm.getD 28 undef = s0, tm.getD 29 undef = s1 at htm
      clear h6
      subst htm
      have HBF := HB.trans (hBz.mono hbr)
      have YP := XP.below hBz lpr
      have YS := XS2.below hBz lsr
      have YL := XL.below hBz llr
      have YB := XB.below hBz lbr
      clear XP XS2 XL XB XR HB hBz hS
      have m0 := hR.c 0 rfl; have m1 := hR.c 1 rfl; have m2 := hR.c 2 rfl; have m3 := hR.c 3 rfl; have m4 := hR.c 4 rfl; have m5 := hR.c 5 rfl; have m6 := hR.c 6 rfl; have m7 := hR.c 7 rfl
      go_wp2
      refine bodyPost_ret (v := .tuple #[.int .i64 k, .agg #[.int .u64 (ww3 u), .int .u64 (ww2 u), .int .u64 (ww1 u), .int .u64 (ww0 u), .int .u64 (ww3 v), .int .u64 (ww2 v), .int .u64 (ww1 v), .int .u64 (ww0 v)]]) (by simp [results, Try.results49, go_sem, m0, m1, m2, m3, m4, m5, m6, m7]) rfl ?_
      exact ⟨rfl, YP, YS, YL, YB, HBF⟩
    · have hu : up = false := by rw [hup, decide_eq_false ho, decide_eq_false h0]; rfl
      subst hu
      clear hup X8
      have ho' : ¬ (o < 0) := ho
      have xs0 := XS.c 0 rfl
      have xf0 := XS.f 0 rfl
      have xsl := XS.lt
      go_upto_region 5 with fail
      replace HB := HB.setCell (p := ⟨gs, 0, none⟩) hs (.int .i64 (k + 1))
      replace XP := XP.setO (p := ⟨gs, 0, none⟩) nps (.int .i64 (k + 1))
      replace XL := XL.setO (p := ⟨gs, 0, none⟩) nls (.int .i64 (k + 1))
      replace XB := XB.setO (p := ⟨gs, 0, none⟩) nbs (.int .i64 (k + 1))
      replace XR := XR.setO (p := ⟨gs, 0, none⟩) nrs (.int .i64 (k + 1))
      have XS2 : Blk (w3.setCell ⟨gs, 0, none⟩ (.int .i64 (k + 1))) gs [.int .i64 (k + 1)] := XS.setI 0 (by simp) _
      clear xs0 xf0 xsl XS
      generalize (w3.setCell ⟨gs, 0, none⟩ (.int .i64 (k + 1))) = W5 at *
      refine nkS (B4 := gr) (gl := gl) (gb := gb) (A7 := gr) nbr nlr (Nat.le_refl _) rfl rfl rfl rfl ⟨XB.drew, XL.drew, _, _, _, _, _, _, _, _, XR.drew⟩ ?_
      rintro ⟨tm, df⟩ Wz hz hdf hoff h6 hR hBz hS
      have hR : Blk Wz gr [.int .u64 (ww3 l), .int .u64 (ww2 l), .int .u64 (ww1 l), .int .u64 (ww0 l), .int .u64 (ww3 m), .int .u64 (ww2 m), .int .u64 (ww1 m), .int .u64 (ww0 m)] := hR
      simp only at hz hdf hoff
      change tm.getD 6 undef = .int .i64 t at h6
      subst hdf
      have htm := tmps_fold [28, 29, 6] tm _ hz hoff
      simp only [List.foldl, List.setIfInBounds_toArray, List.set_cons_zero, List.set_cons_succ, h6] at htm
      clear hz hoff
      generalize tm.getD 28 undef = s0, tm.getD 29 undef = s1 at htm
      clear h6
      subst htm
      have HBF := HB.trans (hBz.mono hbr)
      have YP := XP.below hBz lpr
      have YS := XS2.below hBz lsr
      have YL := XL.below hBz llr
      have YB := XB.below hBz lbr
      clear XP XS2 XL XB XR HB hBz hS
      have m0 := hR.c 0 rfl; have m1 := hR.c 1 rfl; have m2 := hR.c 2 rfl; have m3 := hR.c 3 rfl; have m4 := hR.c 4 rfl; have m5 := hR.c 5 rfl; have m6 := hR.c 6 rfl; have m7 := hR.c 7 rfl
      go_wp2
      refine bodyPost_ret (v := .tuple #[.int .i64 t, .agg #[.int .u64 (ww3 l), .int .u64 (ww2 l), .int .u64 (ww1 l), .int .u64 (ww0 l), .int .u64 (ww3 m), .int .u64 (ww2 m), .int .u64 (ww1 m), .int .u64 (ww0 m)]]) (by simp [results, Try.results49, go_sem, m0, m1, m2, m3, m4, m5, m6, m7]) rfl ?_
      exact ⟨rfl, YP, YS, YL, YB, HBF⟩
end Go.Proofs.Ytjhmacpejfldoaa
