/- Part 5 of the walks that the proof leans on. -/
import Derived.Test.YtaagmdhbfbikfaaPart4
/- The drawn regions of the program's read. -/
namespace Go.Proofs.Ytaagmdhbfbikfaa
open Go.RowKit
/-- The row without its first element. -/
def RestV (A ra n ca : Nat) (v : Value) : Prop := ∃ ad, v = .slice ad (n - 1) (ca - 1) ∧ (1 < n → ad = some ⟨A, ra + 5, none⟩)
def VqrA (A ra n ca : Nat) (bx by_ bz : Int) (bt : Bool) (bo : Option Addr) (bl bc : Nat) (Wd : World) (_B : Nat) : Nat → Value → World → Prop
  | 0, v, _ => v = .slice (some ⟨A, ra, none⟩) n ca
  | 1, v, _ => v = .pointer (some ⟨A, ra, none⟩)
  | 2, v, _ => v = .agg #[.int .i64 bx, .int .i64 by_, .int .i64 bz, .bool bt, .slice bo bl bc]
  | 3, v, _ => v = .slice (some ⟨A, ra, none⟩) n ca
  | 4, v, _ => RestV A ra n ca v
  | 5, v, _ => v = .pointer (some ⟨Wd.heap.size, 0, none⟩)
  | 7, v, _ => RestV A ra n ca v
  | _, _, _ => True
theorem VqrA.mono {A ra n ca : Nat} {bx by_ bz : Int} {bt : Bool} {bo : Option Addr} {bl bc : Nat} {Wd : World} {B j : Nat} {v : Value} {W W2 : World} (_hB : Below W.heap.size W W2) (h : VqrA A ra n ca bx by_ bz bt bo bl bc Wd B j v W) : VqrA A ra n ca bx by_ bz bt bo bl bc Wd B j v W2 := by
  unfold VqrA at *
  split <;> simp only at h <;> first | exact h | trivial
theorem VqrA.same {A ra n ca : Nat} {bx by_ bz : Int} {bt : Bool} {bo : Option Addr} {bl bc : Nat} {Wd : World} {B j : Nat} {v : Value} {W W2 : World} (h : VqrA A ra n ca bx by_ bz bt bo bl bc Wd B j v W) : VqrA A ra n ca bx by_ bz bt bo bl bc Wd B j v W2 := by
  unfold VqrA at *
  split <;> simp only at h <;> first | exact h | trivial
def SqrA (_A _ra _n _ca : Nat) (bx by_ bz : Int) (bt : Bool) (bo : Option Addr) (bl bc : Nat) (Wd : World) (lz : Array Bool) (_az : Act) (W : World) : Prop := (lz.getD 5 false = false → W = Wd) ∧ (lz.getD 5 false = true → lz.getD 6 false = false → W = (Wd.alloc (.cells #[.int .i64 0, .int .i64 0, .int .i64 0, .bool false, .slice none 0 0] 95))) ∧ (lz.getD 6 false = true → W = ((((((Wd.alloc (.cells #[.int .i64 0, .int .i64 0, .int .i64 0, .bool false, .slice none 0 0] 95)).setCell ⟨Wd.heap.size, 0, none⟩ (.int .i64 bx)).setCell ⟨Wd.heap.size, 1, none⟩ (.int .i64 by_)).setCell ⟨Wd.heap.size, 2, none⟩ (.int .i64 bz)).setCell ⟨Wd.heap.size, 3, none⟩ (.bool bt)).setCell ⟨Wd.heap.size, 4, none⟩ (.slice bo bl bc))) ∧ (lz.getD 6 false = true → lz.getD 5 false = true)

def JqrA (A ra n ca : Nat) (bx by_ bz : Int) (bt : Bool) (bo : Option Addr) (bl bc : Nat) (Wd : World) (w0 : World) (a0 : Act) (lz : Array Bool) (az : Act) (W : World) : Prop := InvQ (w0.heap.size) [some 27, some 28, some 29, some 30, some 31, some 10, none, some 11] (VqrA A ra n ca bx by_ bz bt bo bl bc Wd (w0.heap.size)) w0 a0 lz az W ∧ SqrA A ra n ca bx by_ bz bt bo bl bc Wd lz az W
set_option maxRecDepth 100000 in
set_option maxHeartbeats 4000000 in
theorem qrA {Q : Exit → Act → World → Prop} {A ra n ca : Nat} {bx by_ bz : Int} {bt : Bool} {bo : Option Addr} {bl bc : Nat} {Wd : World}  {w0 : World} {a0 : Act} {idq : Nat} {t0 t1 t2 t3 t4 t5 t6 t7 : TypeId} {q0 q1 q2 q3 q4 q5 q6 q7 : String}
    (hn : 0 < n) (hnc : n ≤ ca) (hnb : n ≤ 1048576) (hWd : w0.heap.size ≤ Wd.heap.size) (hWe : Wd = w0.drew) (h1 : a0.tmps[1]? = some (.slice (some ⟨A, ra, none⟩) n ca)) (k0 : w0.cell? ⟨A, ra, none⟩ = some (.int .i64 bx)) (l0 : (⟨A, ra, none⟩ : Addr).block < w0.heap.size) (k1 : w0.cell? ⟨A, ra + 1, none⟩ = some (.int .i64 by_)) (l1 : (⟨A, ra + 1, none⟩ : Addr).block < w0.heap.size) (k2 : w0.cell? ⟨A, ra + 2, none⟩ = some (.int .i64 bz)) (l2 : (⟨A, ra + 2, none⟩ : Addr).block < w0.heap.size) (k3 : w0.cell? ⟨A, ra + 3, none⟩ = some (.bool bt)) (l3 : (⟨A, ra + 3, none⟩ : Addr).block < w0.heap.size) (k4 : w0.cell? ⟨A, ra + 4, none⟩ = some (.slice bo bl bc)) (l4 : (⟨A, ra + 4, none⟩ : Addr).block < w0.heap.size) (hz : a0.tmps.size = 98)
    (hQ : ∀ aq W, aq.tmps.size = a0.tmps.size → aq.defers = a0.defers → (∀ e, e ∉ ([27, 28, 29, 30, 31, 10, 11] : List Nat) → aq.tmps[e]? = a0.tmps[e]?) → VqrA A ra n ca bx by_ bz bt bo bl bc Wd (w0.heap.size) 5 (aq.tmps.getD 10 undef) W → VqrA A ra n ca bx by_ bz bt bo bl bc Wd (w0.heap.size) 7 (aq.tmps.getD 11 undef) W → Below (w0.heap.size) w0 W → (W = ((((((Wd.alloc (.cells #[.int .i64 0, .int .i64 0, .int .i64 0, .bool false, .slice none 0 0] 95)).setCell ⟨Wd.heap.size, 0, none⟩ (.int .i64 bx)).setCell ⟨Wd.heap.size, 1, none⟩ (.int .i64 by_)).setCell ⟨Wd.heap.size, 2, none⟩ (.int .i64 bz)).setCell ⟨Wd.heap.size, 3, none⟩ (.bool bt)).setCell ⟨Wd.heap.size, 4, none⟩ (.slice bo bl bc))) → Q .normal aq W) :
    (Code.region idq #[{ dst := some 27, op := Op.move (Operand.tmp 1), type := t0, pos := q0, after := #[], guard := none },
    { dst := some 28, op := Op.indexAddr 29 (Operand.tmp 27) (Operand.const (Value.int IntKind.i64 0)), type := t1, pos := q1, after := #[{ on := 0, ground := Ground.data }], guard := none },
    { dst := some 29, op := Op.load 95 (Operand.tmp 28), type := t2, pos := q2, after := #[{ on := 1, ground := Ground.data }], guard := none },
    { dst := some 30, op := Op.move (Operand.tmp 1), type := t3, pos := q3, after := #[], guard := none },
    { dst := some 31, op := Op.slice 29 (Operand.tmp 30) (some (Operand.const (Value.int IntKind.i64 1))) none none, type := t4, pos := q4, after := #[{ on := 3, ground := Ground.data }], guard := none },
    { dst := some 10, op := Op.alloc 95, type := t5, pos := q5, after := #[], guard := none },
    { dst := none, op := Op.store 95 (Operand.tmp 10) (Operand.tmp 29), type := t6, pos := q6, after := #[{ on := 5, ground := Ground.data }, { on := 2, ground := Ground.data }, { on := 0, ground := Ground.phase }, { on := 1, ground := Ground.phase }, { on := 2, ground := Ground.phase }, { on := 3, ground := Ground.textOnly Departure.lateStores }, { on := 4, ground := Ground.textOnly Departure.lateStoresUnsure }, { on := 5, ground := Ground.phase }], guard := none },
    { dst := some 11, op := Op.assign (Operand.tmp 31), type := t7, pos := q7, after := #[{ on := 4, ground := Ground.data }, { on := 6, ground := Ground.chain }, { on := 0, ground := Ground.phase }, { on := 1, ground := Ground.phase }, { on := 2, ground := Ground.phase }, { on := 3, ground := Ground.phase }, { on := 4, ground := Ground.phase }, { on := 5, ground := Ground.phase }, { on := 6, ground := Ground.phase }], guard := none }] true).wp Try.prog Q a0 w0 := by
  have hS : distS [some 27, some 28, some 29, some 30, some 31, some 10, none, some 11] = true := rfl
  refine wp_region_inv (by kernel_rfl) (JqrA A ra n ca bx by_ bz bt bo bl bc Wd w0 a0) ⟨⟨rfl, rfl, rfl, fun _ _ => rfl, (Below.refl _ w0).drew, fun j d hj => ?_, fun j hj => ?_⟩, ⟨fun _ => hWe.symm, (fun h => by rw [replD] at h; cases h), (fun h => by rw [replD] at h; cases h), (fun h => by rw [replD] at h; cases h)⟩⟩ ?_ ?_
  · exfalso
    rw [Array.getD_eq_getD_getElem?, Array.getElem?_replicate] at hj
    split at hj <;> simp at hj
  · exfalso
    rw [Array.getD_eq_getD_getElem?, Array.getElem?_replicate] at hj
    split at hj <;> simp at hj
  · intro lq aq W iq oq ⟨hJ, hs⟩ hl ho hall
    have hJ2 := hJ
    obtain ⟨z1, z2, z3, z4, z5, z6, z7⟩ := hJ
    have g1 : aq.tmps.getD 1 undef = .slice (some ⟨A, ra, none⟩) n ca := by rw [Array.getD_eq_getD_getElem?, z4 1 (by decide), h1]; rfl
    have c0 : W.cell? ⟨A, ra, none⟩ = some (.int .i64 bx) := (z5.cell l0).trans k0
    have c1 : W.cell? ⟨A, ra + 1, none⟩ = some (.int .i64 by_) := (z5.cell l1).trans k1
    have c2 : W.cell? ⟨A, ra + 2, none⟩ = some (.int .i64 bz) := (z5.cell l2).trans k2
    have c3 : W.cell? ⟨A, ra + 3, none⟩ = some (.bool bt) := (z5.cell l3).trans k3
    have c4 : W.cell? ⟨A, ra + 4, none⟩ = some (.slice bo bl bc) := (z5.cell l4).trans k4
    match iq, ho with
    | 0, ho =>
      cases ho
      refine wpOp_of rfl rfl ?_
      have hq : ∀ v : Value, SqrA A ra n ca bx by_ bz bt bo bl bc Wd (lq.setIfInBounds 0 true) (aq.put (some 27) v) W := fun v => ⟨by rw [getD_set_neq (i := 0) (j := 5) (by decide)]; exact hs.1, by rw [getD_set_neq (i := 0) (j := 5) (by decide), getD_set_neq (i := 0) (j := 6) (by decide)]; exact hs.2.1, by rw [getD_set_neq (i := 0) (j := 6) (by decide)]; exact hs.2.2.1, by rw [getD_set_neq (i := 0) (j := 5) (by decide), getD_set_neq (i := 0) (j := 6) (by decide)]; exact hs.2.2.2⟩
      clear hWe
      have hK := fun (v : Value) (W2 : World) hW hT hv (hs : SqrA A ra n ca bx by_ bz bt bo bl bc Wd (lq.setIfInBounds 0 true) (aq.put (some 27) v) W2) => show (JqrA A ra n ca bx by_ bz bt bo bl bc Wd w0 a0) (lq.setIfInBounds 0 true) (aq.put (some 27) v) W2 from ⟨hJ2.put hS 0 27 rfl (by omega) (W' := W2) hW hT v hv, hs⟩
      clear ho hall hl hQ
      generalize (JqrA A ra n ca bx by_ bz bt bo bl bc Wd w0 a0) (lq.setIfInBounds 0 true) = K at hK ⊢
      clear hJ2 hS z1 z2 z3 z4 z6 z7
      go_simp
      exact hK _ _ z5 (fun _ _ h => h) rfl (hq _)
    | 1, ho =>
      cases ho
      refine wpOp_of rfl rfl ?_
      have f0 : (aq.tmps.getD 27 undef) = .slice (some ⟨A, ra, none⟩) n ca := z6 0 27 (hall { on := 0, ground := Ground.data } (by simp) rfl) rfl
      have hq : ∀ v : Value, SqrA A ra n ca bx by_ bz bt bo bl bc Wd (lq.setIfInBounds 1 true) (aq.put (some 28) v) W := fun v => ⟨by rw [getD_set_neq (i := 1) (j := 5) (by decide)]; exact hs.1, by rw [getD_set_neq (i := 1) (j := 5) (by decide), getD_set_neq (i := 1) (j := 6) (by decide)]; exact hs.2.1, by rw [getD_set_neq (i := 1) (j := 6) (by decide)]; exact hs.2.2.1, by rw [getD_set_neq (i := 1) (j := 5) (by decide), getD_set_neq (i := 1) (j := 6) (by decide)]; exact hs.2.2.2⟩
      clear hWe
      have hnI : (0 : Int) < n := by omega
      have hK := fun (v : Value) (W2 : World) hW hT hv (hs : SqrA A ra n ca bx by_ bz bt bo bl bc Wd (lq.setIfInBounds 1 true) (aq.put (some 28) v) W2) => show (JqrA A ra n ca bx by_ bz bt bo bl bc Wd w0 a0) (lq.setIfInBounds 1 true) (aq.put (some 28) v) W2 from ⟨hJ2.put hS 1 28 rfl (by omega) (W' := W2) hW hT v hv, hs⟩
      clear ho hall hl hQ
      generalize (JqrA A ra n ca bx by_ bz bt bo bl bc Wd w0 a0) (lq.setIfInBounds 1 true) = K at hK ⊢
      clear hJ2 hS z1 z2 z3 z4 z6 z7
      go_simp
      exact hK _ _ z5 (fun _ _ h => h) rfl (hq _)
    | 2, ho =>
      cases ho
      refine wpOp_of rfl rfl ?_
      have f1 : (aq.tmps.getD 28 undef) = .pointer (some ⟨A, ra, none⟩) := z6 1 28 (hall { on := 1, ground := Ground.data } (by simp) rfl) rfl
      have hq : ∀ v : Value, SqrA A ra n ca bx by_ bz bt bo bl bc Wd (lq.setIfInBounds 2 true) (aq.put (some 29) v) W := fun v => ⟨by rw [getD_set_neq (i := 2) (j := 5) (by decide)]; exact hs.1, by rw [getD_set_neq (i := 2) (j := 5) (by decide), getD_set_neq (i := 2) (j := 6) (by decide)]; exact hs.2.1, by rw [getD_set_neq (i := 2) (j := 6) (by decide)]; exact hs.2.2.1, by rw [getD_set_neq (i := 2) (j := 5) (by decide), getD_set_neq (i := 2) (j := 6) (by decide)]; exact hs.2.2.2⟩
      clear hWe
      have hK := fun (v : Value) (W2 : World) hW hT hv (hs : SqrA A ra n ca bx by_ bz bt bo bl bc Wd (lq.setIfInBounds 2 true) (aq.put (some 29) v) W2) => show (JqrA A ra n ca bx by_ bz bt bo bl bc Wd w0 a0) (lq.setIfInBounds 2 true) (aq.put (some 29) v) W2 from ⟨hJ2.put hS 2 29 rfl (by omega) (W' := W2) hW hT v hv, hs⟩
      clear ho hall hl hQ
      generalize (JqrA A ra n ca bx by_ bz bt bo bl bc Wd w0 a0) (lq.setIfInBounds 2 true) = K at hK ⊢
      clear hJ2 hS z1 z2 z3 z4 z6 z7
      go_simp
      exact hK _ _ z5 (fun _ _ h => h) rfl (hq _)
    | 3, ho =>
      cases ho
      refine wpOp_of rfl rfl ?_
      have hq : ∀ v : Value, SqrA A ra n ca bx by_ bz bt bo bl bc Wd (lq.setIfInBounds 3 true) (aq.put (some 30) v) W := fun v => ⟨by rw [getD_set_neq (i := 3) (j := 5) (by decide)]; exact hs.1, by rw [getD_set_neq (i := 3) (j := 5) (by decide), getD_set_neq (i := 3) (j := 6) (by decide)]; exact hs.2.1, by rw [getD_set_neq (i := 3) (j := 6) (by decide)]; exact hs.2.2.1, by rw [getD_set_neq (i := 3) (j := 5) (by decide), getD_set_neq (i := 3) (j := 6) (by decide)]; exact hs.2.2.2⟩
      clear hWe
      have hK := fun (v : Value) (W2 : World) hW hT hv (hs : SqrA A ra n ca bx by_ bz bt bo bl bc Wd (lq.setIfInBounds 3 true) (aq.put (some 30) v) W2) => show (JqrA A ra n ca bx by_ bz bt bo bl bc Wd w0 a0) (lq.setIfInBounds 3 true) (aq.put (some 30) v) W2 from ⟨hJ2.put hS 3 30 rfl (by omega) (W' := W2) hW hT v hv, hs⟩
      clear ho hall hl hQ
      generalize (JqrA A ra n ca bx by_ bz bt bo bl bc Wd w0 a0) (lq.setIfInBounds 3 true) = K at hK ⊢
      clear hJ2 hS z1 z2 z3 z4 z6 z7
      go_simp
      exact hK _ _ z5 (fun _ _ h => h) rfl (hq _)
    | 4, ho =>
      cases ho
      refine wpOp_of rfl rfl ?_
      have f3 : (aq.tmps.getD 30 undef) = .slice (some ⟨A, ra, none⟩) n ca := z6 3 30 (hall { on := 3, ground := Ground.data } (by simp) rfl) rfl
      have hq : ∀ v : Value, SqrA A ra n ca bx by_ bz bt bo bl bc Wd (lq.setIfInBounds 4 true) (aq.put (some 31) v) W := fun v => ⟨by rw [getD_set_neq (i := 4) (j := 5) (by decide)]; exact hs.1, by rw [getD_set_neq (i := 4) (j := 5) (by decide), getD_set_neq (i := 4) (j := 6) (by decide)]; exact hs.2.1, by rw [getD_set_neq (i := 4) (j := 6) (by decide)]; exact hs.2.2.1, by rw [getD_set_neq (i := 4) (j := 5) (by decide), getD_set_neq (i := 4) (j := 6) (by decide)]; exact hs.2.2.2⟩
      clear hWe
      have hK := fun (v : Value) (W2 : World) hW hT hv (hs : SqrA A ra n ca bx by_ bz bt bo bl bc Wd (lq.setIfInBounds 4 true) (aq.put (some 31) v) W2) => show (JqrA A ra n ca bx by_ bz bt bo bl bc Wd w0 a0) (lq.setIfInBounds 4 true) (aq.put (some 31) v) W2 from ⟨hJ2.put hS 4 31 rfl (by omega) (W' := W2) hW hT v hv, hs⟩
      clear ho hall hl hQ
      generalize (JqrA A ra n ca bx by_ bz bt bo bl bc Wd w0 a0) (lq.setIfInBounds 4 true) = K at hK ⊢
      clear hJ2 hS z1 z2 z3 z4 z6 z7
      have hnI : (1 : Int) ≤ n := by omega
      go_simp
      by_cases e1 : ca = 1
      · rw [if_pos e1]
        exact hK _ _ z5 (fun _ _ h => h) ⟨_, rfl, fun h => absurd h (by omega)⟩ (hq _)
      · rw [if_neg e1]
        exact hK _ _ z5 (fun _ _ h => h) ⟨_, rfl, fun _ => rfl⟩ (hq _)
    | 5, ho =>
      cases ho
      refine wpOp_of rfl rfl ?_
      have h5 := getD_tf hl
      have eW : W = Wd := hs.1 h5
      have hq : ∀ v : Value, SqrA A ra n ca bx by_ bz bt bo bl bc Wd (lq.setIfInBounds 5 true) (aq.put (some 10) v) (W.alloc (.cells #[.int .i64 0, .int .i64 0, .int .i64 0, .bool false, .slice none 0 0] 95)) := fun v => ⟨(fun h => by rw [getD_set_eq hl] at h; cases h), fun _ _ => by rw [eW], (fun h => by rw [getD_set_neq (i := 5) (j := 6) (by decide)] at h; rw [hs.2.2.2 h] at h5; cases h5), fun _ => getD_set_eq hl⟩
      have hp : Hid (W.heap.size = Wd.heap.size) := congrArg (fun w : World => w.heap.size) eW
      clear eW hWe hs
      have hK := fun (v : Value) (W2 : World) hW hT hv (hs : SqrA A ra n ca bx by_ bz bt bo bl bc Wd (lq.setIfInBounds 5 true) (aq.put (some 10) v) W2) => show (JqrA A ra n ca bx by_ bz bt bo bl bc Wd w0 a0) (lq.setIfInBounds 5 true) (aq.put (some 10) v) W2 from ⟨hJ2.put hS 5 10 rfl (by omega) (W' := W2) hW hT v hv, hs⟩
      clear ho hall hl hQ
      generalize (JqrA A ra n ca bx by_ bz bt bo bl bc Wd w0 a0) (lq.setIfInBounds 5 true) = K at hK ⊢
      clear hJ2 hS z1 z2 z3 z4 z6 z7
      go_simp
      exact hK _ _ (z5.alloc z5.size _) (fun _ _ h => h.same) (by show Value.pointer _ = _; rw [hp.out]) (hq _)
    | 6, ho =>
      cases ho
      refine wpOp_of rfl rfl ?_
      have f5 : (aq.tmps.getD 10 undef) = .pointer (some ⟨Wd.heap.size, 0, none⟩) := z6 5 10 (hall { on := 5, ground := Ground.data } (by simp) rfl) rfl
      have f2 : (aq.tmps.getD 29 undef) = .agg #[.int .i64 bx, .int .i64 by_, .int .i64 bz, .bool bt, .slice bo bl bc] := z6 2 29 (hall { on := 2, ground := Ground.data } (by simp) rfl) rfl
      have l5 := hall { on := 5, ground := Ground.data } (by simp) rfl
      have h6 := getD_tf hl
      have eW : W = (Wd.alloc (.cells #[.int .i64 0, .int .i64 0, .int .i64 0, .bool false, .slice none 0 0] 95)) := hs.2.1 l5 h6
      have xR : Blk W Wd.heap.size [.int .i64 0, .int .i64 0, .int .i64 0, .bool false, .slice none 0 0] := by rw [eW]; exact Blk.new Wd [.int .i64 0, .int .i64 0, .int .i64 0, .bool false, .slice none 0 0] 95 rfl
      have y0 := xR.c 0 rfl; have y1 := xR.c 1 rfl; have y2 := xR.c 2 rfl; have y3 := xR.c 3 rfl; have y4 := xR.c 4 rfl; have g0z := xR.f 0 rfl; have g1z := xR.f 1 rfl; have g2z := xR.f 2 rfl; have g3z := xR.f 3 rfl; have g4z := xR.f 4 rfl
      have hq : SqrA A ra n ca bx by_ bz bt bo bl bc Wd (lq.setIfInBounds 6 true) aq (((((W.setCell ⟨Wd.heap.size, 0, none⟩ (.int .i64 bx)).setCell ⟨Wd.heap.size, 1, none⟩ (.int .i64 by_)).setCell ⟨Wd.heap.size, 2, none⟩ (.int .i64 bz)).setCell ⟨Wd.heap.size, 3, none⟩ (.bool bt)).setCell ⟨Wd.heap.size, 4, none⟩ (.slice bo bl bc)) := ⟨(fun h => by rw [getD_set_neq (i := 6) (j := 5) (by decide), l5] at h; cases h), (fun _ h => by rw [getD_set_eq hl] at h; cases h), fun _ => by rw [eW], fun _ => by rw [getD_set_neq (i := 6) (j := 5) (by decide)]; exact l5⟩
      clear eW hWe hs
      have hK := fun (W2 : World) hW hT hv (hs : SqrA A ra n ca bx by_ bz bt bo bl bc Wd (lq.setIfInBounds 6 true) aq W2) => show (JqrA A ra n ca bx by_ bz bt bo bl bc Wd w0 a0) (lq.setIfInBounds 6 true) aq W2 from ⟨hJ2.world 6 rfl (W' := W2) hW hT hv, hs⟩
      clear ho hall hl hQ
      generalize (JqrA A ra n ca bx by_ bz bt bo bl bc Wd w0 a0) (lq.setIfInBounds 6 true) = K at hK ⊢
      clear hJ2 hS z1 z2 z3 z4 z6 z7
      go_simp
      exact hK _ (((((z5.setCell (p := ⟨Wd.heap.size, 0, none⟩) hWd _).setCell (p := ⟨Wd.heap.size, 1, none⟩) hWd _).setCell (p := ⟨Wd.heap.size, 2, none⟩) hWd _).setCell (p := ⟨Wd.heap.size, 3, none⟩) hWd _).setCell (p := ⟨Wd.heap.size, 4, none⟩) hWd _) (fun _ _ h => h.same) trivial hq
    | 7, ho =>
      cases ho
      refine wpOp_of rfl rfl ?_
      have f4 : RestV A ra n ca (aq.tmps.getD 31 undef) := z6 4 31 (hall { on := 4, ground := Ground.data } (by simp) rfl) rfl
      have hq : ∀ v : Value, SqrA A ra n ca bx by_ bz bt bo bl bc Wd (lq.setIfInBounds 7 true) (aq.put (some 11) v) W := fun v => ⟨by rw [getD_set_neq (i := 7) (j := 5) (by decide)]; exact hs.1, by rw [getD_set_neq (i := 7) (j := 5) (by decide), getD_set_neq (i := 7) (j := 6) (by decide)]; exact hs.2.1, by rw [getD_set_neq (i := 7) (j := 6) (by decide)]; exact hs.2.2.1, by rw [getD_set_neq (i := 7) (j := 5) (by decide), getD_set_neq (i := 7) (j := 6) (by decide)]; exact hs.2.2.2⟩
      clear hWe
      rw [Array.getD_eq_getD_getElem?] at f4
      have hK := fun (v : Value) (W2 : World) hW hT hv (hs : SqrA A ra n ca bx by_ bz bt bo bl bc Wd (lq.setIfInBounds 7 true) (aq.put (some 11) v) W2) => show (JqrA A ra n ca bx by_ bz bt bo bl bc Wd w0 a0) (lq.setIfInBounds 7 true) (aq.put (some 11) v) W2 from ⟨hJ2.put hS 7 11 rfl (by omega) (W' := W2) hW hT v hv, hs⟩
      clear ho hall hl hQ
      generalize (JqrA A ra n ca bx by_ bz bt bo bl bc Wd w0 a0) (lq.setIfInBounds 7 true) = K at hK ⊢
      clear hJ2 hS z1 z2 z3 z4 z6 z7
      go_simp
      exact hK _ _ z5 (fun _ _ h => h) f4 (hq _)
    | iq + 8, ho => simp at ho
  · intro lq aq W ⟨hJ, hs⟩ hr
    obtain ⟨z1, z2, z3, z4, z5, z6, z7⟩ := hJ
    have hl := listed_of hr [5, 3, 4, 0, 1, 2, 6, 7] [] (by simp) (by kernel_rfl) (by rw [z1]; decide)
    exact hQ aq W z2 z3 (fun e he => z4 e (by simpa using he)) (z6 5 10 (hl 5 (by simp)) rfl) (z6 7 11 (hl 7 (by simp)) rfl) z5 (hs.2.2.1 (hl 6 (by simp)))
def VqrB (F g : Nat) (bx by_ x y : Int) (_B : Nat) : Nat → Value → World → Prop
  | 0, v, _ => v = .pointer (some ⟨F, 0, none⟩)
  | 1, v, _ => v = .int .i64 bx
  | 2, v, _ => v = .pointer (some ⟨F, 1, none⟩)
  | 3, v, _ => v = .int .i64 by_
  | 4, v, _ => v = Sp bx by_
  | 5, v, _ => v = .pointer (some ⟨g, 0, none⟩)
  | 6, v, _ => v = .pointer (some ⟨g, 0, none⟩)
  | 7, v, _ => v = .pointer (some ⟨g, 0, none⟩)
  | 8, v, _ => v = Sp x y
  | 9, v, _ => v = .bool true
  | 10, v, _ => v = .bool true
  | 11, v, _ => v = undef
  | 12, v, _ => v = undef
  | 13, v, _ => v = undef
  | 14, v, _ => v = undef
  | 15, v, _ => v = undef
  | 16, v, _ => v = undef
  | 17, v, _ => v = undef
  | 18, v, _ => v = .bool true
  | _, _, _ => True
theorem VqrB.mono {F g : Nat} {bx by_ x y : Int} {B j : Nat} {v : Value} {W W2 : World} (_hB : Below W.heap.size W W2) (h : VqrB F g bx by_ x y B j v W) : VqrB F g bx by_ x y B j v W2 := by
  unfold VqrB at *
  split <;> simp only at h <;> first | exact h | trivial
set_option maxRecDepth 100000 in
set_option maxHeartbeats 4000000 in
theorem qrB {Q : Exit → Act → World → Prop} {F g : Nat} {bx by_ x y : Int}  {w0 : World} {a0 : Act} {idq : Nat} {t0 t1 t2 t3 t4 t5 t6 t7 t8 t9 t10 t11 t12 t13 t14 t15 t16 t17 t18 : TypeId} {q0 q1 q2 q3 q4 q5 q6 q7 q8 q9 q10 q11 q12 q13 q14 q15 q16 q17 q18 : String}
    (hE : ∀ w, (Op.equalIn 10000 42 (.agg #[.int .i64 bx, .int .i64 by_]) (.agg #[.int .i64 x, .int .i64 y])).run Try.prog w = .ok false w) (h0 : a0.tmps[0]? = some (.pointer (some ⟨g, 0, none⟩))) (h10 : a0.tmps[10]? = some (.pointer (some ⟨F, 0, none⟩))) (k0 : w0.cell? ⟨F, 0, none⟩ = some (.int .i64 bx)) (l0 : (⟨F, 0, none⟩ : Addr).block < w0.heap.size) (k1 : w0.cell? ⟨F, 1, none⟩ = some (.int .i64 by_)) (l1 : (⟨F, 1, none⟩ : Addr).block < w0.heap.size) (k2 : w0.cell? ⟨g, 0, none⟩ = some (.int .i64 x)) (l2 : (⟨g, 0, none⟩ : Addr).block < w0.heap.size) (k3 : w0.cell? ⟨g, 1, none⟩ = some (.int .i64 y)) (l3 : (⟨g, 1, none⟩ : Addr).block < w0.heap.size) (hz : a0.tmps.size = 98)
    (hQ : ∀ aq W, aq.tmps.size = a0.tmps.size → aq.defers = a0.defers → (∀ e, e ∉ ([32, 33, 34, 35, 36, 37, 38, 39, 40, 41, 42, 43, 44, 45, 46, 47, 48, 49, 50] : List Nat) → aq.tmps[e]? = a0.tmps[e]?) → VqrB F g bx by_ x y w0.heap.size 18 (aq.tmps.getD 50 undef) W → Below w0.heap.size w0 W → Q .normal aq W) :
    (Code.region idq #[{ dst := some 32, op := Op.fieldAddr 95 (Operand.tmp 10) 0, type := t0, pos := q0, after := #[], guard := none },
    { dst := some 33, op := Op.load 2 (Operand.tmp 32), type := t1, pos := q1, after := #[{ on := 0, ground := Ground.data }], guard := none },
    { dst := some 34, op := Op.fieldAddr 95 (Operand.tmp 10) 1, type := t2, pos := q2, after := #[], guard := none },
    { dst := some 35, op := Op.load 2 (Operand.tmp 34), type := t3, pos := q3, after := #[{ on := 2, ground := Ground.data }], guard := none },
    { dst := some 36, op := Op.build 42 #[(0, Operand.tmp 33), (1, Operand.tmp 35)], type := t4, pos := q4, after := #[{ on := 1, ground := Ground.data }, { on := 3, ground := Ground.data }], guard := none },
    { dst := some 37, op := Op.move (Operand.tmp 0), type := t5, pos := q5, after := #[], guard := none },
    { dst := some 38, op := Op.nilCheck (Operand.tmp 37), type := t6, pos := q6, after := #[{ on := 5, ground := Ground.data }], guard := none },
    { dst := some 39, op := Op.fieldAddr 69 (Operand.tmp 38) 0, type := t7, pos := q7, after := #[{ on := 6, ground := Ground.data }], guard := none },
    { dst := some 40, op := Op.load 42 (Operand.tmp 39), type := t8, pos := q8, after := #[{ on := 7, ground := Ground.data }], guard := none },
    { dst := some 41, op := Op.binOp BinOp.neq 42 (Operand.tmp 36) (Operand.tmp 40) 42, type := t9, pos := q9, after := #[{ on := 4, ground := Ground.data }, { on := 8, ground := Ground.data }], guard := none },
    { dst := some 42, op := Op.move (Operand.tmp 41), type := t10, pos := q10, after := #[{ on := 9, ground := Ground.data }], guard := none },
    { dst := some 43, op := Op.fieldAddr 95 (Operand.tmp 10) 2, type := t11, pos := q11, after := #[{ on := 10, ground := Ground.guard }], guard := some (10, false) },
    { dst := some 44, op := Op.load 2 (Operand.tmp 43), type := t12, pos := q12, after := #[{ on := 11, ground := Ground.data }, { on := 10, ground := Ground.guard }], guard := some (10, false) },
    { dst := some 45, op := Op.move (Operand.tmp 0), type := t13, pos := q13, after := #[{ on := 10, ground := Ground.guard }], guard := some (10, false) },
    { dst := some 46, op := Op.nilCheck (Operand.tmp 45), type := t14, pos := q14, after := #[{ on := 13, ground := Ground.data }, { on := 10, ground := Ground.guard }], guard := some (10, false) },
    { dst := some 47, op := Op.fieldAddr 69 (Operand.tmp 46) 1, type := t15, pos := q15, after := #[{ on := 14, ground := Ground.data }, { on := 10, ground := Ground.guard }], guard := some (10, false) },
    { dst := some 48, op := Op.load 2 (Operand.tmp 47), type := t16, pos := q16, after := #[{ on := 15, ground := Ground.data }, { on := 10, ground := Ground.guard }], guard := some (10, false) },
    { dst := some 49, op := Op.binOp BinOp.neq 2 (Operand.tmp 44) (Operand.tmp 48) 2, type := t17, pos := q17, after := #[{ on := 12, ground := Ground.data }, { on := 16, ground := Ground.data }, { on := 10, ground := Ground.guard }], guard := some (10, false) },
    { dst := some 50, op := Op.pick (Operand.tmp 42) (Operand.const (Value.bool true)) (Operand.tmp 49), type := t18, pos := q18, after := #[{ on := 10, ground := Ground.data }, { on := 17, ground := Ground.data }], guard := none }] true).wp Try.prog Q a0 w0 := by
  have hS : distS [some 32, some 33, some 34, some 35, some 36, some 37, some 38, some 39, some 40, some 41, some 42, some 43, some 44, some 45, some 46, some 47, some 48, some 49, some 50] = true := rfl
  refine wp_region_q (by kernel_rfl) w0.heap.size [some 32, some 33, some 34, some 35, some 36, some 37, some 38, some 39, some 40, some 41, some 42, some 43, some 44, some 45, some 46, some 47, some 48, some 49, some 50] (VqrB F g bx by_ x y w0.heap.size) rfl ?_ ?_
  · intro Q lq aq W iq oq hJ hl ho hall
    have hJ2 := hJ
    obtain ⟨z1, z2, z3, z4, z5, z6, z7⟩ := hJ
    have g0 : aq.tmps.getD 0 undef = .pointer (some ⟨g, 0, none⟩) := by rw [Array.getD_eq_getD_getElem?, z4 0 (by decide), h0]; rfl
    have g10 : aq.tmps.getD 10 undef = .pointer (some ⟨F, 0, none⟩) := by rw [Array.getD_eq_getD_getElem?, z4 10 (by decide), h10]; rfl
    have c0 : W.cell? ⟨F, 0, none⟩ = some (.int .i64 bx) := (z5.cell l0).trans k0
    have c1 : W.cell? ⟨F, 1, none⟩ = some (.int .i64 by_) := (z5.cell l1).trans k1
    have c2 : W.cell? ⟨g, 0, none⟩ = some (.int .i64 x) := (z5.cell l2).trans k2
    have c3 : W.cell? ⟨g, 1, none⟩ = some (.int .i64 y) := (z5.cell l3).trans k3
    match iq, ho with
    | 0, ho =>
      cases ho
      refine wpOp_of rfl rfl ?_
      have hK := fun (v : Value) (W2 : World) hW hT hv => hJ2.put hS 0 32 rfl (by omega) (W' := W2) hW hT v hv
      clear ho hall hl hQ
      generalize InvQ _ _ _ w0 a0 (lq.setIfInBounds 0 true) = K at hK ⊢
      clear hJ2 hS z1 z2 z3 z4 z6 z7
      go_simp
      exact hK _ _ z5 (fun _ _ h => h) rfl
    | 1, ho =>
      cases ho
      refine wpOp_of rfl rfl ?_
      have f0 : (aq.tmps.getD 32 undef) = .pointer (some ⟨F, 0, none⟩) := z6 0 32 (hall { on := 0, ground := Ground.data } (by simp) rfl) rfl
      have hK := fun (v : Value) (W2 : World) hW hT hv => hJ2.put hS 1 33 rfl (by omega) (W' := W2) hW hT v hv
      clear ho hall hl hQ
      generalize InvQ _ _ _ w0 a0 (lq.setIfInBounds 1 true) = K at hK ⊢
      clear hJ2 hS z1 z2 z3 z4 z6 z7
      go_simp
      exact hK _ _ z5 (fun _ _ h => h) rfl
    | 2, ho =>
      cases ho
      refine wpOp_of rfl rfl ?_
      have hK := fun (v : Value) (W2 : World) hW hT hv => hJ2.put hS 2 34 rfl (by omega) (W' := W2) hW hT v hv
      clear ho hall hl hQ
      generalize InvQ _ _ _ w0 a0 (lq.setIfInBounds 2 true) = K at hK ⊢
      clear hJ2 hS z1 z2 z3 z4 z6 z7
      go_simp
      exact hK _ _ z5 (fun _ _ h => h) rfl
    | 3, ho =>
      cases ho
      refine wpOp_of rfl rfl ?_
      have f2 : (aq.tmps.getD 34 undef) = .pointer (some ⟨F, 1, none⟩) := z6 2 34 (hall { on := 2, ground := Ground.data } (by simp) rfl) rfl
      have hK := fun (v : Value) (W2 : World) hW hT hv => hJ2.put hS 3 35 rfl (by omega) (W' := W2) hW hT v hv
      clear ho hall hl hQ
      generalize InvQ _ _ _ w0 a0 (lq.setIfInBounds 3 true) = K at hK ⊢
      clear hJ2 hS z1 z2 z3 z4 z6 z7
      go_simp
      exact hK _ _ z5 (fun _ _ h => h) rfl
    | 4, ho =>
      cases ho
      refine wpOp_of rfl rfl ?_
      have f1 : (aq.tmps.getD 33 undef) = .int .i64 bx := z6 1 33 (hall { on := 1, ground := Ground.data } (by simp) rfl) rfl
      have f3 : (aq.tmps.getD 35 undef) = .int .i64 by_ := z6 3 35 (hall { on := 3, ground := Ground.data } (by simp) rfl) rfl
      rw [Array.getD_eq_getD_getElem?] at f1 f3
      have hK := fun (v : Value) (W2 : World) hW hT hv => hJ2.put hS 4 36 rfl (by omega) (W' := W2) hW hT v hv
      clear ho hall hl hQ
      generalize InvQ _ _ _ w0 a0 (lq.setIfInBounds 4 true) = K at hK ⊢
      clear hJ2 hS z1 z2 z3 z4 z6 z7
      go_simp
      exact hK _ _ z5 (fun _ _ h => h) rfl
    | 5, ho =>
      cases ho
      refine wpOp_of rfl rfl ?_
      have hK := fun (v : Value) (W2 : World) hW hT hv => hJ2.put hS 5 37 rfl (by omega) (W' := W2) hW hT v hv
      clear ho hall hl hQ
      generalize InvQ _ _ _ w0 a0 (lq.setIfInBounds 5 true) = K at hK ⊢
      clear hJ2 hS z1 z2 z3 z4 z6 z7
      go_simp
      exact hK _ _ z5 (fun _ _ h => h) rfl
    | 6, ho =>
      cases ho
      refine wpOp_of rfl rfl ?_
      have f5 : (aq.tmps.getD 37 undef) = .pointer (some ⟨g, 0, none⟩) := z6 5 37 (hall { on := 5, ground := Ground.data } (by simp) rfl) rfl
      have hK := fun (v : Value) (W2 : World) hW hT hv => hJ2.put hS 6 38 rfl (by omega) (W' := W2) hW hT v hv
      clear ho hall hl hQ
      generalize InvQ _ _ _ w0 a0 (lq.setIfInBounds 6 true) = K at hK ⊢
      clear hJ2 hS z1 z2 z3 z4 z6 z7
      go_simp
      exact hK _ _ z5 (fun _ _ h => h) rfl
    | 7, ho =>
      cases ho
      refine wpOp_of rfl rfl ?_
      have f6 : (aq.tmps.getD 38 undef) = .pointer (some ⟨g, 0, none⟩) := z6 6 38 (hall { on := 6, ground := Ground.data } (by simp) rfl) rfl
      have hK := fun (v : Value) (W2 : World) hW hT hv => hJ2.put hS 7 39 rfl (by omega) (W' := W2) hW hT v hv
      clear ho hall hl hQ
      generalize InvQ _ _ _ w0 a0 (lq.setIfInBounds 7 true) = K at hK ⊢
      clear hJ2 hS z1 z2 z3 z4 z6 z7
      go_simp
      exact hK _ _ z5 (fun _ _ h => h) rfl
    | 8, ho =>
      cases ho
      refine wpOp_of rfl rfl ?_
      have f7 : (aq.tmps.getD 39 undef) = .pointer (some ⟨g, 0, none⟩) := z6 7 39 (hall { on := 7, ground := Ground.data } (by simp) rfl) rfl
      have hK := fun (v : Value) (W2 : World) hW hT hv => hJ2.put hS 8 40 rfl (by omega) (W' := W2) hW hT v hv
      clear ho hall hl hQ
      generalize InvQ _ _ _ w0 a0 (lq.setIfInBounds 8 true) = K at hK ⊢
      clear hJ2 hS z1 z2 z3 z4 z6 z7
      go_simp
      exact hK _ _ z5 (fun _ _ h => h) rfl
    | 9, ho =>
      cases ho
      refine wpOp_of rfl rfl ?_
      have f4 : (aq.tmps.getD 36 undef) = Sp bx by_ := z6 4 36 (hall { on := 4, ground := Ground.data } (by simp) rfl) rfl
      have f8 : (aq.tmps.getD 40 undef) = Sp x y := z6 8 40 (hall { on := 8, ground := Ground.data } (by simp) rfl) rfl
      have hK := fun (v : Value) (W2 : World) hW hT hv => hJ2.put hS 9 41 rfl (by omega) (W' := W2) hW hT v hv
      clear ho hall hl hQ
      generalize InvQ _ _ _ w0 a0 (lq.setIfInBounds 9 true) = K at hK ⊢
      clear hJ2 hS z1 z2 z3 z4 z6 z7
      go_simp
      exact hK _ _ z5 (fun _ _ h => h) rfl
    | 10, ho =>
      cases ho
      refine wpOp_of rfl rfl ?_
      have f9 : (aq.tmps.getD 41 undef) = .bool true := z6 9 41 (hall { on := 9, ground := Ground.data } (by simp) rfl) rfl
      have hK := fun (v : Value) (W2 : World) hW hT hv => hJ2.put hS 10 42 rfl (by omega) (W' := W2) hW hT v hv
      clear ho hall hl hQ
      generalize InvQ _ _ _ w0 a0 (lq.setIfInBounds 10 true) = K at hK ⊢
      clear hJ2 hS z1 z2 z3 z4 z6 z7
      go_simp
      exact hK _ _ z5 (fun _ _ h => h) rfl
    | 11, ho =>
      cases ho
      have fg : aq.tmps.getD 42 undef = .bool true := z6 10 42 (hall { on := 10, ground := Ground.guard } (by simp) rfl) rfl
      refine wpOp_off rfl rfl rfl rfl fg ?_
      exact hJ2.put hS 11 43 rfl (by omega) z5 (fun _ _ h => h) undef rfl
    | 12, ho =>
      cases ho
      have fg : aq.tmps.getD 42 undef = .bool true := z6 10 42 (hall { on := 10, ground := Ground.guard } (by simp) rfl) rfl
      refine wpOp_off rfl rfl rfl rfl fg ?_
      exact hJ2.put hS 12 44 rfl (by omega) z5 (fun _ _ h => h) undef rfl
    | 13, ho =>
      cases ho
      have fg : aq.tmps.getD 42 undef = .bool true := z6 10 42 (hall { on := 10, ground := Ground.guard } (by simp) rfl) rfl
      refine wpOp_off rfl rfl rfl rfl fg ?_
      exact hJ2.put hS 13 45 rfl (by omega) z5 (fun _ _ h => h) undef rfl
    | 14, ho =>
      cases ho
      have fg : aq.tmps.getD 42 undef = .bool true := z6 10 42 (hall { on := 10, ground := Ground.guard } (by simp) rfl) rfl
      refine wpOp_off rfl rfl rfl rfl fg ?_
      exact hJ2.put hS 14 46 rfl (by omega) z5 (fun _ _ h => h) undef rfl
    | 15, ho =>
      cases ho
      have fg : aq.tmps.getD 42 undef = .bool true := z6 10 42 (hall { on := 10, ground := Ground.guard } (by simp) rfl) rfl
      refine wpOp_off rfl rfl rfl rfl fg ?_
      exact hJ2.put hS 15 47 rfl (by omega) z5 (fun _ _ h => h) undef rfl
    | 16, ho =>
      cases ho
      have fg : aq.tmps.getD 42 undef = .bool true := z6 10 42 (hall { on := 10, ground := Ground.guard } (by simp) rfl) rfl
      refine wpOp_off rfl rfl rfl rfl fg ?_
      exact hJ2.put hS 16 48 rfl (by omega) z5 (fun _ _ h => h) undef rfl
    | 17, ho =>
      cases ho
      have fg : aq.tmps.getD 42 undef = .bool true := z6 10 42 (hall { on := 10, ground := Ground.guard } (by simp) rfl) rfl
      refine wpOp_off rfl rfl rfl rfl fg ?_
      exact hJ2.put hS 17 49 rfl (by omega) z5 (fun _ _ h => h) undef rfl
    | 18, ho =>
      cases ho
      refine wpOp_of rfl rfl ?_
      have f10 : (aq.tmps.getD 42 undef) = .bool true := z6 10 42 (hall { on := 10, ground := Ground.data } (by simp) rfl) rfl
      have f17 : (aq.tmps.getD 49 undef) = undef := z6 17 49 (hall { on := 17, ground := Ground.data } (by simp) rfl) rfl
      have hK := fun (v : Value) (W2 : World) hW hT hv => hJ2.put hS 18 50 rfl (by omega) (W' := W2) hW hT v hv
      clear ho hall hl hQ
      generalize InvQ _ _ _ w0 a0 (lq.setIfInBounds 18 true) = K at hK ⊢
      clear hJ2 hS z1 z2 z3 z4 z6 z7
      go_simp
      exact hK _ _ z5 (fun _ _ h => h) rfl
    | iq + 19, ho => simp at ho
  · intro lq aq W hJ hr
    obtain ⟨z1, z2, z3, z4, z5, z6, z7⟩ := hJ
    have hl := listed_of hr [0, 1, 2, 3, 4, 5, 6, 7, 8, 9, 10, 11, 12, 13, 14, 15, 16, 17, 18] [] (by simp) (by kernel_rfl) (by rw [z1]; decide)
    exact hQ aq W z2 z3 (fun e he => z4 e (by simpa using he)) (z6 18 50 (hl 18 (by simp)) rfl) z5
def VqrC (F g : Nat) (bx by_ bz x y s : Int) (_B : Nat) : Nat → Value → World → Prop
  | 0, v, _ => v = .pointer (some ⟨F, 0, none⟩)
  | 1, v, _ => v = .int .i64 bx
  | 2, v, _ => v = .pointer (some ⟨F, 1, none⟩)
  | 3, v, _ => v = .int .i64 by_
  | 4, v, _ => v = Sp bx by_
  | 5, v, _ => v = .pointer (some ⟨g, 0, none⟩)
  | 6, v, _ => v = .pointer (some ⟨g, 0, none⟩)
  | 7, v, _ => v = .pointer (some ⟨g, 0, none⟩)
  | 8, v, _ => v = Sp x y
  | 9, v, _ => v = .bool false
  | 10, v, _ => v = .bool false
  | 11, v, _ => v = .pointer (some ⟨F, 2, none⟩)
  | 12, v, _ => v = .int .i64 bz
  | 13, v, _ => v = .pointer (some ⟨g, 0, none⟩)
  | 14, v, _ => v = .pointer (some ⟨g, 0, none⟩)
  | 15, v, _ => v = .pointer (some ⟨g, 2, none⟩)
  | 16, v, _ => v = .int .i64 s
  | 17, v, _ => v = .bool (decide (¬ (bz = s)))
  | 18, v, _ => v = .bool (decide (¬ (bz = s)))
  | _, _, _ => True
theorem VqrC.mono {F g : Nat} {bx by_ bz x y s : Int} {B j : Nat} {v : Value} {W W2 : World} (_hB : Below W.heap.size W W2) (h : VqrC F g bx by_ bz x y s B j v W) : VqrC F g bx by_ bz x y s B j v W2 := by
  unfold VqrC at *
  split <;> simp only at h <;> first | exact h | trivial
set_option maxRecDepth 100000 in
set_option maxHeartbeats 4000000 in
theorem qrC {Q : Exit → Act → World → Prop} {F g : Nat} {bx by_ bz x y s : Int}  {w0 : World} {a0 : Act} {idq : Nat} {t0 t1 t2 t3 t4 t5 t6 t7 t8 t9 t10 t11 t12 t13 t14 t15 t16 t17 t18 : TypeId} {q0 q1 q2 q3 q4 q5 q6 q7 q8 q9 q10 q11 q12 q13 q14 q15 q16 q17 q18 : String}
    (hE : ∀ w, (Op.equalIn 10000 42 (.agg #[.int .i64 bx, .int .i64 by_]) (.agg #[.int .i64 x, .int .i64 y])).run Try.prog w = .ok true w) (h0 : a0.tmps[0]? = some (.pointer (some ⟨g, 0, none⟩))) (h10 : a0.tmps[10]? = some (.pointer (some ⟨F, 0, none⟩))) (k0 : w0.cell? ⟨F, 0, none⟩ = some (.int .i64 bx)) (l0 : (⟨F, 0, none⟩ : Addr).block < w0.heap.size) (k1 : w0.cell? ⟨F, 1, none⟩ = some (.int .i64 by_)) (l1 : (⟨F, 1, none⟩ : Addr).block < w0.heap.size) (k2 : w0.cell? ⟨g, 0, none⟩ = some (.int .i64 x)) (l2 : (⟨g, 0, none⟩ : Addr).block < w0.heap.size) (k3 : w0.cell? ⟨g, 1, none⟩ = some (.int .i64 y)) (l3 : (⟨g, 1, none⟩ : Addr).block < w0.heap.size) (k4 : w0.cell? ⟨F, 2, none⟩ = some (.int .i64 bz)) (l4 : (⟨F, 2, none⟩ : Addr).block < w0.heap.size) (k5 : w0.cell? ⟨g, 2, none⟩ = some (.int .i64 s)) (l5 : (⟨g, 2, none⟩ : Addr).block < w0.heap.size) (hz : a0.tmps.size = 98)
    (hQ : ∀ aq W, aq.tmps.size = a0.tmps.size → aq.defers = a0.defers → (∀ e, e ∉ ([32, 33, 34, 35, 36, 37, 38, 39, 40, 41, 42, 43, 44, 45, 46, 47, 48, 49, 50] : List Nat) → aq.tmps[e]? = a0.tmps[e]?) → VqrC F g bx by_ bz x y s w0.heap.size 18 (aq.tmps.getD 50 undef) W → Below w0.heap.size w0 W → Q .normal aq W) :
    (Code.region idq #[{ dst := some 32, op := Op.fieldAddr 95 (Operand.tmp 10) 0, type := t0, pos := q0, after := #[], guard := none },
    { dst := some 33, op := Op.load 2 (Operand.tmp 32), type := t1, pos := q1, after := #[{ on := 0, ground := Ground.data }], guard := none },
    { dst := some 34, op := Op.fieldAddr 95 (Operand.tmp 10) 1, type := t2, pos := q2, after := #[], guard := none },
    { dst := some 35, op := Op.load 2 (Operand.tmp 34), type := t3, pos := q3, after := #[{ on := 2, ground := Ground.data }], guard := none },
    { dst := some 36, op := Op.build 42 #[(0, Operand.tmp 33), (1, Operand.tmp 35)], type := t4, pos := q4, after := #[{ on := 1, ground := Ground.data }, { on := 3, ground := Ground.data }], guard := none },
    { dst := some 37, op := Op.move (Operand.tmp 0), type := t5, pos := q5, after := #[], guard := none },
    { dst := some 38, op := Op.nilCheck (Operand.tmp 37), type := t6, pos := q6, after := #[{ on := 5, ground := Ground.data }], guard := none },
    { dst := some 39, op := Op.fieldAddr 69 (Operand.tmp 38) 0, type := t7, pos := q7, after := #[{ on := 6, ground := Ground.data }], guard := none },
    { dst := some 40, op := Op.load 42 (Operand.tmp 39), type := t8, pos := q8, after := #[{ on := 7, ground := Ground.data }], guard := none },
    { dst := some 41, op := Op.binOp BinOp.neq 42 (Operand.tmp 36) (Operand.tmp 40) 42, type := t9, pos := q9, after := #[{ on := 4, ground := Ground.data }, { on := 8, ground := Ground.data }], guard := none },
    { dst := some 42, op := Op.move (Operand.tmp 41), type := t10, pos := q10, after := #[{ on := 9, ground := Ground.data }], guard := none },
    { dst := some 43, op := Op.fieldAddr 95 (Operand.tmp 10) 2, type := t11, pos := q11, after := #[{ on := 10, ground := Ground.guard }], guard := some (10, false) },
    { dst := some 44, op := Op.load 2 (Operand.tmp 43), type := t12, pos := q12, after := #[{ on := 11, ground := Ground.data }, { on := 10, ground := Ground.guard }], guard := some (10, false) },
    { dst := some 45, op := Op.move (Operand.tmp 0), type := t13, pos := q13, after := #[{ on := 10, ground := Ground.guard }], guard := some (10, false) },
    { dst := some 46, op := Op.nilCheck (Operand.tmp 45), type := t14, pos := q14, after := #[{ on := 13, ground := Ground.data }, { on := 10, ground := Ground.guard }], guard := some (10, false) },
    { dst := some 47, op := Op.fieldAddr 69 (Operand.tmp 46) 1, type := t15, pos := q15, after := #[{ on := 14, ground := Ground.data }, { on := 10, ground := Ground.guard }], guard := some (10, false) },
    { dst := some 48, op := Op.load 2 (Operand.tmp 47), type := t16, pos := q16, after := #[{ on := 15, ground := Ground.data }, { on := 10, ground := Ground.guard }], guard := some (10, false) },
    { dst := some 49, op := Op.binOp BinOp.neq 2 (Operand.tmp 44) (Operand.tmp 48) 2, type := t17, pos := q17, after := #[{ on := 12, ground := Ground.data }, { on := 16, ground := Ground.data }, { on := 10, ground := Ground.guard }], guard := some (10, false) },
    { dst := some 50, op := Op.pick (Operand.tmp 42) (Operand.const (Value.bool true)) (Operand.tmp 49), type := t18, pos := q18, after := #[{ on := 10, ground := Ground.data }, { on := 17, ground := Ground.data }], guard := none }] true).wp Try.prog Q a0 w0 := by
  have hS : distS [some 32, some 33, some 34, some 35, some 36, some 37, some 38, some 39, some 40, some 41, some 42, some 43, some 44, some 45, some 46, some 47, some 48, some 49, some 50] = true := rfl
  refine wp_region_q (by kernel_rfl) w0.heap.size [some 32, some 33, some 34, some 35, some 36, some 37, some 38, some 39, some 40, some 41, some 42, some 43, some 44, some 45, some 46, some 47, some 48, some 49, some 50] (VqrC F g bx by_ bz x y s w0.heap.size) rfl ?_ ?_
  · intro Q lq aq W iq oq hJ hl ho hall
    have hJ2 := hJ
    obtain ⟨z1, z2, z3, z4, z5, z6, z7⟩ := hJ
    have g0 : aq.tmps.getD 0 undef = .pointer (some ⟨g, 0, none⟩) := by rw [Array.getD_eq_getD_getElem?, z4 0 (by decide), h0]; rfl
    have g10 : aq.tmps.getD 10 undef = .pointer (some ⟨F, 0, none⟩) := by rw [Array.getD_eq_getD_getElem?, z4 10 (by decide), h10]; rfl
    have c0 : W.cell? ⟨F, 0, none⟩ = some (.int .i64 bx) := (z5.cell l0).trans k0
    have c1 : W.cell? ⟨F, 1, none⟩ = some (.int .i64 by_) := (z5.cell l1).trans k1
    have c2 : W.cell? ⟨g, 0, none⟩ = some (.int .i64 x) := (z5.cell l2).trans k2
    have c3 : W.cell? ⟨g, 1, none⟩ = some (.int .i64 y) := (z5.cell l3).trans k3
    have c4 : W.cell? ⟨F, 2, none⟩ = some (.int .i64 bz) := (z5.cell l4).trans k4
    have c5 : W.cell? ⟨g, 2, none⟩ = some (.int .i64 s) := (z5.cell l5).trans k5
    match iq, ho with
    | 0, ho =>
      cases ho
      refine wpOp_of rfl rfl ?_
      have hK := fun (v : Value) (W2 : World) hW hT hv => hJ2.put hS 0 32 rfl (by omega) (W' := W2) hW hT v hv
      clear ho hall hl hQ
      generalize InvQ _ _ _ w0 a0 (lq.setIfInBounds 0 true) = K at hK ⊢
      clear hJ2 hS z1 z2 z3 z4 z6 z7
      go_simp
      exact hK _ _ z5 (fun _ _ h => h) rfl
    | 1, ho =>
      cases ho
      refine wpOp_of rfl rfl ?_
      have f0 : (aq.tmps.getD 32 undef) = .pointer (some ⟨F, 0, none⟩) := z6 0 32 (hall { on := 0, ground := Ground.data } (by simp) rfl) rfl
      have hK := fun (v : Value) (W2 : World) hW hT hv => hJ2.put hS 1 33 rfl (by omega) (W' := W2) hW hT v hv
      clear ho hall hl hQ
      generalize InvQ _ _ _ w0 a0 (lq.setIfInBounds 1 true) = K at hK ⊢
      clear hJ2 hS z1 z2 z3 z4 z6 z7
      go_simp
      exact hK _ _ z5 (fun _ _ h => h) rfl
    | 2, ho =>
      cases ho
      refine wpOp_of rfl rfl ?_
      have hK := fun (v : Value) (W2 : World) hW hT hv => hJ2.put hS 2 34 rfl (by omega) (W' := W2) hW hT v hv
      clear ho hall hl hQ
      generalize InvQ _ _ _ w0 a0 (lq.setIfInBounds 2 true) = K at hK ⊢
      clear hJ2 hS z1 z2 z3 z4 z6 z7
      go_simp
      exact hK _ _ z5 (fun _ _ h => h) rfl
    | 3, ho =>
      cases ho
      refine wpOp_of rfl rfl ?_
      have f2 : (aq.tmps.getD 34 undef) = .pointer (some ⟨F, 1, none⟩) := z6 2 34 (hall { on := 2, ground := Ground.data } (by simp) rfl) rfl
      have hK := fun (v : Value) (W2 : World) hW hT hv => hJ2.put hS 3 35 rfl (by omega) (W' := W2) hW hT v hv
      clear ho hall hl hQ
      generalize InvQ _ _ _ w0 a0 (lq.setIfInBounds 3 true) = K at hK ⊢
      clear hJ2 hS z1 z2 z3 z4 z6 z7
      go_simp
      exact hK _ _ z5 (fun _ _ h => h) rfl
    | 4, ho =>
      cases ho
      refine wpOp_of rfl rfl ?_
      have f1 : (aq.tmps.getD 33 undef) = .int .i64 bx := z6 1 33 (hall { on := 1, ground := Ground.data } (by simp) rfl) rfl
      have f3 : (aq.tmps.getD 35 undef) = .int .i64 by_ := z6 3 35 (hall { on := 3, ground := Ground.data } (by simp) rfl) rfl
      rw [Array.getD_eq_getD_getElem?] at f1 f3
      have hK := fun (v : Value) (W2 : World) hW hT hv => hJ2.put hS 4 36 rfl (by omega) (W' := W2) hW hT v hv
      clear ho hall hl hQ
      generalize InvQ _ _ _ w0 a0 (lq.setIfInBounds 4 true) = K at hK ⊢
      clear hJ2 hS z1 z2 z3 z4 z6 z7
      go_simp
      exact hK _ _ z5 (fun _ _ h => h) rfl
    | 5, ho =>
      cases ho
      refine wpOp_of rfl rfl ?_
      have hK := fun (v : Value) (W2 : World) hW hT hv => hJ2.put hS 5 37 rfl (by omega) (W' := W2) hW hT v hv
      clear ho hall hl hQ
      generalize InvQ _ _ _ w0 a0 (lq.setIfInBounds 5 true) = K at hK ⊢
      clear hJ2 hS z1 z2 z3 z4 z6 z7
      go_simp
      exact hK _ _ z5 (fun _ _ h => h) rfl
    | 6, ho =>
      cases ho
      refine wpOp_of rfl rfl ?_
      have f5 : (aq.tmps.getD 37 undef) = .pointer (some ⟨g, 0, none⟩) := z6 5 37 (hall { on := 5, ground := Ground.data } (by simp) rfl) rfl
      have hK := fun (v : Value) (W2 : World) hW hT hv => hJ2.put hS 6 38 rfl (by omega) (W' := W2) hW hT v hv
      clear ho hall hl hQ
      generalize InvQ _ _ _ w0 a0 (lq.setIfInBounds 6 true) = K at hK ⊢
      clear hJ2 hS z1 z2 z3 z4 z6 z7
      go_simp
      exact hK _ _ z5 (fun _ _ h => h) rfl
    | 7, ho =>
      cases ho
      refine wpOp_of rfl rfl ?_
      have f6 : (aq.tmps.getD 38 undef) = .pointer (some ⟨g, 0, none⟩) := z6 6 38 (hall { on := 6, ground := Ground.data } (by simp) rfl) rfl
      have hK := fun (v : Value) (W2 : World) hW hT hv => hJ2.put hS 7 39 rfl (by omega) (W' := W2) hW hT v hv
      clear ho hall hl hQ
      generalize InvQ _ _ _ w0 a0 (lq.setIfInBounds 7 true) = K at hK ⊢
      clear hJ2 hS z1 z2 z3 z4 z6 z7
      go_simp
      exact hK _ _ z5 (fun _ _ h => h) rfl
    | 8, ho =>
      cases ho
      refine wpOp_of rfl rfl ?_
      have f7 : (aq.tmps.getD 39 undef) = .pointer (some ⟨g, 0, none⟩) := z6 7 39 (hall { on := 7, ground := Ground.data } (by simp) rfl) rfl
      have hK := fun (v : Value) (W2 : World) hW hT hv => hJ2.put hS 8 40 rfl (by omega) (W' := W2) hW hT v hv
      clear ho hall hl hQ
      generalize InvQ _ _ _ w0 a0 (lq.setIfInBounds 8 true) = K at hK ⊢
      clear hJ2 hS z1 z2 z3 z4 z6 z7
      go_simp
      exact hK _ _ z5 (fun _ _ h => h) rfl
    | 9, ho =>
      cases ho
      refine wpOp_of rfl rfl ?_
      have f4 : (aq.tmps.getD 36 undef) = Sp bx by_ := z6 4 36 (hall { on := 4, ground := Ground.data } (by simp) rfl) rfl
      have f8 : (aq.tmps.getD 40 undef) = Sp x y := z6 8 40 (hall { on := 8, ground := Ground.data } (by simp) rfl) rfl
      have hK := fun (v : Value) (W2 : World) hW hT hv => hJ2.put hS 9 41 rfl (by omega) (W' := W2) hW hT v hv
      clear ho hall hl hQ
      generalize InvQ _ _ _ w0 a0 (lq.setIfInBounds 9 true) = K at hK ⊢
      clear hJ2 hS z1 z2 z3 z4 z6 z7
      go_simp
      exact hK _ _ z5 (fun _ _ h => h) rfl
    | 10, ho =>
      cases ho
      refine wpOp_of rfl rfl ?_
      have f9 : (aq.tmps.getD 41 undef) = .bool false := z6 9 41 (hall { on := 9, ground := Ground.data } (by simp) rfl) rfl
      have hK := fun (v : Value) (W2 : World) hW hT hv => hJ2.put hS 10 42 rfl (by omega) (W' := W2) hW hT v hv
      clear ho hall hl hQ
      generalize InvQ _ _ _ w0 a0 (lq.setIfInBounds 10 true) = K at hK ⊢
      clear hJ2 hS z1 z2 z3 z4 z6 z7
      go_simp
      exact hK _ _ z5 (fun _ _ h => h) rfl
    | 11, ho =>
      cases ho
      have fg : aq.tmps.getD 42 undef = .bool false := z6 10 42 (hall { on := 10, ground := Ground.guard } (by simp) rfl) rfl
      refine wpOp_on rfl rfl rfl rfl fg ?_
      have hK := fun (v : Value) (W2 : World) hW hT hv => hJ2.put hS 11 43 rfl (by omega) (W' := W2) hW hT v hv
      clear ho hall hl hQ
      generalize InvQ _ _ _ w0 a0 (lq.setIfInBounds 11 true) = K at hK ⊢
      clear hJ2 hS z1 z2 z3 z4 z6 z7
      go_simp
      exact hK _ _ z5 (fun _ _ h => h) rfl
    | 12, ho =>
      cases ho
      have fg : aq.tmps.getD 42 undef = .bool false := z6 10 42 (hall { on := 10, ground := Ground.guard } (by simp) rfl) rfl
      refine wpOp_on rfl rfl rfl rfl fg ?_
      have f11 : (aq.tmps.getD 43 undef) = .pointer (some ⟨F, 2, none⟩) := z6 11 43 (hall { on := 11, ground := Ground.data } (by simp) rfl) rfl
      have hK := fun (v : Value) (W2 : World) hW hT hv => hJ2.put hS 12 44 rfl (by omega) (W' := W2) hW hT v hv
      clear ho hall hl hQ
      generalize InvQ _ _ _ w0 a0 (lq.setIfInBounds 12 true) = K at hK ⊢
      clear hJ2 hS z1 z2 z3 z4 z6 z7
      go_simp
      exact hK _ _ z5 (fun _ _ h => h) rfl
    | 13, ho =>
      cases ho
      have fg : aq.tmps.getD 42 undef = .bool false := z6 10 42 (hall { on := 10, ground := Ground.guard } (by simp) rfl) rfl
      refine wpOp_on rfl rfl rfl rfl fg ?_
      have hK := fun (v : Value) (W2 : World) hW hT hv => hJ2.put hS 13 45 rfl (by omega) (W' := W2) hW hT v hv
      clear ho hall hl hQ
      generalize InvQ _ _ _ w0 a0 (lq.setIfInBounds 13 true) = K at hK ⊢
      clear hJ2 hS z1 z2 z3 z4 z6 z7
      go_simp
      exact hK _ _ z5 (fun _ _ h => h) rfl
    | 14, ho =>
      cases ho
      have fg : aq.tmps.getD 42 undef = .bool false := z6 10 42 (hall { on := 10, ground := Ground.guard } (by simp) rfl) rfl
      refine wpOp_on rfl rfl rfl rfl fg ?_
      have f13 : (aq.tmps.getD 45 undef) = .pointer (some ⟨g, 0, none⟩) := z6 13 45 (hall { on := 13, ground := Ground.data } (by simp) rfl) rfl
      have hK := fun (v : Value) (W2 : World) hW hT hv => hJ2.put hS 14 46 rfl (by omega) (W' := W2) hW hT v hv
      clear ho hall hl hQ
      generalize InvQ _ _ _ w0 a0 (lq.setIfInBounds 14 true) = K at hK ⊢
      clear hJ2 hS z1 z2 z3 z4 z6 z7
      go_simp
      exact hK _ _ z5 (fun _ _ h => h) rfl
    | 15, ho =>
      cases ho
      have fg : aq.tmps.getD 42 undef = .bool false := z6 10 42 (hall { on := 10, ground := Ground.guard } (by simp) rfl) rfl
      refine wpOp_on rfl rfl rfl rfl fg ?_
      have f14 : (aq.tmps.getD 46 undef) = .pointer (some ⟨g, 0, none⟩) := z6 14 46 (hall { on := 14, ground := Ground.data } (by simp) rfl) rfl
      have hK := fun (v : Value) (W2 : World) hW hT hv => hJ2.put hS 15 47 rfl (by omega) (W' := W2) hW hT v hv
      clear ho hall hl hQ
      generalize InvQ _ _ _ w0 a0 (lq.setIfInBounds 15 true) = K at hK ⊢
      clear hJ2 hS z1 z2 z3 z4 z6 z7
      go_simp
      exact hK _ _ z5 (fun _ _ h => h) rfl
    | 16, ho =>
      cases ho
      have fg : aq.tmps.getD 42 undef = .bool false := z6 10 42 (hall { on := 10, ground := Ground.guard } (by simp) rfl) rfl
      refine wpOp_on rfl rfl rfl rfl fg ?_
      have f15 : (aq.tmps.getD 47 undef) = .pointer (some ⟨g, 2, none⟩) := z6 15 47 (hall { on := 15, ground := Ground.data } (by simp) rfl) rfl
      have hK := fun (v : Value) (W2 : World) hW hT hv => hJ2.put hS 16 48 rfl (by omega) (W' := W2) hW hT v hv
      clear ho hall hl hQ
      generalize InvQ _ _ _ w0 a0 (lq.setIfInBounds 16 true) = K at hK ⊢
      clear hJ2 hS z1 z2 z3 z4 z6 z7
      go_simp
      exact hK _ _ z5 (fun _ _ h => h) rfl
    | 17, ho =>
      cases ho
      have fg : aq.tmps.getD 42 undef = .bool false := z6 10 42 (hall { on := 10, ground := Ground.guard } (by simp) rfl) rfl
      refine wpOp_on rfl rfl rfl rfl fg ?_
      have f12 : (aq.tmps.getD 44 undef) = .int .i64 bz := z6 12 44 (hall { on := 12, ground := Ground.data } (by simp) rfl) rfl
      have f16 : (aq.tmps.getD 48 undef) = .int .i64 s := z6 16 48 (hall { on := 16, ground := Ground.data } (by simp) rfl) rfl
      have hK := fun (v : Value) (W2 : World) hW hT hv => hJ2.put hS 17 49 rfl (by omega) (W' := W2) hW hT v hv
      clear ho hall hl hQ
      generalize InvQ _ _ _ w0 a0 (lq.setIfInBounds 17 true) = K at hK ⊢
      clear hJ2 hS z1 z2 z3 z4 z6 z7
      go_simp
      exact hK _ _ z5 (fun _ _ h => h) (by show Value.bool _ = Value.bool _; congr 1; rw [Bool.eq_iff_iff]; simp)
    | 18, ho =>
      cases ho
      refine wpOp_of rfl rfl ?_
      have f10 : (aq.tmps.getD 42 undef) = .bool false := z6 10 42 (hall { on := 10, ground := Ground.data } (by simp) rfl) rfl
      have f17 : (aq.tmps.getD 49 undef) = .bool (decide (¬ (bz = s))) := z6 17 49 (hall { on := 17, ground := Ground.data } (by simp) rfl) rfl
      have hK := fun (v : Value) (W2 : World) hW hT hv => hJ2.put hS 18 50 rfl (by omega) (W' := W2) hW hT v hv
      clear ho hall hl hQ
      generalize InvQ _ _ _ w0 a0 (lq.setIfInBounds 18 true) = K at hK ⊢
      clear hJ2 hS z1 z2 z3 z4 z6 z7
      go_simp
      exact hK _ _ z5 (fun _ _ h => h) (by show Value.bool _ = Value.bool _; congr 1; rw [Bool.eq_iff_iff]; simp)
    | iq + 19, ho => simp at ho
  · intro lq aq W hJ hr
    obtain ⟨z1, z2, z3, z4, z5, z6, z7⟩ := hJ
    have hl := listed_of hr [0, 1, 2, 3, 4, 5, 6, 7, 8, 9, 10, 11, 12, 13, 14, 15, 16, 17, 18] [] (by simp) (by kernel_rfl) (by rw [z1]; decide)
    exact hQ aq W z2 z3 (fun e he => z4 e (by simpa using he)) (z6 18 50 (hl 18 (by simp)) rfl) z5
def VqrD (F g n ca m cb : Nat) (ao co : Option Addr) (ef ff : Nat → Int) (rv : Value) (_B : Nat) : Nat → Value → World → Prop
  | 0, v, _ => v = rv
  | 1, v, _ => v = .pointer (some ⟨F, 4, none⟩)
  | 2, v, _ => v = .slice ao n ca
  | 3, v, _ => v = .pointer (some ⟨g, 0, none⟩)
  | 4, v, _ => v = .pointer (some ⟨g, 0, none⟩)
  | 5, v, _ => v = .pointer (some ⟨g, 4, none⟩)
  | 6, v, _ => v = .slice co m cb
  | 7, v, _ => v = .bool (decide (n = m ∧ ∀ i, i < n → ef i = ff i))
  | 8, v, _ => v = rv
  | 9, v, _ => v = .bool (decide (n = m ∧ ∀ i, i < n → ef i = ff i))
  | _, _, _ => True
theorem VqrD.mono {F g n ca m cb : Nat} {ao co : Option Addr} {ef ff : Nat → Int} {rv : Value} {B j : Nat} {v : Value} {W W2 : World} (_hB : Below W.heap.size W W2) (h : VqrD F g n ca m cb ao co ef ff rv B j v W) : VqrD F g n ca m cb ao co ef ff rv B j v W2 := by
  unfold VqrD at *
  split <;> simp only at h <;> first | exact h | trivial
set_option maxRecDepth 100000 in
set_option maxHeartbeats 4000000 in
theorem qrD {Q : Exit → Act → World → Prop} {F g n ca m cb : Nat} {ao co : Option Addr} {ef ff : Nat → Int} {rv : Value}  {w0 : World} {a0 : Act} {idq : Nat} {t0 t1 t2 t3 t4 t5 t6 t7 t8 t9 : TypeId} {q0 q1 q2 q3 q4 q5 q6 q7 q8 q9 : String}
    (hn : n ≤ 1048576) (hA : NoIn w0 ao n ef) (hC : NoIn w0 co m ff) (h0 : a0.tmps[0]? = some (.pointer (some ⟨g, 0, none⟩))) (h10 : a0.tmps[10]? = some (.pointer (some ⟨F, 0, none⟩))) (h11 : a0.tmps[11]? = some (rv)) (k0 : w0.cell? ⟨F, 4, none⟩ = some (.slice ao n ca)) (l0 : (⟨F, 4, none⟩ : Addr).block < w0.heap.size) (k1 : w0.cell? ⟨g, 4, none⟩ = some (.slice co m cb)) (l1 : (⟨g, 4, none⟩ : Addr).block < w0.heap.size) (hz : a0.tmps.size = 98)
    (hQ : ∀ aq W, aq.tmps.size = a0.tmps.size → aq.defers = a0.defers → (∀ e, e ∉ ([57, 58, 59, 60, 61, 62, 63, 64, 8, 9] : List Nat) → aq.tmps[e]? = a0.tmps[e]?) → VqrD F g n ca m cb ao co ef ff rv w0.heap.size 8 (aq.tmps.getD 8 undef) W → VqrD F g n ca m cb ao co ef ff rv w0.heap.size 9 (aq.tmps.getD 9 undef) W → Below w0.heap.size w0 W → Q .normal aq W) :
    (Code.region idq #[{ dst := some 57, op := Op.move (Operand.tmp 11), type := t0, pos := q0, after := #[], guard := none },
    { dst := some 58, op := Op.fieldAddr 95 (Operand.tmp 10) 4, type := t1, pos := q1, after := #[], guard := none },
    { dst := some 59, op := Op.load 39 (Operand.tmp 58), type := t2, pos := q2, after := #[{ on := 1, ground := Ground.data }], guard := none },
    { dst := some 60, op := Op.move (Operand.tmp 0), type := t3, pos := q3, after := #[], guard := none },
    { dst := some 61, op := Op.nilCheck (Operand.tmp 60), type := t4, pos := q4, after := #[{ on := 3, ground := Ground.data }], guard := none },
    { dst := some 62, op := Op.fieldAddr 69 (Operand.tmp 61) 3, type := t5, pos := q5, after := #[{ on := 4, ground := Ground.data }], guard := none },
    { dst := some 63, op := Op.load 39 (Operand.tmp 62), type := t6, pos := q6, after := #[{ on := 5, ground := Ground.data }], guard := none },
    { dst := some 64, op := Op.call { callee := Callee.value (Operand.func 69), args := #[Operand.tmp 59, Operand.tmp 63], argTypes := #[39, 39] }, type := t7, pos := q7, after := #[{ on := 2, ground := Ground.data }, { on := 6, ground := Ground.data }], guard := none },
    { dst := some 8, op := Op.assign (Operand.tmp 57), type := t8, pos := q8, after := #[{ on := 0, ground := Ground.data }, { on := 7, ground := Ground.chain }, { on := 0, ground := Ground.phase }, { on := 1, ground := Ground.textOnly Departure.lateStores }, { on := 2, ground := Ground.textOnly Departure.lateStores }, { on := 3, ground := Ground.textOnly Departure.lateStores }, { on := 4, ground := Ground.textOnly Departure.lateStores }, { on := 5, ground := Ground.textOnly Departure.lateStores }, { on := 6, ground := Ground.textOnly Departure.lateStores }, { on := 7, ground := Ground.textOnly Departure.lateStoresUnsure }], guard := none },
    { dst := some 9, op := Op.assign (Operand.tmp 64), type := t9, pos := q9, after := #[{ on := 7, ground := Ground.data }, { on := 8, ground := Ground.chain }, { on := 0, ground := Ground.phase }, { on := 1, ground := Ground.phase }, { on := 2, ground := Ground.phase }, { on := 3, ground := Ground.phase }, { on := 4, ground := Ground.phase }, { on := 5, ground := Ground.phase }, { on := 6, ground := Ground.phase }, { on := 7, ground := Ground.phase }, { on := 8, ground := Ground.phase }], guard := none }] true).wp Try.prog Q a0 w0 := by
  have hS : distS [some 57, some 58, some 59, some 60, some 61, some 62, some 63, some 64, some 8, some 9] = true := rfl
  refine wp_region_q (by kernel_rfl) w0.heap.size [some 57, some 58, some 59, some 60, some 61, some 62, some 63, some 64, some 8, some 9] (VqrD F g n ca m cb ao co ef ff rv w0.heap.size) rfl ?_ ?_
  · intro Q lq aq W iq oq hJ hl ho hall
    have hJ2 := hJ
    obtain ⟨z1, z2, z3, z4, z5, z6, z7⟩ := hJ
    have g0 : aq.tmps.getD 0 undef = .pointer (some ⟨g, 0, none⟩) := by rw [Array.getD_eq_getD_getElem?, z4 0 (by decide), h0]; rfl
    have g10 : aq.tmps.getD 10 undef = .pointer (some ⟨F, 0, none⟩) := by rw [Array.getD_eq_getD_getElem?, z4 10 (by decide), h10]; rfl
    have g11 : aq.tmps.getD 11 undef = rv := by rw [Array.getD_eq_getD_getElem?, z4 11 (by decide), h11]; rfl
    have c0 : W.cell? ⟨F, 4, none⟩ = some (.slice ao n ca) := (z5.cell l0).trans k0
    have c1 : W.cell? ⟨g, 4, none⟩ = some (.slice co m cb) := (z5.cell l1).trans k1
    match iq, ho with
    | 0, ho =>
      cases ho
      refine wpOp_of rfl rfl ?_
      have hK := fun (v : Value) (W2 : World) hW hT hv => hJ2.put hS 0 57 rfl (by omega) (W' := W2) hW hT v hv
      clear ho hall hl hQ
      generalize InvQ _ _ _ w0 a0 (lq.setIfInBounds 0 true) = K at hK ⊢
      clear hJ2 hS z1 z2 z3 z4 z6 z7
      go_simp
      exact hK _ _ z5 (fun _ _ h => h) rfl
    | 1, ho =>
      cases ho
      refine wpOp_of rfl rfl ?_
      have hK := fun (v : Value) (W2 : World) hW hT hv => hJ2.put hS 1 58 rfl (by omega) (W' := W2) hW hT v hv
      clear ho hall hl hQ
      generalize InvQ _ _ _ w0 a0 (lq.setIfInBounds 1 true) = K at hK ⊢
      clear hJ2 hS z1 z2 z3 z4 z6 z7
      go_simp
      exact hK _ _ z5 (fun _ _ h => h) rfl
    | 2, ho =>
      cases ho
      refine wpOp_of rfl rfl ?_
      have f1 : (aq.tmps.getD 58 undef) = .pointer (some ⟨F, 4, none⟩) := z6 1 58 (hall { on := 1, ground := Ground.data } (by simp) rfl) rfl
      have hK := fun (v : Value) (W2 : World) hW hT hv => hJ2.put hS 2 59 rfl (by omega) (W' := W2) hW hT v hv
      clear ho hall hl hQ
      generalize InvQ _ _ _ w0 a0 (lq.setIfInBounds 2 true) = K at hK ⊢
      clear hJ2 hS z1 z2 z3 z4 z6 z7
      go_simp
      exact hK _ _ z5 (fun _ _ h => h) rfl
    | 3, ho =>
      cases ho
      refine wpOp_of rfl rfl ?_
      have hK := fun (v : Value) (W2 : World) hW hT hv => hJ2.put hS 3 60 rfl (by omega) (W' := W2) hW hT v hv
      clear ho hall hl hQ
      generalize InvQ _ _ _ w0 a0 (lq.setIfInBounds 3 true) = K at hK ⊢
      clear hJ2 hS z1 z2 z3 z4 z6 z7
      go_simp
      exact hK _ _ z5 (fun _ _ h => h) rfl
    | 4, ho =>
      cases ho
      refine wpOp_of rfl rfl ?_
      have f3 : (aq.tmps.getD 60 undef) = .pointer (some ⟨g, 0, none⟩) := z6 3 60 (hall { on := 3, ground := Ground.data } (by simp) rfl) rfl
      have hK := fun (v : Value) (W2 : World) hW hT hv => hJ2.put hS 4 61 rfl (by omega) (W' := W2) hW hT v hv
      clear ho hall hl hQ
      generalize InvQ _ _ _ w0 a0 (lq.setIfInBounds 4 true) = K at hK ⊢
      clear hJ2 hS z1 z2 z3 z4 z6 z7
      go_simp
      exact hK _ _ z5 (fun _ _ h => h) rfl
    | 5, ho =>
      cases ho
      refine wpOp_of rfl rfl ?_
      have f4 : (aq.tmps.getD 61 undef) = .pointer (some ⟨g, 0, none⟩) := z6 4 61 (hall { on := 4, ground := Ground.data } (by simp) rfl) rfl
      have hK := fun (v : Value) (W2 : World) hW hT hv => hJ2.put hS 5 62 rfl (by omega) (W' := W2) hW hT v hv
      clear ho hall hl hQ
      generalize InvQ _ _ _ w0 a0 (lq.setIfInBounds 5 true) = K at hK ⊢
      clear hJ2 hS z1 z2 z3 z4 z6 z7
      go_simp
      exact hK _ _ z5 (fun _ _ h => h) rfl
    | 6, ho =>
      cases ho
      refine wpOp_of rfl rfl ?_
      have f5 : (aq.tmps.getD 62 undef) = .pointer (some ⟨g, 4, none⟩) := z6 5 62 (hall { on := 5, ground := Ground.data } (by simp) rfl) rfl
      have hK := fun (v : Value) (W2 : World) hW hT hv => hJ2.put hS 6 63 rfl (by omega) (W' := W2) hW hT v hv
      clear ho hall hl hQ
      generalize InvQ _ _ _ w0 a0 (lq.setIfInBounds 6 true) = K at hK ⊢
      clear hJ2 hS z1 z2 z3 z4 z6 z7
      go_simp
      exact hK _ _ z5 (fun _ _ h => h) rfl
    | 7, ho =>
      cases ho
      refine wpOp_of rfl rfl ?_
      have f2 : (aq.tmps.getD 59 undef) = .slice ao n ca := z6 2 59 (hall { on := 2, ground := Ground.data } (by simp) rfl) rfl
      have f6 : (aq.tmps.getD 63 undef) = .slice co m cb := z6 6 63 (hall { on := 6, ground := Ground.data } (by simp) rfl) rfl
      have hK := fun (v : Value) (W2 : World) hW hT hv => hJ2.put hS 7 64 rfl (by omega) (W' := W2) hW hT v hv
      clear ho hall hl hQ
      generalize InvQ _ _ _ w0 a0 (lq.setIfInBounds 7 true) = K at hK ⊢
      clear hJ2 hS z1 z2 z3 z4 z6 z7
      go_simp
      refine (equalNo_any ao co n ca m cb ef ff hn W (hA.step z5) (hC.step z5)).mono ?_
      rintro e v1 ⟨rfl, hBv⟩
      exact hK _ _ (z5.trans (hBv.mono z5.size)) (fun j v h => h.mono hBv) rfl
    | 8, ho =>
      cases ho
      refine wpOp_of rfl rfl ?_
      have f0 : (aq.tmps.getD 57 undef) = rv := z6 0 57 (hall { on := 0, ground := Ground.data } (by simp) rfl) rfl
      have hK := fun (v : Value) (W2 : World) hW hT hv => hJ2.put hS 8 8 rfl (by omega) (W' := W2) hW hT v hv
      clear ho hall hl hQ
      generalize InvQ _ _ _ w0 a0 (lq.setIfInBounds 8 true) = K at hK ⊢
      clear hJ2 hS z1 z2 z3 z4 z6 z7
      go_simp
      exact hK _ _ z5 (fun _ _ h => h) rfl
    | 9, ho =>
      cases ho
      refine wpOp_of rfl rfl ?_
      have f7 : (aq.tmps.getD 64 undef) = .bool (decide (n = m ∧ ∀ i, i < n → ef i = ff i)) := z6 7 64 (hall { on := 7, ground := Ground.data } (by simp) rfl) rfl
      have hK := fun (v : Value) (W2 : World) hW hT hv => hJ2.put hS 9 9 rfl (by omega) (W' := W2) hW hT v hv
      clear ho hall hl hQ
      generalize InvQ _ _ _ w0 a0 (lq.setIfInBounds 9 true) = K at hK ⊢
      clear hJ2 hS z1 z2 z3 z4 z6 z7
      go_simp
      exact hK _ _ z5 (fun _ _ h => h) (by show Value.bool _ = Value.bool _; congr 1; rw [Bool.eq_iff_iff]; simp)
    | iq + 10, ho => simp at ho
  · intro lq aq W hJ hr
    obtain ⟨z1, z2, z3, z4, z5, z6, z7⟩ := hJ
    have hl := listed_of hr [0, 1, 2, 3, 4, 5, 6, 7, 8, 9] [] (by simp) (by kernel_rfl) (by rw [z1]; decide)
    exact hQ aq W z2 z3 (fun e he => z4 e (by simpa using he)) (z6 8 8 (hl 8 (by simp)) rfl) (z6 9 9 (hl 9 (by simp)) rfl) z5
end Go.Proofs.Ytaagmdhbfbikfaa

/- The program reads a block and all that is in it. -/
namespace Go.Proofs.Ytaagmdhbfbikfaa
open Go.RowKit
/-- The blocks of a tree lie behind an address, each with its numbers. -/
def BlIn (Q : QD) (w : World) (A off : Nat) (so : Nat → Option Addr × Nat) : Prop :=
  ∀ i, i < Q.N → A < w.heap.size ∧ w.cell? ⟨A, off + i * 5, none⟩ = some (.int .i64 (Q.X i)) ∧ w.cell? ⟨A, off + i * 5 + 1, none⟩ = some (.int .i64 (Q.Y i)) ∧ w.cell? ⟨A, off + i * 5 + 2, none⟩ = some (.int .i64 (Q.Z i)) ∧ w.cell? ⟨A, off + i * 5 + 3, none⟩ = some (.bool (Q.T i)) ∧ w.cell? ⟨A, off + i * 5 + 4, none⟩ = some (.slice (so i).1 (Q.L i) (so i).2) ∧ NoIn w (so i).1 (Q.L i) (Q.E i)
theorem BlIn.below {Q : QD} {w w' : World} {A off : Nat} {so : Nat → Option Addr × Nat} (h : BlIn Q w A off so) (hB : Below w.heap.size w w') : BlIn Q w' A off so := fun i hi => by
  obtain ⟨hA, c0, c1, c2, c3, c4, hN⟩ := h i hi
  exact ⟨Nat.lt_of_lt_of_le hA hB.size, (hB.cell (p := ⟨A, _, none⟩) hA).trans c0, (hB.cell (p := ⟨A, _, none⟩) hA).trans c1, (hB.cell (p := ⟨A, _, none⟩) hA).trans c2, (hB.cell (p := ⟨A, _, none⟩) hA).trans c3, (hB.cell (p := ⟨A, _, none⟩) hA).trans c4, hN.step hB⟩
/-- The row from place e on. -/
def RowAt (A off N cap e : Nat) (v : Value) : Prop := ∃ ad, v = .slice ad (N - e) (cap - e) ∧ (e < N → ad = some ⟨A, off + e * 5, none⟩)
theorem RowAt.next {A off N cap e : Nat} {v : Value} (h : RestV A (off + e * 5) (N - e) (cap - e) v) : RowAt A off N cap (e + 1) v := by
  obtain ⟨ad, h1, h2⟩ := h
  exact ⟨ad, by rw [h1, Nat.sub_sub, Nat.sub_sub], fun he => by rw [h2 (by omega), show off + e * 5 + 5 = off + (e + 1) * 5 by omega]⟩
def rdF (Q : QD) : Nat → Nat → Int → Int → Int → Option Nat
  | 0, _, _, _, _ => none
  | d + 1, at_, x, y, s => qrd Q d at_ x y s
theorem rdF_no {Q : QD} {f at_ : Nat} {x y s : Int} (h : baseB Q at_ x y s = false) : rdF Q f at_ x y s = none := by
  match f with
  | 0 => rfl
  | 1 =>
    show qrd Q 0 at_ x y s = none
    unfold qrd
    rw [if_neg (fun e => by rw [h] at e; cases e.1)]
  | d + 2 =>
    show qrd Q (d + 1) at_ x y s = none
    unfold qrd
    rw [if_neg (by rw [h]; decide)]
theorem rdF_leaf {Q : QD} {d at_ : Nat} {x y s : Int} (h : baseB Q at_ x y s = true) (hT : Q.T at_ = false) : rdF Q (d + 1) at_ x y s = if leafB Q at_ x y s = true then some (at_ + 1) else none := by
  match d with
  | 0 =>
    show qrd Q 0 at_ x y s = _
    unfold qrd
    by_cases e : leafB Q at_ x y s = true
    · rw [if_pos e, if_pos ⟨h, hT, e⟩]
    · rw [if_neg e, if_neg (fun k => e k.2.2)]
  | d + 1 =>
    show qrd Q (d + 1) at_ x y s = _
    unfold qrd
    rw [if_pos h, if_neg (by rw [hT]; decide)]
theorem rdF_split {Q : QD} {d at_ : Nat} {x y s : Int} (h : baseB Q at_ x y s = true) (hT : Q.T at_ = true) : rdF Q (d + 1) at_ x y s = if Q.L at_ = 0 then kp (fun a x y => rdF Q d a x y (s / 2)) (at_ + 1) x y (s / 2) 4 else none := by
  match d with
  | 0 =>
    have hk : kp (fun a x y => rdF Q 0 a x y (s / 2)) (at_ + 1) x y (s / 2) 4 = none := by
      show (kp (fun a x y => rdF Q 0 a x y (s / 2)) (at_ + 1) x y (s / 2) 3).bind (fun _ => none) = none
      cases kp (fun a x y => rdF Q 0 a x y (s / 2)) (at_ + 1) x y (s / 2) 3 <;> rfl
    rw [hk]
    show qrd Q 0 at_ x y s = _
    unfold qrd
    rw [if_neg (fun e => by rw [hT] at e; cases e.2.1)]
    split <;> rfl
  | d + 1 =>
    show qrd Q (d + 1) at_ x y s = _
    rw [show qrd Q (d + 1) at_ x y s = if baseB Q at_ x y s = true then (if Q.T at_ = true then (if Q.L at_ = 0 then kp (fun a x y => qrd Q d a x y (s / 2)) (at_ + 1) x y (s / 2) 4 else none) else if leafB Q at_ x y s = true then some (at_ + 1) else none) else none from rfl, if_pos h, if_pos hT]
    rfl
/-- What reading a block tells. -/
def ReadP (Q : QD) (f at_ : Nat) (x y s : Int) (A off cap g : Nat) (w : World) (r : Ending) (w' : World) : Prop :=
  ∃ v b, r = .returned (.tuple #[v, .bool b]) ∧ b = (rdF Q f at_ x y s).isSome ∧ (∀ e, rdF Q f at_ x y s = some e → e ≤ Q.N ∧ RowAt A off Q.N cap e v) ∧ w.grownBy w' (some g)
theorem ItIn.grown {Q : QD} {w w' : World} {ao : Option Addr} {l : List Nat} {g : Nat} (h : ItIn Q w ao l) (hg : w.grownBy w' (some g)) (hne : ∀ A o sp, ao = some ⟨A, o, sp⟩ → A ≠ g) : ItIn Q w' ao l := fun j i hj => by
  obtain ⟨A, o, e, hA, c0, c1, c2, c3, c4⟩ := h j i hj
  have hb : ∀ k, w'.cell? ⟨A, k, none⟩ = w.cell? ⟨A, k, none⟩ := fun k => World.cell?_of_block (w := w) (a := ⟨A, k, none⟩) (hg.block A hA (fun e2 => hne A o none e (Option.some.inj e2)))
  exact ⟨A, o, e, Nat.lt_of_lt_of_le hA hg.size, (hb _).trans c0, (hb _).trans c1, (hb _).trans c2, (hb _).trans c3, (hb _).trans c4⟩
theorem grown_below {wb w w' : World} {g : Nat} (hB : Below wb.heap.size wb w) (hg : w.grownBy w' (some g)) (hgb : wb.heap.size ≤ g) : Below wb.heap.size wb w' := hB.grown hg hB.size (fun k hk => by have := Option.some.inj hk; omega)
theorem grown_trans {w w1 w2 : World} {row : Option Nat} (h : w.grownBy w1 row) (k : w1.grownBy w2 row) : w.grownBy w2 row :=
  ⟨k.os.trans h.os, k.tape.trans h.tape, k.output.trans h.output, Nat.le_trans h.size k.size, fun j hj hne => (k.block j (Nat.lt_of_lt_of_le hj h.size) hne).trans (h.block j hj hne)⟩
theorem grown_of {w w1 : World} (hB : Below w.heap.size w w1) (row : Option Nat) : w.grownBy w1 row := ⟨hB.os, hB.tape, hB.output, hB.size, fun k hk _ => hB.block k hk⟩
/-- A new block turned, seen from before it was laid: nothing turned. -/
theorem grown_new {w w1 w2 : World} {row : Option Nat} {k : Nat} (h : w.grownBy w1 row) (hk : w.heap.size ≤ k) (h2 : w1.grownBy w2 (some k)) : w.grownBy w2 row :=
  ⟨h2.os.trans h.os, h2.tape.trans h.tape, h2.output.trans h.output, Nat.le_trans h.size h2.size, fun j hj hne => (h2.block j (Nat.lt_of_lt_of_le hj h.size) (fun e => by have := Option.some.inj e; omega)).trans (h.block j hj hne)⟩
theorem eqSpR (x y u v : Int) (w : World) : (Op.equalIn 10000 42 (.agg #[.int .i64 x, .int .i64 y]) (.agg #[.int .i64 u, .int .i64 v])).run Try.prog w = .ok (decide (x = u) && decide (y = v)) w := by
  have u3 := Try.underlying2
  have a3 := Try.isAgg2
  have z3 := Try.sizeOf2
  rw [show (10000 : Nat) = 9999 + 1 from rfl, Op.equalIn]
  simp only [Sem.run_bind, run_underlying Try.underlying42, Result.andThen_ok]
  go_simp
  by_cases h3 : x = u
  · subst h3
    by_cases h2 : y = v
    · subst h2
      simp
    · simp [h2]
  · simp [h3]
set_option maxRecDepth 100000 in
set_option maxHeartbeats 16000000 in
theorem read_any (Q : QD) (D A off cap : Nat) (so : Nat → Option Addr × Nat) (wb : World) (hN : Q.N ≤ 1048576) (hcap : Q.N ≤ cap) (hD : D ≤ 8) (hBl : BlIn Q wb A off so) (hLb : ∀ i, i < Q.N → Q.L i ≤ 1048576) (h6 : Its6 Q (List.range Q.m)) (hm : Q.m ≤ 1048576) : ∀ (f g : Nat) (x y s lv : Int) (at_ : Nat) (rv : Value) (io : Option Addr) (ic : Nat) (its : List Nat) (w : World), lv + (f : Int) = (D : Int) + 1 → 0 ≤ lv → Sq x y s → BkB w g x y s lv (.slice none 0 0) (.slice none 0 0) → wb.heap.size ≤ g → Below wb.heap.size wb w → RowAt A off Q.N cap at_ rv → ItIn Q w io its → (∀ A o sp, io = some ⟨A, o, sp⟩ → A ≠ g) → (∀ i ∈ its, i < Q.m) → its.length ≤ 1048576 → flQ Q its x y s = flQ Q (List.range Q.m) x y s → Calls Try.prog 50 #[.pointer (some ⟨g, 0, none⟩), rv, .slice io its.length ic, .int .i64 (D : Int)] w (ReadP Q f at_ x y s A off cap g w) := by
  intro f
  induction f with
  | zero =>
    intro g x y s lv at_ rv io ic its w hlv hl0 hq B0 hgb HB hrow hS hio hit hil hfl
    obtain ⟨ad, rfl, had⟩ := hrow
    have hlvI : (D : Int) < lv := by omega
    have m3 := B0.c 3 rfl
    by_cases hat : at_ < Q.N
    · obtain ⟨n1, hn1⟩ : ∃ n1, Q.N - at_ = n1 := ⟨_, rfl⟩
      rw [hn1]
      have HN1 : Hid (Q.N - at_ = n1) := hn1
      have h1 : ¬ (n1 : Int) = 0 := by omega
      have h1e : ((n1 : Int) == 0) = false := by simpa using h1
      have h1b : 0 < n1 := by omega
      have h1c : n1 ≤ cap - at_ := by omega
      have h1d : n1 ≤ 1048576 := by omega
      clear hn1
      go_enter Try.func50, Try.ntmps50
      clear hS hBl
      go_wp2
      refine bodyPost_ret (v := .tuple #[.slice none 0 0, .bool false]) (by simp [results, Try.results50, go_sem]) rfl ?_
      exact ⟨_, _, rfl, rfl, fun e he => (by cases he), grown_of (Below.refl _ _) _⟩
    · have h1 : Q.N - at_ = 0 := by omega
      rw [h1]
      go_enter Try.func50, Try.ntmps50
      clear hS hBl
      go_wp2
      refine bodyPost_ret (v := .tuple #[.slice none 0 0, .bool false]) (by simp [results, Try.results50, go_sem]) rfl ?_
      exact ⟨_, _, rfl, rfl, fun e he => (by cases he), grown_of (Below.refl _ _) _⟩
  | succ d ih =>
    intro g x y s lv at_ rv io ic its w hlv hl0 hq B0 hgb HB hrow hS hio hit hil hfl
    obtain ⟨ad, rfl, had⟩ := hrow
    have hlvI : lv ≤ (D : Int) := by omega
    have hlvJ : ¬ ((D : Int) < lv) := by omega
    have m3 := B0.c 3 rfl
    by_cases hat : at_ < Q.N
    · obtain ⟨n1, hn1⟩ : ∃ n1, Q.N - at_ = n1 := ⟨_, rfl⟩
      rw [hn1]
      have HN1 : Hid (Q.N - at_ = n1) := hn1
      have h1 : ¬ (n1 : Int) = 0 := by omega
      have h1e : ((n1 : Int) == 0) = false := by simpa using h1
      have h1b : 0 < n1 := by omega
      have h1c : n1 ≤ cap - at_ := by omega
      have h1d : n1 ≤ 1048576 := by omega
      clear hn1
      obtain rfl := had hat
      obtain ⟨hA, c0, c1, c2, c3, c4, hNo⟩ := hBl.below HB at_ hat
      have hgl := B0.lt
      go_enter Try.func50, Try.ntmps50
      go_upto_region 3 with fail
      refine qrA (A := A) (ra := off + at_ * 5) (n := n1) (ca := cap - at_) (bx := Q.X at_) (by_ := Q.Y at_) (bz := Q.Z at_) (bt := Q.T at_) (bo := (so at_).1) (bl := Q.L at_) (bc := (so at_).2) (Wd := w.drew) h1b h1c h1d (Nat.le_refl _) rfl rfl c0 hA c1 hA c2 hA c3 hA c4 hA rfl ?_
      rintro ⟨tm, df⟩ Wz hz hdf hoff h10 h11 hBz hWz
      simp only at hz hdf hoff h10
      change tm.getD 10 undef = .pointer (some ⟨w.heap.size, 0, none⟩) at h10
      change RestV A (off + at_ * 5) n1 (cap - at_) (tm.getD 11 undef) at h11
      rw [← HN1.out] at h11
      replace h11 := RowAt.next h11
      subst hdf
      generalize hr1 : tm.getD 11 undef = rv1 at h11
      have htm := tmps_fold [27, 28, 29, 30, 31, 10, 11] tm _ hz hoff
      simp only [List.foldl, List.setIfInBounds_toArray, List.set_cons_zero, List.set_cons_succ, h10, hr1] at htm
      clear hz hoff
      generalize tm.getD 27 undef = pz0, tm.getD 28 undef = pz1, tm.getD 29 undef = pz2, tm.getD 30 undef = pz3, tm.getD 31 undef = pz4 at htm
      clear h10 hr1
      subst htm
      have C0 : Blk Wz w.heap.size [.int .i64 (Q.X at_), .int .i64 (Q.Y at_), .int .i64 (Q.Z at_), .bool (Q.T at_), .slice (so at_).1 (Q.L at_) (so at_).2] := by
        rw [hWz]
        exact (((((Blk.new w.drew [.int .i64 0, .int .i64 0, .int .i64 0, .bool false, .slice none 0 0] 95 rfl).setI 0 (by decide) (.int .i64 (Q.X at_))).setI 1 (by simp) (.int .i64 (Q.Y at_))).setI 2 (by simp) (.int .i64 (Q.Z at_))).setI 3 (by simp) (.bool (Q.T at_))).setI 4 (by simp) (.slice (so at_).1 (Q.L at_) (so at_).2)
      clear hWz c0 c1 c2 c3 c4 m3
      replace B0 := B0.step hBz
      replace HB := HB.trans (hBz.mono HB.size)
      replace hS := hS.step hBz
      have HG : w.grownBy Wz (some g) := grown_of hBz _
      have hwz := hBz.size
      clear hBz
      have hCl := C0.lt
      have hgz := B0.lt
      go_upto_region 4 with fail
      by_cases hxy : Q.X at_ = x ∧ Q.Y at_ = y
      · obtain ⟨hx1, hy1⟩ := hxy
        refine qrC (F := w.heap.size) (g := g) (bx := Q.X at_) (by_ := Q.Y at_) (bz := Q.Z at_) (x := x) (y := y) (s := s) (fun w => by rw [eqSpR, hx1, hy1]; simp) rfl rfl (C0.c 0 rfl) hCl (C0.c 1 rfl) hCl (B0.c 0 rfl) hgz (B0.c 1 rfl) hgz (C0.c 2 rfl) hCl (B0.c 2 rfl) hgz rfl ?_
        rintro ⟨tm, df⟩ Wy hz hdf hoff hx hBy
        simp only at hz hdf hoff hx
        change tm.getD 50 undef = .bool (decide (¬ (Q.Z at_ = s))) at hx
        subst hdf
        have htm := tmps_fold [32, 33, 34, 35, 36, 37, 38, 39, 40, 41, 42, 43, 44, 45, 46, 47, 48, 49, 50] tm _ hz hoff
        simp only [List.foldl, List.setIfInBounds_toArray, List.set_cons_zero, List.set_cons_succ, hx] at htm
        clear hz hoff
        generalize tm.getD 32 undef = py0, tm.getD 33 undef = py1, tm.getD 34 undef = py2, tm.getD 35 undef = py3, tm.getD 36 undef = py4, tm.getD 37 undef = py5, tm.getD 38 undef = py6, tm.getD 39 undef = py7, tm.getD 40 undef = py8, tm.getD 41 undef = py9, tm.getD 42 undef = py10, tm.getD 43 undef = py11, tm.getD 44 undef = py12, tm.getD 45 undef = py13, tm.getD 46 undef = py14, tm.getD 47 undef = py15, tm.getD 48 undef = py16, tm.getD 49 undef = py17 at htm
        clear hx
        subst htm
        replace HG := grown_trans HG (grown_of hBy _)
        replace C0 := C0.step hBy
        replace B0 := B0.step hBy
        replace hS := hS.step hBy
        replace HB := HB.trans (hBy.mono HB.size)
        have hwy : w.heap.size < Wy.heap.size := C0.lt
        clear hBy
        have h6i : Its6 Q its := fun i hi => h6 i (List.mem_range.2 (hit i hi))
        by_cases hzs : Q.Z at_ = s
        · rw [decide_eq_false (fun h => h hzs)]
          have hbase : baseB Q at_ x y s = true := decide_eq_true ⟨hat, hx1, hy1, hzs⟩
          have t3 := C0.c 3 rfl
          have HBL : Hid (BlIn Q wb A off so) := hBl
          clear hBl hNo
          cases hT : Q.T at_ with
          | false =>
            rw [hT] at t3
            have FL := fill_any Q g x y s lv _ _ io ic its hq h6i hil Wy B0 hS
            rw [hfl] at FL
            clear hS B0
            go_wp2_with fail
            refine FL.mono ?_
            rintro r w2 ⟨rfl, v2, B2, ⟨ao2, c2, rfl, hN2⟩, HG2⟩
            clear FL t3
            have C2 := C0.grown HG2 (fun e => by have := Option.some.inj e; omega)
            have HB2 := grown_below HB HG2 hgb
            have hNo2 := (HBL.out.below HB2 at_ hat).2.2.2.2.2.2
            replace HG := grown_trans HG HG2
            clear C0 HB HG2
            go_upto_region 8 with fail
            refine qrD (F := w.heap.size) (g := g) (n := Q.L at_) (ca := (so at_).2) (m := (flQ Q (List.range Q.m) x y s).length) (cb := c2) (ao := (so at_).1) (co := ao2) (ef := Q.E at_) (ff := fun j => (idL Q (flQ Q (List.range Q.m) x y s)).getD j 0) (rv := rv1) (hLb at_ hat) hNo2 hN2 rfl rfl rfl (C2.c 4 rfl) C2.lt (B2.c 4 rfl) B2.lt rfl ?_
            rintro ⟨tm, df⟩ Wx hz hdf hoff h8 h9 hBx
            simp only at hz hdf hoff h8 h9
            change tm.getD 8 undef = rv1 at h8
            change tm.getD 9 undef = .bool (decide (Q.L at_ = (flQ Q (List.range Q.m) x y s).length ∧ ∀ i, i < Q.L at_ → Q.E at_ i = (idL Q (flQ Q (List.range Q.m) x y s)).getD i 0)) at h9
            rw [leaf_eq] at h9
            subst hdf
            have htm := tmps_fold [57, 58, 59, 60, 61, 62, 63, 64, 8, 9] tm _ hz hoff
            simp only [List.foldl, List.setIfInBounds_toArray, List.set_cons_zero, List.set_cons_succ, h8, h9] at htm
            clear hz hoff
            generalize tm.getD 57 undef = px0, tm.getD 58 undef = px1, tm.getD 59 undef = px2, tm.getD 60 undef = px3, tm.getD 61 undef = px4, tm.getD 62 undef = px5, tm.getD 63 undef = px6, tm.getD 64 undef = px7 at htm
            clear h8 h9
            subst htm
            replace HG := grown_trans HG (grown_of hBx _)
            have HL := rdF_leaf (d := d) hbase hT
            have h11' : Hid (RowAt A off Q.N cap (at_ + 1) rv1) := h11
            clear hBx C2 B2 HB2 hNo2 hN2 h11
            go_wp2
            refine bodyPost_ret (v := .tuple #[rv1, .bool (leafB Q at_ x y s)]) (by simp [results, Try.results50, go_sem]) rfl ?_
            refine ⟨_, _, rfl, ?_, fun e he => ?_, HG⟩
            · rw [HL]; cases leafB Q at_ x y s <;> rfl
            · rw [HL] at he
              split at he
              · cases he; exact ⟨hat, h11'.out⟩
              · cases he
          | true =>
            rw [hT] at t3
            have QT := quarters_any g x y s lv _ _ hq hl0 (by omega) Wy B0
            obtain ⟨hf, hhf⟩ : ∃ hf, s / 2 = hf := ⟨_, rfl⟩
            rw [hhf] at QT
            go_wp2_with fail
            refine QT.mono ?_
            rintro r w2 ⟨kv, gs, rfl, HK, hB2⟩
            clear QT t3
            replace C0 := C0.step hB2
            replace B0 := B0.step hB2
            replace hS := hS.step hB2
            replace HB := HB.trans (hB2.mono HB.size)
            replace HG := grown_trans HG (grown_of hB2 _)
            have hwy2 := hB2.size
            clear hB2
            obtain ⟨kb, kc, hkv, hkb0, hkb1⟩ : ∃ kb kc, kv = .slice (some ⟨kb, 0, none⟩) 4 kc ∧ Wy.heap.size ≤ kb ∧ kb < w2.heap.size := by
              rcases HK.own.2 with ⟨_, e⟩ | ⟨b, c, cur, e, hb, hg2, _⟩
              · cases e
              · exact ⟨b, c, e, hb, (Array.getElem?_eq_some_iff.1 hg2).1⟩
            subst hkv
            have hgw : g < w.heap.size := hgl
            have y5 := B0.c 5 rfl; have f5 := B0.f 5 rfl
            have B3 : BkB (w2.setCell ⟨g, 5, none⟩ (.slice (some ⟨kb, 0, none⟩) 4 kc)) g x y s lv (.slice none 0 0) (.slice (some ⟨kb, 0, none⟩) 4 kc) := B0.setI 5 (by simp) (.slice (some ⟨kb, 0, none⟩) 4 kc)
            have HG3 : w2.grownBy (w2.setCell ⟨g, 5, none⟩ (.slice (some ⟨kb, 0, none⟩) 4 kc)) (some g) := grown_set (Below.refl _ _) 5 _
            have C3 := C0.grown HG3 (fun e => by have := Option.some.inj e; omega)
            have hS3 := hS.grown HG3 hio
            have HB3 := grown_below HB HG3 hgb
            have KD : ∀ j, j < 4 → Wy.heap.size ≤ gs j ∧ gs j < w2.heap.size ∧ BkB (w2.setCell ⟨g, 5, none⟩ (.slice (some ⟨kb, 0, none⟩) 4 kc)) (gs j) (kX x hf j) (kY y hf j) hf (lv + 1) (.slice none 0 0) (.slice none 0 0) := fun j hj => ⟨(HK.kid j hj).1, (HK.kid j hj).2.lt, (HK.kid j hj).2.grown HG3 (fun e => by have := Option.some.inj e; have := (HK.kid j hj).1; omega)⟩
            have KC : ∀ j, j < 4 → (w2.setCell ⟨g, 5, none⟩ (.slice (some ⟨kb, 0, none⟩) 4 kc)).cell? ⟨kb, j, none⟩ = some (.pointer (some ⟨gs j, 0, none⟩)) := fun j hj => by
              have h := HK.own.cells rfl j (.pointer (some ⟨gs j, 0, none⟩)) (by unfold gpL; simp [hj])
              rw [Addr.add_lit, Nat.zero_add] at h
              rw [← h]
              exact World.cell?_of_block (w := w2) (a := ⟨kb, j, none⟩) (HG3.block kb hkb1 (fun e => by have := Option.some.inj e; omega))
            have KN : ∀ j, j < 4 → gs j ≠ kb := fun j hj e => HK.d1 j hj (by rw [e]; rfl)
            have KD2 : ∀ i j, i < 4 → j < 4 → i ≠ j → gs i ≠ gs j := HK.d2
            replace HG := grown_trans HG HG3
            have hs3 : (w2.setCell ⟨g, 5, none⟩ (.slice (some ⟨kb, 0, none⟩) 4 kc)).heap.size = w2.heap.size := by simp [World.setCell]
            clear B0 C0 hS HB HK HG3
            go_upto_region 10 with fail
            clear y5 f5
            generalize (w2.setCell ⟨g, 5, none⟩ (.slice (some ⟨kb, 0, none⟩) 4 kc)) = w3 at *
            have MT := meeting_any Q g x y s lv _ _ io ic its hq h6i hil w3 B3 hS3
            go_wp2_with fail
            refine MT.mono ?_
            rintro r w4 ⟨iv, rfl, HI, hB4⟩
            clear MT hS3
            rw [hfl] at HI
            obtain ⟨io2, ic2, rfl, hI⟩ := ItIn.of HI
            have hio2 : ∀ A o sp, io2 = some ⟨A, o, sp⟩ → w3.heap.size ≤ A := fun A o sp e => (HI.lt A (by rw [e]; rfl)).1
            replace B3 := B3.step hB4
            replace C3 := C3.step hB4
            replace HB3 := HB3.trans (hB4.mono HB3.size)
            replace HG := grown_trans HG (grown_of hB4 _)
            have KD4 : ∀ j, j < 4 → BkB w4 (gs j) (kX x hf j) (kY y hf j) hf (lv + 1) (.slice none 0 0) (.slice none 0 0) := fun j hj => (KD j hj).2.2.step hB4
            have KG : ∀ j, j < 4 → Wy.heap.size ≤ gs j ∧ gs j < w2.heap.size := fun j hj => ⟨(KD j hj).1, (KD j hj).2.1⟩
            have KC4 : ∀ j, j < 4 → w4.cell? ⟨kb, j, none⟩ = some (.pointer (some ⟨gs j, 0, none⟩)) := fun j hj => (hB4.cell (p := ⟨kb, j, none⟩) (by show kb < w3.heap.size; omega)).trans (KC j hj)
            have hkb4 : kb < w4.heap.size := by have := hB4.size; omega
            clear KD KC HI hB4
            have z4 := C3.c 4 rfl
            have b5 := B3.c 5 rfl
            have hLI : (Q.L at_ : Int) ≤ 1048576 := by have := hLb at_ hat; omega
            generalize hinl : flQ Q (List.range Q.m) x y s = inl at hI ⊢
            have HIN : Hid (flQ Q (List.range Q.m) x y s = inl) := hinl
            clear hinl hfl
            go_wp2_with fail
            go_loopw [11, 13, 82] (fun rr okv i wr => ∃ (k : Nat) (b : Bool), k ≤ 4 ∧ i = .int .i64 k ∧ okv = .bool b ∧ b = (decide (Q.L at_ = 0) && (kp (fun a x y => rdF Q d a x y hf) (at_ + 1) x y hf k).isSome) ∧ (∀ e, kp (fun a x y => rdF Q d a x y hf) (at_ + 1) x y hf k = some e → Q.L at_ = 0 → e ≤ Q.N ∧ RowAt A off Q.N cap e rr) ∧ (∀ j, k ≤ j → j < 4 → BkB wr (gs j) (kX x hf j) (kY y hf j) hf (lv + 1) (.slice none 0 0) (.slice none 0 0)) ∧ (∀ j, j < 4 → wr.cell? ⟨kb, j, none⟩ = some (.pointer (some ⟨gs j, 0, none⟩))) ∧ kb < wr.heap.size ∧ ItIn Q wr io2 inl ∧ w.grownBy wr (some g) ∧ Below wb.heap.size wb wr) (fun _ _ i _ => 4 - (intOf i).toNat)
            case atStart =>
              refine ⟨0, decide (Q.L at_ = 0), by omega, rfl, ?_, by simp [kp], fun e he _ => ?_, fun j _ hj => KD4 j hj, KC4, hkb4, hI, HG, HB3⟩
              · first | rfl | (congr 1; rw [Bool.eq_iff_iff]; simp)
              · cases he; exact ⟨hat, h11⟩
            case round =>
              clear KD4 KC4 hkb4 hI HG HB3 B3 C3 z4 b5 h11
              obtain ⟨k, b, hk, rfl, rfl, hb, hrw, KDk, KCk, hkbk, hIk, HGk, HBk⟩ := hrel
              by_cases hk4 : k < 4
              · have hkI : (k : Int) < 4 := by omega
                have ck := KCk k hk4
                have hkg := KG k hk4
                cases b with
                | false =>
                  have hkn : Q.L at_ = 0 → kp (fun a x y => rdF Q d a x y hf) (at_ + 1) x y hf (k + 1) = none := fun e => by
                    rw [decide_eq_true e, Bool.true_and] at hb
                    show (kp (fun a x y => rdF Q d a x y hf) (at_ + 1) x y hf k).bind _ = none
                    cases h : kp (fun a x y => rdF Q d a x y hf) (at_ + 1) x y hf k with
                    | none => rfl
                    | some e0 => rw [h] at hb; cases hb
                  have HbN : Hid (false = (decide (Q.L at_ = 0) && (kp (fun a x y => rdF Q d a x y hf) (at_ + 1) x y hf (k + 1)).isSome)) := by
                    show _ = _
                    by_cases e : Q.L at_ = 0
                    · rw [hkn e]; simp
                    · rw [decide_eq_false e]; rfl
                  have HrN : Hid (∀ e, kp (fun a x y => rdF Q d a x y hf) (at_ + 1) x y hf (k + 1) = some e → Q.L at_ = 0 → e ≤ Q.N ∧ RowAt A off Q.N cap e u11) := fun e he hl => by rw [hkn hl] at he; cases he
                  have KDN : Hid (∀ j, k + 1 ≤ j → j < 4 → BkB wr (gs j) (kX x hf j) (kY y hf j) hf (lv + 1) (.slice none 0 0) (.slice none 0 0)) := fun j h1 h2 => KDk j (by omega) h2
                  have HK2 : Hid (∀ j, j < 4 → wr.cell? ⟨kb, j, none⟩ = some (.pointer (some ⟨gs j, 0, none⟩))) := KCk
                  clear hkn hb hrw KDk KCk ih KD2 KN KG
                  go_wp2
                  go_roundw
                  case rel => exact ⟨k + 1, false, by omega, by go_num, rfl, HbN.out, HrN.out, KDN.out, HK2.out, hkbk, hIk, HGk, HBk⟩
                  case measure => simp [intOf]; omega
                | true =>
                  have hL0 : Hid (Q.L at_ = 0) := by
                    show _ = _
                    apply Classical.byContradiction
                    intro e
                    rw [decide_eq_false e] at hb
                    cases hb
                  obtain ⟨e0, he0⟩ : ∃ e, kp (fun a x y => rdF Q d a x y hf) (at_ + 1) x y hf k = some e := by
                    cases h : kp (fun a x y => rdF Q d a x y hf) (at_ + 1) x y hf k with
                    | none => rw [h, decide_eq_true hL0.out] at hb; cases hb
                    | some e => exact ⟨e, rfl⟩
                  obtain ⟨_, hrow0⟩ := hrw e0 he0 hL0.out
                  have hkp : kp (fun a x y => rdF Q d a x y hf) (at_ + 1) x y hf (k + 1) = rdF Q d e0 (kX x hf k) (kY y hf k) hf := by show (kp (fun a x y => rdF Q d a x y hf) (at_ + 1) x y hf k).bind _ = _; rw [he0]; rfl
                  have hsq : Sq (kX x hf k) (kY y hf k) hf := by
                    have q1 := hq.x1; have q2 := hq.y1; have q3 := hq.s1; have q4 := hq.x2; have q5 := hq.y2
                    have hi := kid_in (x := x) (y := y) hq.s1 hk4
                    rw [hhf] at hi
                    exact ⟨by omega, by omega, by omega, by omega, by omega⟩
                  have hiog : ∀ A o sp, io2 = some ⟨A, o, sp⟩ → A ≠ gs k := fun A o sp e => by have := hio2 A o sp e; omega
                  have RD := ih (gs k) (kX x hf k) (kY y hf k) hf (lv + 1) e0 u11 io2 ic2 inl wr (by omega) (by omega) hsq (KDk k (Nat.le_refl _) hk4) (by omega) HBk hrow0 hIk hiog (fun i hi => by
                    rw [← HIN.out] at hi
                    exact List.mem_range.1 (List.mem_filter.1 hi).1) (by
                    rw [← HIN.out]
                    exact Nat.le_trans (List.length_filter_le _ _) (by rw [List.length_range]; exact hm)) (by
                    rw [← HIN.out, ← hhf]
                    exact fl_kid hq.s1 hk4 _)
                  have HKD : Hid (∀ j, k ≤ j → j < 4 → BkB wr (gs j) (kX x hf j) (kY y hf j) hf (lv + 1) (.slice none 0 0) (.slice none 0 0)) := KDk
                  have HKC : Hid (∀ j, j < 4 → wr.cell? ⟨kb, j, none⟩ = some (.pointer (some ⟨gs j, 0, none⟩))) := KCk
                  have HKN : Hid (∀ j, j < 4 → gs j ≠ kb) := KN
                  have HKD2 : Hid (∀ i j, i < 4 → j < 4 → i ≠ j → gs i ≠ gs j) := KD2
                  have HKG : Hid (∀ j, j < 4 → Wy.heap.size ≤ gs j ∧ gs j < w2.heap.size) := KG
                  clear hb hrw KDk KCk ih KD2 KN KG
                  go_wp2_with fail
                  refine RD.mono ?_
                  rintro r w5 ⟨v5, b5', rfl, hb5, hr5, HGr⟩
                  have KDN : Hid (∀ j, k + 1 ≤ j → j < 4 → BkB w5 (gs j) (kX x hf j) (kY y hf j) hf (lv + 1) (.slice none 0 0) (.slice none 0 0)) := fun j h1 h2 => (HKD.out j (by omega) h2).grown HGr (fun e => HKD2.out j k h2 hk4 (by omega) (Option.some.inj e))
                  have KCN : Hid (∀ j, j < 4 → w5.cell? ⟨kb, j, none⟩ = some (.pointer (some ⟨gs j, 0, none⟩))) := fun j hj => (World.cell?_of_block (w := wr) (a := ⟨kb, j, none⟩) (HGr.block kb hkbk (fun e => HKN.out k hk4 (Option.some.inj e).symm))).trans (HKC.out j hj)
                  have hIN := hIk.grown HGr hiog
                  have HGN : w.grownBy w5 (some g) := grown_new HGk (by omega) HGr
                  have HBN := grown_below HBk HGr (by omega)
                  have hkbN := Nat.lt_of_lt_of_le hkbk HGr.size
                  have HbN : Hid (b5' = (decide (Q.L at_ = 0) && (kp (fun a x y => rdF Q d a x y hf) (at_ + 1) x y hf (k + 1)).isSome)) := by show _ = _; rw [hkp, decide_eq_true hL0.out, Bool.true_and]; exact hb5
                  have HrN : Hid (∀ e, kp (fun a x y => rdF Q d a x y hf) (at_ + 1) x y hf (k + 1) = some e → Q.L at_ = 0 → e ≤ Q.N ∧ RowAt A off Q.N cap e v5) := fun e he _ => by rw [hkp] at he; exact hr5 e he
                  have HKN2 : Hid (∀ i j, i < 4 → j < 4 → i ≠ j → gs i ≠ gs j) := HKD2
                  clear RD HGr hb5 hr5 hkp he0 hrow0 hIk HGk HBk ck
                  go_wp2
                  go_roundw
                  case rel => exact ⟨k + 1, b5', by omega, by go_num, rfl, HbN.out, HrN.out, KDN.out, KCN.out, hkbN, hIN, HGN, HBN⟩
                  case measure => simp [intOf]; omega
              · obtain rfl : k = 4 := by omega
                have HS4 := rdF_split (d := d) hbase hT
                rw [hhf] at HS4
                have hb' : Hid (b = (rdF Q (d + 1) at_ x y s).isSome) := by
                  show _ = _
                  rw [HS4, hb]
                  by_cases e : Q.L at_ = 0
                  · rw [if_pos e, decide_eq_true e, Bool.true_and]
                  · rw [if_neg e, decide_eq_false e]; rfl
                have hr' : Hid (∀ e, rdF Q (d + 1) at_ x y s = some e → e ≤ Q.N ∧ RowAt A off Q.N cap e u11) := fun e he => by
                  rw [HS4] at he
                  split at he
                  · rename_i h; exact hrw e he h
                  · cases he
                clear hb hrw KDk KCk ih KD2 KN KG HS4
                go_wp2
                refine bodyPost_ret (v := .tuple #[u11, .bool b]) (by simp [results, Try.results50, go_sem]) rfl ?_
                exact ⟨_, _, rfl, hb'.out, hr'.out, HGk⟩
        · rw [decide_eq_true hzs]
          have hno : rdF Q (d + 1) at_ x y s = none := rdF_no (decide_eq_false (fun h => hzs h.2.2.2))
          clear C0 B0 HB hS hBl
          go_wp2
          refine bodyPost_ret (v := .tuple #[.slice none 0 0, .bool false]) (by simp [results, Try.results50, go_sem]) rfl ?_
          exact ⟨_, _, rfl, by rw [hno]; rfl, (fun e he => by rw [hno] at he; cases he), HG⟩
      · have hno : rdF Q (d + 1) at_ x y s = none := rdF_no (decide_eq_false (fun h => hxy ⟨h.2.1, h.2.2.1⟩))
        refine qrB (F := w.heap.size) (g := g) (bx := Q.X at_) (by_ := Q.Y at_) (x := x) (y := y) (fun w => by
          rw [eqSpR]
          congr 1
          refine Bool.eq_false_iff.2 fun hh => hxy ?_
          simpa using hh) rfl rfl (C0.c 0 rfl) hCl (C0.c 1 rfl) hCl (B0.c 0 rfl) hgz (B0.c 1 rfl) hgz rfl ?_
        rintro ⟨tm, df⟩ Wy hz hdf hoff hx hBy
        simp only at hz hdf hoff hx
        change tm.getD 50 undef = .bool true at hx
        subst hdf
        have htm := tmps_fold [32, 33, 34, 35, 36, 37, 38, 39, 40, 41, 42, 43, 44, 45, 46, 47, 48, 49, 50] tm _ hz hoff
        simp only [List.foldl, List.setIfInBounds_toArray, List.set_cons_zero, List.set_cons_succ, hx] at htm
        clear hz hoff
        generalize tm.getD 32 undef = py0, tm.getD 33 undef = py1, tm.getD 34 undef = py2, tm.getD 35 undef = py3, tm.getD 36 undef = py4, tm.getD 37 undef = py5, tm.getD 38 undef = py6, tm.getD 39 undef = py7, tm.getD 40 undef = py8, tm.getD 41 undef = py9, tm.getD 42 undef = py10, tm.getD 43 undef = py11, tm.getD 44 undef = py12, tm.getD 45 undef = py13, tm.getD 46 undef = py14, tm.getD 47 undef = py15, tm.getD 48 undef = py16, tm.getD 49 undef = py17 at htm
        clear hx
        subst htm
        replace HG := grown_trans HG (grown_of hBy _)
        clear hBy C0 B0 HB hS hBl
        go_wp2
        refine bodyPost_ret (v := .tuple #[.slice none 0 0, .bool false]) (by simp [results, Try.results50, go_sem]) rfl ?_
        exact ⟨_, _, rfl, by rw [hno]; rfl, (fun e he => by rw [hno] at he; cases he), HG⟩
    · have h1 : Q.N - at_ = 0 := by omega
      rw [h1]
      have hno : rdF Q (d + 1) at_ x y s = none := rdF_no (decide_eq_false (fun h => hat h.1))
      go_enter Try.func50, Try.ntmps50
      clear hS hBl
      go_wp2
      refine bodyPost_ret (v := .tuple #[.slice none 0 0, .bool false]) (by simp [results, Try.results50, go_sem]) rfl ?_
      exact ⟨_, _, rfl, by rw [hno]; rfl, (fun e he => by rw [hno] at he; cases he), grown_of (Below.refl _ _) _⟩
end Go.Proofs.Ytaagmdhbfbikfaa
