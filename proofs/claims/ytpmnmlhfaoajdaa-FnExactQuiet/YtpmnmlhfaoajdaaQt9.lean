/- Part 9 of the walks that the proof leans on. -/
import Derived.Test.YtpmnmlhfaoajdaaQt8
import Derived.OwnWalkIn
import Derived.RangeFuncBox
import Derived.Test.YtpmnmlhfaoajdaaQt7
import Derived.Test.YtpmnmlhfaoajdaaQt3
import Derived.Test.YtpmnmlhfaoajdaaQt5
import Derived.SizedLaws
import Derived.Deep.Slices
import Derived.Test.YtpmnmlhfaoajdaaRows
import Derived.ProofKit
import Derived.Lib.SmallJoins
/- Segments that are quiet: the program. -/
namespace Go.Proofs.Ytpmnmlhfaoajdaa
open Go.RowKit Go.Shelf
attribute [local go_sem] Oper.semAt_some
def VqtIr (Bp A off n cap ci ck : Nat) (xa xb xc xd ya yb yc yd : Int) (rr : Bool) (_B : Nat) : Nat → Value → World → Prop
  | 0, v, _ => v = .slice (some ⟨A, off, none⟩) n cap
  | 1, v, _ => v = .pointer (some ⟨Bp, 0, none⟩)
  | 2, v, _ => v = .int .i64 (ci : Nat)
  | 3, v, _ => v = .pointer (some ⟨A, off + ci * 4, none⟩)
  | 4, v, _ => v = .agg #[.int .i64 xa, .int .i64 xb, .int .i64 xc, .int .i64 xd]
  | 5, v, _ => v = .slice (some ⟨A, off, none⟩) n cap
  | 6, v, _ => v = .pointer (some ⟨Bp, 1, none⟩)
  | 7, v, _ => v = .int .i64 (ck : Nat)
  | 8, v, _ => v = .pointer (some ⟨A, off + ck * 4, none⟩)
  | 9, v, _ => v = .agg #[.int .i64 ya, .int .i64 yb, .int .i64 yc, .int .i64 yd]
  | 10, v, _ => v = .bool rr
  | 11, v, _ => v = .bool (!rr)
  | _, _, _ => True
theorem VqtIr.mono {Bp A off n cap ci ck : Nat} {xa xb xc xd ya yb yc yd : Int} {rr : Bool} {B j : Nat} {v : Value} {W W2 : World} (_hS : ∀ g k, BlkN W g k → BlkN W2 g k) (h : VqtIr Bp A off n cap ci ck xa xb xc xd ya yb yc yd rr B j v W) : VqtIr Bp A off n cap ci ck xa xb xc xd ya yb yc yd rr B j v W2 := by
  unfold VqtIr at *
  split <;> simp only at h <;> first | exact h | trivial
set_option maxRecDepth 100000 in
set_option maxHeartbeats 4000000 in
theorem qtIr {Q : Exit → Act → World → Prop} {Bp A off n cap ci ck : Nat} {xa xb xc xd ya yb yc yd : Int} {rr : Bool} {B1 : Nat}  {lr nr : Nat} {w0 : World} {a0 : Act} {idq : Nat} {t0 t1 t2 t3 t4 t5 t6 t7 t8 t9 t10 t11 : TypeId} {q0 q1 q2 q3 q4 q5 q6 q7 q8 q9 q10 q11 : String}
    (cn : (ci : Int) < (n : Int)) (kn : (ck : Int) < (n : Int)) (hA : ∀ w', Calls Try.prog 35 #[.agg #[.int .i64 xa, .int .i64 xb, .int .i64 xc, .int .i64 xd], .agg #[.int .i64 ya, .int .i64 yb, .int .i64 yc, .int .i64 yd]] w' (VP (.bool rr) w')) (h1 : a0.tmps[1]? = some (.pointer (some ⟨B1, 0, none⟩))) (h3 : a0.tmps[3]? = some (.pointer (some ⟨Bp, 0, none⟩))) (k0 : w0.cell? ⟨B1, 0, none⟩ = some (.slice (some ⟨A, off, none⟩) n cap)) (l0 : (⟨B1, 0, none⟩ : Addr).block < w0.heap.size) (k1 : w0.cell? ⟨Bp, 0, none⟩ = some (.int .i64 (ci : Nat))) (l1 : (⟨Bp, 0, none⟩ : Addr).block < w0.heap.size) (k2 : w0.cell? ⟨Bp, 1, none⟩ = some (.int .i64 (ck : Nat))) (l2 : (⟨Bp, 1, none⟩ : Addr).block < w0.heap.size) (k3 : w0.cell? ⟨A, off + ci * 4, none⟩ = some (.int .i64 xa)) (l3 : (⟨A, off + ci * 4, none⟩ : Addr).block < w0.heap.size) (k4 : w0.cell? ⟨A, off + ci * 4 + 1, none⟩ = some (.int .i64 xb)) (l4 : (⟨A, off + ci * 4 + 1, none⟩ : Addr).block < w0.heap.size) (k5 : w0.cell? ⟨A, off + ci * 4 + 2, none⟩ = some (.int .i64 xc)) (l5 : (⟨A, off + ci * 4 + 2, none⟩ : Addr).block < w0.heap.size) (k6 : w0.cell? ⟨A, off + ci * 4 + 3, none⟩ = some (.int .i64 xd)) (l6 : (⟨A, off + ci * 4 + 3, none⟩ : Addr).block < w0.heap.size) (k7 : w0.cell? ⟨A, off + ck * 4, none⟩ = some (.int .i64 ya)) (l7 : (⟨A, off + ck * 4, none⟩ : Addr).block < w0.heap.size) (k8 : w0.cell? ⟨A, off + ck * 4 + 1, none⟩ = some (.int .i64 yb)) (l8 : (⟨A, off + ck * 4 + 1, none⟩ : Addr).block < w0.heap.size) (k9 : w0.cell? ⟨A, off + ck * 4 + 2, none⟩ = some (.int .i64 yc)) (l9 : (⟨A, off + ck * 4 + 2, none⟩ : Addr).block < w0.heap.size) (k10 : w0.cell? ⟨A, off + ck * 4 + 3, none⟩ = some (.int .i64 yd)) (l10 : (⟨A, off + ck * 4 + 3, none⟩ : Addr).block < w0.heap.size) (hz : a0.tmps.size = 22)
    (hQ : ∀ aq W, aq.tmps.size = a0.tmps.size → aq.defers = a0.defers → (∀ e, e ∉ ([10, 11, 12, 13, 14, 15, 16, 17, 18, 19, 20, 21] : List Nat) → aq.tmps[e]? = a0.tmps[e]?) → VqtIr Bp A off n cap ci ck xa xb xc xd ya yb yc yd rr w0.heap.size 11 (aq.tmps.getD 21 undef) W → Below w0.heap.size w0 W → Q .normal aq W) :
    (Code.region idq #[{ dst := some 10, op := Op.load 27 (Operand.tmp 1), type := t0, pos := q0, after := #[], guard := none },
    { dst := some 11, op := Op.fieldAddr 66 (Operand.tmp 3) 0, type := t1, pos := q1, after := #[], guard := none },
    { dst := some 12, op := Op.load 2 (Operand.tmp 11), type := t2, pos := q2, after := #[{ on := 1, ground := Ground.data }], guard := none },
    { dst := some 13, op := Op.indexAddr 27 (Operand.tmp 10) (Operand.tmp 12), type := t3, pos := q3, after := #[{ on := 0, ground := Ground.data }, { on := 2, ground := Ground.data }], guard := none },
    { dst := some 14, op := Op.load 64 (Operand.tmp 13), type := t4, pos := q4, after := #[{ on := 3, ground := Ground.data }], guard := none },
    { dst := some 15, op := Op.load 27 (Operand.tmp 1), type := t5, pos := q5, after := #[], guard := none },
    { dst := some 16, op := Op.fieldAddr 66 (Operand.tmp 3) 1, type := t6, pos := q6, after := #[], guard := none },
    { dst := some 17, op := Op.load 2 (Operand.tmp 16), type := t7, pos := q7, after := #[{ on := 6, ground := Ground.data }], guard := none },
    { dst := some 18, op := Op.indexAddr 27 (Operand.tmp 15) (Operand.tmp 17), type := t8, pos := q8, after := #[{ on := 5, ground := Ground.data }, { on := 7, ground := Ground.data }], guard := none },
    { dst := some 19, op := Op.load 64 (Operand.tmp 18), type := t9, pos := q9, after := #[{ on := 8, ground := Ground.data }], guard := none },
    { dst := some 20, op := Op.call { callee := Callee.value (Operand.func 35), args := #[Operand.tmp 14, Operand.tmp 19], argTypes := #[64, 64] }, type := t10, pos := q10, after := #[{ on := 4, ground := Ground.data }, { on := 9, ground := Ground.data }], guard := none },
    { dst := some 21, op := Op.unOp UnOp.not 4 (Operand.tmp 20), type := t11, pos := q11, after := #[{ on := 10, ground := Ground.data }], guard := none }] true).wpIn (Fence.wide.inRound lr) nr Try.prog Q a0 w0 := by
  have hS : distS [some 10, some 11, some 12, some 13, some 14, some 15, some 16, some 17, some 18, some 19, some 20, some 21] = true := rfl
  refine wpIn_region_q (by kernel_rfl) w0.heap.size [some 10, some 11, some 12, some 13, some 14, some 15, some 16, some 17, some 18, some 19, some 20, some 21] (VqtIr Bp A off n cap ci ck xa xb xc xd ya yb yc yd rr w0.heap.size) rfl ?_ ?_
  · intro Q lq aq W iq oq hJ hl ho hall
    have hJ2 := hJ
    obtain ⟨z1, z2, z3, z4, z5, z6, z7⟩ := hJ
    have g1 : aq.tmps.getD 1 undef = .pointer (some ⟨B1, 0, none⟩) := by rw [Array.getD_eq_getD_getElem?, z4 1 (by decide), h1]; rfl
    have g3 : aq.tmps.getD 3 undef = .pointer (some ⟨Bp, 0, none⟩) := by rw [Array.getD_eq_getD_getElem?, z4 3 (by decide), h3]; rfl
    have c0 : W.cell? ⟨B1, 0, none⟩ = some (.slice (some ⟨A, off, none⟩) n cap) := (z5.cell l0).trans k0
    have c1 : W.cell? ⟨Bp, 0, none⟩ = some (.int .i64 (ci : Nat)) := (z5.cell l1).trans k1
    have c2 : W.cell? ⟨Bp, 1, none⟩ = some (.int .i64 (ck : Nat)) := (z5.cell l2).trans k2
    have c3 : W.cell? ⟨A, off + ci * 4, none⟩ = some (.int .i64 xa) := (z5.cell l3).trans k3
    have c4 : W.cell? ⟨A, off + ci * 4 + 1, none⟩ = some (.int .i64 xb) := (z5.cell l4).trans k4
    have c5 : W.cell? ⟨A, off + ci * 4 + 2, none⟩ = some (.int .i64 xc) := (z5.cell l5).trans k5
    have c6 : W.cell? ⟨A, off + ci * 4 + 3, none⟩ = some (.int .i64 xd) := (z5.cell l6).trans k6
    have c7 : W.cell? ⟨A, off + ck * 4, none⟩ = some (.int .i64 ya) := (z5.cell l7).trans k7
    have c8 : W.cell? ⟨A, off + ck * 4 + 1, none⟩ = some (.int .i64 yb) := (z5.cell l8).trans k8
    have c9 : W.cell? ⟨A, off + ck * 4 + 2, none⟩ = some (.int .i64 yc) := (z5.cell l9).trans k9
    have c10 : W.cell? ⟨A, off + ck * 4 + 3, none⟩ = some (.int .i64 yd) := (z5.cell l10).trans k10
    match iq, ho with
    | 0, ho =>
      cases ho
      refine wpOpIn_of rfl rfl (by intro c h; cases h) ?_
      have hK := fun (v : Value) (W2 : World) hW hT hv => hJ2.put hS 0 10 rfl (by omega) (W' := W2) hW hT v hv
      clear ho hall hl hQ
      generalize InvQ _ _ _ w0 a0 (lq.setIfInBounds 0 true) = K at hK ⊢
      clear hJ2 hS z1 z2 z3 z4 z6 z7
      go_simp
      exact hK _ _ z5 (fun _ _ h => h) rfl
    | 1, ho =>
      cases ho
      refine wpOpIn_of rfl rfl (by intro c h; cases h) ?_
      have hK := fun (v : Value) (W2 : World) hW hT hv => hJ2.put hS 1 11 rfl (by omega) (W' := W2) hW hT v hv
      clear ho hall hl hQ
      generalize InvQ _ _ _ w0 a0 (lq.setIfInBounds 1 true) = K at hK ⊢
      clear hJ2 hS z1 z2 z3 z4 z6 z7
      go_simp
      exact hK _ _ z5 (fun _ _ h => h) rfl
    | 2, ho =>
      cases ho
      refine wpOpIn_of rfl rfl (by intro c h; cases h) ?_
      have f1 : (aq.tmps.getD 11 undef) = .pointer (some ⟨Bp, 0, none⟩) := z6 1 11 (hall { on := 1, ground := Ground.data } (by simp) rfl) rfl
      have hK := fun (v : Value) (W2 : World) hW hT hv => hJ2.put hS 2 12 rfl (by omega) (W' := W2) hW hT v hv
      clear ho hall hl hQ
      generalize InvQ _ _ _ w0 a0 (lq.setIfInBounds 2 true) = K at hK ⊢
      clear hJ2 hS z1 z2 z3 z4 z6 z7
      go_simp
      exact hK _ _ z5 (fun _ _ h => h) rfl
    | 3, ho =>
      cases ho
      refine wpOpIn_of rfl rfl (by intro c h; cases h) ?_
      have f0 : (aq.tmps.getD 10 undef) = .slice (some ⟨A, off, none⟩) n cap := z6 0 10 (hall { on := 0, ground := Ground.data } (by simp) rfl) rfl
      have f2 : (aq.tmps.getD 12 undef) = .int .i64 (ci : Nat) := z6 2 12 (hall { on := 2, ground := Ground.data } (by simp) rfl) rfl
      have hK := fun (v : Value) (W2 : World) hW hT hv => hJ2.put hS 3 13 rfl (by omega) (W' := W2) hW hT v hv
      clear ho hall hl hQ
      generalize InvQ _ _ _ w0 a0 (lq.setIfInBounds 3 true) = K at hK ⊢
      clear hJ2 hS z1 z2 z3 z4 z6 z7
      go_simp
      exact hK _ _ z5 (fun _ _ h => h) rfl
    | 4, ho =>
      cases ho
      refine wpOpIn_of rfl rfl (by intro c h; cases h) ?_
      have f3 : (aq.tmps.getD 13 undef) = .pointer (some ⟨A, off + ci * 4, none⟩) := z6 3 13 (hall { on := 3, ground := Ground.data } (by simp) rfl) rfl
      have hK := fun (v : Value) (W2 : World) hW hT hv => hJ2.put hS 4 14 rfl (by omega) (W' := W2) hW hT v hv
      clear ho hall hl hQ
      generalize InvQ _ _ _ w0 a0 (lq.setIfInBounds 4 true) = K at hK ⊢
      clear hJ2 hS z1 z2 z3 z4 z6 z7
      go_simp
      exact hK _ _ z5 (fun _ _ h => h) rfl
    | 5, ho =>
      cases ho
      refine wpOpIn_of rfl rfl (by intro c h; cases h) ?_
      have hK := fun (v : Value) (W2 : World) hW hT hv => hJ2.put hS 5 15 rfl (by omega) (W' := W2) hW hT v hv
      clear ho hall hl hQ
      generalize InvQ _ _ _ w0 a0 (lq.setIfInBounds 5 true) = K at hK ⊢
      clear hJ2 hS z1 z2 z3 z4 z6 z7
      go_simp
      exact hK _ _ z5 (fun _ _ h => h) rfl
    | 6, ho =>
      cases ho
      refine wpOpIn_of rfl rfl (by intro c h; cases h) ?_
      have hK := fun (v : Value) (W2 : World) hW hT hv => hJ2.put hS 6 16 rfl (by omega) (W' := W2) hW hT v hv
      clear ho hall hl hQ
      generalize InvQ _ _ _ w0 a0 (lq.setIfInBounds 6 true) = K at hK ⊢
      clear hJ2 hS z1 z2 z3 z4 z6 z7
      go_simp
      exact hK _ _ z5 (fun _ _ h => h) rfl
    | 7, ho =>
      cases ho
      refine wpOpIn_of rfl rfl (by intro c h; cases h) ?_
      have f6 : (aq.tmps.getD 16 undef) = .pointer (some ⟨Bp, 1, none⟩) := z6 6 16 (hall { on := 6, ground := Ground.data } (by simp) rfl) rfl
      have hK := fun (v : Value) (W2 : World) hW hT hv => hJ2.put hS 7 17 rfl (by omega) (W' := W2) hW hT v hv
      clear ho hall hl hQ
      generalize InvQ _ _ _ w0 a0 (lq.setIfInBounds 7 true) = K at hK ⊢
      clear hJ2 hS z1 z2 z3 z4 z6 z7
      go_simp
      exact hK _ _ z5 (fun _ _ h => h) rfl
    | 8, ho =>
      cases ho
      refine wpOpIn_of rfl rfl (by intro c h; cases h) ?_
      have f5 : (aq.tmps.getD 15 undef) = .slice (some ⟨A, off, none⟩) n cap := z6 5 15 (hall { on := 5, ground := Ground.data } (by simp) rfl) rfl
      have f7 : (aq.tmps.getD 17 undef) = .int .i64 (ck : Nat) := z6 7 17 (hall { on := 7, ground := Ground.data } (by simp) rfl) rfl
      have hK := fun (v : Value) (W2 : World) hW hT hv => hJ2.put hS 8 18 rfl (by omega) (W' := W2) hW hT v hv
      clear ho hall hl hQ
      generalize InvQ _ _ _ w0 a0 (lq.setIfInBounds 8 true) = K at hK ⊢
      clear hJ2 hS z1 z2 z3 z4 z6 z7
      go_simp
      exact hK _ _ z5 (fun _ _ h => h) rfl
    | 9, ho =>
      cases ho
      refine wpOpIn_of rfl rfl (by intro c h; cases h) ?_
      have f8 : (aq.tmps.getD 18 undef) = .pointer (some ⟨A, off + ck * 4, none⟩) := z6 8 18 (hall { on := 8, ground := Ground.data } (by simp) rfl) rfl
      have hK := fun (v : Value) (W2 : World) hW hT hv => hJ2.put hS 9 19 rfl (by omega) (W' := W2) hW hT v hv
      clear ho hall hl hQ
      generalize InvQ _ _ _ w0 a0 (lq.setIfInBounds 9 true) = K at hK ⊢
      clear hJ2 hS z1 z2 z3 z4 z6 z7
      go_simp
      exact hK _ _ z5 (fun _ _ h => h) rfl
    | 10, ho =>
      cases ho
      refine wpOpIn_of rfl rfl (by intro c h; cases h) ?_
      have f4 : (aq.tmps.getD 14 undef) = .agg #[.int .i64 xa, .int .i64 xb, .int .i64 xc, .int .i64 xd] := z6 4 14 (hall { on := 4, ground := Ground.data } (by simp) rfl) rfl
      have f9 : (aq.tmps.getD 19 undef) = .agg #[.int .i64 ya, .int .i64 yb, .int .i64 yc, .int .i64 yd] := z6 9 19 (hall { on := 9, ground := Ground.data } (by simp) rfl) rfl
      have hK := fun (v : Value) (W2 : World) hW hT hv => hJ2.put hS 10 20 rfl (by omega) (W' := W2) hW hT v hv
      clear ho hall hl hQ
      generalize InvQ _ _ _ w0 a0 (lq.setIfInBounds 10 true) = K at hK ⊢
      clear hJ2 hS z1 z2 z3 z4 z6 z7
      go_simp
      refine (hA W).mono ?_
      rintro e v1 ⟨rfl, hBv⟩
      exact hK _ _ (z5.trans (hBv.mono z5.size)) (fun j v h => h.mono fun g k hg => hg.step hBv) rfl
    | 11, ho =>
      cases ho
      refine wpOpIn_of rfl rfl (by intro c h; cases h) ?_
      have f10 : (aq.tmps.getD 20 undef) = .bool rr := z6 10 20 (hall { on := 10, ground := Ground.data } (by simp) rfl) rfl
      have hK := fun (v : Value) (W2 : World) hW hT hv => hJ2.put hS 11 21 rfl (by omega) (W' := W2) hW hT v hv
      clear ho hall hl hQ
      generalize InvQ _ _ _ w0 a0 (lq.setIfInBounds 11 true) = K at hK ⊢
      clear hJ2 hS z1 z2 z3 z4 z6 z7
      cases rr
      all_goals go_simp
      all_goals exact hK _ _ z5 (fun _ _ h => h) rfl
    | iq + 12, ho => simp at ho
  · intro lq aq W hJ hr
    obtain ⟨z1, z2, z3, z4, z5, z6, z7⟩ := hJ
    have hl := listed_of hr [0, 1, 2, 3, 4, 5, 6, 7, 8, 9, 10, 11] [] (by simp) (by kernel_rfl) (by rw [z1]; decide)
    exact hQ aq W z2 z3 (fun e he => z4 e (by simpa using he)) (z6 11 21 (hl 11 (by simp)) rfl) z5
def AllQ (n : Nat) (x : Nat → Int) (pre : List (Pr n)) : Prop := ∀ y ∈ pre, qtS x y.1.1 y.1.2
def SomeQ (n : Nat) (x : Nat → Int) (pre : List (Pr n)) : Prop := ∃ y ∈ pre, ¬ qtS x y.1.1 y.1.2
theorem mem_prI {n : Nat} (y : Pr n) : y ∈ prI n n := by
  obtain ⟨⟨i, k⟩, h1, h2⟩ := y
  simp only at h1 h2
  unfold prI
  refine List.mem_flatMap.2 ⟨⟨i, by omega⟩, mem_upTo.2 (by simp; omega), ?_⟩
  unfold rowP
  refine List.mem_flatMap.2 ⟨⟨k, h2⟩, mem_upTo.2 h2, ?_⟩
  simp [prOf, h1]
theorem qt_pairs {n : Nat} {x : Nat → Int} (h : sgI n x = 0) : (∀ y : Pr n, qtS x y.1.1 y.1.2) ↔ qtA n x := by
  have hall := (sgI_zero h).2
  constructor
  · intro hq
    refine ⟨h, fun i hi k hk => ?_⟩
    exact (qt_either (hall k (by omega)) (hall i hi)).2 (hq ⟨(k, i), hk, hi⟩)
  · rintro ⟨_, hq⟩ ⟨⟨k, i⟩, hk, hi⟩
    simp only at hk hi
    exact (qt_either (hall i hi) (hall k (by omega))).2 (hq i hi k hk)
set_option maxRecDepth 100000 in
set_option maxHeartbeats 8000000 in
theorem implQuietNo_any (ao : Option Addr) (n cap : Nat) (x : Nat → Int) (w : World) (hg : ¬ sgI n x = 0) (hS : SegIn w ao n x) : Calls Try.prog 16 #[.slice ao n cap] w (VP (.bool false) w) := by
  have b0 := (Blk.new w [.slice ao n cap] 27 rfl).alloc (.cells #[.bool false] 4)
  have bR : Blk ((w.alloc (.cells #[.slice ao n cap] 27)).alloc (.cells #[.bool false] 4)) (w.heap.size + 1) [.bool false] := Blk.new (w.alloc (.cells #[.slice ao n cap] 27)) [.bool false] 4 (by simp)
  have HB := ((Below.refl w.heap.size w).alloc (Nat.le_refl _) (.cells #[.slice ao n cap] 27)).alloc (by simp) (.cells #[.bool false] 4)
  have C := implSegsFault_any ao n cap x _ (hS.step HB)
  have hne : (sgI n x != 0) = true := by simp; omega
  revert C hne
  generalize sgI n x = o
  intro C hne
  have c0 := b0.c 0 rfl
  clear hg
  go_enter Try.func16, Try.ntmps16
  go_wp2_with fail
  refine C.mono ?_
  rintro e w1 ⟨rfl, hB⟩
  replace HB := HB.trans (hB.mono HB.size)
  replace bR := bR.step hB
  have r0 := bR.c 0 rfl; have rf := bR.f 0 rfl
  clear hB C c0 b0
  go_wp2
  refine bodyPost_ret (v := .bool false) (by simp [results, Try.results16, go_sem, r0]) rfl ?_
  exact ⟨rfl, HB.setCell (by simp) _⟩
set_option maxRecDepth 100000 in
set_option maxHeartbeats 8000000 in
theorem implQuietYes_any (ao : Option Addr) (n cap : Nat) (x : Nat → Int) (r : Bool) (hr : r = true ↔ ∀ y : Pr n, qtS x y.1.1 y.1.2) (w : World) (hg : sgI n x = 0) (hS : SegIn w ao n x) : Calls Try.prog 16 #[.slice ao n cap] w (VP (.bool r) w) := by
  obtain ⟨h40, hall⟩ := sgI_zero hg
  have b0 := (Blk.new w [.slice ao n cap] 27 rfl).alloc (.cells #[.bool false] 4)
  have bR0 := Boxed.new (w.alloc (.cells #[.slice ao n cap] 27)) 4 (.bool false)
  simp only [World.size_alloc] at bR0
  have HS := hS.step (((Below.refl w.heap.size w).alloc (Nat.le_refl _) (.cells #[.slice ao n cap] 27)).alloc (by simp) (.cells #[.bool false] 4))
  have C := fun w h => implSegsFault_any ao n cap x w h
  rw [hg] at C
  clear hg
  refine (callsIn_wide (n := 12)).1 ?_
  refine callsIn_of_wp_marks Try.func16 rfl trivial ?_ rfl
  simp only [Try.ntmps16, List.size_toArray, List.length_cons, List.length_nil, Nat.reduceAdd, Nat.reduceSub, Array.replicate_succ, Array.replicate_zero, List.push_toArray, List.append_toArray, List.nil_append, List.cons_append]
  gi_wp2_with (first
    | (refine ⟨trivial, ?_⟩; gi_at_call 30; refine (callsIn_wide.2 (C _ HS)).mono ?_; rintro e w1 ⟨rfl, hB1⟩; have b1 := b0.step hB1; have c1 := b1.c 0 rfl; have l1 := b1.lt)
    | (refine ⟨trivial, ?_⟩; gi_at_call 31; refine (callsIn_wide.2 (pairs_any _ _ _ _)).mono ?_; rintro e w' ⟨rfl, rfl⟩))
  have HBw : Below w.heap.size w w1 := (((Below.refl _ _).alloc (Nat.le_refl _) _).alloc (by simp) _).trans (hB1.mono (by simp; omega))
  have bR := (boxed_step bR0 hB1).alloc (.cells #[.slice ao n cap] 27)
  have bN := Boxed.new w1 27 (.slice ao n cap)
  have hB0 : Below w.heap.size w (w1.alloc (.cells #[.slice ao n cap] 27)) := HBw.alloc HBw.size _
  have bA := b1.alloc (.cells #[.slice ao n cap] 27)
  have hsz : (w1.alloc (.cells #[.slice ao n cap] 27)).heap.size = w1.heap.size + 1 := by simp
  have hw1 : w.heap.size + 2 ≤ w1.heap.size := by have := (boxed_step bR0 hB1).lt; omega
  obtain ⟨W0, hW0⟩ : ∃ W0, (w1.alloc (.cells #[.slice ao n cap] 27)) = W0 := ⟨_, rfl⟩
  rw [hW0] at bR bN hB0 hsz bA ⊢
  clear hW0
  clear C HS b0 hB1 b1 c1 bR0
  refine wpIn_rangeFunc_ownH rfl (by omega) (gf := 57) (lb := #[.pointer (some ⟨w1.heap.size, 0, none⟩)]) rfl trivial (enters_of Try.func57 (by kernel_rfl) rfl)
    (pairs_stops (12 - 1) w.heap.size w1.heap.size ao n cap h40 W0 (by omega) bN.cell) (fun h k => h.trans k) (KpB.put (by omega) (by omega)) (Below.refl _ _) (fun _ => rfl)
    (fun pre W => AllQ n x pre ∧ Below W0.heap.size W0 W)
    (fun c pre W => ((c = .ret ∧ SomeQ n x pre) ∧ Boxed W (w.heap.size + 1) 4 (.bool false)) ∧ Below w.heap.size w W)
    (OwnFrom.and (ownFrom_pure _ _) (ownFrom_below (Nat.le_refl _) (Nat.le_refl _)))
    (fun c => OwnFrom.and (OwnFrom.and (ownFrom_pure _ _) (Own.from (boxed_own _ _ _) _)) (ownFrom_below (Nat.le_refl _) (by omega)))
    ⟨(fun y hy => by cases hy), Below.refl _ _⟩
    (fun y a' W => ∃ Bs, BoxV W Bs 66 [.int .i64 (y.1.1 : Int), .int .i64 (y.1.2 : Int)] ∧ a' = { tmps := #[.slice ao n cap, .pointer (some ⟨w.heap.size, 0, none⟩), .pointer (some ⟨w.heap.size + 1, 0, none⟩), .pointer (some ⟨Bs, 0, none⟩), .slice ao n cap, .int .i64 0, .bool false, .slice ao n cap, .func (.func 57) #[] #[.pointer (some ⟨w1.heap.size, 0, none⟩)], .agg #[.int .i64 (y.1.1 : Int), .int .i64 (y.1.2 : Int)], undef, undef, undef, undef, undef, undef, undef, undef, undef, undef, undef, undef], defers := [] })
    (fun y a' _ X Y row hs hg hr => by obtain ⟨Bs, e4, e5⟩ := hs; exact ⟨Bs, boxV_own Bs 66 (fun (_ : Unit) => [.int .i64 (y.1.1 : Int), .int .i64 (y.1.2 : Int)]) () X Y row e4 hg (fun r e => (hr r e).2), e5⟩)
    ?assign ?body ?done ?stop
  case assign =>
    rintro l pre y W K ⟨hp, hB1⟩ hK
    unfold enP
    gi_wp2
    have hB2 : Below W.heap.size W (W.alloc (.cells #[.int .i64 (y.1.1 : Int), .int .i64 (y.1.2 : Int)] 66)) := (Below.refl _ W).alloc (Nat.le_refl _) _
    have hsW := hB1.size
    have b2 := BoxV.new W 66 [.int .i64 (y.1.1 : Int), .int .i64 (y.1.2 : Int)]
    exact hK _ _ (below_keeps hB2) (KpB.of hB2 (by omega) (by omega)) ⟨hp, hB1.trans (hB2.mono hB1.size)⟩ ⟨_, b2, rfl⟩
  case body =>
    rintro l pre y a' W hl ⟨rl, hr0⟩ ⟨hp, hB1⟩ ⟨Bs, bB, rfl⟩ hlt
    obtain ⟨⟨ci, ck⟩, hck, hkn⟩ := y
    simp only at hck hkn
    have hcn : ci < n := by omega
    have hcI : (ci : Int) < n := by omega
    have hdI : (ck : Int) < n := by omega
    obtain ⟨A, off, rfl, hA, hcell⟩ := hS ci hcn
    obtain ⟨A', off', e, _, hcell2⟩ := hS ck hkn
    cases e
    have hBW : Below w.heap.size w W := hB0.trans (hB1.mono (by have := hB0.size; omega))
    have e0 : ∀ o, W.cell? ⟨A, o, none⟩ = w.cell? ⟨A, o, none⟩ := fun o => hBW.cell (p := ⟨A, o, none⟩) hA
    have q0 := (e0 _).trans (hcell 0 (by omega)); have q1 := (e0 _).trans (hcell 1 (by omega)); have q2 := (e0 _).trans (hcell 2 (by omega)); have q3 := (e0 _).trans (hcell 3 (by omega))
    have p0 := (e0 _).trans (hcell2 0 (by omega)); have p1 := (e0 _).trans (hcell2 1 (by omega)); have p2 := (e0 _).trans (hcell2 2 (by omega)); have p3 := (e0 _).trans (hcell2 3 (by omega))
    simp only [Nat.add_zero] at q0 p0
    have hA' : A < W.heap.size := Nat.lt_of_lt_of_le hA hBW.size
    obtain ⟨rr, hrr⟩ : ∃ rr : Bool, rr = true ↔ qtS x ci ck := ⟨@decide (qtS x ci ck) (Classical.propDecidable _), by simp⟩
    have AQ := areQuiet_det (x (ci * 4)) (x (ci * 4 + 1)) (x (ci * 4 + 2)) (x (ci * 4 + 3)) (x (ck * 4)) (x (ck * 4 + 1)) (x (ck * 4 + 2)) (x (ck * 4 + 3)) (hall ci hcn) (hall ck hkn) rr hrr
    have bA1 := bA.step hB1
    have bR1 := boxed_step bR hB1
    gi_wp2
    refine qtIr (B1 := w.heap.size) (Bp := Bs) (A := A) (off := off) (n := n) (cap := cap) (ci := ci) (ck := ck) hcI hdI AQ rfl rfl (bA1.c 0 rfl) bA1.lt (bB.blk.c 0 rfl) bB.lt (bB.blk.c 1 rfl) bB.lt q0 hA' q1 hA' q2 hA' q3 hA' p0 hA' p1 hA' p2 hA' p3 hA' rfl ?_
    rintro ⟨tm, df⟩ w3 hz hdf hoff hV hB3
    simp only at hz hdf hoff hV
    subst hdf
    have hV2 : tm.getD 21 undef = .bool (!rr) := hV
    clear hV
    have htm := tmps_fold [10, 11, 12, 13, 14, 15, 16, 17, 18, 19, 20, 21] tm _ hz hoff
    simp only [List.foldl, List.setIfInBounds_toArray, List.set_cons_zero, List.set_cons_succ, hV2] at htm
    clear hz hoff
    generalize tm.getD 10 undef = tz0, tm.getD 11 undef = tz1, tm.getD 12 undef = tz2, tm.getD 13 undef = tz3, tm.getD 14 undef = tz4, tm.getD 15 undef = tz5, tm.getD 16 undef = tz6, tm.getD 17 undef = tz7, tm.getD 18 undef = tz8, tm.getD 19 undef = tz9, tm.getD 20 undef = tz10 at htm
    clear hV2
    subst htm
    have hs3 := hB3.size
    have hsW := hB1.size
    have HBN := hBW.trans (hB3.mono hBW.size)
    have bR3 := boxed_step bR1 hB3
    clear q0 q1 q2 q3 p0 p1 p2 p3 hcell hcell2 e0 hA hA' AQ bA1 bR1 bB
    cases rr
    · have HN : Hid (¬ qtS x ci ck) := fun h => by have := hrr.2 h; cases this
      have cR := bR3.cell
      have fR := bR3.frozen
      clear hrr
      have F1 : Hid (KeepsFrom W0.heap.size W (w3.setCell ⟨w.heap.size + 1, 0, none⟩ (.bool false))) := (below_keeps hB3).trans ((KeepsOthers.setCell _ _ _).from _)
      have F2 : Hid (SomeQ n x (pre ++ [⟨(ci, ck), hck, hkn⟩])) := ⟨⟨(ci, ck), hck, hkn⟩, List.mem_append.2 (.inr (List.mem_singleton.2 rfl)), HN.out⟩
      have F3 : Hid (Boxed (w3.setCell ⟨w.heap.size + 1, 0, none⟩ (.bool false)) (w.heap.size + 1) 4 (.bool false)) := bR3.set _
      have F4 : Hid (Below w.heap.size w (w3.setCell ⟨w.heap.size + 1, 0, none⟩ (.bool false))) := HBN.setCell (p := ⟨w.heap.size + 1, 0, none⟩) (by simp) _
      have hsz' : w1.heap.size + 1 = W0.heap.size := hsz.symm
      clear bR3 HBN hB3
      gi_wp2
      exact ⟨F1.out, ⟨⟨rfl, F2.out⟩, F3.out⟩, F4.out⟩
    · have HN : Hid (qtS x ci ck) := hrr.1 rfl
      clear hrr
      have HFIN : Hid (KeepsFrom W0.heap.size W w3 ∧ KpB w.heap.size w1.heap.size W w3 ∧ AllQ n x (pre ++ [⟨(ci, ck), hck, hkn⟩]) ∧ Below W0.heap.size W0 w3) := by
        refine ⟨below_keeps hB3, KpB.of hB3 (by omega) (by omega), fun y hy => ?_, hB1.trans (hB3.mono hB1.size)⟩
        rcases List.mem_append.1 hy with h | h
        · exact hp y h
        · rw [List.mem_singleton] at h
          subst h
          exact HN.out
      clear bR3 HBN hB3
      gi_wp2
      exact HFIN.out
  case done =>
    rintro D zs W hD rfl ⟨hp, hB1⟩ hK
    have bR1 := boxed_step bR hB1
    have cR := bR1.cell
    have fR := bR1.frozen
    have HF : Hid (r = true) := hr.2 (fun y => hp y (mem_prI y))
    gi_wp2
    have hK' := (KeepsOthers.setCell W ⟨w.heap.size + 1, 0, none⟩ (.bool true)).same D _ hK rfl
    refine ⟨by simp, .inl ⟨_, _, rfl, run_takeDeferred hK', ?_⟩⟩
    have hc5 := cell_kept (bR1.set (.bool true)).cell (grownBy_putObj' _ D (.deferred none)) (fun r e => by cases e; exact ⟨_, hK', rfl⟩)
    have hBW : Below w.heap.size w W := hB0.trans (hB1.mono (by have := hB0.size; omega))
    refine ⟨.bool true, ?_, by rw [HF.out], (hBW.setCell (p := ⟨w.heap.size + 1, 0, none⟩) (by simp) _).trans (belowK_b (w := w) (Nat.le_refl _) _ D _ _ (by omega) hK' rfl rfl)⟩
    simp [results, Try.results16, go_sem, hc5]
  case stop =>
    rintro D c pre W hD hpre ⟨⟨⟨rfl, y, _, hq⟩, bR1⟩, hB1⟩ hK
    have cR := bR1.cell
    have HF : Hid (r = false) := by
      show _ = _
      rw [Bool.eq_false_iff]
      exact fun h => hq (hr.1 h y)
    gi_wp2
    refine ⟨by simp, .inl ⟨_, _, rfl, run_takeDeferred hK, ?_⟩⟩
    have hc5 := cell_kept bR1.cell (grownBy_putObj' _ D (.deferred none)) (fun r e => by cases e; exact ⟨_, hK, rfl⟩)
    refine ⟨.bool false, ?_, by rw [HF.out], hB1.trans (belowK_b (w := w) (Nat.le_refl _) _ D _ _ (by omega) hK rfl rfl)⟩
    simp [results, Try.results16, go_sem, hc5]
theorem implQuiet_any (ao : Option Addr) (n cap : Nat) (x : Nat → Int) (r : Bool) (hr : r = true ↔ qtA n x) (w : World) (hS : SegIn w ao n x) : Calls Try.prog 16 #[.slice ao n cap] w (VP (.bool r) w) := by
  by_cases hg : sgI n x = 0
  · exact implQuietYes_any ao n cap x r (hr.trans (qt_pairs hg).symm) w hg hS
  · have : r = false := by
      rw [Bool.eq_false_iff]
      exact fun h => hg (hr.1 h).1
    rw [this]
    exact implQuietNo_any ao n cap x w hg hS
end Go.Proofs.Ytpmnmlhfaoajdaa

/- Segments that meet a box: the law. -/
namespace Go.Proofs.Ytpmnmlhfaoajdaa
open Go.RowKit
set_option maxRecDepth 100000 in
set_option maxHeartbeats 2000000 in
theorem toSegS2_any (ao : Option Addr) (n cap : Nat) (x : Nat → Int) (hn : n ≤ 1048576) (w : World) (hS : SegIn w ao n x) : Calls Try.prog 8 #[.slice ao n cap] w (fun e w' => ∃ g, e = .returned (.slice (some ⟨g, 0, none⟩) n n) ∧ w.heap.size ≤ g ∧ w'.rowIs g 64 (n * 4) (fun i => .int .i64 (x i)) ∧ Below w.heap.size w w') := by
  have MK := make_segs n hn
  have HS : Hid (SegIn w ao n x) := hS
  clear hS
  go_enter Try.func8, Try.ntmps8
  go_wp2_with fail
  have R0 := row_made w n 64
  have B0 : Below w.heap.size w (w.alloc (.cells (madeCells #[.int .i64 0, .int .i64 0, .int .i64 0, .int .i64 0] (n * 4)) 64)) := (Below.refl _ _).alloc (Nat.le_refl _) _
  generalize w.alloc (.cells (madeCells #[.int .i64 0, .int .i64 0, .int .i64 0, .int .i64 0] (n * 4)) 64) = W1 at *
  have hnI : (n : Int) ≤ 1048576 := by omega
  clear MK
  go_loopw [4] (fun i wr => ∃ c : Nat, c ≤ n ∧ i = .int .i64 c ∧ wr.rowIs w.heap.size 64 (n * 4) (cpF x c) ∧ Below w.heap.size w wr) (fun i _ => n - (intOf i).toNat)
  case atStart => exact ⟨0, by omega, rfl, R0.congr (fun i _ => by unfold cpF; simp), B0⟩
  case round =>
    clear R0 B0
    obtain ⟨c, hc, rfl, R, HB⟩ := hrel
    by_cases hcn : c < n
    · obtain ⟨A, off, rfl, hA, hcell⟩ := HS.out c hcn
      have e0 : ∀ o, wr.cell? ⟨A, o, none⟩ = w.cell? ⟨A, o, none⟩ := fun o => HB.cell (p := ⟨A, o, none⟩) hA
      have q0 := (e0 _).trans (hcell 0 (by omega)); have q1 := (e0 _).trans (hcell 1 (by omega)); have q2 := (e0 _).trans (hcell 2 (by omega)); have q3 := (e0 _).trans (hcell 3 (by omega))
      simp only [Nat.add_zero] at q0
      have hcI : (c : Int) < n := by omega
      clear hcell e0
      go_wp2_with fail
      refine (toSeg_any (x (c * 4)) (x (c * 4 + 1)) (x (c * 4 + 2)) (x (c * 4 + 3)) _).mono ?_
      rintro e w1 ⟨rfl, hB⟩
      replace R := row_step R hB
      replace HB := HB.trans (hB.mono HB.size)
      have o0 := R.cell (i := c * 4) (by omega); have o1 := R.cell (i := c * 4 + 1) (by omega); have o2 := R.cell (i := c * 4 + 2) (by omega); have o3 := R.cell (i := c * 4 + 3) (by omega)
      have f0 := R.frozen (c * 4); have f1 := R.frozen (c * 4 + 1); have f2 := R.frozen (c * 4 + 2); have f3 := R.frozen (c * 4 + 3)
      have RN := cp_step R hcn
      have HN : Below w.heap.size w ((((w1.setCell ⟨w.heap.size, c * 4, none⟩ (.int .i64 (x (c * 4)))).setCell ⟨w.heap.size, c * 4 + 1, none⟩ (.int .i64 (x (c * 4 + 1)))).setCell ⟨w.heap.size, c * 4 + 2, none⟩ (.int .i64 (x (c * 4 + 2)))).setCell ⟨w.heap.size, c * 4 + 3, none⟩ (.int .i64 (x (c * 4 + 3)))) := (((HB.setCell (by simp) _).setCell (by simp) _).setCell (by simp) _).setCell (by simp) _
      clear hB q0 q1 q2 q3 hA R HB
      go_wp2
      go_roundw
      case rel => exact ⟨c + 1, by omega, by go_num, RN, HN⟩
      case measure => simp [intOf]; omega
    · obtain rfl : c = n := by omega
      have RN : wr.rowIs w.heap.size 64 (c * 4) (fun i => .int .i64 (x i)) := R.congr (fun i hi => by unfold cpF; rw [if_pos hi])
      clear R HS
      go_wp2
      go_ret
      exact ⟨_, rfl, Nat.le_refl _, RN, HB⟩
theorem NoOwn.lt {w : World} {base : Nat} {v : Value} {L : List Int} (h : NoOwn w base v L) {g : Nat} (hg : v.ownBlock = some g) : base ≤ g ∧ g < w.heap.size := by
  rcases h with ⟨h1, _⟩ | ⟨g', cap, f, h1, h2, h3, h4, h5⟩
  · subst h1; cases hg
  · subst h1; cases hg; exact ⟨h2, h4.lt⟩
end Go.Proofs.Ytpmnmlhfaoajdaa

/- Segments that are quiet: the law. -/
namespace Go.Proofs.Ytpmnmlhfaoajdaa
open Go.RowKit
set_option maxRecDepth 100000 in
set_option maxHeartbeats 8000000 in
theorem lawQuiet_any (ao : Option Addr) (n cap : Nat) (x : Nat → Int) (hn : n ≤ 9223372036854775807) (w : World) (hS : n ≤ 1048576 → SegIn w ao n x) : Calls Try.prog 4 #[.slice ao n cap] w (BoolP true w) := by
  have SZ := szSegS_any ao n cap hn
  have HB : Below w.heap.size w w := Below.refl _ _
  go_enter Try.func4, Try.ntmps4
  by_cases hs : n ≤ 1048576
  · rw [if_pos hs] at SZ
    have HS : Hid (SegIn w ao n x) := hS hs
    have hsI : (n : Int) ≤ 1048576 := by omega
    have TS := fun w => toSegS2_any ao n cap x hs w
    obtain ⟨ok, hok⟩ : ∃ ok : Bool, ok = true ↔ qtA n x := ⟨@decide (qtA n x) (Classical.propDecidable _), by simp⟩
    have SW := fun ao' w h => specQuiet_any ao' n n x ok hok w h
    have IW := fun ao' w h => implQuiet_any ao' n n x ok hok w h
    clear hS hok
    go_wp2_with fail
    refine (SZ _).mono ?_
    rintro e w1 ⟨rfl, hB⟩
    replace HB := HB.trans (hB.mono HB.size)
    clear hB
    clear SZ
    go_wp2_with fail
    refine (TS _ (HS.out.step HB)).mono ?_
    rintro e wa ⟨ga, rfl, la, Ra, hB⟩
    replace HB := HB.trans (hB.mono HB.size)
    clear hB
    go_wp2_with fail
    refine (SW _ _ (segIn_row Ra)).mono ?_
    rintro e wD ⟨rfl, hB⟩
    replace HB := HB.trans (hB.mono HB.size)
    clear hB
    clear Ra la SW
    go_wp2_with fail
    refine (TS _ (HS.out.step HB)).mono ?_
    rintro e w2 ⟨g2, rfl, l2, R2, hB⟩
    replace HB := HB.trans (hB.mono HB.size)
    clear hB
    go_wp2_with fail
    refine (IW _ _ (segIn_row R2)).mono ?_
    rintro e w3 ⟨rfl, hB⟩
    replace HB := HB.trans (hB.mono HB.size)
    replace R2 := row_step R2 hB
    clear hB
    clear IW
    have hok : (ok != ok) = false := by simp
    go_wp2_with fail
    refine (TS _ (HS.out.step HB)).mono ?_
    rintro e w5 ⟨g5, rfl, l5, R5, hB⟩
    replace HB := HB.trans (hB.mono HB.size)
    replace R2 := row_step R2 hB
    clear hB
    go_wp2_with fail
    refine (eqSegS_any _ _ n n n x hs _ (segIn_row R2) (segIn_row R5)).mono ?_
    rintro e w6 ⟨rfl, hB⟩
    replace HB := HB.trans (hB.mono HB.size)
    clear hB
    clear R5 l5 R2 l2
    go_wp2
    go_ret
    exact ⟨rfl, HB⟩
  · rw [if_neg hs] at SZ
    clear hS
    go_wp2_with fail
    refine (SZ _).mono ?_
    rintro e w1 ⟨rfl, hB⟩
    clear SZ HB
    go_wp2
    go_ret
    exact ⟨rfl, hB⟩
end Go.Proofs.Ytpmnmlhfaoajdaa

/- How spots and segments read as data, beside points: opened and shut. -/
namespace Go.Proofs.Ytpmnmlhfaoajdaa
open Go.ChangeShapes Go.WideShapes Go.ChangeAt Go.RowKit Go.Joins
theorem Try.cellsSpot : Try.prog.cellsOf 68 = 2 := by kernel_rfl
theorem Try.cellsSeg : Try.prog.cellsOf 70 = 4 := by kernel_rfl
abbrev Wf (x : Int) : Prop := (Lit.int .i64 x).wf = true
abbrev SpD {H : Type} (x y : Int) : DataW H := .agg [.lit (.int .i64 x), .lit (.int .i64 y)]
theorem trod_spot {H : Type} {enc : TypeId × Value → H} {w : World} {base : Nat} {spare : TypeId → Bool} {held : Bool} {n : Nat} {c0 c1 : Value} {y : DataW H × List MemPlace} (h : DataW.trod enc Try.prog w base spare held n 68 [c0, c1] = some y) :
    ∃ a b : Int, c0 = .int .i64 a ∧ c1 = .int .i64 b ∧ y = (SpD a b, []) ∧ Wf a ∧ Wf b := by
  obtain ⟨y0, y1, m, hx, _, h0, h1⟩ := trod_struct2 Try.underlying68 h
  obtain ⟨a, e0, rfl, wa⟩ := DataW.trod_int Try.underlying2 h0
  obtain ⟨b, e1, rfl, wb⟩ := DataW.trod_int Try.underlying2 h1
  have k : Try.prog.cellsOf 2 = 1 := by kernel_rfl
  simp [k] at e0 e1
  exact ⟨a, b, e0, e1, hx, wa, wb⟩
end Go.Proofs.Ytpmnmlhfaoajdaa

/- How a row of segments reads as data. -/
namespace Go.Proofs.Ytpmnmlhfaoajdaa
open Go.ChangeShapes Go.WideShapes Go.ChangeAt Go.RowKit Go.Joins
theorem Try.laidOut : laidOutB Try.prog = true := by kernel_rfl
/-- The numbers of a row of segments, one behind the other. -/
def flat4 (q : Nat → Int × Int × Int × Int) (k : Nat) : Int := if k % 4 = 0 then (q (k / 4)).1 else if k % 4 = 1 then (q (k / 4)).2.1 else if k % 4 = 2 then (q (k / 4)).2.2.1 else (q (k / 4)).2.2.2
theorem segs_of {H : Type} {enc : TypeId × Value → H} {W : World} {a : Addr} {len m n : Nat} {D : Nat → DataW H} {Pl : Nat → List MemPlace} (hl : len ≤ m)
    (hx : ∀ i, i < m → ∃ cs', W.cells? 0 (a.add (i * Try.prog.cellsOf 70)) (Try.prog.cellsOf 70) = some cs' ∧ DataW.trod enc Try.prog W 0 (fun _ => true) true n 70 cs' = some (D i, Pl i))
    (hlt : ∀ x ∈ MemPlace.row a (m * Try.prog.cellsOf 70), x.block < W.heap.size) : ∃ x : Nat → Int, SegIn W (some a) len x := by
  rw [Try.cellsSeg] at hx hlt
  have each : ∀ i, i < m → ∃ q : Int × Int × Int × Int, W.cell? (a.add (i * 4)) = some (.int .i64 q.1) ∧ W.cell? (a.add (i * 4 + 1)) = some (.int .i64 q.2.1) ∧ W.cell? (a.add (i * 4 + 2)) = some (.int .i64 q.2.2.1) ∧ W.cell? (a.add (i * 4 + 3)) = some (.int .i64 q.2.2.2) := by
    intro i hi
    obtain ⟨cs', h1, h2⟩ := hx i hi
    obtain ⟨_, hlen, hcell⟩ := World.cells?_some h1
    match cs', hlen with
    | [v0, v1, v2, v3], _ =>
      have e0 := hcell 0 (by omega); have e1 := hcell 1 (by omega); have e2 := hcell 2 (by omega); have e3 := hcell 3 (by omega)
      rw [Go.Deep.add_add] at e0 e1 e2 e3
      obtain ⟨y0, y1, k, hy, _, g0, g1⟩ := trod_struct2 Try.underlying70 h2
      simp [Try.cellsSpot] at g0 g1
      obtain ⟨p, q, rfl, rfl, -, -, -⟩ := trod_spot g0
      obtain ⟨r, s, rfl, rfl, -, -, -⟩ := trod_spot g1
      exact ⟨(p, q, r, s), by simpa using e0, by simpa using e1, by simpa using e2, by simpa using e3⟩
  obtain ⟨q, hq⟩ := Go.Deep.choose_lt each
  obtain ⟨ab, ao, spot⟩ := a
  refine ⟨flat4 q, fun i hi => ?_⟩
  have hspot : spot = none := by simpa [Addr.add] using World.cell?_spot (hq 0 (by omega)).1
  subst hspot
  obtain ⟨c0, c1, c2, c3⟩ := hq i (by omega)
  rw [Addr.add_lit] at c0 c1 c2 c3
  refine ⟨ab, ao, rfl, hlt (.cell ab (ao + i * 4)) (by simp only [MemPlace.row, List.mem_map, List.mem_range]; exact ⟨i * 4, by omega, rfl⟩), fun j hj => ?_⟩
  unfold flat4
  have hd : (i * 4 + j) / 4 = i := by omega
  have hm : (i * 4 + j) % 4 = j := by omega
  rw [hd, hm]
  rcases (show j = 0 ∨ j = 1 ∨ j = 2 ∨ j = 3 by omega) with rfl | rfl | rfl | rfl
  · simpa using c0
  · simpa [Nat.add_assoc] using c1
  · simpa [Nat.add_assoc] using c2
  · simpa [Nat.add_assoc] using c3
end Go.Proofs.Ytpmnmlhfaoajdaa

/- How a row of segments, and a row of spots, read as data. -/
namespace Go.Proofs.Ytpmnmlhfaoajdaa
open Go.ChangeShapes Go.WideShapes Go.ChangeAt Go.RowKit Go.Joins
set_option maxRecDepth 100000 in
theorem open_segs {H : Type} {enc : TypeId × Value → H} {W : World} {base : Nat} {v : Value} {d : DataW H} {pl : List MemPlace} (ok : Value.okWide Try.prog W .any base 22 v) (h : DataW.Trod enc Try.prog W 0 (fun _ => true) true 22 v d pl) (hlt : ∀ x ∈ pl, x.block < W.heap.size) :
    ∃ ao n cap p, v = .slice ao n cap ∧ n ≤ 9223372036854775807 ∧ SegIn W ao n p := by
  obtain ⟨a0, len, cap, rfl⟩ := okWide_slice Try.underlying22 ok
  obtain ⟨fuel, hf⟩ := h
  rcases Go.Deep.open_slice Try.underlying22 hf with ⟨hcs, -⟩ | ⟨a', len', cap', m', n', D', Pl', hcs, _, hl', hm', hz', hx', hel'⟩
  · simp [Value.cells] at hcs
    obtain ⟨rfl, rfl, rfl⟩ := hcs
    exact ⟨none, 0, 0, fun _ => 0, rfl, Nat.zero_le _, fun i hi => absurd hi (Nat.not_lt_zero _)⟩
  · simp [Value.cells] at hcs
    obtain ⟨rfl, rfl, rfl⟩ := hcs
    simp only [Prod.mk.injEq] at hx'
    obtain ⟨rfl, rfl⟩ := hx'
    simp only [if_true] at hz'
    obtain ⟨p, hp⟩ := segs_of (len := len) (by omega) hel' (fun y hy => hlt y (List.mem_append_left _ hy))
    exact ⟨some a', len, cap, p, rfl, by have := hm'; simp [maxLen] at this; omega, hp⟩
end Go.Proofs.Ytpmnmlhfaoajdaa

/- What the row of a law asks of the program as a whole, each by itself. -/
namespace Go.Proofs.Ytpmnmlhfaoajdaa
open Go.ChangeShapes Go.WideShapes Go.ChangeAt Go.RowKit Go.Joins
theorem jn_laid : laidOutB Try.pinned.checked.prog = true := by kernel_rfl
theorem jn_maps : mapsRowed Try.pinned.checked.prog = true := by kernel_rfl
theorem jn_enter : Try.pinned.checked.prog.mayEnter = true := by kernel_rfl
theorem jn_heard : Try.pinned.checked.prog.stopsHeard = true := by kernel_rfl
end Go.Proofs.Ytpmnmlhfaoajdaa
