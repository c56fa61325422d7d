/- Part 15 of the walks that the proof leans on. -/
import Derived.Test.YtpmnmlhfaoajdaaPart14
import Derived.Test.YtpmnmlhfaoajdaaPart13
import Derived.Test.YtpmnmlhfaoajdaaPart12
/- The first event taken off by the program. -/
namespace Go.Proofs.Ytpmnmlhfaoajdaa
open Go.RowKit
structure TkS (R B4 n : Nat) (qf : Nat → Int × Int × Int) (Lf : Nat → Nat) (Ef : Nat → Nat → Int) (b3 b6 b7 b8 : Bool) (v17 v20 v3 : Value) (W : World) : Prop where
  o1 : b6 = true → b3 = true
  o2 : b7 = true → b6 = true
  z : b7 = false → Blk W R [.int .u64 0, .int .u64 0, .int .u64 0, .int .u64 0, .int .u64 0, .int .u64 0, .int .u64 0, .int .u64 0, .int .u64 0, .int .u64 0, .int .u64 0, .int .u64 0, .slice none 0 0]
  k17 : b3 = true → b6 = false → ∃ gs cs, v17 = .agg #[.int .u64 (ww3 (qf 0).1), .int .u64 (ww2 (qf 0).1), .int .u64 (ww1 (qf 0).1), .int .u64 (ww0 (qf 0).1), .int .u64 (ww3 (qf 0).2.1), .int .u64 (ww2 (qf 0).2.1), .int .u64 (ww1 (qf 0).2.1), .int .u64 (ww0 (qf 0).2.1), .int .u64 (ww3 (qf 0).2.2), .int .u64 (ww2 (qf 0).2.2), .int .u64 (ww1 (qf 0).2.2), .int .u64 (ww0 (qf 0).2.2), (.slice (some ⟨gs, 0, none⟩) (Lf 0) cs)] ∧ W.ownsRow B4 2 1 (.slice (some ⟨gs, 0, none⟩) (Lf 0) cs) (Lf 0) (noL (Lf 0) (Ef 0))
  k20 : b6 = true → b7 = false → ∃ t1 s gs cs, v17 = .agg #[.int .u64 (ww3 (qf 0).1), .int .u64 (ww2 (qf 0).1), .int .u64 (ww1 (qf 0).1), .int .u64 (ww0 (qf 0).1), .int .u64 (ww3 (qf 0).2.1), .int .u64 (ww2 (qf 0).2.1), .int .u64 (ww1 (qf 0).2.1), .int .u64 (ww0 (qf 0).2.1), .int .u64 (ww3 (qf 0).2.2), .int .u64 (ww2 (qf 0).2.2), .int .u64 (ww1 (qf 0).2.2), .int .u64 (ww0 (qf 0).2.2), (.slice (some ⟨gs, 0, none⟩) (Lf 0) cs)] ∧ B4 ≤ t1 ∧ t1 ≤ W.heap.size ∧ NoRow W B4 t1 (.slice (some ⟨gs, 0, none⟩) (Lf 0) cs) (Lf 0) (Ef 0) ∧ EvRow W t1 W.heap.size v20 (n - 1) (wq (fun i => qf (i + 1))) s (fun i => Lf (i + 1)) (fun i => Ef (i + 1))
  kR : b7 = true → ∃ t1 s gs cs, Blk W R [.int .u64 (ww3 (qf 0).1), .int .u64 (ww2 (qf 0).1), .int .u64 (ww1 (qf 0).1), .int .u64 (ww0 (qf 0).1), .int .u64 (ww3 (qf 0).2.1), .int .u64 (ww2 (qf 0).2.1), .int .u64 (ww1 (qf 0).2.1), .int .u64 (ww0 (qf 0).2.1), .int .u64 (ww3 (qf 0).2.2), .int .u64 (ww2 (qf 0).2.2), .int .u64 (ww1 (qf 0).2.2), .int .u64 (ww0 (qf 0).2.2), (.slice (some ⟨gs, 0, none⟩) (Lf 0) cs)] ∧ B4 ≤ t1 ∧ t1 ≤ W.heap.size ∧ NoRow W B4 t1 (.slice (some ⟨gs, 0, none⟩) (Lf 0) cs) (Lf 0) (Ef 0) ∧ EvRow W t1 W.heap.size v20 (n - 1) (wq (fun i => qf (i + 1))) s (fun i => Lf (i + 1)) (fun i => Ef (i + 1))
  k3 : b8 = true → v3 = v20
theorem TkS.called3 {R B4 n : Nat} {qf : Nat → Int × Int × Int} {Lf : Nat → Nat} {Ef : Nat → Nat → Int} {b6 b7 b8 : Bool} {v17 v20 v3 : Value} {W W2 : World} {gs cs : Nat} (h : TkS R B4 n qf Lf Ef false b6 b7 b8 v17 v20 v3 W) (hB : Below W.heap.size W W2) (hO : W2.ownsRow B4 2 1 (.slice (some ⟨gs, 0, none⟩) (Lf 0) cs) (Lf 0) (noL (Lf 0) (Ef 0))) : TkS R B4 n qf Lf Ef true b6 b7 b8 (.agg #[.int .u64 (ww3 (qf 0).1), .int .u64 (ww2 (qf 0).1), .int .u64 (ww1 (qf 0).1), .int .u64 (ww0 (qf 0).1), .int .u64 (ww3 (qf 0).2.1), .int .u64 (ww2 (qf 0).2.1), .int .u64 (ww1 (qf 0).2.1), .int .u64 (ww0 (qf 0).2.1), .int .u64 (ww3 (qf 0).2.2), .int .u64 (ww2 (qf 0).2.2), .int .u64 (ww1 (qf 0).2.2), .int .u64 (ww0 (qf 0).2.2), (.slice (some ⟨gs, 0, none⟩) (Lf 0) cs)]) v20 v3 W2 := by
  have h6 : b6 = false := by cases b6 with | false => rfl | true => cases h.o1 rfl
  subst h6
  have h7 : b7 = false := by cases b7 with | false => rfl | true => cases h.o2 rfl
  subst h7
  exact ⟨(fun a => by cases a), (fun a => by cases a), fun a => (h.z a).step hB, fun _ _ => ⟨gs, cs, rfl, hO⟩, (fun a => by cases a), (fun a => by cases a), h.k3⟩
theorem TkS.called6 {R B4 n : Nat} {qf : Nat → Int × Int × Int} {Lf : Nat → Nat} {Ef : Nat → Nat → Int} {b7 b8 : Bool} {v17 v20 v3 u : Value} {s : Nat → Value} {W W2 : World} (h : TkS R B4 n qf Lf Ef true false b7 b8 v17 v20 v3 W) (h8 : b8 = false) (hb : B4 ≤ W.heap.size) (hB : Below W.heap.size W W2) (hO : EvOwn W2 W.heap.size u (n - 1) (wq (fun i => qf (i + 1))) s (fun i => Lf (i + 1)) (fun i => Ef (i + 1))) : TkS R B4 n qf Lf Ef true true b7 b8 v17 u v3 W2 := by
  have h7 : b7 = false := by cases b7 with | false => rfl | true => cases h.o2 rfl
  subst h7 h8
  obtain ⟨gs, cs, e, ow⟩ := h.k17 rfl rfl
  exact ⟨fun _ => rfl, (fun a => by cases a), fun a => (h.z a).step hB, (fun _ a => by cases a), fun _ _ => ⟨W.heap.size, s, gs, cs, e, hb, hB.size, (NoRow.of ow).step hB, hO.row⟩, (fun a => by cases a), (fun a => by cases a)⟩
theorem TkS.stored7 {R B4 n : Nat} {qf : Nat → Int × Int × Int} {Lf : Nat → Nat} {Ef : Nat → Nat → Int} {b8 : Bool} {v17 v20 v3 : Value} {W W2 : World} {t1 gs cs : Nat} {s : Nat → Value} (h : TkS R B4 n qf Lf Ef true true false b8 v17 v20 v3 W) (hr : B4 ≤ t1 ∧ t1 ≤ W.heap.size ∧ NoRow W B4 t1 (.slice (some ⟨gs, 0, none⟩) (Lf 0) cs) (Lf 0) (Ef 0) ∧ EvRow W t1 W.heap.size v20 (n - 1) (wq (fun i => qf (i + 1))) s (fun i => Lf (i + 1)) (fun i => Ef (i + 1))) (hR : R < B4) (hsz : W2.heap.size = W.heap.size) (hh : ∀ k, k ≠ R → W2.heap[k]? = W.heap[k]?) (hN : Blk W2 R [.int .u64 (ww3 (qf 0).1), .int .u64 (ww2 (qf 0).1), .int .u64 (ww1 (qf 0).1), .int .u64 (ww0 (qf 0).1), .int .u64 (ww3 (qf 0).2.1), .int .u64 (ww2 (qf 0).2.1), .int .u64 (ww1 (qf 0).2.1), .int .u64 (ww0 (qf 0).2.1), .int .u64 (ww3 (qf 0).2.2), .int .u64 (ww2 (qf 0).2.2), .int .u64 (ww1 (qf 0).2.2), .int .u64 (ww0 (qf 0).2.2), (.slice (some ⟨gs, 0, none⟩) (Lf 0) cs)]) : TkS R B4 n qf Lf Ef true true true b8 v17 v20 v3 W2 := by
  obtain ⟨r1, r2, r3, r4⟩ := hr
  refine ⟨fun _ => rfl, fun _ => rfl, (fun a => by cases a), (fun _ a => by cases a), (fun _ a => by cases a), fun _ => ⟨t1, s, gs, cs, hN, r1, by omega, r3.heap fun k hk => hh k (by have := (r3.lt hk).1; omega), ?_⟩, h.k3⟩
  rw [hsz]
  exact r4.heap fun k hk _ _ => hh k (by omega)
theorem TkS.assigned {R B4 n : Nat} {qf : Nat → Int × Int × Int} {Lf : Nat → Nat} {Ef : Nat → Nat → Int} {b3 b6 b7 : Bool} {v17 v20 v3 : Value} {W : World} (h : TkS R B4 n qf Lf Ef b3 b6 b7 false v17 v20 v3 W) : TkS R B4 n qf Lf Ef b3 b6 b7 true v17 v20 v20 W :=
  ⟨h.o1, h.o2, h.z, h.k17, h.k20, h.kR, fun _ => rfl⟩
def TkI (R B4 n : Nat) (qf : Nat → Int × Int × Int) (Lf : Nat → Nat) (Ef : Nat → Nat → Int) (lz : Array Bool) (az : Act) (W : World) : Prop := TkS R B4 n qf Lf Ef (lz.getD 3 false) (lz.getD 6 false) (lz.getD 7 false) (lz.getD 8 false) (az.tmps.getD 17 undef) (az.tmps.getD 20 undef) (az.tmps.getD 3 undef) W
theorem TkI.start {R B4 n : Nat} {qf : Nat → Int × Int × Int} {Lf : Nat → Nat} {Ef : Nat → Nat → Int} {az : Act} {W : World} {m : Nat} (hz : Blk W R [.int .u64 0, .int .u64 0, .int .u64 0, .int .u64 0, .int .u64 0, .int .u64 0, .int .u64 0, .int .u64 0, .int .u64 0, .int .u64 0, .int .u64 0, .int .u64 0, .slice none 0 0]) : TkI R B4 n qf Lf Ef (Array.replicate m false) az W := by
  unfold TkI
  simp only [replD]
  exact ⟨(fun a => by cases a), (fun a => by cases a), fun _ => hz, (fun a => by cases a), (fun a => by cases a), (fun a => by cases a), (fun a => by cases a)⟩
theorem TkI.quiet {R B4 n : Nat} {qf : Nat → Int × Int × Int} {Lf : Nat → Nat} {Ef : Nat → Nat → Int} {lz : Array Bool} {az : Act} {W : World} (h : TkI R B4 n qf Lf Ef lz az W) (i d : Nat) (v : Value) (hn : i ∉ [3, 6, 7, 8]) (hd : d ∉ [3, 17, 20]) : TkI R B4 n qf Lf Ef (lz.setIfInBounds i true) (az.put (some d) v) W := by
  simp only [List.mem_cons, List.not_mem_nil, or_false, not_or] at hn hd
  obtain ⟨n1, n2, n3, n4⟩ := hn
  obtain ⟨d1, d2, d3⟩ := hd
  unfold TkI
  rw [getD_set_neq n1, getD_set_neq n2, getD_set_neq n3, getD_set_neq n4, put_getD_ne d1, put_getD_ne d2, put_getD_ne d3]
  exact h
theorem TkI.put3 {R B4 n : Nat} {qf : Nat → Int × Int × Int} {Lf : Nat → Nat} {Ef : Nat → Nat → Int} {lz : Array Bool} {az : Act} {W2 : World} (hl : lz.getD 3 true = false) (hd : 17 < az.tmps.size) {u : Value} (hc : TkS R B4 n qf Lf Ef true (lz.getD 6 false) (lz.getD 7 false) (lz.getD 8 false) u (az.tmps.getD 20 undef) (az.tmps.getD 3 undef) W2) : TkI R B4 n qf Lf Ef (lz.setIfInBounds 3 true) (az.put (some 17) u) W2 := by
  unfold TkI
  rw [getD_set_eq hl, getD_set_neq (i := 3) (j := 6) (by decide), getD_set_neq (i := 3) (j := 7) (by decide), getD_set_neq (i := 3) (j := 8) (by decide), put_getD_same hd, put_getD_ne (show 17 ≠ 20 by decide), put_getD_ne (show 17 ≠ 3 by decide)]
  exact hc
theorem TkI.put6 {R B4 n : Nat} {qf : Nat → Int × Int × Int} {Lf : Nat → Nat} {Ef : Nat → Nat → Int} {lz : Array Bool} {az : Act} {W2 : World} (hl : lz.getD 6 true = false) (hd : 20 < az.tmps.size) {u : Value} (hc : TkS R B4 n qf Lf Ef (lz.getD 3 false) true (lz.getD 7 false) (lz.getD 8 false) (az.tmps.getD 17 undef) u (az.tmps.getD 3 undef) W2) : TkI R B4 n qf Lf Ef (lz.setIfInBounds 6 true) (az.put (some 20) u) W2 := by
  unfold TkI
  rw [getD_set_neq (i := 6) (j := 3) (by decide), getD_set_eq hl, getD_set_neq (i := 6) (j := 7) (by decide), getD_set_neq (i := 6) (j := 8) (by decide), put_getD_ne (show 20 ≠ 17 by decide), put_getD_same hd, put_getD_ne (show 20 ≠ 3 by decide)]
  exact hc
theorem TkI.put8 {R B4 n : Nat} {qf : Nat → Int × Int × Int} {Lf : Nat → Nat} {Ef : Nat → Nat → Int} {lz : Array Bool} {az : Act} {W2 : World} (hl : lz.getD 8 true = false) (hd : 3 < az.tmps.size) {u : Value} (hc : TkS R B4 n qf Lf Ef (lz.getD 3 false) (lz.getD 6 false) (lz.getD 7 false) true (az.tmps.getD 17 undef) (az.tmps.getD 20 undef) u W2) : TkI R B4 n qf Lf Ef (lz.setIfInBounds 8 true) (az.put (some 3) u) W2 := by
  unfold TkI
  rw [getD_set_neq (i := 8) (j := 3) (by decide), getD_set_neq (i := 8) (j := 6) (by decide), getD_set_neq (i := 8) (j := 7) (by decide), getD_set_eq hl, put_getD_ne (show 3 ≠ 17 by decide), put_getD_ne (show 3 ≠ 20 by decide), put_getD_same hd]
  exact hc
theorem TkI.put7 {R B4 n : Nat} {qf : Nat → Int × Int × Int} {Lf : Nat → Nat} {Ef : Nat → Nat → Int} {lz : Array Bool} {az : Act} {W2 : World} (hl : lz.getD 7 true = false) (hc : TkS R B4 n qf Lf Ef (lz.getD 3 false) (lz.getD 6 false) true (lz.getD 8 false) (az.tmps.getD 17 undef) (az.tmps.getD 20 undef) (az.tmps.getD 3 undef) W2) : TkI R B4 n qf Lf Ef (lz.setIfInBounds 7 true) az W2 := by
  unfold TkI
  rw [getD_set_neq (i := 7) (j := 3) (by decide), getD_set_neq (i := 7) (j := 6) (by decide), getD_set_eq hl, getD_set_neq (i := 7) (j := 8) (by decide)]
  exact hc
theorem setAll_size {g : Nat} : ∀ (vs : List Value) {w : World} (i : Nat), (setAll w g i vs).heap.size = w.heap.size
  | [], _, _ => rfl
  | _ :: vs, _, i => (setAll_size vs (i + 1)).trans (by simp [World.setCell])
def VewG (_R _B4 n : Nat) (qf : Nat → Int × Int × Int) (Lf : Nat → Nat) (_Ef : Nat → Nat → Int) (A off ca Ab ob mc : Nat) (_B : Nat) : Nat → Value → World → Prop
  | 0, v, _ => v = .slice (some ⟨A, off, none⟩) n ca
  | 1, v, _ => v = .pointer (some ⟨A, off, none⟩)
  | 2, v, _ => v = .agg #[.int .u64 (ww3 (qf 0).1), .int .u64 (ww2 (qf 0).1), .int .u64 (ww1 (qf 0).1), .int .u64 (ww0 (qf 0).1), .int .u64 (ww3 (qf 0).2.1), .int .u64 (ww2 (qf 0).2.1), .int .u64 (ww1 (qf 0).2.1), .int .u64 (ww0 (qf 0).2.1), .int .u64 (ww3 (qf 0).2.2), .int .u64 (ww2 (qf 0).2.2), .int .u64 (ww1 (qf 0).2.2), .int .u64 (ww0 (qf 0).2.2), .slice (some ⟨Ab, ob, none⟩) (Lf 0) mc]
  | 4, v, _ => v = .slice (some ⟨A, off, none⟩) n ca
  | 5, v, _ => ∃ ad, v = .slice (some ⟨A, ad, none⟩) (n - 1) (ca - 1) ∧ (n = 1 ∨ ad = off + 13)
  | 9, v, _ => v = .bool true
  | _, _, _ => True
theorem VewG.mono {R B4 n : Nat} {qf : Nat → Int × Int × Int} {Lf : Nat → Nat} {Ef : Nat → Nat → Int} {A off ca Ab ob mc : Nat} {B j : Nat} {v : Value} {W W2 : World} (_hB : Below W.heap.size W W2) (h : VewG R B4 n qf Lf Ef A off ca Ab ob mc B j v W) : VewG R B4 n qf Lf Ef A off ca Ab ob mc B j v W2 := by
  unfold VewG at *
  split <;> simp only at h <;> first | exact h | trivial
theorem VewG.same {R B4 n : Nat} {qf : Nat → Int × Int × Int} {Lf : Nat → Nat} {Ef : Nat → Nat → Int} {A off ca Ab ob mc : Nat} {B j : Nat} {v : Value} {W W2 : World} (h : VewG R B4 n qf Lf Ef A off ca Ab ob mc B j v W) : VewG R B4 n qf Lf Ef A off ca Ab ob mc B j v W2 := by
  unfold VewG at *
  split <;> simp only at h <;> first | exact h | trivial
def SewG (R B4 n : Nat) (qf : Nat → Int × Int × Int) (Lf : Nat → Nat) (Ef : Nat → Nat → Int) (_A _off _ca _Ab _ob _mc : Nat) (lz : Array Bool) (az : Act) (W : World) : Prop := TkI R B4 n qf Lf Ef lz az W ∧ (lz.getD 8 false = true → lz.getD 7 false = true)

def JewG (R B4 n : Nat) (qf : Nat → Int × Int × Int) (Lf : Nat → Nat) (Ef : Nat → Nat → Int) (A off ca Ab ob mc : Nat) (w0 : World) (a0 : Act) (lz : Array Bool) (az : Act) (W : World) : Prop := InvQ (R) [some 14, some 15, some 16, some 17, some 18, some 19, some 20, none, some 3, some 4] (VewG R B4 n qf Lf Ef A off ca Ab ob mc (R)) w0 a0 lz az W ∧ SewG R B4 n qf Lf Ef A off ca Ab ob mc lz az W
set_option maxRecDepth 100000 in
set_option maxHeartbeats 4000000 in
theorem ewG {Q : Exit → Act → World → Prop} {R B4 n : Nat} {qf : Nat → Int × Int × Int} {Lf : Nat → Nat} {Ef : Nat → Nat → Int} {A off ca Ab ob mc : Nat} {we : World} {Sf : Nat → Option Addr × Nat} {w0 : World} {a0 : Act} {idq : Nat} {t0 t1 t2 t3 t4 t5 t6 t7 t8 t9 : TypeId} {q0 q1 q2 q3 q4 q5 q6 q7 q8 q9 : String}
    (hn0 : 0 < n) (hnI : (n : Int) ≤ 1048576) (hcm : (1 : Int) ≤ (n : Int)) (hnc : n ≤ ca) (hRB : R < B4) (hB4 : B4 ≤ w0.heap.size) (hN : NoIn w0 (some ⟨Ab, ob, none⟩) (Lf 0) (Ef 0)) (hAb : Ab < R) (hE : EvIn we (some ⟨A, off, none⟩) n qf Sf Lf Ef) (hB0 : Below R we w0) (hRe : we.heap.size = R) (hC3 : ∀ w, NoIn w (some ⟨Ab, ob, none⟩) (Lf 0) (Ef 0) → Calls Try.prog 41 #[.agg #[.int .u64 (ww3 (qf 0).1), .int .u64 (ww2 (qf 0).1), .int .u64 (ww1 (qf 0).1), .int .u64 (ww0 (qf 0).1), .int .u64 (ww3 (qf 0).2.1), .int .u64 (ww2 (qf 0).2.1), .int .u64 (ww1 (qf 0).2.1), .int .u64 (ww0 (qf 0).2.1), .int .u64 (ww3 (qf 0).2.2), .int .u64 (ww2 (qf 0).2.2), .int .u64 (ww1 (qf 0).2.2), .int .u64 (ww0 (qf 0).2.2), .slice (some ⟨Ab, ob, none⟩) (Lf 0) mc]] w (fun r w' => ∃ gs cs, r = .returned (.agg #[.int .u64 (ww3 (qf 0).1), .int .u64 (ww2 (qf 0).1), .int .u64 (ww1 (qf 0).1), .int .u64 (ww0 (qf 0).1), .int .u64 (ww3 (qf 0).2.1), .int .u64 (ww2 (qf 0).2.1), .int .u64 (ww1 (qf 0).2.1), .int .u64 (ww0 (qf 0).2.1), .int .u64 (ww3 (qf 0).2.2), .int .u64 (ww2 (qf 0).2.2), .int .u64 (ww1 (qf 0).2.2), .int .u64 (ww0 (qf 0).2.2), (.slice (some ⟨gs, 0, none⟩) (Lf 0) cs)]) ∧ w'.ownsRow w.heap.size 2 1 (.slice (some ⟨gs, 0, none⟩) (Lf 0) cs) (Lf 0) (noL (Lf 0) (Ef 0)) ∧ Below w.heap.size w w')) (hC6 : ∀ w ad, EvIn w (some ⟨A, ad, none⟩) (n - 1) (fun i => qf (i + 1)) (fun i => Sf (i + 1)) (fun i => Lf (i + 1)) (fun i => Ef (i + 1)) → Calls Try.prog 42 #[.slice (some ⟨A, ad, none⟩) (n - 1) (ca - 1)] w (fun r w' => ∃ v s, r = .returned v ∧ EvOwn w' w.heap.size v (n - 1) (wq (fun i => qf (i + 1))) s (fun i => Lf (i + 1)) (fun i => Ef (i + 1)) ∧ Below w.heap.size w w')) (s0 : Blk w0.drew R [.int .u64 0, .int .u64 0, .int .u64 0, .int .u64 0, .int .u64 0, .int .u64 0, .int .u64 0, .int .u64 0, .int .u64 0, .int .u64 0, .int .u64 0, .int .u64 0, .slice none 0 0]) (h0 : a0.tmps[0]? = some (.slice (some ⟨A, off, none⟩) n ca)) (h2 : a0.tmps[2]? = some (.pointer (some ⟨R, 0, none⟩))) (k0 : w0.cell? ⟨A, off, none⟩ = some (.int .u64 (ww3 (qf 0).1))) (l0 : (⟨A, off, none⟩ : Addr).block < R) (k1 : w0.cell? ⟨A, off + 1, none⟩ = some (.int .u64 (ww2 (qf 0).1))) (l1 : (⟨A, off + 1, none⟩ : Addr).block < R) (k2 : w0.cell? ⟨A, off + 2, none⟩ = some (.int .u64 (ww1 (qf 0).1))) (l2 : (⟨A, off + 2, none⟩ : Addr).block < R) (k3 : w0.cell? ⟨A, off + 3, none⟩ = some (.int .u64 (ww0 (qf 0).1))) (l3 : (⟨A, off + 3, none⟩ : Addr).block < R) (k4 : w0.cell? ⟨A, off + 4, none⟩ = some (.int .u64 (ww3 (qf 0).2.1))) (l4 : (⟨A, off + 4, none⟩ : Addr).block < R) (k5 : w0.cell? ⟨A, off + 5, none⟩ = some (.int .u64 (ww2 (qf 0).2.1))) (l5 : (⟨A, off + 5, none⟩ : Addr).block < R) (k6 : w0.cell? ⟨A, off + 6, none⟩ = some (.int .u64 (ww1 (qf 0).2.1))) (l6 : (⟨A, off + 6, none⟩ : Addr).block < R) (k7 : w0.cell? ⟨A, off + 7, none⟩ = some (.int .u64 (ww0 (qf 0).2.1))) (l7 : (⟨A, off + 7, none⟩ : Addr).block < R) (k8 : w0.cell? ⟨A, off + 8, none⟩ = some (.int .u64 (ww3 (qf 0).2.2))) (l8 : (⟨A, off + 8, none⟩ : Addr).block < R) (k9 : w0.cell? ⟨A, off + 9, none⟩ = some (.int .u64 (ww2 (qf 0).2.2))) (l9 : (⟨A, off + 9, none⟩ : Addr).block < R) (k10 : w0.cell? ⟨A, off + 10, none⟩ = some (.int .u64 (ww1 (qf 0).2.2))) (l10 : (⟨A, off + 10, none⟩ : Addr).block < R) (k11 : w0.cell? ⟨A, off + 11, none⟩ = some (.int .u64 (ww0 (qf 0).2.2))) (l11 : (⟨A, off + 11, none⟩ : Addr).block < R) (k12 : w0.cell? ⟨A, off + 12, none⟩ = some (.slice (some ⟨Ab, ob, none⟩) (Lf 0) mc)) (l12 : (⟨A, off + 12, none⟩ : Addr).block < R) (hz : a0.tmps.size = 21)
    (hQ : ∀ aq W, aq.tmps.size = a0.tmps.size → aq.defers = a0.defers → (∀ e, e ∉ ([14, 15, 16, 17, 18, 19, 20, 3, 4] : List Nat) → aq.tmps[e]? = a0.tmps[e]?) → VewG R B4 n qf Lf Ef A off ca Ab ob mc (R) 9 (aq.tmps.getD 4 undef) W → Below (R) w0 W → (∃ t1 s gs cs, Blk W R [.int .u64 (ww3 (qf 0).1), .int .u64 (ww2 (qf 0).1), .int .u64 (ww1 (qf 0).1), .int .u64 (ww0 (qf 0).1), .int .u64 (ww3 (qf 0).2.1), .int .u64 (ww2 (qf 0).2.1), .int .u64 (ww1 (qf 0).2.1), .int .u64 (ww0 (qf 0).2.1), .int .u64 (ww3 (qf 0).2.2), .int .u64 (ww2 (qf 0).2.2), .int .u64 (ww1 (qf 0).2.2), .int .u64 (ww0 (qf 0).2.2), (.slice (some ⟨gs, 0, none⟩) (Lf 0) cs)] ∧ B4 ≤ t1 ∧ t1 ≤ W.heap.size ∧ NoRow W B4 t1 (.slice (some ⟨gs, 0, none⟩) (Lf 0) cs) (Lf 0) (Ef 0) ∧ EvRow W t1 W.heap.size (aq.tmps.getD 3 undef) (n - 1) (wq (fun i => qf (i + 1))) s (fun i => Lf (i + 1)) (fun i => Ef (i + 1))) → Q .normal aq W) :
    (Code.region idq #[{ dst := some 14, op := Op.move (Operand.tmp 0), type := t0, pos := q0, after := #[], guard := none },
    { dst := some 15, op := Op.indexAddr 45 (Operand.tmp 14) (Operand.const (Value.int IntKind.i64 0)), type := t1, pos := q1, after := #[{ on := 0, ground := Ground.data }], guard := none },
    { dst := some 16, op := Op.load 44 (Operand.tmp 15), type := t2, pos := q2, after := #[{ on := 1, ground := Ground.data }], guard := none },
    { dst := some 17, op := Op.call { callee := Callee.value (Operand.func 41), args := #[Operand.tmp 16], argTypes := #[44] }, type := t3, pos := q3, after := #[{ on := 2, ground := Ground.data }], guard := none },
    { dst := some 18, op := Op.move (Operand.tmp 0), type := t4, pos := q4, after := #[], guard := none },
    { dst := some 19, op := Op.slice 45 (Operand.tmp 18) (some (Operand.const (Value.int IntKind.i64 1))) none none, type := t5, pos := q5, after := #[{ on := 4, ground := Ground.data }], guard := none },
    { dst := some 20, op := Op.call { callee := Callee.value (Operand.func 42), args := #[Operand.tmp 19], argTypes := #[45] }, type := t6, pos := q6, after := #[{ on := 5, ground := Ground.data }, { on := 3, ground := Ground.chain }], guard := none },
    { dst := none, op := Op.store 44 (Operand.tmp 2) (Operand.tmp 17), type := t7, pos := q7, after := #[{ on := 3, ground := Ground.data }, { on := 6, ground := Ground.chain }, { on := 0, ground := Ground.phase }, { on := 1, ground := Ground.phase }, { on := 2, ground := Ground.phase }, { on := 3, ground := Ground.phase }, { on := 4, ground := Ground.textOnly Departure.lateStores }, { on := 5, ground := Ground.textOnly Departure.lateStoresUnsure }, { on := 6, ground := Ground.textOnly Departure.lateStoresUnsure }], guard := none },
    { dst := some 3, op := Op.assign (Operand.tmp 20), type := t8, pos := q8, after := #[{ on := 6, ground := Ground.data }, { on := 7, ground := Ground.chain }, { on := 0, ground := Ground.phase }, { on := 1, ground := Ground.phase }, { on := 2, ground := Ground.phase }, { on := 3, ground := Ground.phase }, { on := 4, ground := Ground.phase }, { on := 5, ground := Ground.phase }, { on := 6, ground := Ground.phase }, { on := 7, ground := Ground.phase }], guard := none },
    { dst := some 4, op := Op.assign (Operand.const (Value.bool true)), type := t9, pos := q9, after := #[{ on := 8, ground := Ground.chain }, { on := 0, ground := Ground.phase }, { on := 1, ground := Ground.phase }, { on := 2, ground := Ground.phase }, { on := 3, ground := Ground.phase }, { on := 4, ground := Ground.phase }, { on := 5, ground := Ground.phase }, { on := 6, ground := Ground.phase }, { on := 7, ground := Ground.phase }, { on := 8, ground := Ground.phase }], guard := none }] true).wp Try.prog Q a0 w0 := by
  have hS : distS [some 14, some 15, some 16, some 17, some 18, some 19, some 20, none, some 3, some 4] = true := rfl
  refine wp_region_inv (by kernel_rfl) (JewG R B4 n qf Lf Ef A off ca Ab ob mc w0 a0) ⟨⟨rfl, rfl, rfl, fun _ _ => rfl, (Below.refl _ w0).drew, fun j d hj => ?_, fun j hj => ?_⟩, ⟨TkI.start s0, (fun h => by rw [replD] at h; cases h)⟩⟩ ?_ ?_
  · exfalso
    rw [Array.getD_eq_getD_getElem?, Array.getElem?_replicate] at hj
    split at hj <;> simp at hj
  · exfalso
    rw [Array.getD_eq_getD_getElem?, Array.getElem?_replicate] at hj
    split at hj <;> simp at hj
  · intro lq aq W iq oq ⟨hJ, hs⟩ hl ho hall
    have hJ2 := hJ
    obtain ⟨z1, z2, z3, z4, z5, z6, z7⟩ := hJ
    have g0 : aq.tmps.getD 0 undef = .slice (some ⟨A, off, none⟩) n ca := by rw [Array.getD_eq_getD_getElem?, z4 0 (by decide), h0]; rfl
    have g2 : aq.tmps.getD 2 undef = .pointer (some ⟨R, 0, none⟩) := by rw [Array.getD_eq_getD_getElem?, z4 2 (by decide), h2]; rfl
    have c0 : W.cell? ⟨A, off, none⟩ = some (.int .u64 (ww3 (qf 0).1)) := (z5.cell l0).trans k0
    have c1 : W.cell? ⟨A, off + 1, none⟩ = some (.int .u64 (ww2 (qf 0).1)) := (z5.cell l1).trans k1
    have c2 : W.cell? ⟨A, off + 2, none⟩ = some (.int .u64 (ww1 (qf 0).1)) := (z5.cell l2).trans k2
    have c3 : W.cell? ⟨A, off + 3, none⟩ = some (.int .u64 (ww0 (qf 0).1)) := (z5.cell l3).trans k3
    have c4 : W.cell? ⟨A, off + 4, none⟩ = some (.int .u64 (ww3 (qf 0).2.1)) := (z5.cell l4).trans k4
    have c5 : W.cell? ⟨A, off + 5, none⟩ = some (.int .u64 (ww2 (qf 0).2.1)) := (z5.cell l5).trans k5
    have c6 : W.cell? ⟨A, off + 6, none⟩ = some (.int .u64 (ww1 (qf 0).2.1)) := (z5.cell l6).trans k6
    have c7 : W.cell? ⟨A, off + 7, none⟩ = some (.int .u64 (ww0 (qf 0).2.1)) := (z5.cell l7).trans k7
    have c8 : W.cell? ⟨A, off + 8, none⟩ = some (.int .u64 (ww3 (qf 0).2.2)) := (z5.cell l8).trans k8
    have c9 : W.cell? ⟨A, off + 9, none⟩ = some (.int .u64 (ww2 (qf 0).2.2)) := (z5.cell l9).trans k9
    have c10 : W.cell? ⟨A, off + 10, none⟩ = some (.int .u64 (ww1 (qf 0).2.2)) := (z5.cell l10).trans k10
    have c11 : W.cell? ⟨A, off + 11, none⟩ = some (.int .u64 (ww0 (qf 0).2.2)) := (z5.cell l11).trans k11
    have c12 : W.cell? ⟨A, off + 12, none⟩ = some (.slice (some ⟨Ab, ob, none⟩) (Lf 0) mc) := (z5.cell l12).trans k12
    match iq, ho with
    | 0, ho =>
      cases ho
      refine wpOp_of rfl rfl ?_
      have hq := fun (v : Value) => (⟨hs.1.quiet 0 14 v (by decide) (by decide), by rw [getD_set_neq (i := 0) (j := 8) (by decide), getD_set_neq (i := 0) (j := 7) (by decide)]; exact hs.2⟩ : SewG R B4 n qf Lf Ef A off ca Ab ob mc (lq.setIfInBounds 0 true) (aq.put (some 14) v) W)
      have hK := fun (v : Value) (W2 : World) hW hT hv (hs : SewG R B4 n qf Lf Ef A off ca Ab ob mc (lq.setIfInBounds 0 true) (aq.put (some 14) v) W2) => show (JewG R B4 n qf Lf Ef A off ca Ab ob mc w0 a0) (lq.setIfInBounds 0 true) (aq.put (some 14) v) W2 from ⟨hJ2.put hS 0 14 rfl (by omega) (W' := W2) hW hT v hv, hs⟩
      clear ho hall hl hQ
      generalize (JewG R B4 n qf Lf Ef A off ca Ab ob mc w0 a0) (lq.setIfInBounds 0 true) = K at hK ⊢
      clear hJ2 hS z1 z2 z3 z4 z6 z7
      go_simp
      exact hK _ _ z5 (fun _ _ h => h) rfl (hq _)
    | 1, ho =>
      cases ho
      refine wpOp_of rfl rfl ?_
      have f0 : (aq.tmps.getD 14 undef) = .slice (some ⟨A, off, none⟩) n ca := z6 0 14 (hall { on := 0, ground := Ground.data } (by simp) rfl) rfl
      have hq := fun (v : Value) => (⟨hs.1.quiet 1 15 v (by decide) (by decide), by rw [getD_set_neq (i := 1) (j := 8) (by decide), getD_set_neq (i := 1) (j := 7) (by decide)]; exact hs.2⟩ : SewG R B4 n qf Lf Ef A off ca Ab ob mc (lq.setIfInBounds 1 true) (aq.put (some 15) v) W)
      have hK := fun (v : Value) (W2 : World) hW hT hv (hs : SewG R B4 n qf Lf Ef A off ca Ab ob mc (lq.setIfInBounds 1 true) (aq.put (some 15) v) W2) => show (JewG R B4 n qf Lf Ef A off ca Ab ob mc w0 a0) (lq.setIfInBounds 1 true) (aq.put (some 15) v) W2 from ⟨hJ2.put hS 1 15 rfl (by omega) (W' := W2) hW hT v hv, hs⟩
      clear ho hall hl hQ
      generalize (JewG R B4 n qf Lf Ef A off ca Ab ob mc w0 a0) (lq.setIfInBounds 1 true) = K at hK ⊢
      clear hJ2 hS z1 z2 z3 z4 z6 z7
      go_simp
      exact hK _ _ z5 (fun _ _ h => h) rfl (hq _)
    | 2, ho =>
      cases ho
      refine wpOp_of rfl rfl ?_
      have f1 : (aq.tmps.getD 15 undef) = .pointer (some ⟨A, off, none⟩) := z6 1 15 (hall { on := 1, ground := Ground.data } (by simp) rfl) rfl
      have hq := fun (v : Value) => (⟨hs.1.quiet 2 16 v (by decide) (by decide), by rw [getD_set_neq (i := 2) (j := 8) (by decide), getD_set_neq (i := 2) (j := 7) (by decide)]; exact hs.2⟩ : SewG R B4 n qf Lf Ef A off ca Ab ob mc (lq.setIfInBounds 2 true) (aq.put (some 16) v) W)
      have hK := fun (v : Value) (W2 : World) hW hT hv (hs : SewG R B4 n qf Lf Ef A off ca Ab ob mc (lq.setIfInBounds 2 true) (aq.put (some 16) v) W2) => show (JewG R B4 n qf Lf Ef A off ca Ab ob mc w0 a0) (lq.setIfInBounds 2 true) (aq.put (some 16) v) W2 from ⟨hJ2.put hS 2 16 rfl (by omega) (W' := W2) hW hT v hv, hs⟩
      clear ho hall hl hQ
      generalize (JewG R B4 n qf Lf Ef A off ca Ab ob mc w0 a0) (lq.setIfInBounds 2 true) = K at hK ⊢
      clear hJ2 hS z1 z2 z3 z4 z6 z7
      go_simp
      exact hK _ _ z5 (fun _ _ h => h) rfl (hq _)
    | 3, ho =>
      cases ho
      refine wpOp_of rfl rfl ?_
      have f2 : (aq.tmps.getD 16 undef) = .agg #[.int .u64 (ww3 (qf 0).1), .int .u64 (ww2 (qf 0).1), .int .u64 (ww1 (qf 0).1), .int .u64 (ww0 (qf 0).1), .int .u64 (ww3 (qf 0).2.1), .int .u64 (ww2 (qf 0).2.1), .int .u64 (ww1 (qf 0).2.1), .int .u64 (ww0 (qf 0).2.1), .int .u64 (ww3 (qf 0).2.2), .int .u64 (ww2 (qf 0).2.2), .int .u64 (ww1 (qf 0).2.2), .int .u64 (ww0 (qf 0).2.2), .slice (some ⟨Ab, ob, none⟩) (Lf 0) mc] := z6 2 16 (hall { on := 2, ground := Ground.data } (by simp) rfl) rfl
      have H := hs.1
      unfold TkI at H
      rw [getD_tf hl] at H
      have hq := fun (W2 : World) (gs cs : Nat) hB hO => (⟨TkI.put3 hl (by rw [z2, hz]; decide) (u := .agg #[.int .u64 (ww3 (qf 0).1), .int .u64 (ww2 (qf 0).1), .int .u64 (ww1 (qf 0).1), .int .u64 (ww0 (qf 0).1), .int .u64 (ww3 (qf 0).2.1), .int .u64 (ww2 (qf 0).2.1), .int .u64 (ww1 (qf 0).2.1), .int .u64 (ww0 (qf 0).2.1), .int .u64 (ww3 (qf 0).2.2), .int .u64 (ww2 (qf 0).2.2), .int .u64 (ww1 (qf 0).2.2), .int .u64 (ww0 (qf 0).2.2), (.slice (some ⟨gs, 0, none⟩) (Lf 0) cs)]) (W2 := W2) (H.called3 (gs := gs) (cs := cs) hB hO), by rw [getD_set_neq (i := 3) (j := 8) (by decide), getD_set_neq (i := 3) (j := 7) (by decide)]; exact hs.2⟩ : SewG R B4 n qf Lf Ef A off ca Ab ob mc (lq.setIfInBounds 3 true) (aq.put (some 17) (.agg #[.int .u64 (ww3 (qf 0).1), .int .u64 (ww2 (qf 0).1), .int .u64 (ww1 (qf 0).1), .int .u64 (ww0 (qf 0).1), .int .u64 (ww3 (qf 0).2.1), .int .u64 (ww2 (qf 0).2.1), .int .u64 (ww1 (qf 0).2.1), .int .u64 (ww0 (qf 0).2.1), .int .u64 (ww3 (qf 0).2.2), .int .u64 (ww2 (qf 0).2.2), .int .u64 (ww1 (qf 0).2.2), .int .u64 (ww0 (qf 0).2.2), (.slice (some ⟨gs, 0, none⟩) (Lf 0) cs)])) W2)
      have zs := z5.size
      have hK := fun (v : Value) (W2 : World) hW hT hv (hs : SewG R B4 n qf Lf Ef A off ca Ab ob mc (lq.setIfInBounds 3 true) (aq.put (some 17) v) W2) => show (JewG R B4 n qf Lf Ef A off ca Ab ob mc w0 a0) (lq.setIfInBounds 3 true) (aq.put (some 17) v) W2 from ⟨hJ2.put hS 3 17 rfl (by omega) (W' := W2) hW hT v hv, hs⟩
      clear ho hall hl hQ
      generalize (JewG R B4 n qf Lf Ef A off ca Ab ob mc w0 a0) (lq.setIfInBounds 3 true) = K at hK ⊢
      clear hJ2 hS z1 z2 z3 z4 z6 z7
      go_simp
      refine (hC3 W (noIn_below hN z5 hAb)).mono ?_
      rintro r v1 ⟨gs, cs, rfl, hO, hBv⟩
      exact hK _ _ (z5.trans (hBv.mono (by omega))) (fun _ _ h => h.same) trivial (hq _ gs cs hBv (ownN_mono hO (by omega)))
    | 4, ho =>
      cases ho
      refine wpOp_of rfl rfl ?_
      have hq := fun (v : Value) => (⟨hs.1.quiet 4 18 v (by decide) (by decide), by rw [getD_set_neq (i := 4) (j := 8) (by decide), getD_set_neq (i := 4) (j := 7) (by decide)]; exact hs.2⟩ : SewG R B4 n qf Lf Ef A off ca Ab ob mc (lq.setIfInBounds 4 true) (aq.put (some 18) v) W)
      have hK := fun (v : Value) (W2 : World) hW hT hv (hs : SewG R B4 n qf Lf Ef A off ca Ab ob mc (lq.setIfInBounds 4 true) (aq.put (some 18) v) W2) => show (JewG R B4 n qf Lf Ef A off ca Ab ob mc w0 a0) (lq.setIfInBounds 4 true) (aq.put (some 18) v) W2 from ⟨hJ2.put hS 4 18 rfl (by omega) (W' := W2) hW hT v hv, hs⟩
      clear ho hall hl hQ
      generalize (JewG R B4 n qf Lf Ef A off ca Ab ob mc w0 a0) (lq.setIfInBounds 4 true) = K at hK ⊢
      clear hJ2 hS z1 z2 z3 z4 z6 z7
      go_simp
      exact hK _ _ z5 (fun _ _ h => h) rfl (hq _)
    | 5, ho =>
      cases ho
      refine wpOp_of rfl rfl ?_
      have f4 : (aq.tmps.getD 18 undef) = .slice (some ⟨A, off, none⟩) n ca := z6 4 18 (hall { on := 4, ground := Ground.data } (by simp) rfl) rfl
      have hq := fun (v : Value) => (⟨hs.1.quiet 5 19 v (by decide) (by decide), by rw [getD_set_neq (i := 5) (j := 8) (by decide), getD_set_neq (i := 5) (j := 7) (by decide)]; exact hs.2⟩ : SewG R B4 n qf Lf Ef A off ca Ab ob mc (lq.setIfInBounds 5 true) (aq.put (some 19) v) W)
      have hK := fun (v : Value) (W2 : World) hW hT hv (hs : SewG R B4 n qf Lf Ef A off ca Ab ob mc (lq.setIfInBounds 5 true) (aq.put (some 19) v) W2) => show (JewG R B4 n qf Lf Ef A off ca Ab ob mc w0 a0) (lq.setIfInBounds 5 true) (aq.put (some 19) v) W2 from ⟨hJ2.put hS 5 19 rfl (by omega) (W' := W2) hW hT v hv, hs⟩
      clear ho hall hl hQ
      generalize (JewG R B4 n qf Lf Ef A off ca Ab ob mc w0 a0) (lq.setIfInBounds 5 true) = K at hK ⊢
      clear hJ2 hS z1 z2 z3 z4 z6 z7
      go_simp
      by_cases e1 : ca = 1
      · rw [if_pos e1]
        exact hK _ _ z5 (fun _ _ h => h) ⟨_, rfl, .inl (by omega)⟩ (hq _)
      · rw [if_neg e1]
        exact hK _ _ z5 (fun _ _ h => h) ⟨_, rfl, .inr rfl⟩ (hq _)
    | 6, ho =>
      cases ho
      refine wpOp_of rfl rfl ?_
      have f5 : ∃ ad, (aq.tmps.getD 19 undef) = .slice (some ⟨A, ad, none⟩) (n - 1) (ca - 1) ∧ (n = 1 ∨ ad = off + 13) := z6 5 19 (hall { on := 5, ground := Ground.data } (by simp) rfl) rfl
      obtain ⟨ad, f5, had⟩ := f5
      have l3 := hall { on := 3, ground := Ground.chain } (by simp) rfl
      have H := hs.1
      unfold TkI at H
      rw [getD_tf hl, l3] at H
      have l8 : lq.getD 8 false = false := by cases e8 : lq.getD 8 false with | false => rfl | true => have := H.o2 (hs.2 e8); cases this
      have zs := z5.size
      have hq := fun (W2 : World) (u : Value) (s : Nat → Value) hB hO => (⟨TkI.put6 hl (by rw [z2, hz]; decide) (u := u) (W2 := W2) (by rw [l3]; exact H.called6 (s := s) l8 (by omega) hB hO), by rw [getD_set_neq (i := 6) (j := 8) (by decide), getD_set_neq (i := 6) (j := 7) (by decide)]; exact hs.2⟩ : SewG R B4 n qf Lf Ef A off ca Ab ob mc (lq.setIfInBounds 6 true) (aq.put (some 20) u) W2)
      have HT : EvIn W (some ⟨A, ad, none⟩) (n - 1) (fun i => qf (i + 1)) (fun i => Sf (i + 1)) (fun i => Lf (i + 1)) (fun i => Ef (i + 1)) := by
        rcases had with had | had
        · exact fun i hi => absurd hi (by omega)
        · subst had; exact (hE.step (by rw [hRe]; exact hB0.trans z5)).tail
      have hK := fun (v : Value) (W2 : World) hW hT hv (hs : SewG R B4 n qf Lf Ef A off ca Ab ob mc (lq.setIfInBounds 6 true) (aq.put (some 20) v) W2) => show (JewG R B4 n qf Lf Ef A off ca Ab ob mc w0 a0) (lq.setIfInBounds 6 true) (aq.put (some 20) v) W2 from ⟨hJ2.put hS 6 20 rfl (by omega) (W' := W2) hW hT v hv, hs⟩
      clear ho hall hl hQ
      generalize (JewG R B4 n qf Lf Ef A off ca Ab ob mc w0 a0) (lq.setIfInBounds 6 true) = K at hK ⊢
      clear hJ2 hS z1 z2 z3 z4 z6 z7
      clear hs H
      go_simp
      refine (hC6 W ad HT).mono ?_
      rintro r v1 ⟨u, s, rfl, hO, hBv⟩
      exact hK _ _ (z5.trans (hBv.mono (by omega))) (fun _ _ h => h.same) trivial (hq _ u s hBv hO)
    | 7, ho =>
      cases ho
      refine wpOp_of rfl rfl ?_
      have l6 := hall { on := 6, ground := Ground.chain } (by simp) rfl
      have l3 := hall { on := 3, ground := Ground.data } (by simp) rfl
      have H := hs.1
      unfold TkI at H
      rw [getD_tf hl, l6, l3] at H
      obtain ⟨t1, s, gs, cs, f17, hr⟩ := H.k20 rfl rfl
      have xR := H.z rfl
      have rl := xR.lt
      have y0 := xR.c 0 rfl; have g0z := xR.f 0 rfl
      have y1 := xR.c 1 rfl; have g1z := xR.f 1 rfl
      have y2 := xR.c 2 rfl; have g2z := xR.f 2 rfl
      have y3 := xR.c 3 rfl; have g3z := xR.f 3 rfl
      have y4 := xR.c 4 rfl; have g4z := xR.f 4 rfl
      have y5 := xR.c 5 rfl; have g5z := xR.f 5 rfl
      have y6 := xR.c 6 rfl; have g6z := xR.f 6 rfl
      have y7 := xR.c 7 rfl; have g7z := xR.f 7 rfl
      have y8 := xR.c 8 rfl; have g8z := xR.f 8 rfl
      have y9 := xR.c 9 rfl; have g9z := xR.f 9 rfl
      have y10 := xR.c 10 rfl; have g10z := xR.f 10 rfl
      have y11 := xR.c 11 rfl; have g11z := xR.f 11 rfl
      have y12 := xR.c 12 rfl; have g12z := xR.f 12 rfl
      have NB : Blk (((((((((((((W.setCell ⟨R, 0, none⟩ (.int .u64 (ww3 (qf 0).1))).setCell ⟨R, 1, none⟩ (.int .u64 (ww2 (qf 0).1))).setCell ⟨R, 2, none⟩ (.int .u64 (ww1 (qf 0).1))).setCell ⟨R, 3, none⟩ (.int .u64 (ww0 (qf 0).1))).setCell ⟨R, 4, none⟩ (.int .u64 (ww3 (qf 0).2.1))).setCell ⟨R, 5, none⟩ (.int .u64 (ww2 (qf 0).2.1))).setCell ⟨R, 6, none⟩ (.int .u64 (ww1 (qf 0).2.1))).setCell ⟨R, 7, none⟩ (.int .u64 (ww0 (qf 0).2.1))).setCell ⟨R, 8, none⟩ (.int .u64 (ww3 (qf 0).2.2))).setCell ⟨R, 9, none⟩ (.int .u64 (ww2 (qf 0).2.2))).setCell ⟨R, 10, none⟩ (.int .u64 (ww1 (qf 0).2.2))).setCell ⟨R, 11, none⟩ (.int .u64 (ww0 (qf 0).2.2))).setCell ⟨R, 12, none⟩ ((.slice (some ⟨gs, 0, none⟩) (Lf 0) cs))) R [.int .u64 (ww3 (qf 0).1), .int .u64 (ww2 (qf 0).1), .int .u64 (ww1 (qf 0).1), .int .u64 (ww0 (qf 0).1), .int .u64 (ww3 (qf 0).2.1), .int .u64 (ww2 (qf 0).2.1), .int .u64 (ww1 (qf 0).2.1), .int .u64 (ww0 (qf 0).2.1), .int .u64 (ww3 (qf 0).2.2), .int .u64 (ww2 (qf 0).2.2), .int .u64 (ww1 (qf 0).2.2), .int .u64 (ww0 (qf 0).2.2), (.slice (some ⟨gs, 0, none⟩) (Lf 0) cs)] := setAll_blk [.int .u64 (ww3 (qf 0).1), .int .u64 (ww2 (qf 0).1), .int .u64 (ww1 (qf 0).1), .int .u64 (ww0 (qf 0).1), .int .u64 (ww3 (qf 0).2.1), .int .u64 (ww2 (qf 0).2.1), .int .u64 (ww1 (qf 0).2.1), .int .u64 (ww0 (qf 0).2.1), .int .u64 (ww3 (qf 0).2.2), .int .u64 (ww2 (qf 0).2.2), .int .u64 (ww1 (qf 0).2.2), .int .u64 (ww0 (qf 0).2.2), (.slice (some ⟨gs, 0, none⟩) (Lf 0) cs)] 0 xR (by simp)
      have NL : Below R w0 (((((((((((((W.setCell ⟨R, 0, none⟩ (.int .u64 (ww3 (qf 0).1))).setCell ⟨R, 1, none⟩ (.int .u64 (ww2 (qf 0).1))).setCell ⟨R, 2, none⟩ (.int .u64 (ww1 (qf 0).1))).setCell ⟨R, 3, none⟩ (.int .u64 (ww0 (qf 0).1))).setCell ⟨R, 4, none⟩ (.int .u64 (ww3 (qf 0).2.1))).setCell ⟨R, 5, none⟩ (.int .u64 (ww2 (qf 0).2.1))).setCell ⟨R, 6, none⟩ (.int .u64 (ww1 (qf 0).2.1))).setCell ⟨R, 7, none⟩ (.int .u64 (ww0 (qf 0).2.1))).setCell ⟨R, 8, none⟩ (.int .u64 (ww3 (qf 0).2.2))).setCell ⟨R, 9, none⟩ (.int .u64 (ww2 (qf 0).2.2))).setCell ⟨R, 10, none⟩ (.int .u64 (ww1 (qf 0).2.2))).setCell ⟨R, 11, none⟩ (.int .u64 (ww0 (qf 0).2.2))).setCell ⟨R, 12, none⟩ ((.slice (some ⟨gs, 0, none⟩) (Lf 0) cs))) := setAll_below (Nat.le_refl R) [.int .u64 (ww3 (qf 0).1), .int .u64 (ww2 (qf 0).1), .int .u64 (ww1 (qf 0).1), .int .u64 (ww0 (qf 0).1), .int .u64 (ww3 (qf 0).2.1), .int .u64 (ww2 (qf 0).2.1), .int .u64 (ww1 (qf 0).2.1), .int .u64 (ww0 (qf 0).2.1), .int .u64 (ww3 (qf 0).2.2), .int .u64 (ww2 (qf 0).2.2), .int .u64 (ww1 (qf 0).2.2), .int .u64 (ww0 (qf 0).2.2), (.slice (some ⟨gs, 0, none⟩) (Lf 0) cs)] 0 z5
      have hq : SewG R B4 n qf Lf Ef A off ca Ab ob mc (lq.setIfInBounds 7 true) aq (((((((((((((W.setCell ⟨R, 0, none⟩ (.int .u64 (ww3 (qf 0).1))).setCell ⟨R, 1, none⟩ (.int .u64 (ww2 (qf 0).1))).setCell ⟨R, 2, none⟩ (.int .u64 (ww1 (qf 0).1))).setCell ⟨R, 3, none⟩ (.int .u64 (ww0 (qf 0).1))).setCell ⟨R, 4, none⟩ (.int .u64 (ww3 (qf 0).2.1))).setCell ⟨R, 5, none⟩ (.int .u64 (ww2 (qf 0).2.1))).setCell ⟨R, 6, none⟩ (.int .u64 (ww1 (qf 0).2.1))).setCell ⟨R, 7, none⟩ (.int .u64 (ww0 (qf 0).2.1))).setCell ⟨R, 8, none⟩ (.int .u64 (ww3 (qf 0).2.2))).setCell ⟨R, 9, none⟩ (.int .u64 (ww2 (qf 0).2.2))).setCell ⟨R, 10, none⟩ (.int .u64 (ww1 (qf 0).2.2))).setCell ⟨R, 11, none⟩ (.int .u64 (ww0 (qf 0).2.2))).setCell ⟨R, 12, none⟩ ((.slice (some ⟨gs, 0, none⟩) (Lf 0) cs))) := ⟨TkI.put7 hl (by rw [l6, l3]; exact H.stored7 hr hRB (setAll_size [.int .u64 (ww3 (qf 0).1), .int .u64 (ww2 (qf 0).1), .int .u64 (ww1 (qf 0).1), .int .u64 (ww0 (qf 0).1), .int .u64 (ww3 (qf 0).2.1), .int .u64 (ww2 (qf 0).2.1), .int .u64 (ww1 (qf 0).2.1), .int .u64 (ww0 (qf 0).2.1), .int .u64 (ww3 (qf 0).2.2), .int .u64 (ww2 (qf 0).2.2), .int .u64 (ww1 (qf 0).2.2), .int .u64 (ww0 (qf 0).2.2), (.slice (some ⟨gs, 0, none⟩) (Lf 0) cs)] 0) (fun k hk => setAll_heap hk [.int .u64 (ww3 (qf 0).1), .int .u64 (ww2 (qf 0).1), .int .u64 (ww1 (qf 0).1), .int .u64 (ww0 (qf 0).1), .int .u64 (ww3 (qf 0).2.1), .int .u64 (ww2 (qf 0).2.1), .int .u64 (ww1 (qf 0).2.1), .int .u64 (ww0 (qf 0).2.1), .int .u64 (ww3 (qf 0).2.2), .int .u64 (ww2 (qf 0).2.2), .int .u64 (ww1 (qf 0).2.2), .int .u64 (ww0 (qf 0).2.2), (.slice (some ⟨gs, 0, none⟩) (Lf 0) cs)] 0) NB), fun _ => getD_set_eq hl⟩
      clear xR NB hr
      have hK := fun (W2 : World) hW hT hv (hs : SewG R B4 n qf Lf Ef A off ca Ab ob mc (lq.setIfInBounds 7 true) aq W2) => show (JewG R B4 n qf Lf Ef A off ca Ab ob mc w0 a0) (lq.setIfInBounds 7 true) aq W2 from ⟨hJ2.world 7 rfl (W' := W2) hW hT hv, hs⟩
      clear ho hall hl hQ
      generalize (JewG R B4 n qf Lf Ef A off ca Ab ob mc w0 a0) (lq.setIfInBounds 7 true) = K at hK ⊢
      clear hJ2 hS z1 z2 z3 z4 z6 z7
      clear hs H
      go_simp
      exact hK _ NL (fun _ _ h => h.same) trivial hq
    | 8, ho =>
      cases ho
      refine wpOp_of rfl rfl ?_
      have l7 := hall { on := 7, ground := Ground.chain } (by simp) rfl
      have H := hs.1
      unfold TkI at H
      rw [getD_tf hl] at H
      have hq : SewG R B4 n qf Lf Ef A off ca Ab ob mc (lq.setIfInBounds 8 true) (aq.put (some 3) (aq.tmps.getD 20 undef)) W := ⟨TkI.put8 hl (by rw [z2, hz]; decide) (u := aq.tmps.getD 20 undef) H.assigned, fun _ => by rw [getD_set_neq (i := 8) (j := 7) (by decide)]; exact l7⟩
      have hK := fun (v : Value) (W2 : World) hW hT hv (hs : SewG R B4 n qf Lf Ef A off ca Ab ob mc (lq.setIfInBounds 8 true) (aq.put (some 3) v) W2) => show (JewG R B4 n qf Lf Ef A off ca Ab ob mc w0 a0) (lq.setIfInBounds 8 true) (aq.put (some 3) v) W2 from ⟨hJ2.put hS 8 3 rfl (by omega) (W' := W2) hW hT v hv, hs⟩
      clear ho hall hl hQ
      generalize (JewG R B4 n qf Lf Ef A off ca Ab ob mc w0 a0) (lq.setIfInBounds 8 true) = K at hK ⊢
      clear hJ2 hS z1 z2 z3 z4 z6 z7
      clear hs H
      rw [Array.getD_eq_getD_getElem?] at hq
      go_simp
      exact hK _ _ z5 (fun _ _ h => h) trivial hq
    | 9, ho =>
      cases ho
      refine wpOp_of rfl rfl ?_
      have hq := fun (v : Value) => (⟨hs.1.quiet 9 4 v (by decide) (by decide), by rw [getD_set_neq (i := 9) (j := 8) (by decide), getD_set_neq (i := 9) (j := 7) (by decide)]; exact hs.2⟩ : SewG R B4 n qf Lf Ef A off ca Ab ob mc (lq.setIfInBounds 9 true) (aq.put (some 4) v) W)
      have hK := fun (v : Value) (W2 : World) hW hT hv (hs : SewG R B4 n qf Lf Ef A off ca Ab ob mc (lq.setIfInBounds 9 true) (aq.put (some 4) v) W2) => show (JewG R B4 n qf Lf Ef A off ca Ab ob mc w0 a0) (lq.setIfInBounds 9 true) (aq.put (some 4) v) W2 from ⟨hJ2.put hS 9 4 rfl (by omega) (W' := W2) hW hT v hv, hs⟩
      clear ho hall hl hQ
      generalize (JewG R B4 n qf Lf Ef A off ca Ab ob mc w0 a0) (lq.setIfInBounds 9 true) = K at hK ⊢
      clear hJ2 hS z1 z2 z3 z4 z6 z7
      go_simp
      exact hK _ _ z5 (fun _ _ h => h) rfl (hq _)
    | iq + 10, ho => simp at ho
  · intro lq aq W ⟨hJ, hs⟩ hr
    obtain ⟨z1, z2, z3, z4, z5, z6, z7⟩ := hJ
    have hl := listed_of hr [4, 5, 0, 1, 2, 3, 6, 7, 8, 9] [] (by simp) (by kernel_rfl) (by rw [z1]; decide)
    exact hQ aq W z2 z3 (fun e he => z4 e (by simpa using he)) (z6 9 4 (hl 9 (by simp)) rfl) z5 (by have h8 := hl 8 (by simp); have h7 := hl 7 (by simp); rw [hs.1.k3 h8]; exact hs.1.kR h7)
set_option maxRecDepth 100000 in
set_option maxHeartbeats 8000000 in
theorem implTake_any (ao : Option Addr) (n cap : Nat) (q : Nat → Int × Int × Int) (S : Nat → Option Addr × Nat) (L : Nat → Nat) (E : Nat → Nat → Int) (w : World) (hS : EvIn w ao n q S L E) (hn : n ≤ 1048576) (hcap : n ≤ cap) (hT : ∀ i, i < n → told (q i).1 = true ∧ told (q i).2.1 = true ∧ told (q i).2.2 = true) (hL : ∀ i, i < n → L i ≤ 1048576) : Calls Try.prog 20 #[.slice ao n cap] w (fun r w' => ∃ b t1 u v s, b = tkB n q L E ∧ r = .returned (.tuple #[.agg #[.int .u64 (ww3 (tkP b q).1), .int .u64 (ww2 (tkP b q).1), .int .u64 (ww1 (tkP b q).1), .int .u64 (ww0 (tkP b q).1), .int .u64 (ww3 (tkP b q).2.1), .int .u64 (ww2 (tkP b q).2.1), .int .u64 (ww1 (tkP b q).2.1), .int .u64 (ww0 (tkP b q).2.1), .int .u64 (ww3 (tkP b q).2.2), .int .u64 (ww2 (tkP b q).2.2), .int .u64 (ww1 (tkP b q).2.2), .int .u64 (ww0 (tkP b q).2.2), u], v, .bool b]) ∧ NoRow w' w.heap.size t1 u (tkM b L) (E 0) ∧ EvRow w' t1 w'.heap.size v (tkN b n) (wq (fun i => q (i + 1))) s (fun i => L (i + 1)) (fun i => E (i + 1)) ∧ w.heap.size ≤ t1 ∧ t1 ≤ w'.heap.size ∧ Below w.heap.size w w') := by
  have B0 : Blk (w.alloc (.cells #[.int .u64 0, .int .u64 0, .int .u64 0, .int .u64 0, .int .u64 0, .int .u64 0, .int .u64 0, .int .u64 0, .int .u64 0, .int .u64 0, .int .u64 0, .int .u64 0, .slice none 0 0] 44)) w.heap.size [.int .u64 0, .int .u64 0, .int .u64 0, .int .u64 0, .int .u64 0, .int .u64 0, .int .u64 0, .int .u64 0, .int .u64 0, .int .u64 0, .int .u64 0, .int .u64 0, .slice none 0 0] := Blk.new w [.int .u64 0, .int .u64 0, .int .u64 0, .int .u64 0, .int .u64 0, .int .u64 0, .int .u64 0, .int .u64 0, .int .u64 0, .int .u64 0, .int .u64 0, .int .u64 0, .slice none 0 0] 44 rfl
  have HB : Below w.heap.size w (w.alloc (.cells #[.int .u64 0, .int .u64 0, .int .u64 0, .int .u64 0, .int .u64 0, .int .u64 0, .int .u64 0, .int .u64 0, .int .u64 0, .int .u64 0, .int .u64 0, .int .u64 0, .slice none 0 0] 44)) := (Below.refl _ w).alloc (Nat.le_refl _) _
  have hsz : (w.alloc (.cells #[.int .u64 0, .int .u64 0, .int .u64 0, .int .u64 0, .int .u64 0, .int .u64 0, .int .u64 0, .int .u64 0, .int .u64 0, .int .u64 0, .int .u64 0, .int .u64 0, .slice none 0 0] 44)).heap.size = w.heap.size + 1 := by simp
  have hS1 := hS.step HB
  have CE := implEventsOk_any ao n cap q S L E (w.alloc (.cells #[.int .u64 0, .int .u64 0, .int .u64 0, .int .u64 0, .int .u64 0, .int .u64 0, .int .u64 0, .int .u64 0, .int .u64 0, .int .u64 0, .int .u64 0, .int .u64 0, .slice none 0 0] 44)) hS1 hT hL
  have hnI : (n : Int) ≤ 1048576 := by omega
  generalize hb : evB n q L E = b at CE
  by_cases hok : b = true ∧ 0 < n
  · obtain ⟨rfl, hn0⟩ := hok
    have hTK : tkB n q L E = true := by unfold tkB; rw [hb]; simpa using hn0
    obtain ⟨hn2, hL0⟩ := evB_pos hb
    obtain ⟨A, off, rfl, hA, _, _, _, _, _, _, _, _, _, _, _, _, _, hrow⟩ := hS 0 hn0
    obtain ⟨Ab, ob, hSb, hAb, _⟩ := hrow 0 (hL0 0 hn0)
    have C3 := fun w h => copied_any Ab ob (L 0) (S 0).2 (E 0) (q 0).1 (q 0).2.1 (q 0).2.2 (hL0 0 hn0) (hL 0 hn0) w h
    have C6 := fun (w : World) (ad : Nat) h => copiedEvents_any (some ⟨A, ad, none⟩) (n - 1) (cap - 1) (fun i => q (i + 1)) (fun i => S (i + 1)) (fun i => L (i + 1)) (fun i => E (i + 1)) (by omega) (fun i hi => ⟨hL0 (i + 1) (by omega), hL (i + 1) (by omega)⟩) w h
    have hn0I : (0 : Int) < n := by omega
    have HSE : Hid (EvIn w (some ⟨A, off, none⟩) n q S L E) := hS
    clear hT hL hS hrow
    go_enter Try.func20, Try.ntmps20
    go_wp2_with fail
    refine CE.mono ?_
    rintro r w1 ⟨rfl, hB1⟩
    replace B0 := B0.step hB1
    replace HB := HB.trans (hB1.mono HB.size)
    have wl1 : w.heap.size + 1 ≤ w1.heap.size := by have := hB1.size; omega
    clear CE hB1 hsz hS1
    obtain ⟨A', off', e', _, c0, c1, c2, c3, c4, c5, c6, c7, c8, c9, c10, c11, c12, hrow⟩ := HSE.out.step HB 0 hn0
    cases e'
    rw [hSb] at c12 hrow
    go_upto_region 3 with fail
    refine ewG (we := w) (Sf := S) (R := w.heap.size) (B4 := w.heap.size + 1) (n := n) (qf := q) (Lf := L) (Ef := E) (A := A) (off := off) (ca := cap) (Ab := Ab) (ob := ob) (mc := (S 0).2) hn0 hnI (by omega) hcap (by omega) (by omega) hrow hAb HSE.out HB rfl C3 C6 B0.drew rfl rfl c0 hA c1 hA c2 hA c3 hA c4 hA c5 hA c6 hA c7 hA c8 hA c9 hA c10 hA c11 hA c12 hA rfl ?_
    rintro ⟨tm, df⟩ Wz hz hdf hoff h4 hBz ⟨t1, s, gs, cs, BR, r1, r2, r3, r4⟩
    simp only at hz hdf hoff
    change tm.getD 4 undef = .bool true at h4
    change EvRow Wz t1 Wz.heap.size (tm.getD 3 undef) (n - 1) (wq (fun i => q (i + 1))) s (fun i => L (i + 1)) (fun i => E (i + 1)) at r4
    subst hdf
    generalize h3 : tm.getD 3 undef = o3 at r4
    have htm := tmps_fold [14, 15, 16, 17, 18, 19, 20, 3, 4] tm _ hz hoff
    simp only [List.foldl, List.setIfInBounds_toArray, List.set_cons_zero, List.set_cons_succ, h3, h4] at htm
    clear hz hoff
    generalize tm.getD 14 undef = u0, tm.getD 15 undef = u1, tm.getD 16 undef = u2, tm.getD 17 undef = u3, tm.getD 18 undef = u4, tm.getD 19 undef = u5, tm.getD 20 undef = u6 at htm
    clear h3 h4
    subst htm
    have HBF := HB.trans hBz
    have m0 := BR.c 0 rfl; have m1 := BR.c 1 rfl; have m2 := BR.c 2 rfl; have m3 := BR.c 3 rfl; have m4 := BR.c 4 rfl; have m5 := BR.c 5 rfl; have m6 := BR.c 6 rfl; have m7 := BR.c 7 rfl; have m8 := BR.c 8 rfl; have m9 := BR.c 9 rfl; have m10 := BR.c 10 rfl; have m11 := BR.c 11 rfl; have m12 := BR.c 12 rfl
    clear B0 HB hBz BR C3 C6 hrow c0 c1 c2 c3 c4 c5 c6 c7 c8 c9 c10 c11 c12
    go_wp2
    refine bodyPost_ret (v := .tuple #[.agg #[.int .u64 (ww3 (q 0).1), .int .u64 (ww2 (q 0).1), .int .u64 (ww1 (q 0).1), .int .u64 (ww0 (q 0).1), .int .u64 (ww3 (q 0).2.1), .int .u64 (ww2 (q 0).2.1), .int .u64 (ww1 (q 0).2.1), .int .u64 (ww0 (q 0).2.1), .int .u64 (ww3 (q 0).2.2), .int .u64 (ww2 (q 0).2.2), .int .u64 (ww1 (q 0).2.2), .int .u64 (ww0 (q 0).2.2), .slice (some ⟨gs, 0, none⟩) (L 0) cs], o3, .bool true]) (by simp [results, Try.results20, go_sem, m0, m1, m2, m3, m4, m5, m6, m7, m8, m9, m10, m11, m12]) rfl ?_
    exact ⟨true, t1, _, o3, s, hTK.symm, rfl, r3.mono (by omega) (Nat.le_refl _), r4, by omega, r2, HBF⟩
  · have hTK : tkB n q L E = false := by
      unfold tkB
      rw [hb]
      cases b with
      | false => rfl
      | true => simp at hok ⊢; omega
    have hE : ¬ (b = true ∧ 0 < n) := hok
    clear hS hT hL
    go_enter Try.func20, Try.ntmps20
    go_wp2_with fail
    refine CE.mono ?_
    rintro r w1 ⟨rfl, hB1⟩
    replace B0 := B0.step hB1
    replace HB := HB.trans (hB1.mono HB.size)
    have rl := B0.lt
    have y0 := B0.c 0 rfl; have g0z := B0.f 0 rfl; have y1 := B0.c 1 rfl; have g1z := B0.f 1 rfl; have y2 := B0.c 2 rfl; have g2z := B0.f 2 rfl; have y3 := B0.c 3 rfl; have g3z := B0.f 3 rfl; have y4 := B0.c 4 rfl; have g4z := B0.f 4 rfl; have y5 := B0.c 5 rfl; have g5z := B0.f 5 rfl; have y6 := B0.c 6 rfl; have g6z := B0.f 6 rfl; have y7 := B0.c 7 rfl; have g7z := B0.f 7 rfl; have y8 := B0.c 8 rfl; have g8z := B0.f 8 rfl; have y9 := B0.c 9 rfl; have g9z := B0.f 9 rfl; have y10 := B0.c 10 rfl; have g10z := B0.f 10 rfl; have y11 := B0.c 11 rfl; have g11z := B0.f 11 rfl; have y12 := B0.c 12 rfl; have g12z := B0.f 12 rfl
    have NB : Blk (((((((((((((w1.setCell ⟨w.heap.size, 0, none⟩ (.int .u64 0)).setCell ⟨w.heap.size, 1, none⟩ (.int .u64 0)).setCell ⟨w.heap.size, 2, none⟩ (.int .u64 0)).setCell ⟨w.heap.size, 3, none⟩ (.int .u64 0)).setCell ⟨w.heap.size, 4, none⟩ (.int .u64 0)).setCell ⟨w.heap.size, 5, none⟩ (.int .u64 0)).setCell ⟨w.heap.size, 6, none⟩ (.int .u64 0)).setCell ⟨w.heap.size, 7, none⟩ (.int .u64 0)).setCell ⟨w.heap.size, 8, none⟩ (.int .u64 0)).setCell ⟨w.heap.size, 9, none⟩ (.int .u64 0)).setCell ⟨w.heap.size, 10, none⟩ (.int .u64 0)).setCell ⟨w.heap.size, 11, none⟩ (.int .u64 0)).setCell ⟨w.heap.size, 12, none⟩ (.slice none 0 0)) w.heap.size [.int .u64 0, .int .u64 0, .int .u64 0, .int .u64 0, .int .u64 0, .int .u64 0, .int .u64 0, .int .u64 0, .int .u64 0, .int .u64 0, .int .u64 0, .int .u64 0, .slice none 0 0] := setAll_blk [.int .u64 0, .int .u64 0, .int .u64 0, .int .u64 0, .int .u64 0, .int .u64 0, .int .u64 0, .int .u64 0, .int .u64 0, .int .u64 0, .int .u64 0, .int .u64 0, .slice none 0 0] 0 B0 (by simp)
    have NL : Below w.heap.size w (((((((((((((w1.setCell ⟨w.heap.size, 0, none⟩ (.int .u64 0)).setCell ⟨w.heap.size, 1, none⟩ (.int .u64 0)).setCell ⟨w.heap.size, 2, none⟩ (.int .u64 0)).setCell ⟨w.heap.size, 3, none⟩ (.int .u64 0)).setCell ⟨w.heap.size, 4, none⟩ (.int .u64 0)).setCell ⟨w.heap.size, 5, none⟩ (.int .u64 0)).setCell ⟨w.heap.size, 6, none⟩ (.int .u64 0)).setCell ⟨w.heap.size, 7, none⟩ (.int .u64 0)).setCell ⟨w.heap.size, 8, none⟩ (.int .u64 0)).setCell ⟨w.heap.size, 9, none⟩ (.int .u64 0)).setCell ⟨w.heap.size, 10, none⟩ (.int .u64 0)).setCell ⟨w.heap.size, 11, none⟩ (.int .u64 0)).setCell ⟨w.heap.size, 12, none⟩ (.slice none 0 0)) := setAll_below (Nat.le_refl _) [.int .u64 0, .int .u64 0, .int .u64 0, .int .u64 0, .int .u64 0, .int .u64 0, .int .u64 0, .int .u64 0, .int .u64 0, .int .u64 0, .int .u64 0, .int .u64 0, .slice none 0 0] 0 HB
    clear CE hB1 hsz hS1 B0 HB
    have hb2 : b = false ∨ n = 0 := by cases b with | false => exact .inl rfl | true => exact .inr (by simp at hE; omega)
    clear hE hok hb
    rcases hb2 with rfl | rfl
    · go_wp2
      generalize (((((((((((((w1.setCell ⟨w.heap.size, 0, none⟩ (.int .u64 0)).setCell ⟨w.heap.size, 1, none⟩ (.int .u64 0)).setCell ⟨w.heap.size, 2, none⟩ (.int .u64 0)).setCell ⟨w.heap.size, 3, none⟩ (.int .u64 0)).setCell ⟨w.heap.size, 4, none⟩ (.int .u64 0)).setCell ⟨w.heap.size, 5, none⟩ (.int .u64 0)).setCell ⟨w.heap.size, 6, none⟩ (.int .u64 0)).setCell ⟨w.heap.size, 7, none⟩ (.int .u64 0)).setCell ⟨w.heap.size, 8, none⟩ (.int .u64 0)).setCell ⟨w.heap.size, 9, none⟩ (.int .u64 0)).setCell ⟨w.heap.size, 10, none⟩ (.int .u64 0)).setCell ⟨w.heap.size, 11, none⟩ (.int .u64 0)).setCell ⟨w.heap.size, 12, none⟩ (.slice none 0 0)) = W2 at NB NL ⊢
      clear y0 g0z y1 g1z y2 g2z y3 g3z y4 g4z y5 g5z y6 g6z y7 g7z y8 g8z y9 g9z y10 g10z y11 g11z y12 g12z
      have m0 := NB.c 0 rfl; have m1 := NB.c 1 rfl; have m2 := NB.c 2 rfl; have m3 := NB.c 3 rfl; have m4 := NB.c 4 rfl; have m5 := NB.c 5 rfl; have m6 := NB.c 6 rfl; have m7 := NB.c 7 rfl; have m8 := NB.c 8 rfl; have m9 := NB.c 9 rfl; have m10 := NB.c 10 rfl; have m11 := NB.c 11 rfl; have m12 := NB.c 12 rfl
      refine bodyPost_ret (v := .tuple #[.agg #[.int .u64 0, .int .u64 0, .int .u64 0, .int .u64 0, .int .u64 0, .int .u64 0, .int .u64 0, .int .u64 0, .int .u64 0, .int .u64 0, .int .u64 0, .int .u64 0, .slice none 0 0], .slice none 0 0, .bool false]) (by simp [results, Try.results20, go_sem, m0, m1, m2, m3, m4, m5, m6, m7, m8, m9, m10, m11, m12]) rfl ?_
      exact ⟨false, w.heap.size, .slice none 0 0, .slice none 0 0, fun _ => .slice none 0 0, hTK.symm, rfl, .inl ⟨rfl, rfl⟩, .inl ⟨rfl, rfl⟩, Nat.le_refl _, NL.size, NL⟩
    · cases b
      · go_wp2
        generalize (((((((((((((w1.setCell ⟨w.heap.size, 0, none⟩ (.int .u64 0)).setCell ⟨w.heap.size, 1, none⟩ (.int .u64 0)).setCell ⟨w.heap.size, 2, none⟩ (.int .u64 0)).setCell ⟨w.heap.size, 3, none⟩ (.int .u64 0)).setCell ⟨w.heap.size, 4, none⟩ (.int .u64 0)).setCell ⟨w.heap.size, 5, none⟩ (.int .u64 0)).setCell ⟨w.heap.size, 6, none⟩ (.int .u64 0)).setCell ⟨w.heap.size, 7, none⟩ (.int .u64 0)).setCell ⟨w.heap.size, 8, none⟩ (.int .u64 0)).setCell ⟨w.heap.size, 9, none⟩ (.int .u64 0)).setCell ⟨w.heap.size, 10, none⟩ (.int .u64 0)).setCell ⟨w.heap.size, 11, none⟩ (.int .u64 0)).setCell ⟨w.heap.size, 12, none⟩ (.slice none 0 0)) = W2 at NB NL ⊢
        clear y0 g0z y1 g1z y2 g2z y3 g3z y4 g4z y5 g5z y6 g6z y7 g7z y8 g8z y9 g9z y10 g10z y11 g11z y12 g12z
        have m0 := NB.c 0 rfl; have m1 := NB.c 1 rfl; have m2 := NB.c 2 rfl; have m3 := NB.c 3 rfl; have m4 := NB.c 4 rfl; have m5 := NB.c 5 rfl; have m6 := NB.c 6 rfl; have m7 := NB.c 7 rfl; have m8 := NB.c 8 rfl; have m9 := NB.c 9 rfl; have m10 := NB.c 10 rfl; have m11 := NB.c 11 rfl; have m12 := NB.c 12 rfl
        refine bodyPost_ret (v := .tuple #[.agg #[.int .u64 0, .int .u64 0, .int .u64 0, .int .u64 0, .int .u64 0, .int .u64 0, .int .u64 0, .int .u64 0, .int .u64 0, .int .u64 0, .int .u64 0, .int .u64 0, .slice none 0 0], .slice none 0 0, .bool false]) (by simp [results, Try.results20, go_sem, m0, m1, m2, m3, m4, m5, m6, m7, m8, m9, m10, m11, m12]) rfl ?_
        exact ⟨false, w.heap.size, .slice none 0 0, .slice none 0 0, fun _ => .slice none 0 0, hTK.symm, rfl, .inl ⟨rfl, rfl⟩, .inl ⟨rfl, rfl⟩, Nat.le_refl _, NL.size, NL⟩
      · go_wp2
        generalize (((((((((((((w1.setCell ⟨w.heap.size, 0, none⟩ (.int .u64 0)).setCell ⟨w.heap.size, 1, none⟩ (.int .u64 0)).setCell ⟨w.heap.size, 2, none⟩ (.int .u64 0)).setCell ⟨w.heap.size, 3, none⟩ (.int .u64 0)).setCell ⟨w.heap.size, 4, none⟩ (.int .u64 0)).setCell ⟨w.heap.size, 5, none⟩ (.int .u64 0)).setCell ⟨w.heap.size, 6, none⟩ (.int .u64 0)).setCell ⟨w.heap.size, 7, none⟩ (.int .u64 0)).setCell ⟨w.heap.size, 8, none⟩ (.int .u64 0)).setCell ⟨w.heap.size, 9, none⟩ (.int .u64 0)).setCell ⟨w.heap.size, 10, none⟩ (.int .u64 0)).setCell ⟨w.heap.size, 11, none⟩ (.int .u64 0)).setCell ⟨w.heap.size, 12, none⟩ (.slice none 0 0)) = W2 at NB NL ⊢
        clear y0 g0z y1 g1z y2 g2z y3 g3z y4 g4z y5 g5z y6 g6z y7 g7z y8 g8z y9 g9z y10 g10z y11 g11z y12 g12z
        have m0 := NB.c 0 rfl; have m1 := NB.c 1 rfl; have m2 := NB.c 2 rfl; have m3 := NB.c 3 rfl; have m4 := NB.c 4 rfl; have m5 := NB.c 5 rfl; have m6 := NB.c 6 rfl; have m7 := NB.c 7 rfl; have m8 := NB.c 8 rfl; have m9 := NB.c 9 rfl; have m10 := NB.c 10 rfl; have m11 := NB.c 11 rfl; have m12 := NB.c 12 rfl
        refine bodyPost_ret (v := .tuple #[.agg #[.int .u64 0, .int .u64 0, .int .u64 0, .int .u64 0, .int .u64 0, .int .u64 0, .int .u64 0, .int .u64 0, .int .u64 0, .int .u64 0, .int .u64 0, .int .u64 0, .slice none 0 0], .slice none 0 0, .bool false]) (by simp [results, Try.results20, go_sem, m0, m1, m2, m3, m4, m5, m6, m7, m8, m9, m10, m11, m12]) rfl ?_
        exact ⟨false, w.heap.size, .slice none 0 0, .slice none 0 0, fun _ => .slice none 0 0, hTK.symm, rfl, .inl ⟨rfl, rfl⟩, .inl ⟨rfl, rfl⟩, Nat.le_refl _, NL.size, NL⟩
end Go.Proofs.Ytpmnmlhfaoajdaa

/- Rows of events, marked with numbers one behind the other, and held against them. -/
namespace Go.Proofs.Ytpmnmlhfaoajdaa
open Go.RowKit
/-- What lies ahead of b, or from t on, is as it was. -/
def OutB (b t : Nat) (w w' : World) : Prop := Below b w w' ∧ ∀ k, t ≤ k → k < w.heap.size → w'.heap[k]? = w.heap[k]?
theorem OutB.refl (b t : Nat) (w : World) : OutB b t w w := ⟨Below.refl _ _, fun _ _ _ => rfl⟩
theorem OutB.trans {b t : Nat} {w w' w'' : World} (h : OutB b t w w') (k : OutB b t w' w'') : OutB b t w w'' :=
  ⟨h.1.trans k.1, fun i hi hs => (k.2 i hi (Nat.lt_of_lt_of_le hs h.1.size)).trans (h.2 i hi hs)⟩
/-- No block but v's own has turned. -/
def OutV (v : Value) (b : Nat) (w w' : World) : Prop := Below b w w' ∧ ∀ k, v.ownBlock ≠ some k → k < w.heap.size → w'.heap[k]? = w.heap[k]?
theorem OutV.out {v : Value} {b t : Nat} {w w' : World} (h : OutV v b w w') (hv : ∀ k, v.ownBlock = some k → k < t) : OutB b t w w' :=
  ⟨h.1, fun k hk hs => h.2 k (fun e => by have := hv k e; omega) hs⟩
set_option maxRecDepth 100000 in
set_option maxHeartbeats 2000000 in
theorem markNoK_any (so : Option Addr) (m sc b t K : Nat) (e : Nat → Int) (hm : m ≤ 1048576) (hK : K ≤ 1152921504606846976) (w : World) (hO : NoRow w b t (.slice so m sc) m e) : Calls Try.prog 45 #[.slice so m sc, .int .i64 (K : Int)] w (fun r w' => r = .returned (.int .i64 ((K : Int) + (m : Int))) ∧ NoRow w' b t (.slice so m sc) m (fun i => (K : Int) + (i : Int)) ∧ OutV (.slice so m sc) b w w') := by
  have hKI : (K : Int) ≤ 1152921504606846976 := by omega
  rcases hO with ⟨e1, rfl⟩ | ⟨g, cap, f, e1, hg, hgt, hc, R, hf⟩
  · cases e1
    go_enter Try.func45, Try.ntmps45
    go_wp2_with fail
    go_loopw [1, 5] (fun o i wr => o = .int .i64 (K : Int) ∧ i = .int .i64 0 ∧ wr = w) (fun _ i _ => 0)
    case atStart => exact ⟨rfl, rfl, rfl⟩
    case round =>
      obtain ⟨rfl, rfl, rfl⟩ := hrel
      go_wp2
      go_ret
      exact ⟨by simp, .inl ⟨rfl, rfl⟩, Below.refl _ _, fun _ _ _ => rfl⟩
  · cases e1
    have HR : Hid (w.rowIs g 2 sc f) := R
    clear R hf
    have hnI : (m : Int) ≤ 1048576 := by omega
    go_enter Try.func45, Try.ntmps45
    go_wp2_with fail
    go_loopw [1, 5] (fun o i wr => ∃ c : Nat, c ≤ m ∧ o = .int .i64 ((K : Int) + (c : Int)) ∧ i = .int .i64 c ∧ (∃ f, wr.rowIs g 2 sc f ∧ ∀ i, i < c → f i = .int .i64 ((K : Int) + (i : Int))) ∧ OutV (.slice (some ⟨g, 0, none⟩) m sc) b w wr) (fun _ i _ => m - (intOf i).toNat)
    case atStart => exact ⟨0, by omega, by simp, rfl, ⟨f, HR.out, fun i hi => by omega⟩, Below.refl _ _, fun _ _ _ => rfl⟩
    case round =>
      obtain ⟨c, hcn, rfl, rfl, ⟨f', R, hd⟩, KB⟩ := hrel
      by_cases hlt : c < m
      · have hcI : (c : Int) < m := by omega
        have o0 := R.cell (i := c) (by omega)
        have f0 := R.frozen c
        have RN : Hid (∃ f, (wr.setCell ⟨g, c, none⟩ (.int .i64 ((K : Int) + (c : Int)))).rowIs g 2 sc f ∧ ∀ i, i < c + 1 → f i = .int .i64 ((K : Int) + (i : Int))) := ⟨_, R.set c (.int .i64 ((K : Int) + (c : Int))), fun i hi => by
          by_cases e : i = c
          · subst e; rw [if_pos rfl]
          · rw [if_neg e]; exact hd i (by omega)⟩
        have KN : OutV (.slice (some ⟨g, 0, none⟩) m sc) b w (wr.setCell ⟨g, c, none⟩ (.int .i64 ((K : Int) + (c : Int)))) := ⟨KB.1.setCell (p := ⟨g, c, none⟩) hg _, fun k hk hs => (Below.heap_setCell _ _ _ _ (fun e => hk (by subst e; rfl))).trans (KB.2 k hk hs)⟩
        clear R KB hd
        go_wp2
        go_roundw
        case rel => exact ⟨c + 1, by omega, by go_num, by go_num, RN.out, KN⟩
        case measure => simp [intOf]; omega
      · obtain rfl : c = m := by omega
        have HD : Hid (∀ i, i < c → f' i = .int .i64 ((K : Int) + (i : Int))) := hd
        clear hd
        go_wp2
        go_ret
        exact ⟨rfl, .inr ⟨g, sc, f', rfl, hg, hgt, hc, R, HD.out⟩, KB⟩
set_option maxRecDepth 100000 in
set_option maxHeartbeats 2000000 in
theorem heldNoK_any (so : Option Addr) (m sc K : Nat) (hm : m ≤ 1048576) (hK : K ≤ 1152921504606846976) (w : World) (hI : NoIn w so m (fun i => (K : Int) + (i : Int))) : Calls Try.prog 46 #[.slice so m sc, .int .i64 (K : Int)] w (VP (.int .i64 ((K : Int) + (m : Int))) w) := by
  have hKI : (K : Int) ≤ 1152921504606846976 := by omega
  have HR : Hid (NoIn w so m (fun i => (K : Int) + (i : Int))) := hI
  clear hI
  have hnI : (m : Int) ≤ 1048576 := by omega
  go_enter Try.func46, Try.ntmps46
  go_wp2_with fail
  go_loopw [1, 5] (fun o i wr => ∃ c : Nat, c ≤ m ∧ o = .int .i64 ((K : Int) + (c : Int)) ∧ i = .int .i64 c ∧ Below w.heap.size w wr) (fun _ i _ => m - (intOf i).toNat)
  case atStart => exact ⟨0, by omega, by simp, rfl, Below.refl _ _⟩
  case round =>
    obtain ⟨c, hcn, rfl, rfl, HB⟩ := hrel
    by_cases hlt : c < m
    · have hcI : (c : Int) < m := by omega
      obtain ⟨A, off, rfl, hA, hcell⟩ := HR.out.step HB c hlt
      go_wp2
      go_roundw
      case rel => exact ⟨c + 1, by omega, by go_num, by go_num, HB⟩
      case measure => simp [intOf]; omega
    · obtain rfl : c = m := by omega
      go_wp2
      go_ret
      exact ⟨rfl, HB⟩
/-- The number that the marks of the event c begin with. -/
def mkK (K : Nat) (L : Nat → Nat) : Nat → Nat
  | 0 => K
  | c + 1 => mkK K L c + 12 + L c
def mkX (K : Nat) (L : Nat → Nat) (k : Nat) : Int := (mkK K L (k / 13) : Int) + ((k % 13 : Nat) : Int)
def mkE (K : Nat) (L : Nat → Nat) (i j : Nat) : Int := ((mkK K L i + 12 : Nat) : Int) + (j : Int)
theorem mkX_at (K : Nat) (L : Nat → Nat) (c j : Nat) (hj : j < 13) : mkX K L (c * 13 + j) = (mkK K L c : Int) + (j : Int) := by
  unfold mkX
  rw [show (c * 13 + j) / 13 = c by omega, show (c * 13 + j) % 13 = j by omega]
theorem mkK_le {K n : Nat} {L : Nat → Nat} (hL : ∀ i, i < n → L i ≤ 1048576) : ∀ c, c ≤ n → mkK K L c ≤ K + c * 1048588
  | 0, _ => by simp [mkK]
  | c + 1, h => by have := mkK_le (K := K) hL c (by omega); have := hL c (by omega); simp only [mkK]; omega
/-- So far j of the marks of the event c stand in the row g. -/
def MkSt (wr : World) (g cap n c b K : Nat) (L : Nat → Nat) (s : Nat → Value) (x : Nat → Int) (j : Nat) (W : World) : Prop :=
  (∃ f, W.rowIs g 44 (cap * 13) f ∧ (∀ k, k < c * 13 + j → f k = evC (mkX K L) s k) ∧ ∀ k, c * 13 + j ≤ k → k < n * 13 → f k = evC x s k) ∧ (∀ k, k ≠ g → W.heap[k]? = wr.heap[k]?) ∧ Below b wr W
theorem MkSt.set {wr W : World} {g cap n c b K : Nat} {L : Nat → Nat} {s : Nat → Value} {x : Nat → Int} {j : Nat} (h : MkSt wr g cap n c b K L s x j W) (hj : j < 12) (hg : b ≤ g) {u : Int} (hu : (mkK K L c : Int) + (j : Int) = u) : MkSt wr g cap n c b K L s x (j + 1) (W.setCell ⟨g, c * 13 + j, none⟩ (.int .u64 u)) := by
  obtain ⟨⟨f, h1, h2, h3⟩, h4, h5⟩ := h
  refine ⟨⟨_, h1.set (c * 13 + j) (.int .u64 u), fun k hk => ?_, fun k hk hn => ?_⟩, fun k hk => (Below.heap_setCell _ _ _ _ hk).trans (h4 k hk), h5.setCell (p := ⟨g, c * 13 + j, none⟩) hg _⟩
  · by_cases e : k = c * 13 + j
    · subst e
      rw [if_pos rfl, evC_at _ _ _ _ hj, mkX_at _ _ _ _ (by omega), hu]
    · rw [if_neg e]; exact h2 k (by omega)
  · rw [if_neg (by omega)]; exact h3 k (by omega) hn
theorem MkSt.last {wr W : World} {g cap n c b K : Nat} {L : Nat → Nat} {s : Nat → Value} {x : Nat → Int} (h : MkSt wr g cap n c b K L s x 12 W) (hc : c < n) : ∃ f, W.rowIs g 44 (cap * 13) f ∧ (∀ k, k < (c + 1) * 13 → f k = evC (mkX K L) s k) ∧ ∀ k, (c + 1) * 13 ≤ k → k < n * 13 → f k = evC x s k := by
  obtain ⟨⟨f, h1, h2, h3⟩, h4, h5⟩ := h
  refine ⟨f, h1, fun k hk => ?_, fun k hk hn => h3 k (by omega) hn⟩
  by_cases e : k = c * 13 + 12
  · subst e
    rw [h3 _ (by omega) (by omega), evC_12, evC_12]
  · exact h2 k (by omega)
theorem MkSt.cell {wr W : World} {g cap n c b K : Nat} {L : Nat → Nat} {s : Nat → Value} {x : Nat → Int} {j : Nat} (h : MkSt wr g cap n c b K L s x j W) (hj : j < 12) (hc : c < n) (hn : n ≤ cap) : W.cell? ⟨g, c * 13 + j, none⟩ = some (.int .u64 (x (c * 13 + j))) ∧ W.frozen? ⟨g, c * 13 + j, none⟩ = false := by
  obtain ⟨⟨f, h1, h2, h3⟩, h4, h5⟩ := h
  exact ⟨by rw [h1.cell (by omega), h3 _ (by omega) (by omega), evC_at _ _ _ _ hj], h1.frozen _⟩
theorem MkSt.cell12 {wr W : World} {g cap n c b K : Nat} {L : Nat → Nat} {s : Nat → Value} {x : Nat → Int} (h : MkSt wr g cap n c b K L s x 12 W) (hc : c < n) (hn : n ≤ cap) : W.cell? ⟨g, c * 13 + 12, none⟩ = some (s c) := by
  obtain ⟨⟨f, h1, h2, h3⟩, h4, h5⟩ := h
  rw [h1.cell (by omega), h3 _ (by omega) (by omega), evC_12]
set_option maxRecDepth 100000 in
set_option maxHeartbeats 16000000 in
theorem markEvS_any (v : Value) (n b t K : Nat) (x : Nat → Int) (s : Nat → Value) (L : Nat → Nat) (E : Nat → Nat → Int) (hn : n ≤ 1048576) (hL : ∀ i, i < n → L i ≤ 1048576) (hK : K ≤ 4294967296) (w : World) (hO : EvRow w b t v n x s L E) : Calls Try.prog 23 #[v, .int .i64 (K : Int)] w (fun r w' => r = .returned (.int .i64 (mkK K L n : Int)) ∧ EvRow w' b t v n (mkX K L) s L (mkE K L) ∧ OutB b t w w') := by
  rcases hO with ⟨rfl, rfl⟩ | ⟨g, cap, f, rfl, hg, hgt, hc, R, hf, hN, d1, d2⟩
  · have hKI : (K : Int) ≤ 4294967296 := by omega
    go_enter Try.func23, Try.ntmps23
    go_wp2_with fail
    go_loopw [1, 5] (fun o i wr => o = .int .i64 (K : Int) ∧ i = .int .i64 0 ∧ wr = w) (fun _ i _ => 0)
    case atStart => exact ⟨rfl, rfl, rfl⟩
    case round =>
      obtain ⟨rfl, rfl, rfl⟩ := hrel
      go_wp2
      go_ret
      exact ⟨rfl, .inl ⟨rfl, rfl⟩, OutB.refl _ _ _⟩
  · have HR : Hid (w.rowIs g 44 (cap * 13) f ∧ (∀ k, k < n * 13 → f k = evC x s k) ∧ (∀ i, i < n → NoRow w b t (s i) (L i) (E i))) := ⟨R, hf, hN⟩
    have HD : Hid ((∀ i, i < n → (s i).ownBlock ≠ some g) ∧ ∀ i j, i < n → j < n → i ≠ j → ∀ h, (s i).ownBlock = some h → (s j).ownBlock ≠ some h) := ⟨d1, d2⟩
    have HL : Hid (∀ i, i < n → L i ≤ 1048576) := hL
    have HK : Hid (∀ c, c ≤ n → mkK K L c ≤ 2199560257536) := fun c hc => by have := mkK_le (K := K) hL c hc; have : c * 1048588 ≤ 1048576 * 1048588 := Nat.mul_le_mul_right _ (by omega); omega
    clear R hf hN d1 d2 hL
    have hnI : (n : Int) ≤ 1048576 := by omega
    go_enter Try.func23, Try.ntmps23
    go_wp2_with fail
    go_loopw [1, 5] (fun o i wr => ∃ c : Nat, c ≤ n ∧ o = .int .i64 (mkK K L c : Int) ∧ i = .int .i64 c ∧ (∃ f, wr.rowIs g 44 (cap * 13) f ∧ (∀ k, k < c * 13 → f k = evC (mkX K L) s k) ∧ (∀ k, c * 13 ≤ k → k < n * 13 → f k = evC x s k)) ∧ (∀ i, i < c → NoRow wr b t (s i) (L i) (mkE K L i)) ∧ (∀ i, c ≤ i → i < n → NoRow wr b t (s i) (L i) (E i)) ∧ OutB b t w wr) (fun _ i _ => n - (intOf i).toNat)
    case atStart => exact ⟨0, by omega, rfl, rfl, ⟨f, HR.out.1, fun k hk => by omega, fun k _ hk => HR.out.2.1 k hk⟩, fun i hi => by omega, fun i _ hi => HR.out.2.2 i hi, OutB.refl _ _ _⟩
    case round =>
      obtain ⟨c, hcn, rfl, rfl, ⟨f', R, hd, hd2⟩, hA, hB, KB⟩ := hrel
      clear HR
      by_cases hlt : c < n
      · have hcI : (c : Int) < n := by omega
        have hkb := HK.out c hcn
        obtain ⟨kk, hkk⟩ : ∃ kk, mkK K L c = kk := ⟨_, rfl⟩
        rw [hkk] at hkb ⊢
        have hkI : (kk : Int) ≤ 2199560257536 := by omega
        have HKK : Hid (mkK K L c = kk) := hkk
        obtain ⟨so, sc, hs, _⟩ := (hB c (Nat.le_refl _) hlt).in
        have H0 : Hid (MkSt wr g cap n c b K L s x 0 wr) := ⟨⟨f', R, fun k hk => hd k (by omega), fun k hk hn => hd2 k (by omega) hn⟩, fun _ _ => rfl, Below.refl _ _⟩
        have HAB : Hid ((∀ i, i < c → NoRow wr b t (s i) (L i) (mkE K L i)) ∧ (∀ i, c ≤ i → i < n → NoRow wr b t (s i) (L i) (E i)) ∧ OutB b t w wr) := ⟨hA, hB, KB⟩
        have HSC : Hid (s c = .slice so (L c) sc) := hs
        have hrl := R.lt
        clear R hd hd2 hA hB KB hkk hs
        obtain ⟨oc, of⟩ := H0.out.cell (by omega) hlt hc
        simp only [Nat.add_zero] at oc of
        go_upto_region 6 with fail
        have H1 : Hid (MkSt wr g cap n c b K L s x 1 (wr.setCell ⟨g, c * 13, none⟩ (.int .u64 ((kk : Int))))) := H0.out.set (by omega) hg (by have := HKK.out; omega)
        clear oc of H0
        generalize (wr.setCell ⟨g, c * 13, none⟩ (.int .u64 ((kk : Int)))) = W1 at H1 ⊢
        obtain ⟨oc, of⟩ := H1.out.cell (by omega) hlt hc
        go_upto_region 8 with fail
        have H2 : Hid (MkSt wr g cap n c b K L s x 2 (W1.setCell ⟨g, c * 13 + 1, none⟩ (.int .u64 ((kk : Int) + 1)))) := H1.out.set (by omega) hg (by have := HKK.out; omega)
        clear oc of H1
        generalize (W1.setCell ⟨g, c * 13 + 1, none⟩ (.int .u64 ((kk : Int) + 1))) = W2 at H2 ⊢
        obtain ⟨oc, of⟩ := H2.out.cell (by omega) hlt hc
        go_upto_region 10 with fail
        have H3 : Hid (MkSt wr g cap n c b K L s x 3 (W2.setCell ⟨g, c * 13 + 2, none⟩ (.int .u64 ((kk : Int) + 1 + 1)))) := H2.out.set (by omega) hg (by have := HKK.out; omega)
        clear oc of H2
        generalize (W2.setCell ⟨g, c * 13 + 2, none⟩ (.int .u64 ((kk : Int) + 1 + 1))) = W3 at H3 ⊢
        obtain ⟨oc, of⟩ := H3.out.cell (by omega) hlt hc
        go_upto_region 12 with fail
        have H4 : Hid (MkSt wr g cap n c b K L s x 4 (W3.setCell ⟨g, c * 13 + 3, none⟩ (.int .u64 ((kk : Int) + 1 + 1 + 1)))) := H3.out.set (by omega) hg (by have := HKK.out; omega)
        clear oc of H3
        generalize (W3.setCell ⟨g, c * 13 + 3, none⟩ (.int .u64 ((kk : Int) + 1 + 1 + 1))) = W4 at H4 ⊢
        obtain ⟨oc, of⟩ := H4.out.cell (by omega) hlt hc
        go_upto_region 14 with fail
        have H5 : Hid (MkSt wr g cap n c b K L s x 5 (W4.setCell ⟨g, c * 13 + 4, none⟩ (.int .u64 ((kk : Int) + 1 + 1 + 1 + 1)))) := H4.out.set (by omega) hg (by have := HKK.out; omega)
        clear oc of H4
        generalize (W4.setCell ⟨g, c * 13 + 4, none⟩ (.int .u64 ((kk : Int) + 1 + 1 + 1 + 1))) = W5 at H5 ⊢
        obtain ⟨oc, of⟩ := H5.out.cell (by omega) hlt hc
        go_upto_region 16 with fail
        have H6 : Hid (MkSt wr g cap n c b K L s x 6 (W5.setCell ⟨g, c * 13 + 5, none⟩ (.int .u64 ((kk : Int) + 1 + 1 + 1 + 1 + 1)))) := H5.out.set (by omega) hg (by have := HKK.out; omega)
        clear oc of H5
        generalize (W5.setCell ⟨g, c * 13 + 5, none⟩ (.int .u64 ((kk : Int) + 1 + 1 + 1 + 1 + 1))) = W6 at H6 ⊢
        obtain ⟨oc, of⟩ := H6.out.cell (by omega) hlt hc
        go_upto_region 18 with fail
        have H7 : Hid (MkSt wr g cap n c b K L s x 7 (W6.setCell ⟨g, c * 13 + 6, none⟩ (.int .u64 ((kk : Int) + 1 + 1 + 1 + 1 + 1 + 1)))) := H6.out.set (by omega) hg (by have := HKK.out; omega)
        clear oc of H6
        generalize (W6.setCell ⟨g, c * 13 + 6, none⟩ (.int .u64 ((kk : Int) + 1 + 1 + 1 + 1 + 1 + 1))) = W7 at H7 ⊢
        obtain ⟨oc, of⟩ := H7.out.cell (by omega) hlt hc
        go_upto_region 20 with fail
        have H8 : Hid (MkSt wr g cap n c b K L s x 8 (W7.setCell ⟨g, c * 13 + 7, none⟩ (.int .u64 ((kk : Int) + 1 + 1 + 1 + 1 + 1 + 1 + 1)))) := H7.out.set (by omega) hg (by have := HKK.out; omega)
        clear oc of H7
        generalize (W7.setCell ⟨g, c * 13 + 7, none⟩ (.int .u64 ((kk : Int) + 1 + 1 + 1 + 1 + 1 + 1 + 1))) = W8 at H8 ⊢
        obtain ⟨oc, of⟩ := H8.out.cell (by omega) hlt hc
        go_upto_region 22 with fail
        have H9 : Hid (MkSt wr g cap n c b K L s x 9 (W8.setCell ⟨g, c * 13 + 8, none⟩ (.int .u64 ((kk : Int) + 1 + 1 + 1 + 1 + 1 + 1 + 1 + 1)))) := H8.out.set (by omega) hg (by have := HKK.out; omega)
        clear oc of H8
        generalize (W8.setCell ⟨g, c * 13 + 8, none⟩ (.int .u64 ((kk : Int) + 1 + 1 + 1 + 1 + 1 + 1 + 1 + 1))) = W9 at H9 ⊢
        obtain ⟨oc, of⟩ := H9.out.cell (by omega) hlt hc
        go_upto_region 24 with fail
        have H10 : Hid (MkSt wr g cap n c b K L s x 10 (W9.setCell ⟨g, c * 13 + 9, none⟩ (.int .u64 ((kk : Int) + 1 + 1 + 1 + 1 + 1 + 1 + 1 + 1 + 1)))) := H9.out.set (by omega) hg (by have := HKK.out; omega)
        clear oc of H9
        generalize (W9.setCell ⟨g, c * 13 + 9, none⟩ (.int .u64 ((kk : Int) + 1 + 1 + 1 + 1 + 1 + 1 + 1 + 1 + 1))) = W10 at H10 ⊢
        obtain ⟨oc, of⟩ := H10.out.cell (by omega) hlt hc
        go_upto_region 26 with fail
        have H11 : Hid (MkSt wr g cap n c b K L s x 11 (W10.setCell ⟨g, c * 13 + 10, none⟩ (.int .u64 ((kk : Int) + 1 + 1 + 1 + 1 + 1 + 1 + 1 + 1 + 1 + 1)))) := H10.out.set (by omega) hg (by have := HKK.out; omega)
        clear oc of H10
        generalize (W10.setCell ⟨g, c * 13 + 10, none⟩ (.int .u64 ((kk : Int) + 1 + 1 + 1 + 1 + 1 + 1 + 1 + 1 + 1 + 1))) = W11 at H11 ⊢
        obtain ⟨oc, of⟩ := H11.out.cell (by omega) hlt hc
        go_upto_region 28 with fail
        have H12 : Hid (MkSt wr g cap n c b K L s x 12 (W11.setCell ⟨g, c * 13 + 11, none⟩ (.int .u64 ((kk : Int) + 1 + 1 + 1 + 1 + 1 + 1 + 1 + 1 + 1 + 1 + 1)))) := H11.out.set (by omega) hg (by have := HKK.out; omega)
        clear oc of H11
        generalize (W11.setCell ⟨g, c * 13 + 11, none⟩ (.int .u64 ((kk : Int) + 1 + 1 + 1 + 1 + 1 + 1 + 1 + 1 + 1 + 1 + 1))) = W12 at H12 ⊢
        have o12 := H12.out.cell12 hlt hc
        rw [HSC.out] at o12
        have NC : NoRow W12 b t (.slice so (L c) sc) (L c) (E c) := HSC.out ▸ (HAB.out.2.1 c (Nat.le_refl _) hlt).heap (fun k hk => H12.out.2.1 k (fun e => HD.out.1 c hlt (by rw [hk, e])))
        have CM := markNoK_any so (L c) sc b t (kk + 12) (E c) (HL.out c hlt) (by omega) W12 NC
        rw [show ((kk + 12 : Nat) : Int) = (kk : Int) + 1 + 1 + 1 + 1 + 1 + 1 + 1 + 1 + 1 + 1 + 1 + 1 by omega] at CM
        clear NC
        go_wp2_with fail
        refine CM.mono ?_
        rintro r w1 ⟨rfl, hN1, hV⟩
        have HF : Hid (∃ f, w1.rowIs g 44 (cap * 13) f ∧ (∀ k, k < (c + 1) * 13 → f k = evC (mkX K L) s k) ∧ ∀ k, (c + 1) * 13 ≤ k → k < n * 13 → f k = evC x s k) := by
          obtain ⟨f2, p1, p2, p3⟩ := H12.out.last hlt
          exact ⟨f2, p1.of_block (hV.2 g (fun e => HD.out.1 c hlt (by rw [HSC.out, e])) p1.lt), p2, p3⟩
        have hB12 : ∀ i, i < n → i ≠ c → ∀ k, (s i).ownBlock = some k → k < W12.heap.size → w1.heap[k]? = wr.heap[k]? := fun i hi hne k hk hks =>
          (hV.2 k (fun e => HD.out.2 i c hi hlt hne k hk (by rw [HSC.out]; exact e)) hks).trans (H12.out.2.1 k (fun e => HD.out.1 i hi (by rw [hk, e])))
        have HA2 : Hid (∀ i, i < c + 1 → NoRow w1 b t (s i) (L i) (mkE K L i)) := fun i hi => by
          by_cases e : i = c
          · subst e
            rw [HSC.out]
            unfold mkE
            rw [HKK.out, show ((kk + 12 : Nat) : Int) = (kk : Int) + 1 + 1 + 1 + 1 + 1 + 1 + 1 + 1 + 1 + 1 + 1 + 1 by omega]
            exact hN1
          · have p := HAB.out.1 i (by omega)
            exact p.heap fun k hk => hB12 i (by omega) e k hk (Nat.lt_of_lt_of_le (p.lt hk).2.2 H12.out.2.2.size)
        have HB2 : Hid (∀ i, c + 1 ≤ i → i < n → NoRow w1 b t (s i) (L i) (E i)) := fun i hi hi2 => by
          have p := HAB.out.2.1 i (by omega) hi2
          exact p.heap fun k hk => hB12 i hi2 (by omega) k hk (Nat.lt_of_lt_of_le (p.lt hk).2.2 H12.out.2.2.size)
        have KN : OutB b t w w1 := (HAB.out.2.2.trans ⟨H12.out.2.2, fun k hk hs => H12.out.2.1 k (by omega)⟩).trans (hV.out (fun k hk => by
          have p := HAB.out.2.1 c (Nat.le_refl _) hlt
          exact (p.lt (by rw [HSC.out]; exact hk)).2.1))
        have HKN : Hid ((kk : Int) + 1 + 1 + 1 + 1 + 1 + 1 + 1 + 1 + 1 + 1 + 1 + 1 + (L c : Int) = (mkK K L (c + 1) : Int)) := by
          have := HKK.out
          show _ = ((mkK K L c + 12 + L c : Nat) : Int)
          omega
        clear CM hN1 hV hB12 H12 HAB o12
        have hLI : (L c : Int) ≤ 1048576 := by have := HL.out c hlt; omega
        go_wp2
        go_roundw
        case rel => exact ⟨c + 1, by omega, congrArg (Value.int .i64) HKN.out, by go_num, HF.out, HA2.out, HB2.out, KN⟩
        case measure => simp [intOf]; omega
      · obtain rfl : c = n := by omega
        have HE : Hid ((∀ k, k < c * 13 → f' k = evC (mkX K L) s k) ∧ ∀ i, i < c → NoRow wr b t (s i) (L i) (mkE K L i)) := ⟨hd, hA⟩
        have HK2 := HK.out c hcn
        obtain ⟨kk, hkk⟩ : ∃ kk, mkK K L c = kk := ⟨_, rfl⟩
        rw [hkk]
        clear hd hd2 hA hB
        go_wp2
        go_ret
        exact ⟨by rw [hkk]; rfl, .inr ⟨g, cap, f', rfl, hg, hgt, hc, R, HE.out.1, HE.out.2, HD.out.1, HD.out.2⟩, KB⟩
set_option maxRecDepth 100000 in
set_option maxHeartbeats 16000000 in
theorem heldEvS_any (v : Value) (n b t K : Nat) (s : Nat → Value) (L : Nat → Nat) (hn : n ≤ 1048576) (hL : ∀ i, i < n → L i ≤ 1048576) (hK : K ≤ 4294967296) (w : World) (hO : EvRow w b t v n (mkX K L) s L (mkE K L)) : Calls Try.prog 26 #[v, .int .i64 (K : Int)] w (VP (.int .i64 (mkK K L n : Int)) w) := by
  rcases hO with ⟨rfl, rfl⟩ | ⟨g, cap, f, rfl, hg, hgt, hc, R, hf, hN, d1, d2⟩
  · have hKI : (K : Int) ≤ 4294967296 := by omega
    go_enter Try.func26, Try.ntmps26
    go_wp2_with fail
    go_loopw [1, 5] (fun o i wr => o = .int .i64 (K : Int) ∧ i = .int .i64 0 ∧ wr = w) (fun _ i _ => 0)
    case atStart => exact ⟨rfl, rfl, rfl⟩
    case round =>
      obtain ⟨rfl, rfl, rfl⟩ := hrel
      go_wp2
      go_ret
      exact ⟨rfl, Below.refl _ _⟩
  have HR : Hid (w.rowIs g 44 (cap * 13) f ∧ (∀ k, k < n * 13 → f k = evC (mkX K L) s k) ∧ (∀ i, i < n → NoRow w b t (s i) (L i) (mkE K L i))) := ⟨R, hf, hN⟩
  have HL : Hid (∀ i, i < n → L i ≤ 1048576) := hL
  have HK : Hid (∀ c, c ≤ n → mkK K L c ≤ 2199560257536) := fun c hc => by have := mkK_le (K := K) hL c hc; have : c * 1048588 ≤ 1048576 * 1048588 := Nat.mul_le_mul_right _ (by omega); omega
  clear R hf hN d1 d2 hL
  have hnI : (n : Int) ≤ 1048576 := by omega
  go_enter Try.func26, Try.ntmps26
  go_wp2_with fail
  go_loopw [1, 5] (fun o i wr => ∃ c : Nat, c ≤ n ∧ o = .int .i64 (mkK K L c : Int) ∧ i = .int .i64 c ∧ Below w.heap.size w wr) (fun _ i _ => n - (intOf i).toNat)
  case atStart => exact ⟨0, by omega, rfl, rfl, Below.refl _ _⟩
  case round =>
    obtain ⟨c, hcn, rfl, rfl, HB⟩ := hrel
    by_cases hlt : c < n
    · have hcI : (c : Int) < n := by omega
      have hkb := HK.out c hcn
      obtain ⟨kk, hkk⟩ : ∃ kk, mkK K L c = kk := ⟨_, rfl⟩
      rw [hkk] at hkb ⊢
      have hkI : (kk : Int) ≤ 2199560257536 := by omega
      have HKK : Hid (mkK K L c = kk) := hkk
      clear hkk
      obtain ⟨so, sc, hs, NI⟩ := ((HR.out.2.2 c hlt).heap (w' := wr) (fun k hk => HB.block k ((HR.out.2.2 c hlt).lt hk).2.2)).in
      have q0 : wr.cell? ⟨g, c * 13, none⟩ = some (.int .u64 ((kk : Int))) := (HR.out.1.of_block (HB.block g HR.out.1.lt)).cell (i := c * 13 + 0) (by omega) |>.trans (by rw [HR.out.2.1 _ (by omega), evC_at _ _ _ 0 (by omega), mkX_at _ _ _ 0 (by omega), HKK.out]; congr 2)
      have q1 : wr.cell? ⟨g, c * 13 + 1, none⟩ = some (.int .u64 ((kk : Int) + 1)) := (HR.out.1.of_block (HB.block g HR.out.1.lt)).cell (i := c * 13 + 1) (by omega) |>.trans (by rw [HR.out.2.1 _ (by omega), evC_at _ _ _ 1 (by omega), mkX_at _ _ _ 1 (by omega), HKK.out]; congr 2)
      have q2 : wr.cell? ⟨g, c * 13 + 2, none⟩ = some (.int .u64 ((kk : Int) + 1 + 1)) := (HR.out.1.of_block (HB.block g HR.out.1.lt)).cell (i := c * 13 + 2) (by omega) |>.trans (by rw [HR.out.2.1 _ (by omega), evC_at _ _ _ 2 (by omega), mkX_at _ _ _ 2 (by omega), HKK.out]; congr 2)
      have q3 : wr.cell? ⟨g, c * 13 + 3, none⟩ = some (.int .u64 ((kk : Int) + 1 + 1 + 1)) := (HR.out.1.of_block (HB.block g HR.out.1.lt)).cell (i := c * 13 + 3) (by omega) |>.trans (by rw [HR.out.2.1 _ (by omega), evC_at _ _ _ 3 (by omega), mkX_at _ _ _ 3 (by omega), HKK.out]; congr 2)
      have q4 : wr.cell? ⟨g, c * 13 + 4, none⟩ = some (.int .u64 ((kk : Int) + 1 + 1 + 1 + 1)) := (HR.out.1.of_block (HB.block g HR.out.1.lt)).cell (i := c * 13 + 4) (by omega) |>.trans (by rw [HR.out.2.1 _ (by omega), evC_at _ _ _ 4 (by omega), mkX_at _ _ _ 4 (by omega), HKK.out]; congr 2)
      have q5 : wr.cell? ⟨g, c * 13 + 5, none⟩ = some (.int .u64 ((kk : Int) + 1 + 1 + 1 + 1 + 1)) := (HR.out.1.of_block (HB.block g HR.out.1.lt)).cell (i := c * 13 + 5) (by omega) |>.trans (by rw [HR.out.2.1 _ (by omega), evC_at _ _ _ 5 (by omega), mkX_at _ _ _ 5 (by omega), HKK.out]; congr 2)
      have q6 : wr.cell? ⟨g, c * 13 + 6, none⟩ = some (.int .u64 ((kk : Int) + 1 + 1 + 1 + 1 + 1 + 1)) := (HR.out.1.of_block (HB.block g HR.out.1.lt)).cell (i := c * 13 + 6) (by omega) |>.trans (by rw [HR.out.2.1 _ (by omega), evC_at _ _ _ 6 (by omega), mkX_at _ _ _ 6 (by omega), HKK.out]; congr 2)
      have q7 : wr.cell? ⟨g, c * 13 + 7, none⟩ = some (.int .u64 ((kk : Int) + 1 + 1 + 1 + 1 + 1 + 1 + 1)) := (HR.out.1.of_block (HB.block g HR.out.1.lt)).cell (i := c * 13 + 7) (by omega) |>.trans (by rw [HR.out.2.1 _ (by omega), evC_at _ _ _ 7 (by omega), mkX_at _ _ _ 7 (by omega), HKK.out]; congr 2)
      have q8 : wr.cell? ⟨g, c * 13 + 8, none⟩ = some (.int .u64 ((kk : Int) + 1 + 1 + 1 + 1 + 1 + 1 + 1 + 1)) := (HR.out.1.of_block (HB.block g HR.out.1.lt)).cell (i := c * 13 + 8) (by omega) |>.trans (by rw [HR.out.2.1 _ (by omega), evC_at _ _ _ 8 (by omega), mkX_at _ _ _ 8 (by omega), HKK.out]; congr 2)
      have q9 : wr.cell? ⟨g, c * 13 + 9, none⟩ = some (.int .u64 ((kk : Int) + 1 + 1 + 1 + 1 + 1 + 1 + 1 + 1 + 1)) := (HR.out.1.of_block (HB.block g HR.out.1.lt)).cell (i := c * 13 + 9) (by omega) |>.trans (by rw [HR.out.2.1 _ (by omega), evC_at _ _ _ 9 (by omega), mkX_at _ _ _ 9 (by omega), HKK.out]; congr 2)
      have q10 : wr.cell? ⟨g, c * 13 + 10, none⟩ = some (.int .u64 ((kk : Int) + 1 + 1 + 1 + 1 + 1 + 1 + 1 + 1 + 1 + 1)) := (HR.out.1.of_block (HB.block g HR.out.1.lt)).cell (i := c * 13 + 10) (by omega) |>.trans (by rw [HR.out.2.1 _ (by omega), evC_at _ _ _ 10 (by omega), mkX_at _ _ _ 10 (by omega), HKK.out]; congr 2)
      have q11 : wr.cell? ⟨g, c * 13 + 11, none⟩ = some (.int .u64 ((kk : Int) + 1 + 1 + 1 + 1 + 1 + 1 + 1 + 1 + 1 + 1 + 1)) := (HR.out.1.of_block (HB.block g HR.out.1.lt)).cell (i := c * 13 + 11) (by omega) |>.trans (by rw [HR.out.2.1 _ (by omega), evC_at _ _ _ 11 (by omega), mkX_at _ _ _ 11 (by omega), HKK.out]; congr 2)
      have q12 : wr.cell? ⟨g, c * 13 + 12, none⟩ = some (.slice so (L c) sc) := (HR.out.1.of_block (HB.block g HR.out.1.lt)).cell (i := c * 13 + 12) (by omega) |>.trans (by rw [HR.out.2.1 _ (by omega), evC_12, hs])
      have CM := heldNoK_any so (L c) sc (kk + 12) (HL.out c hlt) (by omega) wr (by
        have := HKK.out
        refine fun i hi => ?_
        have p := NI i hi
        unfold mkE at p
        rw [this] at p
        exact p)
      rw [show ((kk + 12 : Nat) : Int) = (kk : Int) + 1 + 1 + 1 + 1 + 1 + 1 + 1 + 1 + 1 + 1 + 1 + 1 by omega] at CM
      clear NI hs
      have HKN : Hid ((kk : Int) + 1 + 1 + 1 + 1 + 1 + 1 + 1 + 1 + 1 + 1 + 1 + 1 + (L c : Int) = (mkK K L (c + 1) : Int)) := by
        have := HKK.out
        show _ = ((mkK K L c + 12 + L c : Nat) : Int)
        omega
      have hLI : (L c : Int) ≤ 1048576 := by have := HL.out c hlt; omega
      go_wp2_with fail
      refine CM.mono ?_
      rintro r w1 ⟨rfl, hV⟩
      replace HB := HB.trans (hV.mono HB.size)
      clear CM hV q0 q1 q2 q3 q4 q5 q6 q7 q8 q9 q10 q11 q12
      go_wp2
      go_roundw
      case rel => exact ⟨c + 1, by omega, congrArg (Value.int .i64) HKN.out, by go_num, HB⟩
      case measure => simp [intOf]; omega
    · obtain rfl : c = n := by omega
      have HK2 := HK.out c hcn
      obtain ⟨kk, hkk⟩ : ∃ kk, mkK K L c = kk := ⟨_, rfl⟩
      rw [hkk]
      go_wp2
      go_ret
      exact ⟨by rw [hkk]; rfl, HB⟩
end Go.Proofs.Ytpmnmlhfaoajdaa

/- A row of events laid anew: a row of the call's own. -/
namespace Go.Proofs.Ytpmnmlhfaoajdaa
open Go.RowKit
theorem evV_evC (q : Nat → Int × Int × Int) (S L : Nat → Nat) (k : Nat) : evV q S L k = evC (wq q) (fun i => .slice (some ⟨S i, 0, none⟩) (L i) (L i)) k := by
  obtain ⟨c, j, hj, rfl⟩ : ∃ c j, j < 13 ∧ k = c * 13 + j := ⟨k / 13, k % 13, by omega, by omega⟩
  by_cases e : j = 12
  · subst e; rw [evC_12, evV12]
  · rw [evC_at _ _ _ _ (by omega), wq_at _ _ _ hj]
    rcases (show j = 0 ∨ j = 1 ∨ j = 2 ∨ j = 3 ∨ j = 4 ∨ j = 5 ∨ j = 6 ∨ j = 7 ∨ j = 8 ∨ j = 9 ∨ j = 10 ∨ j = 11 by omega) with h | h | h | h | h | h | h | h | h | h | h | h <;> subst h
    · exact evV0 q S L c
    · exact evV1 q S L c
    · exact evV2 q S L c
    · exact evV3 q S L c
    · exact evV4 q S L c
    · exact evV5 q S L c
    · exact evV6 q S L c
    · exact evV7 q S L c
    · exact evV8 q S L c
    · exact evV9 q S L c
    · exact evV10 q S L c
    · exact evV11 q S L c
set_option maxRecDepth 100000 in
set_option maxHeartbeats 8000000 in
theorem toEvO_any (ao : Option Addr) (n cap : Nat) (q : Nat → Int × Int × Int) (S : Nat → Option Addr × Nat) (L : Nat → Nat) (E : Nat → Nat → Int) (hn : n ≤ 1048576) (hL : ∀ i, i < n → L i ≤ 1048576) (w : World) (hS : EvIn w ao n q S L E) : Calls Try.prog 19 #[.slice ao n cap] w (fun e w' => ∃ g s, e = .returned (.slice (some ⟨g, 0, none⟩) n n) ∧ EvRow w' w.heap.size w'.heap.size (.slice (some ⟨g, 0, none⟩) n n) n (wq q) s L E ∧ Below w.heap.size w w') := by
  have MK := make_events n hn
  have HS : Hid (EvIn w ao n q S L E) := hS
  have HL : Hid (∀ i, i < n → L i ≤ 1048576) := hL
  clear hS hL
  go_enter Try.func19, Try.ntmps19
  go_wp2_with fail
  have R0 := rowe_made w n 44
  have B0 : Below w.heap.size w (w.alloc (.cells (madeCells #[.int .u64 0, .int .u64 0, .int .u64 0, .int .u64 0, .int .u64 0, .int .u64 0, .int .u64 0, .int .u64 0, .int .u64 0, .int .u64 0, .int .u64 0, .int .u64 0, .slice none 0 0] (n * 13)) 44)) := (Below.refl _ _).alloc (Nat.le_refl _) _
  generalize (w.alloc (.cells (madeCells #[.int .u64 0, .int .u64 0, .int .u64 0, .int .u64 0, .int .u64 0, .int .u64 0, .int .u64 0, .int .u64 0, .int .u64 0, .int .u64 0, .int .u64 0, .int .u64 0, .slice none 0 0] (n * 13)) 44)) = W1 at *
  have hnI : (n : Int) ≤ 1048576 := by omega
  clear MK
  go_loopw [4] (fun i wr => ∃ (c : Nat) (S' : Nat → Nat), c ≤ n ∧ i = .int .i64 c ∧ wr.rowIs w.heap.size 44 (n * 13) (cpV q S' L c) ∧ (∀ j, j < c → S' j ≠ w.heap.size ∧ wr.rowIs (S' j) 2 (L j) (fun i => .int .i64 (E j i))) ∧ (∀ j, j < c → w.heap.size ≤ S' j) ∧ (∀ i j, i < c → j < c → i ≠ j → S' i ≠ S' j) ∧ Below w.heap.size w wr) (fun i _ => n - (intOf i).toNat)
  case atStart => exact ⟨0, fun _ => 0, by omega, rfl, R0.congr (fun i _ => by unfold cpV; simp), fun j hj => by omega, fun j hj => by omega, fun i j hi => by omega, B0⟩
  case round =>
    clear R0 B0
    obtain ⟨c, S', hc, rfl, R, hp, hp2, hp3, HB⟩ := hrel
    have HPW : Hid ((∀ j, j < c → w.heap.size ≤ S' j) ∧ (∀ i j, i < c → j < c → i ≠ j → S' i ≠ S' j)) := ⟨hp2, hp3⟩
    clear hp2 hp3
    have HP : Hid (∀ j, j < c → S' j ≠ w.heap.size ∧ wr.rowIs (S' j) 2 (L j) (fun i => .int .i64 (E j i))) := hp
    clear hp
    by_cases hcn : c < n
    · obtain ⟨A, off, rfl, hA, q0, q1, q2, q3, q4, q5, q6, q7, q8, q9, q10, q11, q12, hrow⟩ := HS.out.step HB c hcn
      have hcI : (c : Int) < n := by omega
      have TL := fun w h => toEvent_any (S c).1 (L c) (S c).2 (E c) (q c).1 (q c).2.1 (q c).2.2 (HL.out c hcn) w h
      have hlr := R.lt
      go_wp2_with fail
      refine (TL _ hrow).mono ?_
      rintro e w1 ⟨g, rfl, hg, RG, hB⟩
      replace R := rowp_step R hB
      have HP2 : Hid (∀ j, j < c → S' j ≠ w.heap.size ∧ w1.rowIs (S' j) 2 (L j) (fun i => .int .i64 (E j i))) := fun j hj => ⟨(HP.out j hj).1, rowp_step (HP.out j hj).2 hB⟩
      replace HB := HB.trans (hB.mono HB.size)
      have o0 := R.cell (i := c * 13) (by omega); have f0 := R.frozen (c * 13); have o1 := R.cell (i := c * 13 + 1) (by omega); have f1 := R.frozen (c * 13 + 1); have o2 := R.cell (i := c * 13 + 2) (by omega); have f2 := R.frozen (c * 13 + 2); have o3 := R.cell (i := c * 13 + 3) (by omega); have f3 := R.frozen (c * 13 + 3); have o4 := R.cell (i := c * 13 + 4) (by omega); have f4 := R.frozen (c * 13 + 4); have o5 := R.cell (i := c * 13 + 5) (by omega); have f5 := R.frozen (c * 13 + 5); have o6 := R.cell (i := c * 13 + 6) (by omega); have f6 := R.frozen (c * 13 + 6); have o7 := R.cell (i := c * 13 + 7) (by omega); have f7 := R.frozen (c * 13 + 7); have o8 := R.cell (i := c * 13 + 8) (by omega); have f8 := R.frozen (c * 13 + 8); have o9 := R.cell (i := c * 13 + 9) (by omega); have f9 := R.frozen (c * 13 + 9); have o10 := R.cell (i := c * 13 + 10) (by omega); have f10 := R.frozen (c * 13 + 10); have o11 := R.cell (i := c * 13 + 11) (by omega); have f11 := R.frozen (c * 13 + 11); have o12 := R.cell (i := c * 13 + 12) (by omega); have f12 := R.frozen (c * 13 + 12)
      have RN := cpe_step (g := g) R
      have hgw : g ≠ w.heap.size := by omega
      have HPWN : Hid ((∀ j, j < (c + 1) → w.heap.size ≤ (fun j => if j = c then g else S' j) j) ∧ (∀ i j, i < (c + 1) → j < (c + 1) → i ≠ j → (fun j => if j = c then g else S' j) i ≠ (fun j => if j = c then g else S' j) j)) := by
        have lt : ∀ j, j < c → S' j < wr.heap.size := fun j hj => (HP.out j hj).2.lt
        refine ⟨fun j hj => ?_, fun i j hi hj hij => ?_⟩
        · dsimp only
          split
          · omega
          · exact HPW.out.1 j (by omega)
        · dsimp only
          split
          · rw [if_neg (by omega)]; have := lt j (by omega); omega
          · split
            · have := lt i (by omega); omega
            · exact HPW.out.2 i j (by omega) (by omega) hij
      have HPN : Hid (∀ j, j < c + 1 → (fun j => if j = c then g else S' j) j ≠ w.heap.size ∧ (((((((((((((w1.setCell ⟨w.heap.size, c * 13, none⟩ (.int .u64 (ww3 (q c).1))).setCell ⟨w.heap.size, c * 13 + 1, none⟩ (.int .u64 (ww2 (q c).1))).setCell ⟨w.heap.size, c * 13 + 2, none⟩ (.int .u64 (ww1 (q c).1))).setCell ⟨w.heap.size, c * 13 + 3, none⟩ (.int .u64 (ww0 (q c).1))).setCell ⟨w.heap.size, c * 13 + 4, none⟩ (.int .u64 (ww3 (q c).2.1))).setCell ⟨w.heap.size, c * 13 + 5, none⟩ (.int .u64 (ww2 (q c).2.1))).setCell ⟨w.heap.size, c * 13 + 6, none⟩ (.int .u64 (ww1 (q c).2.1))).setCell ⟨w.heap.size, c * 13 + 7, none⟩ (.int .u64 (ww0 (q c).2.1))).setCell ⟨w.heap.size, c * 13 + 8, none⟩ (.int .u64 (ww3 (q c).2.2))).setCell ⟨w.heap.size, c * 13 + 9, none⟩ (.int .u64 (ww2 (q c).2.2))).setCell ⟨w.heap.size, c * 13 + 10, none⟩ (.int .u64 (ww1 (q c).2.2))).setCell ⟨w.heap.size, c * 13 + 11, none⟩ (.int .u64 (ww0 (q c).2.2))).setCell ⟨w.heap.size, c * 13 + 12, none⟩ (.slice (some ⟨g, 0, none⟩) (L c) (L c))).rowIs ((fun j => if j = c then g else S' j) j) 2 (L j) (fun i => .int .i64 (E j i))) := fun j hj => by
        by_cases h : j = c
        · subst h
          dsimp only
          rw [if_pos rfl]
          exact ⟨hgw, otherE hgw RG⟩
        · dsimp only
          rw [if_neg h]
          have := HP2.out j (by omega)
          exact ⟨this.1, otherE this.1 this.2⟩
      have HN : Below w.heap.size w (((((((((((((w1.setCell ⟨w.heap.size, c * 13, none⟩ (.int .u64 (ww3 (q c).1))).setCell ⟨w.heap.size, c * 13 + 1, none⟩ (.int .u64 (ww2 (q c).1))).setCell ⟨w.heap.size, c * 13 + 2, none⟩ (.int .u64 (ww1 (q c).1))).setCell ⟨w.heap.size, c * 13 + 3, none⟩ (.int .u64 (ww0 (q c).1))).setCell ⟨w.heap.size, c * 13 + 4, none⟩ (.int .u64 (ww3 (q c).2.1))).setCell ⟨w.heap.size, c * 13 + 5, none⟩ (.int .u64 (ww2 (q c).2.1))).setCell ⟨w.heap.size, c * 13 + 6, none⟩ (.int .u64 (ww1 (q c).2.1))).setCell ⟨w.heap.size, c * 13 + 7, none⟩ (.int .u64 (ww0 (q c).2.1))).setCell ⟨w.heap.size, c * 13 + 8, none⟩ (.int .u64 (ww3 (q c).2.2))).setCell ⟨w.heap.size, c * 13 + 9, none⟩ (.int .u64 (ww2 (q c).2.2))).setCell ⟨w.heap.size, c * 13 + 10, none⟩ (.int .u64 (ww1 (q c).2.2))).setCell ⟨w.heap.size, c * 13 + 11, none⟩ (.int .u64 (ww0 (q c).2.2))).setCell ⟨w.heap.size, c * 13 + 12, none⟩ (.slice (some ⟨g, 0, none⟩) (L c) (L c))) := belowe (Nat.le_refl _) HB
      clear hB q0 q1 q2 q3 q4 q5 q6 q7 q8 q9 q10 q11 q12 hrow hA R HB RG HP HP2 TL hlr hg hgw
      go_wp2
      go_roundw
      case rel => exact ⟨c + 1, _, by omega, by go_num, RN, HPN.out, HPWN.out.1, HPWN.out.2, HN⟩
      case measure => simp [intOf]; omega
    · obtain rfl : c = n := by omega
      have LI : Hid (EvRow wr w.heap.size wr.heap.size (.slice (some ⟨w.heap.size, 0, none⟩) c c) c (wq q) (fun i => .slice (some ⟨S' i, 0, none⟩) (L i) (L i)) L E) := by
        refine .inr ⟨w.heap.size, c, _, rfl, Nat.le_refl _, R.lt, Nat.le_refl _, R, fun k hk => ?_, fun i hi => .inr ⟨S' i, L i, _, rfl, HPW.out.1 i hi, (HP.out i hi).2.lt, Nat.le_refl _, (HP.out i hi).2, fun _ _ => rfl⟩, fun i hi e => ?_, fun i j hi hj hij h e1 e2 => ?_⟩
        · unfold cpV
          rw [if_pos hk, evV_evC]
        · have e2 : some (S' i) = some w.heap.size := e
          exact (HP.out i hi).1 (Option.some.inj e2)
        · have e3 : some (S' i) = some h := e1
          have e4 : some (S' j) = some h := e2
          exact HPW.out.2 i j hi hj hij ((Option.some.inj e3).trans (Option.some.inj e4).symm)
      clear R HS HP HL HPW
      go_wp2
      go_ret
      exact ⟨_, _, rfl, LI.out, HB⟩
end Go.Proofs.Ytpmnmlhfaoajdaa

/- Events counted; the law of a row of events. -/
namespace Go.Proofs.Ytpmnmlhfaoajdaa
open Go.RowKit
theorem szNoE_any (ao : Option Addr) (m cap : Nat) (l : Int) (h0 : 0 ≤ l) (h1 : l ≤ 1048576) (hm : m ≤ 9223372036854775807) (w : World) : Calls Try.prog 65 #[.slice ao m cap, .int .i64 l] w (VP (.int .i64 (if (m : Int) ≤ l then l - m else -1)) w) := by
  have hmI : (m : Int) ≤ 9223372036854775807 := by omega
  by_cases h : (m : Int) ≤ l
  · rw [if_pos h]
    go_enter Try.func65, Try.ntmps65
    go_wp2
    go_ret
    exact ⟨rfl, Below.refl _ _⟩
  · rw [if_neg h]
    have h' : l < (m : Int) := by omega
    go_enter Try.func65, Try.ntmps65
    go_wp2
    go_ret
    exact ⟨rfl, Below.refl _ _⟩
theorem szEvent_any (ao : Option Addr) (m cap : Nat) (x y z : Int) (l : Int) (h0 : 0 ≤ l) (h1 : l ≤ 1048576) (hm : m ≤ 9223372036854775807) (w : World) : Calls Try.prog 36 #[.agg #[.int .u64 (ww3 x), .int .u64 (ww2 x), .int .u64 (ww1 x), .int .u64 (ww0 x), .int .u64 (ww3 y), .int .u64 (ww2 y), .int .u64 (ww1 y), .int .u64 (ww0 y), .int .u64 (ww3 z), .int .u64 (ww2 z), .int .u64 (ww1 z), .int .u64 (ww0 z), .slice ao m cap], .int .i64 l] w (VP (.int .i64 (if (m : Int) ≤ l then l - m else -1)) w) := by
  have HB : Below w.heap.size w (w.alloc (.cells #[.int .u64 (ww3 x), .int .u64 (ww2 x), .int .u64 (ww1 x), .int .u64 (ww0 x), .int .u64 (ww3 y), .int .u64 (ww2 y), .int .u64 (ww1 y), .int .u64 (ww0 y), .int .u64 (ww3 z), .int .u64 (ww2 z), .int .u64 (ww1 z), .int .u64 (ww0 z), .slice ao m cap] 84)) := (Below.refl _ w).alloc (Nat.le_refl _) _
  have B0 := Blk.new w [.int .u64 (ww3 x), .int .u64 (ww2 x), .int .u64 (ww1 x), .int .u64 (ww0 x), .int .u64 (ww3 y), .int .u64 (ww2 y), .int .u64 (ww1 y), .int .u64 (ww0 y), .int .u64 (ww3 z), .int .u64 (ww2 z), .int .u64 (ww1 z), .int .u64 (ww0 z), .slice ao m cap] 84 rfl
  have SP := szNoE_any ao m cap l h0 h1 hm
  go_enter Try.func36, Try.ntmps36
  have b0 := B0.c 12 rfl
  by_cases h : (m : Int) ≤ l
  · rw [if_pos h] at SP ⊢
    go_wp2_with fail
    refine (SP _).mono ?_
    rintro e w1 ⟨rfl, hB⟩
    replace HB := HB.trans (hB.mono HB.size)
    clear hB SP B0 b0
    have h2 : 0 ≤ l - (m : Int) := by omega
    go_wp2
    go_ret
    exact ⟨rfl, HB⟩
  · rw [if_neg h] at SP ⊢
    go_wp2_with fail
    refine (SP _).mono ?_
    rintro e w1 ⟨rfl, hB⟩
    replace HB := HB.trans (hB.mono HB.size)
    clear hB SP B0 b0
    go_wp2
    go_ret
    exact ⟨rfl, HB⟩
/-- What is left of the count, if it is not below 0. -/
def SzE (n : Nat) (L : Nat → Nat) (w : World) (e : Ending) (w' : World) : Prop := ∃ z : Int, e = .returned (.int .i64 z) ∧ -1 ≤ z ∧ z ≤ 1048576 ∧ (0 ≤ z → n ≤ 1048576 ∧ ∀ i, i < n → L i ≤ 1048576) ∧ Below w.heap.size w w'
set_option maxRecDepth 100000 in
set_option maxHeartbeats 2000000 in
theorem szEventS_any (ao : Option Addr) (n cap : Nat) (q : Nat → Int × Int × Int) (S : Nat → Option Addr × Nat) (L : Nat → Nat) (E : Nat → Nat → Int) (hn : n ≤ 9223372036854775807) (hL : ∀ i, i < n → L i ≤ 9223372036854775807) (w : World) (hS : EvIn w ao n q S L E) : Calls Try.prog 17 #[.slice ao n cap, .int .i64 1048576] w (SzE n L w) := by
  have hnI : (n : Int) ≤ 9223372036854775807 := by omega
  by_cases h : n ≤ 1048576
  · have h' : (n : Int) ≤ 1048576 := by omega
    have HS : Hid (EvIn w ao n q S L E) := hS
    have HL : Hid (∀ i, i < n → L i ≤ 9223372036854775807) := hL
    clear hS hL
    go_enter Try.func17, Try.ntmps17
    go_wp2_with fail
    go_loopw [1, 5] (fun s i wr => ∃ (c : Nat) (l : Int), c ≤ n ∧ i = .int .i64 c ∧ s = .int .i64 l ∧ 0 ≤ l ∧ l ≤ 1048576 ∧ (∀ j, j < c → L j ≤ 1048576) ∧ Below w.heap.size w wr) (fun _ i _ => n - (intOf i).toNat)
    case atStart => exact ⟨0, _, by omega, rfl, rfl, by omega, by omega, fun j hj => by omega, Below.refl _ _⟩
    case round =>
      obtain ⟨c, l, hc, rfl, rfl, l0, l1, hall, HB⟩ := hrel
      have HA : Hid (∀ j, j < c → L j ≤ 1048576) := hall
      clear hall
      by_cases hcn : c < n
      · obtain ⟨A, off, rfl, hA, q0, q1, q2, q3, q4, q5, q6, q7, q8, q9, q10, q11, q12, -⟩ := HS.out.step HB c hcn
        have hcI : (c : Int) < n := by omega
        have SL := szEvent_any (S c).1 (L c) (S c).2 (q c).1 (q c).2.1 (q c).2.2 l l0 l1 (HL.out c hcn)
        go_wp2_with fail
        refine (SL _).mono ?_
        rintro e w1 ⟨rfl, hB⟩
        replace HB := HB.trans (hB.mono HB.size)
        clear hB SL q0 q1 q2 q3 q4 q5 q6 q7 q8 q9 q10 q11 q12 hA
        by_cases hl : (L c : Int) ≤ l
        · rw [if_pos hl]
          have hl2 : 0 ≤ l - (L c : Int) := by omega
          go_wp2
          go_roundw
          case rel => exact ⟨c + 1, _, by omega, by go_num, rfl, by omega, by omega, fun j hj => by
            rcases Nat.lt_or_ge j c with h | h
            · exact HA.out j h
            · obtain rfl : j = c := by omega
              omega, HB⟩
          case measure => simp [intOf]; omega
        · rw [if_neg hl]
          go_wp2
          go_ret
          exact ⟨-1, rfl, by omega, by omega, fun h => by omega, HB⟩
      · obtain rfl : c = n := by omega
        clear HS HL
        go_wp2
        go_ret
        exact ⟨l, rfl, by omega, l1, fun _ => ⟨h, HA.out⟩, HB⟩
  · have h' : (1048576 : Int) < n := by omega
    clear hS hL
    go_enter Try.func17, Try.ntmps17
    go_wp2
    go_ret
    exact ⟨-1, rfl, by omega, by omega, fun h => by omega, Below.refl _ _⟩
end Go.Proofs.Ytpmnmlhfaoajdaa
