/- Part 12 of the walks that the proof leans on. -/
import Derived.Test.YtpmnmlhfaoajdaaGreatPart11
import Derived.Maps.AppendAt
set_option maxRecDepth 100000
set_option maxHeartbeats 16000000
namespace Go.Proofs.YtpmnmlhfaoajdaaGreat
open Go.RowKit
def setAll (w : World) (g : Nat) : Nat → List Value → World
 | _, [] => w
 | i, v :: vs => setAll (w.setCell ⟨g, i, none⟩ v) g (i + 1) vs
def setL : List Value → Nat → List Value → List Value
 | os, _, [] => os
 | os, i, v :: vs => setL (os.set i v) (i + 1) vs
theorem setAll_blk {g : Nat} : ∀ (vs : List Value) {w : World} {os : List Value} (i : Nat), Blk w g os → i + vs.length ≤ os.length → Blk (setAll w g i vs) g (setL os i vs)
 | [], _, _, _, h, _ => h
 | v :: vs, _, os, i, h, hl => setAll_blk vs (i + 1) (h.setI i (by simp at hl; omega) v) (by simp at hl ⊢; omega)
theorem setAll_below {g B : Nat} {w0 : World} (hg : B ≤ g) : ∀ (vs : List Value) {w : World} (i : Nat), Below B w0 w → Below B w0 (setAll w g i vs)
 | [], _, _, h => h
 | v :: vs, _, i, h => setAll_below hg vs (i + 1) (h.setCell (p := ⟨g, i, none⟩) hg v)
theorem setAll_heap {g b : Nat} (hb : b ≠ g) : ∀ (vs : List Value) {w : World} (i : Nat), (setAll w g i vs).heap[b]? = w.heap[b]?
 | [], _, _ => rfl
 | _ :: vs, _, i => (setAll_heap hb vs (i + 1)).trans (Below.heap_setCell _ _ _ _ hb)
theorem ownN_heap {w w' : World} {base n : Nat} {e : TypeId} {size : Nat} {v : Value} {xs : List Value} (h : w.ownsRow base e size v n xs) (hh : ∀ k, v.ownBlock = some k → w'.heap[k]? = w.heap[k]?) : w'.ownsRow base e size v n xs := by
 rcases h with ⟨h0, h1 | ⟨g, cap, cur, h1, h2, h3, h4⟩⟩
 · exact ⟨h0, .inl h1⟩
 · refine ⟨h0, .inr ⟨g, cap, cur, h1, h2, ?_, h4⟩⟩
   rw [hh g (by subst h1; rfl)]
   exact h3
theorem ownN_mono {w : World} {b b' n : Nat} {e : TypeId} {size : Nat} {v : Value} {xs : List Value} (h : w.ownsRow b' e size v n xs) (hb : b ≤ b') : w.ownsRow b e size v n xs := by
 rcases h with ⟨h0, h1 | ⟨g, cap, cur, h1, h2, h3⟩⟩
 · exact ⟨h0, .inl h1⟩
 · exact ⟨h0, .inr ⟨g, cap, cur, h1, by omega, h3⟩⟩
theorem ownN_form {w : World} {base n : Nat} {e : TypeId} {size : Nat} {v : Value} {xs : List Value} (h : w.ownsRow base e size v n xs) (hn : 0 < n) : ∃ g cap, v = .slice (some ⟨g, 0, none⟩) n cap ∧ base ≤ g ∧ g < w.heap.size ∧ n ≤ cap ∧ cap ≤ maxLen := by
 rcases h.2 with ⟨h1, h0⟩ | ⟨g, cap, cur, h1, h2, h3, h4, h5, _⟩
 · omega
 · exact ⟨g, cap, h1, h2, (Array.getElem?_eq_some_iff.1 h3).1, h4, h5⟩
def noL (m : Nat) (e : Nat → Int) : List Value := (List.range m).map fun (i : Nat) => Value.int .i64 (e i)
theorem noL_len (m : Nat) (e : Nat → Int) : (noL m e).length = m := by simp [noL]
theorem noL_at {m : Nat} {e : Nat → Int} {i : Nat} (h : i < m) : (noL m e)[i]? = some (.int .i64 (e i)) := by simp [noL, h]
theorem noL_one (m : Nat) (e : Nat → Int) : ∀ u ∈ noL m e, u.oneCell' = true := by
 intro u hu
 obtain ⟨i, _, rfl⟩ := List.mem_map.1 hu
 rfl
theorem noL_cell {w : World} {A off m : Nat} {e : Nat → Int} (h : NoIn w (some ⟨A, off, none⟩) m e) : ∀ j u, (noL m e)[j]? = some u → w.cell? ((⟨A, off, none⟩ : Addr).add j) = some u := by
 intro j u hj
 have hjl : j < m := by have := (List.getElem?_eq_some_iff.1 hj).1; rw [noL_len] at this; exact this
 rw [noL_at hjl] at hj
 cases hj
 obtain ⟨A', off', e', _, hc⟩ := h j hjl
 cases e'
 rw [Addr.add_lit]
 exact hc
theorem cloneNo_any (A off m cap : Nat) (e : Nat → Int) (hm : m ≤ 1048576) (w : World) (R : NoIn w (some ⟨A, off, none⟩) m e) :
   Calls Tryz.prog 101 #[.slice (some ⟨A, off, none⟩) m cap] w (fun r w' => ∃ v, r = .returned v ∧ w'.ownsRow w.heap.size 2 1 v m (noL m e) ∧ Below w.heap.size w w') := by
 obtain ⟨i0, hi, hz0, hz1, hz2⟩ := info_parts Tryz.infoNo
 have q := fun (w : World) (a : Option Addr) (n c n' c' : Nat) => Lib.run_eql_slice_nil (P := Tryz.prog) w _ _ a n c n' c' Tryz.underlying29
 have HR : Hid (NoIn w (some ⟨A, off, none⟩) m e) := R
 clear R
 go_enter Tryz.func101, Tryz.ntmps101
 go_wp2_with (at_builtin; refine wpList_append_own _ rfl _ _ 29 rfl w.heap.size 2 i0 (.int .i64 0) 1 8 Tryz.underlying29 hi hz0 hz1 hz2 rfl (by decide) _ _ _ rfl (World.ownsRow_made w #[] 0 (Nat.le_refl _) (by decide) rfl) ⟨A, off, none⟩ m cap (noL m e) rfl ?c1 ?c2 ?c3 ?c4 ?c5 ?c6 ?_)
 case c1 => rw [noL_len]; omega
 case c2 => exact noL_cell (HR.out.step ((Below.refl _ _).alloc (Nat.le_refl _) _))
 case c3 => exact noL_one m e
 case c4 => unfold maxLen; omega
 case c5 => omega
 case c6 => simp
 intro v w1 hown hgrow hne
 have HB : Below w.heap.size w w1 := ((Below.refl _ _).alloc (Nat.le_refl _) _).grown hgrow (by simp) (fun k hk => by cases hk; exact Nat.le_refl _)
 clear hgrow
 go_wp2
 go_ret
 exact ⟨_, rfl, hown, HB⟩
theorem noIn_below {w w' : World} {B A off m : Nat} {e : Nat → Int} (h : NoIn w (some ⟨A, off, none⟩) m e) (hB : Below B w w') (hA : A < B) : NoIn w' (some ⟨A, off, none⟩) m e := fun i hi => by
 obtain ⟨A', off', e', hl, hc⟩ := h i hi
 cases e'
 exact ⟨A, off, rfl, Nat.lt_of_lt_of_le hl hB.size, (hB.cell (p := ⟨A, off + i, none⟩) hA).trans hc⟩
def StV (n iz A : Nat) (os : List Value) (G D : World → Prop) (lz : Array Bool) (W : World) : Prop :=
 (lz.getD iz false = true → ∀ j, j < n → lz.getD j false = true) ∧ (lz.getD iz false = false → Blk W A os ∧ G W) ∧ (lz.getD iz false = true → D W)
theorem StV.start {n m iz A : Nat} {os : List Value} {G D : World → Prop} {W : World} (h : Blk W A os ∧ G W) : StV n iz A os G D (Array.replicate m false) W :=
 ⟨(fun h => by rw [replD] at h; cases h), fun _ => h, (fun h => by rw [replD] at h; cases h)⟩
theorem StV.off {n iz A : Nat} {os : List Value} {G D : World → Prop} {lz : Array Bool} {W : World} (h : StV n iz A os G D lz W) {i : Nat} (hi : i < n) (hl : lz.getD i true = false) : lz.getD iz false = false := by
 cases hh : lz.getD iz false with
 | false => rfl
 | true => have := h.1 hh i hi; rw [getD_tf hl] at this; cases this
theorem StV.quiet {n iz A : Nat} {os : List Value} {G D : World → Prop} {lz : Array Bool} {W W2 : World} (h : StV n iz A os G D lz W) (i : Nat) (hi : i < n) (hl : lz.getD i true = false) (h3 : i ≠ iz) (hw : Blk W A os → G W → Blk W2 A os ∧ G W2) : StV n iz A os G D (lz.setIfInBounds i true) W2 := by
 have hz := h.off hi hl
 obtain ⟨a1, a2, a3⟩ := h
 unfold StV
 rw [getD_set_neq h3]
 exact ⟨(fun h => by rw [hz] at h; cases h), fun h => hw (a2 h).1 (a2 h).2, (fun h => by rw [hz] at h; cases h)⟩
theorem StV.stored {n iz A : Nat} {os : List Value} {G D : World → Prop} {lz : Array Bool} {W2 : World} (hl : lz.getD iz true = false) (hall : ∀ j, j < n → j ≠ iz → lz.getD j false = true) (hD : D W2) : StV n iz A os G D (lz.setIfInBounds iz true) W2 := by
 unfold StV
 rw [getD_set_eq hl]
 refine ⟨fun _ j hj => ?_, (fun h => by cases h), fun _ => hD⟩
 by_cases hji : j = iz
 · subst hji; exact getD_set_eq hl
 · rw [getD_set_neq (Ne.symm hji)]; exact hall j hj hji
def VewC (A1 _R Ab off m mc : Nat) (x y z : Int) (en : Nat → Int) (B4 : Nat) (_B : Nat) : Nat → Value → World → Prop
 | 0, v, _ => v = .pointer (some ⟨A1, 0, none⟩)
 | 1, v, _ => v = .agg #[.int .u64 (ww3 x), .int .u64 (ww2 x), .int .u64 (ww1 x), .int .u64 (ww0 x), .int .u64 (ww3 y), .int .u64 (ww2 y), .int .u64 (ww1 y), .int .u64 (ww0 y), .int .u64 (ww3 z), .int .u64 (ww2 z), .int .u64 (ww1 z), .int .u64 (ww0 z)]
 | 2, v, _ => v = .pointer (some ⟨A1, 12, none⟩)
 | 3, v, _ => v = .slice (some ⟨Ab, off, none⟩) m mc
 | 4, v, W => ∃ gs cs, v = .slice (some ⟨gs, 0, none⟩) m cs ∧ W.ownsRow B4 2 1 (.slice (some ⟨gs, 0, none⟩) m cs) m (noL m en)
 | 5, v, W => ∃ gs cs, v = .agg #[.int .u64 (ww3 x), .int .u64 (ww2 x), .int .u64 (ww1 x), .int .u64 (ww0 x), .int .u64 (ww3 y), .int .u64 (ww2 y), .int .u64 (ww1 y), .int .u64 (ww0 y), .int .u64 (ww3 z), .int .u64 (ww2 z), .int .u64 (ww1 z), .int .u64 (ww0 z), .slice (some ⟨gs, 0, none⟩) m cs] ∧ W.ownsRow B4 2 1 (.slice (some ⟨gs, 0, none⟩) m cs) m (noL m en)
 | _, _, _ => True
theorem VewC.mono {A1 R Ab off m mc : Nat} {x y z : Int} {en : Nat → Int} {B4 : Nat} {B j : Nat} {v : Value} {W W2 : World} (hB : Below W.heap.size W W2) (h : VewC A1 R Ab off m mc x y z en B4 B j v W) : VewC A1 R Ab off m mc x y z en B4 B j v W2 := by
 unfold VewC at *
 split <;> simp only at h <;> first | exact h | (obtain ⟨a, b, h1, h2⟩ := h; exact ⟨a, b, h1, ownA_step h2 hB⟩) | trivial
theorem VewC.set {A1 R Ab off m mc : Nat} {x y z : Int} {en : Nat → Int} {B4 : Nat} {B j : Nat} {v : Value} {W W2 : World} (hh : ∀ k, B4 ≤ k → W2.heap[k]? = W.heap[k]?) (h : VewC A1 R Ab off m mc x y z en B4 B j v W) : VewC A1 R Ab off m mc x y z en B4 B j v W2 := by
 unfold VewC at *
 split <;> simp only at h <;> first | exact h | (obtain ⟨a, b, h1, h2⟩ := h; exact ⟨a, b, h1, ownN_heap h2 (fun k hk => hh k (h2.lt k hk).1)⟩) | trivial
def SewC (_A1 R _Ab _off m _mc : Nat) (x y z : Int) (en : Nat → Int) (B4 : Nat) (lz : Array Bool) (_az : Act) (W : World) : Prop := StV 7 6 R [.int .u64 0, .int .u64 0, .int .u64 0, .int .u64 0, .int .u64 0, .int .u64 0, .int .u64 0, .int .u64 0, .int .u64 0, .int .u64 0, .int .u64 0, .int .u64 0, .slice none 0 0] (fun _ => True) (fun W => ∃ s, W.ownsRow B4 2 1 s m (noL m en) ∧ Blk W R [.int .u64 (ww3 x), .int .u64 (ww2 x), .int .u64 (ww1 x), .int .u64 (ww0 x), .int .u64 (ww3 y), .int .u64 (ww2 y), .int .u64 (ww1 y), .int .u64 (ww0 y), .int .u64 (ww3 z), .int .u64 (ww2 z), .int .u64 (ww1 z), .int .u64 (ww0 z), s]) lz W
def JewC (A1 R Ab off m mc : Nat) (x y z : Int) (en : Nat → Int) (B4 : Nat) (w0 : World) (a0 : Act) (lz : Array Bool) (az : Act) (W : World) : Prop := InvQ (R) [some 3, some 4, some 5, some 6, some 7, some 8, none] (VewC A1 R Ab off m mc x y z en B4 (R)) w0 a0 lz az W ∧ SewC A1 R Ab off m mc x y z en B4 lz az W
theorem ewC {Q : Exit → Act → World → Prop} {A1 R Ab off m mc : Nat} {x y z : Int} {en : Nat → Int} {B4 : Nat}  {w0 : World} {a0 : Act} {idq : Nat} {t0 t1 t2 t3 t4 t5 t6 : TypeId} {q0 q1 q2 q3 q4 q5 q6 : String}
   (hm1 : 0 < m) (hB4 : B4 ≤ w0.heap.size) (hRB : R < B4) (hN : NoIn w0 (some ⟨Ab, off, none⟩) m en) (hAb : Ab < R) (hC : ∀ w, NoIn w (some ⟨Ab, off, none⟩) m en → Calls Tryz.prog 101 #[.slice (some ⟨Ab, off, none⟩) m mc] w (fun r w' => ∃ v, r = .returned v ∧ w'.ownsRow w.heap.size 2 1 v m (noL m en) ∧ Below w.heap.size w w')) (s0 : Blk w0.drew R [.int .u64 0, .int .u64 0, .int .u64 0, .int .u64 0, .int .u64 0, .int .u64 0, .int .u64 0, .int .u64 0, .int .u64 0, .int .u64 0, .int .u64 0, .int .u64 0, .slice none 0 0]) (h1 : a0.tmps[1]? = some (.pointer (some ⟨A1, 0, none⟩))) (h2 : a0.tmps[2]? = some (.pointer (some ⟨R, 0, none⟩))) (k0 : w0.cell? ⟨A1, 0, none⟩ = some (.int .u64 (ww3 x))) (l0 : (⟨A1, 0, none⟩ : Addr).block < R) (k1 : w0.cell? ⟨A1, 1, none⟩ = some (.int .u64 (ww2 x))) (l1 : (⟨A1, 1, none⟩ : Addr).block < R) (k2 : w0.cell? ⟨A1, 2, none⟩ = some (.int .u64 (ww1 x))) (l2 : (⟨A1, 2, none⟩ : Addr).block < R) (k3 : w0.cell? ⟨A1, 3, none⟩ = some (.int .u64 (ww0 x))) (l3 : (⟨A1, 3, none⟩ : Addr).block < R) (k4 : w0.cell? ⟨A1, 4, none⟩ = some (.int .u64 (ww3 y))) (l4 : (⟨A1, 4, none⟩ : Addr).block < R) (k5 : w0.cell? ⟨A1, 5, none⟩ = some (.int .u64 (ww2 y))) (l5 : (⟨A1, 5, none⟩ : Addr).block < R) (k6 : w0.cell? ⟨A1, 6, none⟩ = some (.int .u64 (ww1 y))) (l6 : (⟨A1, 6, none⟩ : Addr).block < R) (k7 : w0.cell? ⟨A1, 7, none⟩ = some (.int .u64 (ww0 y))) (l7 : (⟨A1, 7, none⟩ : Addr).block < R) (k8 : w0.cell? ⟨A1, 8, none⟩ = some (.int .u64 (ww3 z))) (l8 : (⟨A1, 8, none⟩ : Addr).block < R) (k9 : w0.cell? ⟨A1, 9, none⟩ = some (.int .u64 (ww2 z))) (l9 : (⟨A1, 9, none⟩ : Addr).block < R) (k10 : w0.cell? ⟨A1, 10, none⟩ = some (.int .u64 (ww1 z))) (l10 : (⟨A1, 10, none⟩ : Addr).block < R) (k11 : w0.cell? ⟨A1, 11, none⟩ = some (.int .u64 (ww0 z))) (l11 : (⟨A1, 11, none⟩ : Addr).block < R) (k12 : w0.cell? ⟨A1, 12, none⟩ = some (.slice (some ⟨Ab, off, none⟩) m mc)) (l12 : (⟨A1, 12, none⟩ : Addr).block < R) (hz : a0.tmps.size = 9)
   (hQ : ∀ aq W, aq.tmps.size = a0.tmps.size → aq.defers = a0.defers → (∀ e, e ∉ ([3, 4, 5, 6, 7, 8] : List Nat) → aq.tmps[e]? = a0.tmps[e]?) → VewC A1 R Ab off m mc x y z en B4 (R) 6 undef W → Below (R) w0 W → (∃ s, W.ownsRow B4 2 1 s m (noL m en) ∧ Blk W R [.int .u64 (ww3 x), .int .u64 (ww2 x), .int .u64 (ww1 x), .int .u64 (ww0 x), .int .u64 (ww3 y), .int .u64 (ww2 y), .int .u64 (ww1 y), .int .u64 (ww0 y), .int .u64 (ww3 z), .int .u64 (ww2 z), .int .u64 (ww1 z), .int .u64 (ww0 z), s]) → Q .normal aq W) :
   (Code.region idq #[{ dst := some 3, op := Op.fieldAddr 81 (.tmp 1) 0, type := t0, pos := q0, after := #[], guard := none },
   { dst := some 4, op := Op.load 35 (.tmp 3), type := t1, pos := q1, after := #[⟨0, .data⟩], guard := none },
   { dst := some 5, op := Op.fieldAddr 81 (.tmp 1) 1, type := t2, pos := q2, after := #[], guard := none },
   { dst := some 6, op := Op.load 29 (.tmp 5), type := t3, pos := q3, after := #[⟨2, .data⟩], guard := none },
   { dst := some 7, op := Op.call { callee := Callee.value (Operand.func 101), args := #[.tmp 6], argTypes := #[29] }, type := t4, pos := q4, after := #[⟨3, .data⟩], guard := none },
   { dst := some 8, op := Op.build 81 #[(0, .tmp 4), (1, .tmp 7)], type := t5, pos := q5, after := #[⟨1, .data⟩, ⟨4, .data⟩], guard := none },
   { dst := none, op := Op.store 81 (.tmp 2) (.tmp 8), type := t6, pos := q6, after := #[⟨5, .data⟩, ⟨4, .chain⟩, ⟨0, .phase⟩, ⟨1, .phase⟩, ⟨2, .phase⟩, ⟨3, .phase⟩, ⟨4, .phase⟩, ⟨5, .phase⟩], guard := none }] true).wp Tryz.prog Q a0 w0 := by
 have hS : distS [some 3, some 4, some 5, some 6, some 7, some 8, none] = true := rfl
 refine wp_region_inv (by kernel_rfl) (JewC A1 R Ab off m mc x y z en B4 w0 a0) ⟨⟨rfl, rfl, rfl, fun _ _ => rfl, (Below.refl _ w0).drew, fun j d hj => ?_, fun j hj => ?_⟩, StV.start ⟨s0, trivial⟩⟩ ?_ ?_
 · exfalso
   rw [Array.getD_eq_getD_getElem?, Array.getElem?_replicate] at hj
   split at hj <;> simp at hj
 · exfalso
   rw [Array.getD_eq_getD_getElem?, Array.getElem?_replicate] at hj
   split at hj <;> simp at hj
 · intro lq aq W iq oq ⟨hJ, hs⟩ hl ho hall
   have hJ2 := hJ
   obtain ⟨z1, z2, z3, z4, z5, z6, z7⟩ := hJ
   have g1 : aq.tmps.getD 1 undef = .pointer (some ⟨A1, 0, none⟩) := by rw [Array.getD_eq_getD_getElem?, z4 1 (by decide), h1]; rfl
   have g2 : aq.tmps.getD 2 undef = .pointer (some ⟨R, 0, none⟩) := by rw [Array.getD_eq_getD_getElem?, z4 2 (by decide), h2]; rfl
   have c0 : W.cell? ⟨A1, 0, none⟩ = some (.int .u64 (ww3 x)) := (z5.cell l0).trans k0
   have c1 : W.cell? ⟨A1, 1, none⟩ = some (.int .u64 (ww2 x)) := (z5.cell l1).trans k1
   have c2 : W.cell? ⟨A1, 2, none⟩ = some (.int .u64 (ww1 x)) := (z5.cell l2).trans k2
   have c3 : W.cell? ⟨A1, 3, none⟩ = some (.int .u64 (ww0 x)) := (z5.cell l3).trans k3
   have c4 : W.cell? ⟨A1, 4, none⟩ = some (.int .u64 (ww3 y)) := (z5.cell l4).trans k4
   have c5 : W.cell? ⟨A1, 5, none⟩ = some (.int .u64 (ww2 y)) := (z5.cell l5).trans k5
   have c6 : W.cell? ⟨A1, 6, none⟩ = some (.int .u64 (ww1 y)) := (z5.cell l6).trans k6
   have c7 : W.cell? ⟨A1, 7, none⟩ = some (.int .u64 (ww0 y)) := (z5.cell l7).trans k7
   have c8 : W.cell? ⟨A1, 8, none⟩ = some (.int .u64 (ww3 z)) := (z5.cell l8).trans k8
   have c9 : W.cell? ⟨A1, 9, none⟩ = some (.int .u64 (ww2 z)) := (z5.cell l9).trans k9
   have c10 : W.cell? ⟨A1, 10, none⟩ = some (.int .u64 (ww1 z)) := (z5.cell l10).trans k10
   have c11 : W.cell? ⟨A1, 11, none⟩ = some (.int .u64 (ww0 z)) := (z5.cell l11).trans k11
   have c12 : W.cell? ⟨A1, 12, none⟩ = some (.slice (some ⟨Ab, off, none⟩) m mc) := (z5.cell l12).trans k12
   match iq, ho with
   | 0, ho =>
     cases ho
     refine wpOp_of rfl rfl ?_
     have hq := fun (W2 : World) => hs.quiet (W2 := W2) 0 (by decide) hl (by decide)
     have xR := (hs.2.1 (hs.off (by decide) hl)).1
     have hK := fun (v : Value) (W2 : World) hW hT hv (hs : SewC A1 R Ab off m mc x y z en B4 (lq.setIfInBounds 0 true) (aq.put (some 3) v) W2) => show (JewC A1 R Ab off m mc x y z en B4 w0 a0) (lq.setIfInBounds 0 true) (aq.put (some 3) v) W2 from ⟨hJ2.put hS 0 3 rfl (by omega) (W' := W2) hW hT v hv, hs⟩
     clear ho hall hl hQ
     generalize (JewC A1 R Ab off m mc x y z en B4 w0 a0) (lq.setIfInBounds 0 true) = K at hK ⊢
     clear hJ2 hS z1 z2 z3 z4 z6 z7
     go_simp
     exact hK _ _ z5 (fun _ _ h => h) rfl (hq _ (fun a b => ⟨a, b⟩))
   | 1, ho =>
     cases ho
     refine wpOp_of rfl rfl ?_
     have f0 : (aq.tmps.getD 3 undef) = .pointer (some ⟨A1, 0, none⟩) := z6 0 3 (hall ⟨0, .data⟩ (by simp) rfl) rfl
     have hq := fun (W2 : World) => hs.quiet (W2 := W2) 1 (by decide) hl (by decide)
     have xR := (hs.2.1 (hs.off (by decide) hl)).1
     have hK := fun (v : Value) (W2 : World) hW hT hv (hs : SewC A1 R Ab off m mc x y z en B4 (lq.setIfInBounds 1 true) (aq.put (some 4) v) W2) => show (JewC A1 R Ab off m mc x y z en B4 w0 a0) (lq.setIfInBounds 1 true) (aq.put (some 4) v) W2 from ⟨hJ2.put hS 1 4 rfl (by omega) (W' := W2) hW hT v hv, hs⟩
     clear ho hall hl hQ
     generalize (JewC A1 R Ab off m mc x y z en B4 w0 a0) (lq.setIfInBounds 1 true) = K at hK ⊢
     clear hJ2 hS z1 z2 z3 z4 z6 z7
     go_simp
     exact hK _ _ z5 (fun _ _ h => h) rfl (hq _ (fun a b => ⟨a, b⟩))
   | 2, ho =>
     cases ho
     refine wpOp_of rfl rfl ?_
     have hq := fun (W2 : World) => hs.quiet (W2 := W2) 2 (by decide) hl (by decide)
     have xR := (hs.2.1 (hs.off (by decide) hl)).1
     have hK := fun (v : Value) (W2 : World) hW hT hv (hs : SewC A1 R Ab off m mc x y z en B4 (lq.setIfInBounds 2 true) (aq.put (some 5) v) W2) => show (JewC A1 R Ab off m mc x y z en B4 w0 a0) (lq.setIfInBounds 2 true) (aq.put (some 5) v) W2 from ⟨hJ2.put hS 2 5 rfl (by omega) (W' := W2) hW hT v hv, hs⟩
     clear ho hall hl hQ
     generalize (JewC A1 R Ab off m mc x y z en B4 w0 a0) (lq.setIfInBounds 2 true) = K at hK ⊢
     clear hJ2 hS z1 z2 z3 z4 z6 z7
     go_simp
     exact hK _ _ z5 (fun _ _ h => h) rfl (hq _ (fun a b => ⟨a, b⟩))
   | 3, ho =>
     cases ho
     refine wpOp_of rfl rfl ?_
     have f2 : (aq.tmps.getD 5 undef) = .pointer (some ⟨A1, 12, none⟩) := z6 2 5 (hall ⟨2, .data⟩ (by simp) rfl) rfl
     have hq := fun (W2 : World) => hs.quiet (W2 := W2) 3 (by decide) hl (by decide)
     have xR := (hs.2.1 (hs.off (by decide) hl)).1
     have hK := fun (v : Value) (W2 : World) hW hT hv (hs : SewC A1 R Ab off m mc x y z en B4 (lq.setIfInBounds 3 true) (aq.put (some 6) v) W2) => show (JewC A1 R Ab off m mc x y z en B4 w0 a0) (lq.setIfInBounds 3 true) (aq.put (some 6) v) W2 from ⟨hJ2.put hS 3 6 rfl (by omega) (W' := W2) hW hT v hv, hs⟩
     clear ho hall hl hQ
     generalize (JewC A1 R Ab off m mc x y z en B4 w0 a0) (lq.setIfInBounds 3 true) = K at hK ⊢
     clear hJ2 hS z1 z2 z3 z4 z6 z7
     go_simp
     exact hK _ _ z5 (fun _ _ h => h) rfl (hq _ (fun a b => ⟨a, b⟩))
   | 4, ho =>
     cases ho
     refine wpOp_of rfl rfl ?_
     have f3 : (aq.tmps.getD 6 undef) = .slice (some ⟨Ab, off, none⟩) m mc := z6 3 6 (hall ⟨3, .data⟩ (by simp) rfl) rfl
     have hq := fun (W2 : World) => hs.quiet (W2 := W2) 4 (by decide) hl (by decide)
     have xR := (hs.2.1 (hs.off (by decide) hl)).1
     have hK := fun (v : Value) (W2 : World) hW hT hv (hs : SewC A1 R Ab off m mc x y z en B4 (lq.setIfInBounds 4 true) (aq.put (some 7) v) W2) => show (JewC A1 R Ab off m mc x y z en B4 w0 a0) (lq.setIfInBounds 4 true) (aq.put (some 7) v) W2 from ⟨hJ2.put hS 4 7 rfl (by omega) (W' := W2) hW hT v hv, hs⟩
     clear ho hall hl hQ
     generalize (JewC A1 R Ab off m mc x y z en B4 w0 a0) (lq.setIfInBounds 4 true) = K at hK ⊢
     clear hJ2 hS z1 z2 z3 z4 z6 z7
     have zs := z5.size
     go_simp
     refine (hC W (noIn_below hN z5 hAb)).mono ?_
     rintro r v1 ⟨v, rfl, hO, hBv⟩
     obtain ⟨gs, cs, rfl, _⟩ := ownN_form hO hm1
     exact hK _ _ (z5.trans (hBv.mono (by omega))) (fun _ _ h => h.mono hBv) ⟨gs, cs, rfl, ownN_mono hO (by omega)⟩ (hq _ (fun a b => ⟨a.step hBv, b⟩))
   | 5, ho =>
     cases ho
     refine wpOp_of rfl rfl ?_
     have f1 : (aq.tmps.getD 4 undef) = .agg #[.int .u64 (ww3 x), .int .u64 (ww2 x), .int .u64 (ww1 x), .int .u64 (ww0 x), .int .u64 (ww3 y), .int .u64 (ww2 y), .int .u64 (ww1 y), .int .u64 (ww0 y), .int .u64 (ww3 z), .int .u64 (ww2 z), .int .u64 (ww1 z), .int .u64 (ww0 z)] := z6 1 4 (hall ⟨1, .data⟩ (by simp) rfl) rfl
     have f4 : ∃ gs cs, (aq.tmps.getD 7 undef) = .slice (some ⟨gs, 0, none⟩) m cs ∧ W.ownsRow B4 2 1 (.slice (some ⟨gs, 0, none⟩) m cs) m (noL m en) := z6 4 7 (hall ⟨4, .data⟩ (by simp) rfl) rfl
     obtain ⟨gs, cs, f4, hO⟩ := f4
     have hq := fun (W2 : World) => hs.quiet (W2 := W2) 5 (by decide) hl (by decide)
     have xR := (hs.2.1 (hs.off (by decide) hl)).1
     rw [Array.getD_eq_getD_getElem?] at f4 f1
     have hK := fun (v : Value) (W2 : World) hW hT hv (hs : SewC A1 R Ab off m mc x y z en B4 (lq.setIfInBounds 5 true) (aq.put (some 8) v) W2) => show (JewC A1 R Ab off m mc x y z en B4 w0 a0) (lq.setIfInBounds 5 true) (aq.put (some 8) v) W2 from ⟨hJ2.put hS 5 8 rfl (by omega) (W' := W2) hW hT v hv, hs⟩
     clear ho hall hl hQ
     generalize (JewC A1 R Ab off m mc x y z en B4 w0 a0) (lq.setIfInBounds 5 true) = K at hK ⊢
     clear hJ2 hS z1 z2 z3 z4 z6 z7
     go_simp
     exact hK _ _ z5 (fun _ _ h => h) ⟨gs, cs, rfl, hO⟩ (hq _ (fun a b => ⟨a, b⟩))
   | 6, ho =>
     cases ho
     refine wpOp_of rfl rfl ?_
     have f5 : ∃ gs cs, (aq.tmps.getD 8 undef) = .agg #[.int .u64 (ww3 x), .int .u64 (ww2 x), .int .u64 (ww1 x), .int .u64 (ww0 x), .int .u64 (ww3 y), .int .u64 (ww2 y), .int .u64 (ww1 y), .int .u64 (ww0 y), .int .u64 (ww3 z), .int .u64 (ww2 z), .int .u64 (ww1 z), .int .u64 (ww0 z), .slice (some ⟨gs, 0, none⟩) m cs] ∧ W.ownsRow B4 2 1 (.slice (some ⟨gs, 0, none⟩) m cs) m (noL m en) := z6 5 8 (hall ⟨5, .data⟩ (by simp) rfl) rfl
     obtain ⟨gs, cs, f5, hO⟩ := f5
     have hq := fun (W2 : World) hD => StV.stored (n := 7) (iz := 6) (A := R) (os := [.int .u64 0, .int .u64 0, .int .u64 0, .int .u64 0, .int .u64 0, .int .u64 0, .int .u64 0, .int .u64 0, .int .u64 0, .int .u64 0, .int .u64 0, .int .u64 0, .slice none 0 0]) (G := fun _ => True) (D := (fun W => ∃ s, W.ownsRow B4 2 1 s m (noL m en) ∧ Blk W R [.int .u64 (ww3 x), .int .u64 (ww2 x), .int .u64 (ww1 x), .int .u64 (ww0 x), .int .u64 (ww3 y), .int .u64 (ww2 y), .int .u64 (ww1 y), .int .u64 (ww0 y), .int .u64 (ww3 z), .int .u64 (ww2 z), .int .u64 (ww1 z), .int .u64 (ww0 z), s])) (W2 := W2) hl (fun j hj hn => match j, hj, hn with | 0, _, _ => hall ⟨0, .phase⟩ (by simp) rfl | 1, _, _ => hall ⟨1, .phase⟩ (by simp) rfl | 2, _, _ => hall ⟨2, .phase⟩ (by simp) rfl | 3, _, _ => hall ⟨3, .phase⟩ (by simp) rfl | 4, _, _ => hall ⟨4, .chain⟩ (by simp) rfl | 5, _, _ => hall ⟨5, .data⟩ (by simp) rfl | 6, _, hn => absurd rfl hn | j + 7, hj, _ => absurd hj (by omega)) hD
     have xR := (hs.2.1 (getD_tf hl)).1
     have rl := xR.lt
     have y0 := xR.c 0 rfl; have g0z := xR.f 0 rfl
     have y1 := xR.c 1 rfl; have g1z := xR.f 1 rfl
     have y2 := xR.c 2 rfl; have g2z := xR.f 2 rfl
     have y3 := xR.c 3 rfl; have g3z := xR.f 3 rfl
     have y4 := xR.c 4 rfl; have g4z := xR.f 4 rfl
     have y5 := xR.c 5 rfl; have g5z := xR.f 5 rfl
     have y6 := xR.c 6 rfl; have g6z := xR.f 6 rfl
     have y7 := xR.c 7 rfl; have g7z := xR.f 7 rfl
     have y8 := xR.c 8 rfl; have g8z := xR.f 8 rfl
     have y9 := xR.c 9 rfl; have g9z := xR.f 9 rfl
     have y10 := xR.c 10 rfl; have g10z := xR.f 10 rfl
     have y11 := xR.c 11 rfl; have g11z := xR.f 11 rfl
     have y12 := xR.c 12 rfl; have g12z := xR.f 12 rfl
     have hK := fun (W2 : World) hW hT hv (hs : SewC A1 R Ab off m mc x y z en B4 (lq.setIfInBounds 6 true) aq W2) => show (JewC A1 R Ab off m mc x y z en B4 w0 a0) (lq.setIfInBounds 6 true) aq W2 from ⟨hJ2.world 6 rfl (W' := W2) hW hT hv, hs⟩
     clear ho hall hl hQ
     generalize (JewC A1 R Ab off m mc x y z en B4 w0 a0) (lq.setIfInBounds 6 true) = K at hK ⊢
     clear hJ2 hS z1 z2 z3 z4 z6 z7
     have NB : Blk (((((((((((((W.setCell ⟨R, 0, none⟩ (.int .u64 (ww3 x))).setCell ⟨R, 1, none⟩ (.int .u64 (ww2 x))).setCell ⟨R, 2, none⟩ (.int .u64 (ww1 x))).setCell ⟨R, 3, none⟩ (.int .u64 (ww0 x))).setCell ⟨R, 4, none⟩ (.int .u64 (ww3 y))).setCell ⟨R, 5, none⟩ (.int .u64 (ww2 y))).setCell ⟨R, 6, none⟩ (.int .u64 (ww1 y))).setCell ⟨R, 7, none⟩ (.int .u64 (ww0 y))).setCell ⟨R, 8, none⟩ (.int .u64 (ww3 z))).setCell ⟨R, 9, none⟩ (.int .u64 (ww2 z))).setCell ⟨R, 10, none⟩ (.int .u64 (ww1 z))).setCell ⟨R, 11, none⟩ (.int .u64 (ww0 z))).setCell ⟨R, 12, none⟩ (.slice (some ⟨gs, 0, none⟩) m cs)) R [.int .u64 (ww3 x), .int .u64 (ww2 x), .int .u64 (ww1 x), .int .u64 (ww0 x), .int .u64 (ww3 y), .int .u64 (ww2 y), .int .u64 (ww1 y), .int .u64 (ww0 y), .int .u64 (ww3 z), .int .u64 (ww2 z), .int .u64 (ww1 z), .int .u64 (ww0 z), .slice (some ⟨gs, 0, none⟩) m cs] := setAll_blk [.int .u64 (ww3 x), .int .u64 (ww2 x), .int .u64 (ww1 x), .int .u64 (ww0 x), .int .u64 (ww3 y), .int .u64 (ww2 y), .int .u64 (ww1 y), .int .u64 (ww0 y), .int .u64 (ww3 z), .int .u64 (ww2 z), .int .u64 (ww1 z), .int .u64 (ww0 z), .slice (some ⟨gs, 0, none⟩) m cs] 0 xR (by simp)
     have NL : Below R w0 (((((((((((((W.setCell ⟨R, 0, none⟩ (.int .u64 (ww3 x))).setCell ⟨R, 1, none⟩ (.int .u64 (ww2 x))).setCell ⟨R, 2, none⟩ (.int .u64 (ww1 x))).setCell ⟨R, 3, none⟩ (.int .u64 (ww0 x))).setCell ⟨R, 4, none⟩ (.int .u64 (ww3 y))).setCell ⟨R, 5, none⟩ (.int .u64 (ww2 y))).setCell ⟨R, 6, none⟩ (.int .u64 (ww1 y))).setCell ⟨R, 7, none⟩ (.int .u64 (ww0 y))).setCell ⟨R, 8, none⟩ (.int .u64 (ww3 z))).setCell ⟨R, 9, none⟩ (.int .u64 (ww2 z))).setCell ⟨R, 10, none⟩ (.int .u64 (ww1 z))).setCell ⟨R, 11, none⟩ (.int .u64 (ww0 z))).setCell ⟨R, 12, none⟩ (.slice (some ⟨gs, 0, none⟩) m cs)) := setAll_below (Nat.le_refl R) [.int .u64 (ww3 x), .int .u64 (ww2 x), .int .u64 (ww1 x), .int .u64 (ww0 x), .int .u64 (ww3 y), .int .u64 (ww2 y), .int .u64 (ww1 y), .int .u64 (ww0 y), .int .u64 (ww3 z), .int .u64 (ww2 z), .int .u64 (ww1 z), .int .u64 (ww0 z), .slice (some ⟨gs, 0, none⟩) m cs] 0 z5
     have NO : ((((((((((((((W.setCell ⟨R, 0, none⟩ (.int .u64 (ww3 x))).setCell ⟨R, 1, none⟩ (.int .u64 (ww2 x))).setCell ⟨R, 2, none⟩ (.int .u64 (ww1 x))).setCell ⟨R, 3, none⟩ (.int .u64 (ww0 x))).setCell ⟨R, 4, none⟩ (.int .u64 (ww3 y))).setCell ⟨R, 5, none⟩ (.int .u64 (ww2 y))).setCell ⟨R, 6, none⟩ (.int .u64 (ww1 y))).setCell ⟨R, 7, none⟩ (.int .u64 (ww0 y))).setCell ⟨R, 8, none⟩ (.int .u64 (ww3 z))).setCell ⟨R, 9, none⟩ (.int .u64 (ww2 z))).setCell ⟨R, 10, none⟩ (.int .u64 (ww1 z))).setCell ⟨R, 11, none⟩ (.int .u64 (ww0 z))).setCell ⟨R, 12, none⟩ (.slice (some ⟨gs, 0, none⟩) m cs))).ownsRow B4 2 1 (.slice (some ⟨gs, 0, none⟩) m cs) m (noL m en) := ownN_heap hO (fun k hk => setAll_heap (by have := (hO.lt k hk).1; omega) [.int .u64 (ww3 x), .int .u64 (ww2 x), .int .u64 (ww1 x), .int .u64 (ww0 x), .int .u64 (ww3 y), .int .u64 (ww2 y), .int .u64 (ww1 y), .int .u64 (ww0 y), .int .u64 (ww3 z), .int .u64 (ww2 z), .int .u64 (ww1 z), .int .u64 (ww0 z), .slice (some ⟨gs, 0, none⟩) m cs] 0)
     clear xR hO
     go_simp
     exact hK _ NL (fun _ _ h => VewC.set (fun k hk => setAll_heap (by omega) [.int .u64 (ww3 x), .int .u64 (ww2 x), .int .u64 (ww1 x), .int .u64 (ww0 x), .int .u64 (ww3 y), .int .u64 (ww2 y), .int .u64 (ww1 y), .int .u64 (ww0 y), .int .u64 (ww3 z), .int .u64 (ww2 z), .int .u64 (ww1 z), .int .u64 (ww0 z), .slice (some ⟨gs, 0, none⟩) m cs] 0) h) trivial (hq _ ⟨_, NO, NB⟩)
   | iq + 7, ho => simp at ho
 · intro lq aq W ⟨hJ, hs⟩ hr
   obtain ⟨z1, z2, z3, z4, z5, z6, z7⟩ := hJ
   have hl := listed_of hr [0, 1, 2, 3, 4, 5, 6] [] (by simp) (by kernel_rfl) (by rw [z1]; decide)
   exact hQ aq W z2 z3 (fun e he => z4 e (by simpa using he)) (z7 6 (hl 6 (by simp)) rfl) z5 (hs.2.2 (hl 6 (by simp)))
def NoRow (w : World) (b t : Nat) (v : Value) (m : Nat) (e : Nat → Int) : Prop :=
 (v = .slice none 0 0 ∧ m = 0) ∨ ∃ g cap f, v = .slice (some ⟨g, 0, none⟩) m cap ∧ b ≤ g ∧ g < t ∧ m ≤ cap ∧ w.rowIs g 2 cap f ∧ ∀ i, i < m → f i = .int .i64 (e i)
theorem NoRow.heap {w w' : World} {b t : Nat} {v : Value} {m : Nat} {e : Nat → Int} (h : NoRow w b t v m e) (hh : ∀ k, v.ownBlock = some k → w'.heap[k]? = w.heap[k]?) : NoRow w' b t v m e := by
 rcases h with h | ⟨g, cap, f, h1, h2, h3, h4, h5, h6⟩
 · exact .inl h
 · exact .inr ⟨g, cap, f, h1, h2, h3, h4, h5.of_block (hh g (by subst h1; rfl)), h6⟩
theorem NoRow.lt {w : World} {b t : Nat} {v : Value} {m : Nat} {e : Nat → Int} (h : NoRow w b t v m e) {k : Nat} (hk : v.ownBlock = some k) : b ≤ k ∧ k < t ∧ k < w.heap.size := by
 rcases h with ⟨rfl, _⟩ | ⟨g, cap, f, rfl, h2, h3, h4, h5, h6⟩
 · cases hk
 · cases hk; exact ⟨h2, h3, h5.lt⟩
theorem NoRow.mono {w : World} {b t b' t' : Nat} {v : Value} {m : Nat} {e : Nat → Int} (h : NoRow w b t v m e) (hb : b' ≤ b) (ht : t ≤ t') : NoRow w b' t' v m e := by
 rcases h with h | ⟨g, cap, f, h1, h2, h3, h4, h5, h6⟩
 · exact .inl h
 · exact .inr ⟨g, cap, f, h1, by omega, by omega, h4, h5, h6⟩
theorem NoRow.in {w : World} {b t : Nat} {v : Value} {m : Nat} {e : Nat → Int} (h : NoRow w b t v m e) : ∃ ao cap, v = .slice ao m cap ∧ NoIn w ao m e := by
 rcases h with ⟨h1, rfl⟩ | ⟨g, cap, f, h1, h2, h3, h4, h5, h6⟩
 · exact ⟨none, 0, h1, fun i hi => absurd hi (by omega)⟩
 · exact ⟨some ⟨g, 0, none⟩, cap, h1, fun i hi => ⟨g, 0, rfl, h5.lt, by rw [Nat.zero_add, h5.cell (by omega), h6 i hi]⟩⟩
theorem NoRow.of {w : World} {b : Nat} {v : Value} {m : Nat} {e : Nat → Int} (h : w.ownsRow b 2 1 v m (noL m e)) : NoRow w b w.heap.size v m e := by
 rcases h.2 with ⟨h1, h2⟩ | ⟨g, cap, cur, h1, h2, h3, h4, h5, h6, h7⟩
 · exact .inl ⟨h1, h2⟩
 · refine .inr ⟨g, cap, fun i => cur.getD i undef, h1, h2, (Array.getElem?_eq_some_iff.1 h3).1, h4, ⟨cur, h3, by omega, fun i hi => ?_⟩, fun i hi => ?_⟩
   · simp [Array.getD_eq_getD_getElem?, show i < cur.size by omega]
   · have e1 : (cur.toList.take (m * 1))[i]? = (noL m e)[i]? := by rw [h7]
     rw [List.getElem?_take_of_lt (by omega), noL_at hi] at e1
     simp only [Array.getElem?_toList] at e1
     show cur.getD i undef = _
     rw [Array.getD_eq_getD_getElem?, e1]
     rfl
def w12 (p : Int × Int × Int) : Nat → Int
 | 0 => ww3 p.1 | 1 => ww2 p.1 | 2 => ww1 p.1 | 3 => ww0 p.1
 | 4 => ww3 p.2.1 | 5 => ww2 p.2.1 | 6 => ww1 p.2.1 | 7 => ww0 p.2.1
 | 8 => ww3 p.2.2 | 9 => ww2 p.2.2 | 10 => ww1 p.2.2 | 11 => ww0 p.2.2
 | _ => 0
def wq (q : Nat → Int × Int × Int) (k : Nat) : Int := w12 (q (k / 13)) (k % 13)
theorem wq_at (q : Nat → Int × Int × Int) (c j : Nat) (hj : j < 13) : wq q (c * 13 + j) = w12 (q c) j := by
 unfold wq
 rw [show (c * 13 + j) / 13 = c by omega, show (c * 13 + j) % 13 = j by omega]
def evC (x : Nat → Int) (s : Nat → Value) (k : Nat) : Value := if k % 13 = 12 then s (k / 13) else .int .u64 (x k)
theorem evC_at (x : Nat → Int) (s : Nat → Value) (c j : Nat) (hj : j < 12) : evC x s (c * 13 + j) = .int .u64 (x (c * 13 + j)) := by
 unfold evC
 rw [if_neg (by omega)]
theorem evC_12 (x : Nat → Int) (s : Nat → Value) (c : Nat) : evC x s (c * 13 + 12) = s c := by
 unfold evC
 rw [if_pos (by omega), show (c * 13 + 12) / 13 = c by omega]
def EvRow (w : World) (b t : Nat) (v : Value) (n : Nat) (x : Nat → Int) (s : Nat → Value) (L : Nat → Nat) (E : Nat → Nat → Int) : Prop :=
 (v = .slice none 0 0 ∧ n = 0) ∨ ∃ g cap f, v = .slice (some ⟨g, 0, none⟩) n cap ∧ b ≤ g ∧ g < t ∧ n ≤ cap ∧ w.rowIs g 81 (cap * 13) f ∧ (∀ k, k < n * 13 → f k = evC x s k) ∧
   (∀ i, i < n → NoRow w b t (s i) (L i) (E i)) ∧ (∀ i, i < n → (s i).ownBlock ≠ some g) ∧ ∀ i j, i < n → j < n → i ≠ j → ∀ h, (s i).ownBlock = some h → (s j).ownBlock ≠ some h
theorem EvRow.heap {w w' : World} {b t : Nat} {v : Value} {n : Nat} {x : Nat → Int} {s : Nat → Value} {L : Nat → Nat} {E : Nat → Nat → Int} (h : EvRow w b t v n x s L E) (hh : ∀ k, b ≤ k → k < t → k < w.heap.size → w'.heap[k]? = w.heap[k]?) : EvRow w' b t v n x s L E := by
 rcases h with h | ⟨g, cap, f, h1, h2, h3, h4, h5, h6, h7, h8, h9⟩
 · exact .inl h
 · exact .inr ⟨g, cap, f, h1, h2, h3, h4, h5.of_block (hh g h2 h3 h5.lt), h6, fun i hi => (h7 i hi).heap fun k hk => hh k ((h7 i hi).lt hk).1 ((h7 i hi).lt hk).2.1 ((h7 i hi).lt hk).2.2, h8, h9⟩
theorem EvRow.step {w w' : World} {b t : Nat} {v : Value} {n : Nat} {x : Nat → Int} {s : Nat → Value} {L : Nat → Nat} {E : Nat → Nat → Int} (h : EvRow w b t v n x s L E) (hB : Below w.heap.size w w') : EvRow w' b t v n x s L E :=
 h.heap fun k _ _ hk => hB.block k hk
theorem EvRow.mono {w : World} {b t b' t' : Nat} {v : Value} {n : Nat} {x : Nat → Int} {s : Nat → Value} {L : Nat → Nat} {E : Nat → Nat → Int} (h : EvRow w b t v n x s L E) (hb : b' ≤ b) (ht : t ≤ t') : EvRow w b' t' v n x s L E := by
 rcases h with h | ⟨g, cap, f, h1, h2, h3, h4, h5, h6, h7, h8, h9⟩
 · exact .inl h
 · exact .inr ⟨g, cap, f, h1, by omega, by omega, h4, h5, h6, fun i hi => (h7 i hi).mono hb ht, h8, h9⟩
def sOf : Value → Option Addr × Nat
 | .slice ao _ c => (ao, c)
 | _ => (none, 0)
theorem EvRow.in {w : World} {b t : Nat} {v : Value} {n : Nat} {q : Nat → Int × Int × Int} {s : Nat → Value} {L : Nat → Nat} {E : Nat → Nat → Int} (h : EvRow w b t v n (wq q) s L E) : ∃ ao cap, v = .slice ao n cap ∧ EvIn w ao n q (fun i => sOf (s i)) L E := by
 rcases h with ⟨h1, rfl⟩ | ⟨g, cap, f, h1, h2, h3, h4, h5, h6, h7, h8, h9⟩
 · exact ⟨none, 0, h1, fun i hi => absurd hi (by omega)⟩
 · refine ⟨_, cap, h1, fun i hi => ?_⟩
   have cl : ∀ j, j < 12 → w.cell? ⟨g, 0 + i * 13 + j, none⟩ = some (.int .u64 (w12 (q i) j)) := fun j hj => by
     rw [Nat.zero_add, h5.cell (by omega), h6 _ (by omega), evC_at _ _ _ _ hj, wq_at _ _ _ (by omega)]
   obtain ⟨so, sc, hs, hN⟩ := (h7 i hi).in
   refine ⟨g, 0, rfl, h5.lt, cl 0 (by omega), cl 1 (by omega), cl 2 (by omega), cl 3 (by omega), cl 4 (by omega), cl 5 (by omega), cl 6 (by omega), cl 7 (by omega), cl 8 (by omega), cl 9 (by omega), cl 10 (by omega), cl 11 (by omega), ?_, ?_⟩
   · rw [Nat.zero_add, h5.cell (by omega), h6 _ (by omega), evC_12]
     simp only [hs, sOf]
   · simp only [hs, sOf]
     exact hN
def evCs (n : Nat) (x : Nat → Int) (s : Nat → Value) : List Value := (List.range (n * 13)).map (evC x s)
theorem evCs_len (n : Nat) (x : Nat → Int) (s : Nat → Value) : (evCs n x s).length = n * 13 := by simp [evCs]
theorem evCs_at {n : Nat} {x : Nat → Int} {s : Nat → Value} {k : Nat} (h : k < n * 13) : (evCs n x s)[k]? = some (evC x s k) := by simp [evCs, h]
def setS (s : Nat → Value) (c : Nat) (u : Value) (i : Nat) : Value := if i = c then u else s i
def ev13 (p : Int × Int × Int) (u : Value) : List Value := [.int .u64 (ww3 p.1), .int .u64 (ww2 p.1), .int .u64 (ww1 p.1), .int .u64 (ww0 p.1), .int .u64 (ww3 p.2.1), .int .u64 (ww2 p.2.1), .int .u64 (ww1 p.2.1), .int .u64 (ww0 p.2.1), .int .u64 (ww3 p.2.2), .int .u64 (ww2 p.2.2), .int .u64 (ww1 p.2.2), .int .u64 (ww0 p.2.2), u]
theorem evCs_more (c : Nat) (q : Nat → Int × Int × Int) (s : Nat → Value) (u : Value) : evCs (c + 1) (wq q) (setS s c u) = evCs c (wq q) s ++ ev13 (q c) u := by
 apply List.ext_getElem?
 intro k
 by_cases h : k < c * 13
 · rw [List.getElem?_append_left (by rw [evCs_len]; exact h), evCs_at h, evCs_at (by omega)]
   unfold evC setS
   rw [if_neg (show ¬ k / 13 = c by omega)]
 · rw [List.getElem?_append_right (by rw [evCs_len]; omega), evCs_len]
   by_cases h2 : k < (c + 1) * 13
   · rw [evCs_at h2]
     obtain ⟨j, rfl⟩ : ∃ j, k = c * 13 + j := ⟨k - c * 13, by omega⟩
     rw [Nat.add_sub_cancel_left]
     have hj : j < 13 := by omega
     by_cases e : j = 12
     · subst e
       rw [evC_12]
       simp [setS, ev13]
     · rw [evC_at _ _ _ _ (by omega), wq_at _ _ _ hj]
       rcases (show j = 0 ∨ j = 1 ∨ j = 2 ∨ j = 3 ∨ j = 4 ∨ j = 5 ∨ j = 6 ∨ j = 7 ∨ j = 8 ∨ j = 9 ∨ j = 10 ∨ j = 11 by omega) with h | h | h | h | h | h | h | h | h | h | h | h <;> subst h <;> rfl
   · rw [List.getElem?_eq_none (by rw [evCs_len]; omega), List.getElem?_eq_none (by simp [ev13]; omega)]
structure EvOwn (w : World) (base : Nat) (v : Value) (n : Nat) (x : Nat → Int) (s : Nat → Value) (L : Nat → Nat) (E : Nat → Nat → Int) : Prop where
 own : w.ownsRow base 81 13 v n (evCs n x s)
 ins : ∀ i, i < n → w.ownsRow base 2 1 (s i) (L i) (noL (L i) (E i))
 d1 : ∀ i, i < n → ∀ h, (s i).ownBlock = some h → v.ownBlock ≠ some h
 d2 : ∀ i j, i < n → j < n → i ≠ j → ∀ h, (s i).ownBlock = some h → (s j).ownBlock ≠ some h
theorem EvOwn.step {w w' : World} {base : Nat} {v : Value} {n : Nat} {x : Nat → Int} {s : Nat → Value} {L : Nat → Nat} {E : Nat → Nat → Int} (h : EvOwn w base v n x s L E) (hB : Below w.heap.size w w') : EvOwn w' base v n x s L E :=
 ⟨ownA_step h.own hB, fun i hi => ownA_step (h.ins i hi) hB, h.d1, h.d2⟩
theorem EvOwn.nil (w : World) (base : Nat) (x : Nat → Int) (s : Nat → Value) (L : Nat → Nat) (E : Nat → Nat → Int) : EvOwn w base (.slice none 0 0) 0 x s L E :=
 ⟨World.ownsRow_nil w base _ _, fun _ h => absurd h (by omega), fun _ h => absurd h (by omega), fun _ _ h => absurd h (by omega)⟩
theorem EvOwn.made (w : World) (base : Nat) (hb : base ≤ w.heap.size) (x : Nat → Int) (s : Nat → Value) (L : Nat → Nat) (E : Nat → Nat → Int) : EvOwn (w.alloc (.cells #[] 81)) base (.slice (some ⟨w.heap.size, 0, none⟩) 0 0) 0 x s L E :=
 ⟨World.ownsRow_made w #[] 0 hb (by decide) rfl, fun _ h => absurd h (by omega), fun _ h => absurd h (by omega), fun _ _ h => absurd h (by omega)⟩
theorem EvOwn.row {w : World} {b : Nat} {v : Value} {n : Nat} {x : Nat → Int} {s : Nat → Value} {L : Nat → Nat} {E : Nat → Nat → Int} (h : EvOwn w b v n x s L E) : EvRow w b w.heap.size v n x s L E := by
 obtain ⟨h0, h1, h2, h3⟩ := h
 rcases h0.2 with ⟨a1, a2⟩ | ⟨g, cap, cur, a1, a2, a3, a4, a5, a6, a7⟩
 · exact .inl ⟨a1, a2⟩
 · refine .inr ⟨g, cap, fun i => cur.getD i undef, a1, a2, (Array.getElem?_eq_some_iff.1 a3).1, a4, ⟨cur, a3, a6, fun i hi => ?_⟩, fun i hi => ?_, fun i hi => NoRow.of (h1 i hi), fun i hi e => ?_, h3⟩
   · simp [Array.getD_eq_getD_getElem?, show i < cur.size by omega]
   · have e1 : (cur.toList.take (n * 13))[i]? = (evCs n x s)[i]? := by rw [a7]
     rw [List.getElem?_take_of_lt hi, evCs_at hi] at e1
     simp only [Array.getElem?_toList] at e1
     show cur.getD i undef = _
     rw [Array.getD_eq_getD_getElem?, e1]
     rfl
   · exact h2 i hi g e (by subst a1; rfl)
theorem EvOwn.app {w w' : World} {base b2 : Nat} {v v' : Value} {c : Nat} {q : Nat → Int × Int × Int} {s : Nat → Value} {L : Nat → Nat} {E : Nat → Nat → Int} (h : EvOwn w base v c (wq q) s L E) (u : Value)
   (hu : w.ownsRow b2 2 1 u (L c) (noL (L c) (E c))) (hb : base ≤ b2) (hv : ∀ k, v.ownBlock = some k → k < b2) (hs : ∀ i, i < c → ∀ k, (s i).ownBlock = some k → k < b2)
   (hg : w.grownBy w' v.ownBlock) (hn : w'.ownsRow base 81 13 v' (c + 1) (evCs c (wq q) s ++ ev13 (q c) u)) (ho : v'.ownBlock = v.ownBlock ∨ v'.ownBlock = some w.heap.size) : EvOwn w' base v' (c + 1) (wq q) (setS s c u) L E := by
 have hw : ∀ i, i < c + 1 → ∀ k, (setS s c u i).ownBlock = some k → v.ownBlock ≠ some k ∧ k < w.heap.size := fun i hi k hk => by
   unfold setS at hk
   split at hk
   · have := hu.lt k hk
     exact ⟨fun e => by have := hv k e; omega, this.2⟩
   · exact ⟨h.d1 i (by omega) k hk, ((h.ins i (by omega)).lt k hk).2⟩
 have hne : ∀ i, i < c + 1 → (setS s c u i).ownBlock = none ∨ (setS s c u i).ownBlock ≠ v.ownBlock := fun i hi => by
   cases e : (setS s c u i).ownBlock with
   | none => exact .inl rfl
   | some k => exact .inr fun e2 => (hw i hi k e).1 e2.symm
 refine ⟨by rw [evCs_more]; exact hn, fun i hi => ?_, fun i hi k hk => ?_, fun i j hi hj hij k hk => ?_⟩
 · have := hne i hi
   unfold setS at this ⊢
   split
   · rename_i e
     subst e
     simp only [if_true] at this
     exact ownN_mono (hu.kept hg this) hb
   · rename_i e
     simp only [if_neg e] at this
     exact (h.ins i (by omega)).kept hg this
 · rcases ho with ho | ho
   · rw [ho]; exact (hw i hi k hk).1
   · rw [ho]; intro e; cases e; exact absurd (hw i hi _ hk).2 (by omega)
 · unfold setS at hk ⊢
   split at hk
   · have := (hu.lt k hk).1
     rw [if_neg (by omega)]
     intro e
     have := hs j (by omega) k e
     omega
   · split
     · intro e
       have := hs i (by omega) k hk
       have := (hu.lt k e).1
       omega
     · exact h.d2 i j (by omega) (by omega) hij k hk
theorem copied_any (Ab off m mc : Nat) (en : Nat → Int) (x y z : Int) (hm1 : 0 < m) (hm : m ≤ 1048576) (w : World) (hN : NoIn w (some ⟨Ab, off, none⟩) m en) : Calls Tryz.prog 72 #[.agg #[.int .u64 (ww3 x), .int .u64 (ww2 x), .int .u64 (ww1 x), .int .u64 (ww0 x), .int .u64 (ww3 y), .int .u64 (ww2 y), .int .u64 (ww1 y), .int .u64 (ww0 y), .int .u64 (ww3 z), .int .u64 (ww2 z), .int .u64 (ww1 z), .int .u64 (ww0 z), .slice (some ⟨Ab, off, none⟩) m mc]] w (fun r w' => ∃ gs cs, r = .returned (.agg #[.int .u64 (ww3 x), .int .u64 (ww2 x), .int .u64 (ww1 x), .int .u64 (ww0 x), .int .u64 (ww3 y), .int .u64 (ww2 y), .int .u64 (ww1 y), .int .u64 (ww0 y), .int .u64 (ww3 z), .int .u64 (ww2 z), .int .u64 (ww1 z), .int .u64 (ww0 z), .slice (some ⟨gs, 0, none⟩) m cs]) ∧ w'.ownsRow w.heap.size 2 1 (.slice (some ⟨gs, 0, none⟩) m cs) m (noL m en) ∧ Below w.heap.size w w') := by
 have hAb : Ab < w.heap.size := by obtain ⟨A, o, e, h, _⟩ := hN 0 hm1; cases e; exact h
 have B0 : Blk ((w.alloc (.cells #[.int .u64 (ww3 x), .int .u64 (ww2 x), .int .u64 (ww1 x), .int .u64 (ww0 x), .int .u64 (ww3 y), .int .u64 (ww2 y), .int .u64 (ww1 y), .int .u64 (ww0 y), .int .u64 (ww3 z), .int .u64 (ww2 z), .int .u64 (ww1 z), .int .u64 (ww0 z), .slice (some ⟨Ab, off, none⟩) m mc] 81)).alloc (.cells #[.int .u64 0, .int .u64 0, .int .u64 0, .int .u64 0, .int .u64 0, .int .u64 0, .int .u64 0, .int .u64 0, .int .u64 0, .int .u64 0, .int .u64 0, .int .u64 0, .slice none 0 0] 81)) w.heap.size [.int .u64 (ww3 x), .int .u64 (ww2 x), .int .u64 (ww1 x), .int .u64 (ww0 x), .int .u64 (ww3 y), .int .u64 (ww2 y), .int .u64 (ww1 y), .int .u64 (ww0 y), .int .u64 (ww3 z), .int .u64 (ww2 z), .int .u64 (ww1 z), .int .u64 (ww0 z), .slice (some ⟨Ab, off, none⟩) m mc] := (Blk.new w [.int .u64 (ww3 x), .int .u64 (ww2 x), .int .u64 (ww1 x), .int .u64 (ww0 x), .int .u64 (ww3 y), .int .u64 (ww2 y), .int .u64 (ww1 y), .int .u64 (ww0 y), .int .u64 (ww3 z), .int .u64 (ww2 z), .int .u64 (ww1 z), .int .u64 (ww0 z), .slice (some ⟨Ab, off, none⟩) m mc] 81 rfl).alloc _
 have B1 : Blk ((w.alloc (.cells #[.int .u64 (ww3 x), .int .u64 (ww2 x), .int .u64 (ww1 x), .int .u64 (ww0 x), .int .u64 (ww3 y), .int .u64 (ww2 y), .int .u64 (ww1 y), .int .u64 (ww0 y), .int .u64 (ww3 z), .int .u64 (ww2 z), .int .u64 (ww1 z), .int .u64 (ww0 z), .slice (some ⟨Ab, off, none⟩) m mc] 81)).alloc (.cells #[.int .u64 0, .int .u64 0, .int .u64 0, .int .u64 0, .int .u64 0, .int .u64 0, .int .u64 0, .int .u64 0, .int .u64 0, .int .u64 0, .int .u64 0, .int .u64 0, .slice none 0 0] 81)) (w.heap.size + 1) [.int .u64 0, .int .u64 0, .int .u64 0, .int .u64 0, .int .u64 0, .int .u64 0, .int .u64 0, .int .u64 0, .int .u64 0, .int .u64 0, .int .u64 0, .int .u64 0, .slice none 0 0] := Blk.new (w.alloc (.cells #[.int .u64 (ww3 x), .int .u64 (ww2 x), .int .u64 (ww1 x), .int .u64 (ww0 x), .int .u64 (ww3 y), .int .u64 (ww2 y), .int .u64 (ww1 y), .int .u64 (ww0 y), .int .u64 (ww3 z), .int .u64 (ww2 z), .int .u64 (ww1 z), .int .u64 (ww0 z), .slice (some ⟨Ab, off, none⟩) m mc] 81)) [.int .u64 0, .int .u64 0, .int .u64 0, .int .u64 0, .int .u64 0, .int .u64 0, .int .u64 0, .int .u64 0, .int .u64 0, .int .u64 0, .int .u64 0, .int .u64 0, .slice none 0 0] 81 (by simp)
 have HB : Below w.heap.size w ((w.alloc (.cells #[.int .u64 (ww3 x), .int .u64 (ww2 x), .int .u64 (ww1 x), .int .u64 (ww0 x), .int .u64 (ww3 y), .int .u64 (ww2 y), .int .u64 (ww1 y), .int .u64 (ww0 y), .int .u64 (ww3 z), .int .u64 (ww2 z), .int .u64 (ww1 z), .int .u64 (ww0 z), .slice (some ⟨Ab, off, none⟩) m mc] 81)).alloc (.cells #[.int .u64 0, .int .u64 0, .int .u64 0, .int .u64 0, .int .u64 0, .int .u64 0, .int .u64 0, .int .u64 0, .int .u64 0, .int .u64 0, .int .u64 0, .int .u64 0, .slice none 0 0] 81)) := ((Below.refl _ w).alloc (Nat.le_refl _) _).alloc (by simp) _
 have hsz : ((w.alloc (.cells #[.int .u64 (ww3 x), .int .u64 (ww2 x), .int .u64 (ww1 x), .int .u64 (ww0 x), .int .u64 (ww3 y), .int .u64 (ww2 y), .int .u64 (ww1 y), .int .u64 (ww0 y), .int .u64 (ww3 z), .int .u64 (ww2 z), .int .u64 (ww1 z), .int .u64 (ww0 z), .slice (some ⟨Ab, off, none⟩) m mc] 81)).alloc (.cells #[.int .u64 0, .int .u64 0, .int .u64 0, .int .u64 0, .int .u64 0, .int .u64 0, .int .u64 0, .int .u64 0, .int .u64 0, .int .u64 0, .int .u64 0, .int .u64 0, .slice none 0 0] 81)).heap.size = w.heap.size + 2 := by simp
 have hN2 := hN.step HB
 have hC := fun w h => cloneNo_any Ab off m mc en hm w h
 go_enter Tryz.func72, Tryz.ntmps72
 go_upto_region 1 with fail
 generalize ((w.alloc (.cells #[.int .u64 (ww3 x), .int .u64 (ww2 x), .int .u64 (ww1 x), .int .u64 (ww0 x), .int .u64 (ww3 y), .int .u64 (ww2 y), .int .u64 (ww1 y), .int .u64 (ww0 y), .int .u64 (ww3 z), .int .u64 (ww2 z), .int .u64 (ww1 z), .int .u64 (ww0 z), .slice (some ⟨Ab, off, none⟩) m mc] 81)).alloc (.cells #[.int .u64 0, .int .u64 0, .int .u64 0, .int .u64 0, .int .u64 0, .int .u64 0, .int .u64 0, .int .u64 0, .int .u64 0, .int .u64 0, .int .u64 0, .int .u64 0, .slice none 0 0] 81)) = W1 at *
 refine ewC (A1 := w.heap.size) (R := w.heap.size + 1) (Ab := Ab) (off := off) (m := m) (mc := mc) (x := x) (y := y) (z := z) (en := en) (B4 := w.heap.size + 2) hm1 (by omega) (by omega) hN2 (by omega) hC B1.drew rfl rfl (B0.c 0 rfl) (by simp) (B0.c 1 rfl) (by simp) (B0.c 2 rfl) (by simp) (B0.c 3 rfl) (by simp) (B0.c 4 rfl) (by simp) (B0.c 5 rfl) (by simp) (B0.c 6 rfl) (by simp) (B0.c 7 rfl) (by simp) (B0.c 8 rfl) (by simp) (B0.c 9 rfl) (by simp) (B0.c 10 rfl) (by simp) (B0.c 11 rfl) (by simp) (B0.c 12 rfl) (by simp) rfl ?_
 rintro ⟨tm, df⟩ Wz hz hdf hoff _ hBz ⟨s, hO, BR⟩
 simp only at hz hdf hoff
 subst hdf
 have htm := tmps_fold [3, 4, 5, 6, 7, 8] tm _ hz hoff
 simp only [List.foldl, List.setIfInBounds_toArray, List.set_cons_zero, List.set_cons_succ] at htm
 clear hz hoff
 generalize tm.getD 3 undef = u0, tm.getD 4 undef = u1, tm.getD 5 undef = u2, tm.getD 6 undef = u3, tm.getD 7 undef = u4, tm.getD 8 undef = u5 at htm
 subst htm
 obtain ⟨gs, cs, rfl, _⟩ := ownN_form hO hm1
 have HBF := HB.trans (hBz.mono (by omega))
 have m0 := BR.c 0 rfl; have m1 := BR.c 1 rfl; have m2 := BR.c 2 rfl; have m3 := BR.c 3 rfl; have m4 := BR.c 4 rfl; have m5 := BR.c 5 rfl; have m6 := BR.c 6 rfl; have m7 := BR.c 7 rfl; have m8 := BR.c 8 rfl; have m9 := BR.c 9 rfl; have m10 := BR.c 10 rfl; have m11 := BR.c 11 rfl; have m12 := BR.c 12 rfl
 clear B0 B1 HB hBz hN hN2 hC BR
 go_wp2
 refine bodyPost_ret (v := .agg #[.int .u64 (ww3 x), .int .u64 (ww2 x), .int .u64 (ww1 x), .int .u64 (ww0 x), .int .u64 (ww3 y), .int .u64 (ww2 y), .int .u64 (ww1 y), .int .u64 (ww0 y), .int .u64 (ww3 z), .int .u64 (ww2 z), .int .u64 (ww1 z), .int .u64 (ww0 z), .slice (some ⟨gs, 0, none⟩) m cs]) (by simp [results, Tryz.results72, go_sem, m0, m1, m2, m3, m4, m5, m6, m7, m8, m9, m10, m11, m12]) rfl ?_
 exact ⟨gs, cs, rfl, ownN_mono hO (by omega), HBF⟩
theorem ev13_new (w : World) (p : Int × Int × Int) (u : Value) (t : TypeId) : ∀ j v, (ev13 p u)[j]? = some v → (w.alloc (.cells (ev13 p u).toArray t)).cell? ((⟨w.heap.size, 0, none⟩ : Addr).add j) = some v := by
 intro j v hj
 rw [Addr.add_lit, Nat.zero_add]
 exact (Blk.new w (ev13 p u) t rfl).c j hj
theorem ev13_one (p : Int × Int × Int) (ao : Option Addr) (a b : Nat) : ∀ v ∈ ev13 p (.slice ao a b), v.oneCell' = true := by
 intro v hv
 simp only [ev13, List.mem_cons, List.not_mem_nil, or_false] at hv
 rcases hv with rfl | rfl | rfl | rfl | rfl | rfl | rfl | rfl | rfl | rfl | rfl | rfl | rfl <;> rfl
theorem info_ev : ∃ i0, Tryz.prog.info? 81 = some i0 ∧ i0.zero = some (.agg #[.int .u64 0, .int .u64 0, .int .u64 0, .int .u64 0, .int .u64 0, .int .u64 0, .int .u64 0, .int .u64 0, .int .u64 0, .int .u64 0, .int .u64 0, .int .u64 0, .slice none 0 0]) ∧ i0.size = 13 ∧ i0.bytes = 120 := by
 obtain ⟨i, hi, hz⟩ := Option.map_eq_some_iff.1 Tryz.infoEvent
 simp only [Prod.mk.injEq] at hz
 exact ⟨i, hi, hz.1, hz.2.1, hz.2.2⟩
theorem copiedEvents_any (ao : Option Addr) (n cap : Nat) (q : Nat → Int × Int × Int) (S : Nat → Option Addr × Nat) (L : Nat → Nat) (E : Nat → Nat → Int) (hn : n ≤ 1048576) (hL : ∀ i, i < n → 0 < L i ∧ L i ≤ 1048576) (w : World) (hS : EvIn w ao n q S L E) : Calls Tryz.prog 43 #[.slice ao n cap] w (fun r w' => ∃ v s, r = .returned v ∧ EvOwn w' w.heap.size v n (wq q) s L E ∧ Below w.heap.size w w') := by
 obtain ⟨i0, hi, hz0, hz1, hz2⟩ := info_ev
 have HS : Hid (EvIn w ao n q S L E) := hS
 have HL : Hid (∀ i, i < n → 0 < L i ∧ L i ≤ 1048576) := hL
 clear hS hL
 have hnI : (n : Int) ≤ 1048576 := by omega
 go_enter Tryz.func43, Tryz.ntmps43
 go_wp2_with fail
 go_loopw [3, 8] (fun o i wr => ∃ (c : Nat) (s : Nat → Value), c ≤ n ∧ i = .int .i64 c ∧ EvOwn wr w.heap.size o c (wq q) s L E ∧ Below w.heap.size w wr) (fun _ i _ => n - (intOf i).toNat)
 case atStart => exact ⟨0, fun _ => .slice none 0 0, by omega, rfl, EvOwn.nil _ _ _ _ _ _, Below.refl _ _⟩
 case round =>
   obtain ⟨c, s, hc, rfl, HO, HB⟩ := hrel
   by_cases hcn : c < n
   · obtain ⟨A, off, rfl, hA, q0, q1, q2, q3, q4, q5, q6, q7, q8, q9, q10, q11, q12, hrow⟩ := HS.out.step HB c hcn
     obtain ⟨hl0, hl1⟩ := HL.out c hcn
     obtain ⟨Ab, ob, hSb, _⟩ := hrow 0 hl0
     have hcI : (c : Int) < n := by omega
     have hB1 := (Below.refl wr.heap.size wr).alloc (Nat.le_refl _) (.cells #[.int .u64 (ww3 (q c).1), .int .u64 (ww2 (q c).1), .int .u64 (ww1 (q c).1), .int .u64 (ww0 (q c).1), .int .u64 (ww3 (q c).2.1), .int .u64 (ww2 (q c).2.1), .int .u64 (ww1 (q c).2.1), .int .u64 (ww0 (q c).2.1), .int .u64 (ww3 (q c).2.2), .int .u64 (ww2 (q c).2.2), .int .u64 (ww1 (q c).2.2), .int .u64 (ww0 (q c).2.2), .slice (S c).1 (L c) (S c).2] 81)
     have B1 := Blk.new wr [.int .u64 (ww3 (q c).1), .int .u64 (ww2 (q c).1), .int .u64 (ww1 (q c).1), .int .u64 (ww0 (q c).1), .int .u64 (ww3 (q c).2.1), .int .u64 (ww2 (q c).2.1), .int .u64 (ww1 (q c).2.1), .int .u64 (ww0 (q c).2.1), .int .u64 (ww3 (q c).2.2), .int .u64 (ww2 (q c).2.2), .int .u64 (ww1 (q c).2.2), .int .u64 (ww0 (q c).2.2), .slice (S c).1 (L c) (S c).2] 81 rfl
     replace hrow := hrow.step hB1
     rw [hSb] at hrow q12 hB1 B1
     have CP := fun w h => copied_any Ab ob (L c) (S c).2 (E c) (q c).1 (q c).2.1 (q c).2.2 hl0 hl1 w h
     have HO1 := HO.step (hB1.mono (Nat.le_refl _))
     go_upto_region 5 with fail
     have HB5 := HB.trans (hB1.mono HB.size)
     have hs5 : (wr.alloc (.cells #[.int .u64 (ww3 (q c).1), .int .u64 (ww2 (q c).1), .int .u64 (ww1 (q c).1), .int .u64 (ww0 (q c).1), .int .u64 (ww3 (q c).2.1), .int .u64 (ww2 (q c).2.1), .int .u64 (ww1 (q c).2.1), .int .u64 (ww0 (q c).2.1), .int .u64 (ww3 (q c).2.2), .int .u64 (ww2 (q c).2.2), .int .u64 (ww1 (q c).2.2), .int .u64 (ww0 (q c).2.2), .slice (some ⟨Ab, ob, none⟩) (L c) (S c).2] 81)).heap.size = wr.heap.size + 1 := by simp
     have hsv : ∀ k, u3.ownBlock = some k → k < wr.heap.size := fun k hk => (HO.own.lt k hk).2
     have hss : ∀ i, i < c → ∀ k, (s i).ownBlock = some k → k < wr.heap.size := fun i hi k hk => ((HO.ins i hi).lt k hk).2
     clear q0 q1 q2 q3 q4 q5 q6 q7 q8 q9 q10 q11 q12 hB1 HB HO
     generalize (wr.alloc (.cells #[.int .u64 (ww3 (q c).1), .int .u64 (ww2 (q c).1), .int .u64 (ww1 (q c).1), .int .u64 (ww0 (q c).1), .int .u64 (ww3 (q c).2.1), .int .u64 (ww2 (q c).2.1), .int .u64 (ww1 (q c).2.1), .int .u64 (ww0 (q c).2.1), .int .u64 (ww3 (q c).2.2), .int .u64 (ww2 (q c).2.2), .int .u64 (ww1 (q c).2.2), .int .u64 (ww0 (q c).2.2), .slice (some ⟨Ab, ob, none⟩) (L c) (S c).2] 81)) = W5 at *
     have wl := HB5.size
     have b0 := B1.c 0 rfl; have b1 := B1.c 1 rfl; have b2 := B1.c 2 rfl; have b3 := B1.c 3 rfl; have b4 := B1.c 4 rfl; have b5 := B1.c 5 rfl; have b6 := B1.c 6 rfl; have b7 := B1.c 7 rfl; have b8 := B1.c 8 rfl; have b9 := B1.c 9 rfl; have b10 := B1.c 10 rfl; have b11 := B1.c 11 rfl; have b12 := B1.c 12 rfl
     clear B1
     go_wp2_with fail
     refine (CP _ hrow).mono ?_
     rintro e w1 ⟨gs, cs, rfl, hO, hB2⟩
     replace HO1 := HO1.step hB2
     have HB6 := HB5.trans (hB2.mono HB5.size)
     have wl6 := HB6.size
     clear HB5 hB2 CP hrow b0 b1 b2 b3 b4 b5 b6 b7 b8 b9 b10 b11 b12
     have HO2 : EvOwn (w1.alloc (.cells #[.int .u64 (ww3 (q c).1), .int .u64 (ww2 (q c).1), .int .u64 (ww1 (q c).1), .int .u64 (ww0 (q c).1), .int .u64 (ww3 (q c).2.1), .int .u64 (ww2 (q c).2.1), .int .u64 (ww1 (q c).2.1), .int .u64 (ww0 (q c).2.1), .int .u64 (ww3 (q c).2.2), .int .u64 (ww2 (q c).2.2), .int .u64 (ww1 (q c).2.2), .int .u64 (ww0 (q c).2.2), .slice (some ⟨gs, 0, none⟩) (L c) cs] 81)) w.heap.size u3 c (wq q) s L E := HO1.step ((Below.refl _ _).alloc (Nat.le_refl _) _)
     have hO2 : (w1.alloc (.cells #[.int .u64 (ww3 (q c).1), .int .u64 (ww2 (q c).1), .int .u64 (ww1 (q c).1), .int .u64 (ww0 (q c).1), .int .u64 (ww3 (q c).2.1), .int .u64 (ww2 (q c).2.1), .int .u64 (ww1 (q c).2.1), .int .u64 (ww0 (q c).2.1), .int .u64 (ww3 (q c).2.2), .int .u64 (ww2 (q c).2.2), .int .u64 (ww1 (q c).2.2), .int .u64 (ww0 (q c).2.2), .slice (some ⟨gs, 0, none⟩) (L c) cs] 81)).ownsRow W5.heap.size 2 1 (.slice (some ⟨gs, 0, none⟩) (L c) cs) (L c) (noL (L c) (E c)) := ownA_step hO ((Below.refl _ _).alloc (Nat.le_refl _) _)
     have HB7 : Below w.heap.size w (w1.alloc (.cells #[.int .u64 (ww3 (q c).1), .int .u64 (ww2 (q c).1), .int .u64 (ww1 (q c).1), .int .u64 (ww0 (q c).1), .int .u64 (ww3 (q c).2.1), .int .u64 (ww2 (q c).2.1), .int .u64 (ww1 (q c).2.1), .int .u64 (ww0 (q c).2.1), .int .u64 (ww3 (q c).2.2), .int .u64 (ww2 (q c).2.2), .int .u64 (ww1 (q c).2.2), .int .u64 (ww0 (q c).2.2), .slice (some ⟨gs, 0, none⟩) (L c) cs] 81)) := HB6.alloc wl6 _
     clear HO1 hO HB6
     go_wp2_with (at_builtin; refine wpList_append_own_at _ rfl _ _ 44 rfl w.heap.size 81 i0 (.agg #[.int .u64 0, .int .u64 0, .int .u64 0, .int .u64 0, .int .u64 0, .int .u64 0, .int .u64 0, .int .u64 0, .int .u64 0, .int .u64 0, .int .u64 0, .int .u64 0, .slice none 0 0]) 13 120 Tryz.underlying44 hi hz0 hz1 hz2 rfl (by decide) _ _ _ rfl HO2.own ⟨w1.heap.size, 0, none⟩ 1 1 (ev13 (q c) (.slice (some ⟨gs, 0, none⟩) (L c) cs)) rfl rfl (ev13_new _ _ _ _) (ev13_one _ _ _ _) (by unfold maxLen; omega) (by omega) (by simp; omega) ?_)
     intro v' w' hown hgrow _ hob
     have HN := HO2.app _ hO2 (by omega) (fun k hk => by have := hsv k hk; omega) (fun i hi k hk => by have := hss i hi k hk; omega) hgrow hown (by simpa using hob)
     have HBN := HB7.grown hgrow HB7.size (fun k hk => (HO2.own.lt k hk).1)
     clear HO2 hO2 HB7 hown hgrow hob hsv hss
     go_wp2
     go_roundw
     case rel => exact ⟨c + 1, _, by omega, by go_num, HN, HBN⟩
     case measure => simp [intOf]; omega
   · obtain rfl : c = n := by omega
     go_wp2
     go_ret
     exact ⟨_, s, rfl, HO, HB⟩
end Go.Proofs.YtpmnmlhfaoajdaaGreat
