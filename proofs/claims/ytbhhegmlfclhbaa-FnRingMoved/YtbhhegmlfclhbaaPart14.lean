/- Part 14 of the walks that the proof leans on. -/
import Derived.Test.YtbhhegmlfclhbaaPart13
import Derived.Test.YtbhhegmlfclhbaaPart4
import Derived.Test.YtbhhegmlfclhbaaPart12
import Derived.OwnWalkIn
import Derived.RangeFuncBox
import Derived.Test.YtbhhegmlfclhbaaPart11
import Derived.Test.YtbhhegmlfclhbaaPart8
import Derived.Test.YtbhhegmlfclhbaaPart7
/- A ring's form: drawn regions that look for the least spot. -/
namespace Go.Proofs.Ytbhhegmlfclhbaa
open Go.RowKit
def VfmI (A1 g n cap f : Nat) (x y u t : Int) (b : Bool) (_B : Nat) : Nat → Value → World → Prop
  | 0, v, _ => v = .agg #[.int .i64 x, .int .i64 y]
  | 1, v, _ => v = .pointer (some ⟨A1, 0, none⟩)
  | 2, v, _ => v = .slice (some ⟨g, 0, none⟩) n cap
  | 3, v, _ => v = .int .i64 (f : Nat)
  | 4, v, _ => v = .pointer (some ⟨g, f * 2, none⟩)
  | 5, v, _ => v = .agg #[.int .i64 u, .int .i64 t]
  | 6, v, _ => v = .bool b
  | _, _, _ => True
theorem VfmI.mono {A1 g n cap f : Nat} {x y u t : Int} {b : Bool} {B j : Nat} {v : Value} {W W2 : World} (_hB : Below W.heap.size W W2) (h : VfmI A1 g n cap f x y u t b B j v W) : VfmI A1 g n cap f x y u t b B j v W2 := by
  unfold VfmI at *
  split <;> simp only at h <;> first | exact h | trivial
set_option maxRecDepth 100000 in
set_option maxHeartbeats 4000000 in
theorem fmI {Q : Exit → Act → World → Prop} {A1 g n cap f : Nat} {x y u t : Int} {b : Bool} {A5 : Nat}  {w0 : World} {a0 : Act} {idq : Nat} {t0 t1 t2 t3 t4 t5 t6 : TypeId} {q0 q1 q2 q3 q4 q5 q6 : String}
    (fn : (f : Int) < (n : Int)) (hA : ∀ w', Calls Try.prog 25 #[.agg #[.int .i64 x, .int .i64 y], .agg #[.int .i64 u, .int .i64 t]] w' (BoolP b w')) (h5 : a0.tmps[5]? = some (.pointer (some ⟨A5, 0, none⟩))) (h1 : a0.tmps[1]? = some (.pointer (some ⟨A1, 0, none⟩))) (h3 : a0.tmps[3]? = some (.int .i64 (f : Nat))) (k0 : w0.cell? ⟨A5, 0, none⟩ = some (.int .i64 x)) (l0 : (⟨A5, 0, none⟩ : Addr).block < w0.heap.size) (k1 : w0.cell? ⟨A5, 1, none⟩ = some (.int .i64 y)) (l1 : (⟨A5, 1, none⟩ : Addr).block < w0.heap.size) (k2 : w0.cell? ⟨A1, 0, none⟩ = some (.slice (some ⟨g, 0, none⟩) n cap)) (l2 : (⟨A1, 0, none⟩ : Addr).block < w0.heap.size) (k3 : w0.cell? ⟨g, f * 2, none⟩ = some (.int .i64 u)) (l3 : (⟨g, f * 2, none⟩ : Addr).block < w0.heap.size) (k4 : w0.cell? ⟨g, f * 2 + 1, none⟩ = some (.int .i64 t)) (l4 : (⟨g, f * 2 + 1, none⟩ : Addr).block < w0.heap.size) (hz : a0.tmps.size = 43)
    (hQ : ∀ aq W, aq.tmps.size = a0.tmps.size → aq.defers = a0.defers → (∀ e, e ∉ ([23, 24, 25, 26, 27, 28, 29] : List Nat) → aq.tmps[e]? = a0.tmps[e]?) → VfmI A1 g n cap f x y u t b w0.heap.size 6 (aq.tmps.getD 29 undef) W → Below w0.heap.size w0 W → Q .normal aq W) :
    (Code.region idq #[{ dst := some 23, op := Op.load 38 (Operand.tmp 5), type := t0, pos := q0, after := #[], guard := none },
    { dst := some 24, op := Op.fieldAddr 26 (Operand.tmp 1) 0, type := t1, pos := q1, after := #[], guard := none },
    { dst := some 25, op := Op.load 24 (Operand.tmp 24), type := t2, pos := q2, after := #[{ on := 1, ground := Ground.data }], guard := none },
    { dst := some 26, op := Op.move (Operand.tmp 3), type := t3, pos := q3, after := #[], guard := none },
    { dst := some 27, op := Op.indexAddr 24 (Operand.tmp 25) (Operand.tmp 26), type := t4, pos := q4, after := #[{ on := 2, ground := Ground.data }, { on := 3, ground := Ground.data }], guard := none },
    { dst := some 28, op := Op.load 38 (Operand.tmp 27), type := t5, pos := q5, after := #[{ on := 4, ground := Ground.data }], guard := none },
    { dst := some 29, op := Op.call { callee := Callee.value (Operand.func 25), args := #[Operand.tmp 23, Operand.tmp 28], argTypes := #[38, 38] }, type := t6, pos := q6, after := #[{ on := 0, ground := Ground.data }, { on := 5, ground := Ground.data }], guard := none }] true).wp Try.prog Q a0 w0 := by
  have hS : distS [some 23, some 24, some 25, some 26, some 27, some 28, some 29] = true := rfl
  refine wp_region_q (by kernel_rfl) w0.heap.size [some 23, some 24, some 25, some 26, some 27, some 28, some 29] (VfmI A1 g n cap f x y u t b w0.heap.size) rfl ?_ ?_
  · intro Q lq aq W iq oq hJ hl ho hall
    have hJ2 := hJ
    obtain ⟨z1, z2, z3, z4, z5, z6, z7⟩ := hJ
    have g5 : aq.tmps.getD 5 undef = .pointer (some ⟨A5, 0, none⟩) := by rw [Array.getD_eq_getD_getElem?, z4 5 (by decide), h5]; rfl
    have g1 : aq.tmps.getD 1 undef = .pointer (some ⟨A1, 0, none⟩) := by rw [Array.getD_eq_getD_getElem?, z4 1 (by decide), h1]; rfl
    have g3 : aq.tmps.getD 3 undef = .int .i64 (f : Nat) := by rw [Array.getD_eq_getD_getElem?, z4 3 (by decide), h3]; rfl
    have c0 : W.cell? ⟨A5, 0, none⟩ = some (.int .i64 x) := (z5.cell l0).trans k0
    have c1 : W.cell? ⟨A5, 1, none⟩ = some (.int .i64 y) := (z5.cell l1).trans k1
    have c2 : W.cell? ⟨A1, 0, none⟩ = some (.slice (some ⟨g, 0, none⟩) n cap) := (z5.cell l2).trans k2
    have c3 : W.cell? ⟨g, f * 2, none⟩ = some (.int .i64 u) := (z5.cell l3).trans k3
    have c4 : W.cell? ⟨g, f * 2 + 1, none⟩ = some (.int .i64 t) := (z5.cell l4).trans k4
    match iq, ho with
    | 0, ho =>
      cases ho
      refine wpOp_of rfl rfl ?_
      have hK := fun (v : Value) (W2 : World) hW hT hv => hJ2.put hS 0 23 rfl (by omega) (W' := W2) hW hT v hv
      clear ho hall hl hQ
      generalize InvQ _ _ _ w0 a0 (lq.setIfInBounds 0 true) = K at hK ⊢
      clear hJ2 hS z1 z2 z3 z4 z6 z7
      go_simp
      exact hK _ _ z5 (fun _ _ h => h) rfl
    | 1, ho =>
      cases ho
      refine wpOp_of rfl rfl ?_
      have hK := fun (v : Value) (W2 : World) hW hT hv => hJ2.put hS 1 24 rfl (by omega) (W' := W2) hW hT v hv
      clear ho hall hl hQ
      generalize InvQ _ _ _ w0 a0 (lq.setIfInBounds 1 true) = K at hK ⊢
      clear hJ2 hS z1 z2 z3 z4 z6 z7
      go_simp
      exact hK _ _ z5 (fun _ _ h => h) rfl
    | 2, ho =>
      cases ho
      refine wpOp_of rfl rfl ?_
      have f1 : (aq.tmps.getD 24 undef) = .pointer (some ⟨A1, 0, none⟩) := z6 1 24 (hall { on := 1, ground := Ground.data } (by simp) rfl) rfl
      have hK := fun (v : Value) (W2 : World) hW hT hv => hJ2.put hS 2 25 rfl (by omega) (W' := W2) hW hT v hv
      clear ho hall hl hQ
      generalize InvQ _ _ _ w0 a0 (lq.setIfInBounds 2 true) = K at hK ⊢
      clear hJ2 hS z1 z2 z3 z4 z6 z7
      go_simp
      exact hK _ _ z5 (fun _ _ h => h) rfl
    | 3, ho =>
      cases ho
      refine wpOp_of rfl rfl ?_
      have hK := fun (v : Value) (W2 : World) hW hT hv => hJ2.put hS 3 26 rfl (by omega) (W' := W2) hW hT v hv
      clear ho hall hl hQ
      generalize InvQ _ _ _ w0 a0 (lq.setIfInBounds 3 true) = K at hK ⊢
      clear hJ2 hS z1 z2 z3 z4 z6 z7
      go_simp
      exact hK _ _ z5 (fun _ _ h => h) rfl
    | 4, ho =>
      cases ho
      refine wpOp_of rfl rfl ?_
      have f2 : (aq.tmps.getD 25 undef) = .slice (some ⟨g, 0, none⟩) n cap := z6 2 25 (hall { on := 2, ground := Ground.data } (by simp) rfl) rfl
      have f3 : (aq.tmps.getD 26 undef) = .int .i64 (f : Nat) := z6 3 26 (hall { on := 3, ground := Ground.data } (by simp) rfl) rfl
      have hK := fun (v : Value) (W2 : World) hW hT hv => hJ2.put hS 4 27 rfl (by omega) (W' := W2) hW hT v hv
      clear ho hall hl hQ
      generalize InvQ _ _ _ w0 a0 (lq.setIfInBounds 4 true) = K at hK ⊢
      clear hJ2 hS z1 z2 z3 z4 z6 z7
      go_simp
      exact hK _ _ z5 (fun _ _ h => h) rfl
    | 5, ho =>
      cases ho
      refine wpOp_of rfl rfl ?_
      have f4 : (aq.tmps.getD 27 undef) = .pointer (some ⟨g, f * 2, none⟩) := z6 4 27 (hall { on := 4, ground := Ground.data } (by simp) rfl) rfl
      have hK := fun (v : Value) (W2 : World) hW hT hv => hJ2.put hS 5 28 rfl (by omega) (W' := W2) hW hT v hv
      clear ho hall hl hQ
      generalize InvQ _ _ _ w0 a0 (lq.setIfInBounds 5 true) = K at hK ⊢
      clear hJ2 hS z1 z2 z3 z4 z6 z7
      go_simp
      exact hK _ _ z5 (fun _ _ h => h) rfl
    | 6, ho =>
      cases ho
      refine wpOp_of rfl rfl ?_
      have f0 : (aq.tmps.getD 23 undef) = .agg #[.int .i64 x, .int .i64 y] := z6 0 23 (hall { on := 0, ground := Ground.data } (by simp) rfl) rfl
      have f5 : (aq.tmps.getD 28 undef) = .agg #[.int .i64 u, .int .i64 t] := z6 5 28 (hall { on := 5, ground := Ground.data } (by simp) rfl) rfl
      have hK := fun (v : Value) (W2 : World) hW hT hv => hJ2.put hS 6 29 rfl (by omega) (W' := W2) hW hT v hv
      clear ho hall hl hQ
      generalize InvQ _ _ _ w0 a0 (lq.setIfInBounds 6 true) = K at hK ⊢
      clear hJ2 hS z1 z2 z3 z4 z6 z7
      go_simp
      refine (hA W).mono ?_
      rintro e v1 ⟨rfl, hBv⟩
      exact hK _ _ (z5.trans (hBv.mono z5.size)) (fun _ _ h => h.mono hBv) rfl
    | iq + 7, ho => simp at ho
  · intro lq aq W hJ hr
    obtain ⟨z1, z2, z3, z4, z5, z6, z7⟩ := hJ
    have hl := listed_of hr [0, 1, 2, 3, 4, 5, 6] [] (by simp) (by kernel_rfl) (by rw [z1]; decide)
    exact hQ aq W z2 z3 (fun e he => z4 e (by simpa using he)) (z6 6 29 (hl 6 (by simp)) rfl) z5
def VfmS (A1 g n cap ix f : Nat) (x y u t : Int) (b : Bool) (_B : Nat) : Nat → Value → World → Prop
  | 0, v, _ => v = .pointer (some ⟨A1, 0, none⟩)
  | 1, v, _ => v = .slice (some ⟨g, 0, none⟩) n cap
  | 2, v, _ => v = .int .i64 (ix : Nat)
  | 3, v, _ => v = .pointer (some ⟨g, ix * 2, none⟩)
  | 4, v, _ => v = .agg #[.int .i64 x, .int .i64 y]
  | 5, v, _ => v = .pointer (some ⟨A1, 0, none⟩)
  | 6, v, _ => v = .slice (some ⟨g, 0, none⟩) n cap
  | 7, v, _ => v = .int .i64 (f : Nat)
  | 8, v, _ => v = .pointer (some ⟨g, f * 2, none⟩)
  | 9, v, _ => v = .agg #[.int .i64 u, .int .i64 t]
  | 10, v, _ => v = .bool b
  | _, _, _ => True
theorem VfmS.mono {A1 g n cap ix f : Nat} {x y u t : Int} {b : Bool} {B j : Nat} {v : Value} {W W2 : World} (_hB : Below W.heap.size W W2) (h : VfmS A1 g n cap ix f x y u t b B j v W) : VfmS A1 g n cap ix f x y u t b B j v W2 := by
  unfold VfmS at *
  split <;> simp only at h <;> first | exact h | trivial
end Go.Proofs.Ytbhhegmlfclhbaa

/- A ring's form: the drawn region that puts the two parts together. -/
namespace Go.Proofs.Ytbhhegmlfclhbaa
open Go.RowKit
theorem ownF_slice {w : World} {base n : Nat} {e : TypeId} {size : Nat} {v : Value} {xs : List Value} (h : w.ownsRow base e size v n xs) : ∃ ao cap, v = .slice ao n cap := by
  rcases h.2 with ⟨h1, h0⟩ | ⟨g, cap, cur, hv, hb, _⟩
  · subst h0; exact ⟨none, 0, h1⟩
  · exact ⟨_, cap, hv⟩
theorem ownF_step {w w' : World} {base n : Nat} {e : TypeId} {size : Nat} {v : Value} {xs : List Value} (h : w.ownsRow base e size v n xs) (hB : Below w.heap.size w w') : w'.ownsRow base e size v n xs := by
  rcases h with ⟨h0, h1 | ⟨g, cap, cur, h1, h2, h3, h4⟩⟩
  · exact ⟨h0, .inl h1⟩
  · refine ⟨h0, .inr ⟨g, cap, cur, h1, h2, ?_, h4⟩⟩
    rw [hB.block g (Array.getElem?_eq_some_iff.1 h3).1]
    exact h3
theorem ownF_mono {w : World} {b b' n : Nat} {e : TypeId} {size : Nat} {v : Value} {xs : List Value} (h : w.ownsRow b' e size v n xs) (hb : b ≤ b') : w.ownsRow b e size v n xs := by
  rcases h with ⟨h0, h1 | ⟨g, cap, cur, h1, h2, h3⟩⟩
  · exact ⟨h0, .inl h1⟩
  · exact ⟨h0, .inr ⟨g, cap, cur, h1, Nat.le_trans hb h2, h3⟩⟩
theorem ownF_setO {w : World} {base n : Nat} {e : TypeId} {size : Nat} {v : Value} {xs : List Value} (h : w.ownsRow base e size v n xs) {p : Addr} (hp : p.block < base) (u : Value) : (w.setCell p u).ownsRow base e size v n xs := by
  rcases h with ⟨h0, h1 | ⟨g, cap, cur, h1, h2, h3, h4⟩⟩
  · exact ⟨h0, .inl h1⟩
  · refine ⟨h0, .inr ⟨g, cap, cur, h1, h2, ?_, h4⟩⟩
    rw [Below.heap_setCell _ _ _ _ (by omega)]
    exact h3
theorem spIn_setO {w : World} {g n : Nat} {q : Ps} {p : Addr} (h : SpIn w (some ⟨g, 0, none⟩) n q) (hp : g ≠ p.block) (u : Value) : SpIn (w.setCell p u) (some ⟨g, 0, none⟩) n q := fun i hi => by
  obtain ⟨A, off, e, hA, h1, h2⟩ := h i hi
  cases e
  exact ⟨g, 0, rfl, by simpa [World.setCell] using hA, (World.cell?_setCell_other _ _ _ _ (by intro e; apply hp; rw [e])).trans h1, (World.cell?_setCell_other _ _ _ _ (by intro e; apply hp; rw [e])).trans h2⟩
def VfmC (B4 R A1 g n cap f : Nat) (_q : Ps) (Lz : List Value) (_B : Nat) : Nat → Value → World → Prop
  | 0, v, _ => v = .pointer (some ⟨A1, 0, none⟩)
  | 1, v, _ => v = .slice (some ⟨g, 0, none⟩) n cap
  | 2, v, _ => v = .int .i64 (f : Nat)
  | 3, v, _ => v = .slice (some ⟨g, f * 2, none⟩) (n - f) (cap - f)
  | 4, v, _ => v = .pointer (some ⟨A1, 0, none⟩)
  | 5, v, _ => v = .slice (some ⟨g, 0, none⟩) n cap
  | 6, v, _ => v = .int .i64 (f : Nat)
  | 7, v, _ => v = .slice (some ⟨g, 0, none⟩) f cap
  | 8, v, W => ∃ gz, v = .slice (some ⟨gz, 0, none⟩) 2 2 ∧ gz ≠ R ∧ Blk W gz [.slice (some ⟨g, f * 2, none⟩) (n - f) (cap - f), .slice (some ⟨g, 0, none⟩) f cap]
  | 9, v, W => ∃ (go : Option Addr) (c : Nat), v = .slice go n c ∧ W.ownsRow B4 38 2 (.slice go n c) n Lz
  | 10, v, W => ∃ (go : Option Addr) (c : Nat), v = .agg #[.slice go n c] ∧ W.ownsRow B4 38 2 (.slice go n c) n Lz
  | 11, _, W => ∃ (go : Option Addr) (c : Nat), Blk W R [.slice go n c] ∧ W.ownsRow B4 38 2 (.slice go n c) n Lz
  | _, _, _ => True
theorem VfmC.mono {B4 R A1 g n cap f : Nat} {q : Ps} {Lz : List Value} {B j : Nat} {v : Value} {W W2 : World} (hB : Below W.heap.size W W2) (h : VfmC B4 R A1 g n cap f q Lz B j v W) : VfmC B4 R A1 g n cap f q Lz B j v W2 := by
  unfold VfmC at *
  split <;> simp only at h <;> first | exact h | (obtain ⟨gz, h1, h2, h3⟩ := h; exact ⟨gz, h1, h2, h3.step hB⟩) | (obtain ⟨x, y, h1, h2⟩ := h; exact ⟨x, y, h1, ownF_step h2 hB⟩) | (obtain ⟨x, y, h1, h2⟩ := h; exact ⟨x, y, h1.step hB, ownF_step h2 hB⟩) | trivial
theorem VfmC.put {B4 R A1 g n cap f : Nat} {q : Ps} {Lz : List Value} {B j : Nat} {v u : Value} {W : World} (nR : R < B4) (h : VfmC B4 R A1 g n cap f q Lz B j v W) (hz : ∃ (go : Option Addr) (c : Nat), Blk (W.setCell ⟨R, 0, none⟩ u) R [.slice go n c] ∧ (W.setCell ⟨R, 0, none⟩ u).ownsRow B4 38 2 (.slice go n c) n Lz) : VfmC B4 R A1 g n cap f q Lz B j v (W.setCell ⟨R, 0, none⟩ u) := by
  unfold VfmC at *
  split <;> simp only at h <;> first | exact h | exact hz | (obtain ⟨gz, h1, h2, h3⟩ := h; exact ⟨gz, h1, h2, h3.setO (p := ⟨R, 0, none⟩) h2 _⟩) | (obtain ⟨x, y, h1, h2⟩ := h; exact ⟨x, y, h1, ownF_setO h2 (show R < B4 from nR) _⟩) | trivial
def SfmC (_B4 R _A1 g n _cap _f : Nat) (q : Ps) (_Lz : List Value) (W : World) : Prop := SpIn W (some ⟨g, 0, none⟩) n q ∧ ∃ z, Blk W R [z]
def JfmC (B4 R A1 g n cap f : Nat) (q : Ps) (Lz : List Value) (w0 : World) (a0 : Act) (lz : Array Bool) (az : Act) (W : World) : Prop := InvQ (R) [some 32, some 33, some 34, some 35, some 36, some 37, some 38, some 39, some 40, some 41, some 42, none] (VfmC B4 R A1 g n cap f q Lz (R)) w0 a0 lz az W ∧ SfmC B4 R A1 g n cap f q Lz W
set_option maxRecDepth 100000 in
set_option maxHeartbeats 4000000 in
theorem fmC {Q : Exit → Act → World → Prop} {B4 R A1 g n cap f : Nat} {q : Ps} {Lz : List Value}  {w0 : World} {a0 : Act} {idq : Nat} {t0 t1 t2 t3 t4 t5 t6 t7 t8 t9 t10 t11 : TypeId} {q0 q1 q2 q3 q4 q5 q6 q7 q8 q9 q10 q11 : String}
    (fle : f ≤ n) (fce : f ≤ cap) (cne : ¬ cap = f) (nR : R < B4) (nB : B4 ≤ w0.heap.size) (ng : g ≠ R) (hC : ∀ AS w', Blk w' AS [.slice (some ⟨g, f * 2, none⟩) (n - f) (cap - f), .slice (some ⟨g, 0, none⟩) f cap] → SpIn w' (some ⟨g, 0, none⟩) n q → Calls Try.prog 26 #[.slice (some ⟨AS, 0, none⟩) 2 2] w' (fun e w'' => ∃ v, e = .returned v ∧ w''.ownsRow w'.heap.size 38 2 v n Lz ∧ Below w'.heap.size w' w'')) (h1 : a0.tmps[1]? = some (.pointer (some ⟨A1, 0, none⟩))) (h3 : a0.tmps[3]? = some (.int .i64 (f : Nat))) (h2 : a0.tmps[2]? = some (.pointer (some ⟨R, 0, none⟩))) (k0 : w0.cell? ⟨A1, 0, none⟩ = some (.slice (some ⟨g, 0, none⟩) n cap)) (l0 : (⟨A1, 0, none⟩ : Addr).block < R) (hz : a0.tmps.size = 43) (hs0 : SfmC B4 R A1 g n cap f q Lz w0.drew)
    (hQ : ∀ aq W, aq.tmps.size = a0.tmps.size → aq.defers = a0.defers → (∀ e, e ∉ ([32, 33, 34, 35, 36, 37, 38, 39, 40, 41, 42] : List Nat) → aq.tmps[e]? = a0.tmps[e]?) → VfmC B4 R A1 g n cap f q Lz (R) 11 undef W → Below (R) w0 W → SfmC B4 R A1 g n cap f q Lz W → Q .normal aq W) :
    (Code.region idq #[{ dst := some 32, op := Op.fieldAddr 26 (Operand.tmp 1) 0, type := t0, pos := q0, after := #[], guard := none },
    { dst := some 33, op := Op.load 24 (Operand.tmp 32), type := t1, pos := q1, after := #[{ on := 0, ground := Ground.data }], guard := none },
    { dst := some 34, op := Op.move (Operand.tmp 3), type := t2, pos := q2, after := #[], guard := none },
    { dst := some 35, op := Op.slice 24 (Operand.tmp 33) (some (Operand.tmp 34)) none none, type := t3, pos := q3, after := #[{ on := 1, ground := Ground.data }, { on := 2, ground := Ground.data }], guard := none },
    { dst := some 36, op := Op.fieldAddr 26 (Operand.tmp 1) 0, type := t4, pos := q4, after := #[], guard := none },
    { dst := some 37, op := Op.load 24 (Operand.tmp 36), type := t5, pos := q5, after := #[{ on := 4, ground := Ground.data }], guard := none },
    { dst := some 38, op := Op.move (Operand.tmp 3), type := t6, pos := q6, after := #[], guard := none },
    { dst := some 39, op := Op.slice 24 (Operand.tmp 37) none (some (Operand.tmp 38)) none, type := t7, pos := q7, after := #[{ on := 5, ground := Ground.data }, { on := 6, ground := Ground.data }], guard := none },
    { dst := some 40, op := Op.buildSlice 82 2 #[(0, Operand.tmp 35), (1, Operand.tmp 39)], type := t8, pos := q8, after := #[{ on := 3, ground := Ground.data }, { on := 7, ground := Ground.data }], guard := none },
    { dst := some 41, op := Op.call { callee := Callee.value (Operand.func 26), args := #[Operand.tmp 40], argTypes := #[82] }, type := t9, pos := q9, after := #[{ on := 8, ground := Ground.data }], guard := none },
    { dst := some 42, op := Op.build 26 #[(0, Operand.tmp 41)], type := t10, pos := q10, after := #[{ on := 9, ground := Ground.data }], guard := none },
    { dst := none, op := Op.store 26 (Operand.tmp 2) (Operand.tmp 42), type := t11, pos := q11, after := #[{ on := 10, ground := Ground.data }, { on := 9, ground := Ground.chain }, { on := 0, ground := Ground.phase }, { on := 1, ground := Ground.phase }, { on := 2, ground := Ground.phase }, { on := 3, ground := Ground.phase }, { on := 4, ground := Ground.phase }, { on := 5, ground := Ground.phase }, { on := 6, ground := Ground.phase }, { on := 7, ground := Ground.phase }, { on := 8, ground := Ground.phase }, { on := 9, ground := Ground.phase }, { on := 10, ground := Ground.phase }], guard := none }] true).wp Try.prog Q a0 w0 := by
  have hS : distS [some 32, some 33, some 34, some 35, some 36, some 37, some 38, some 39, some 40, some 41, some 42, none] = true := rfl
  refine wp_region_inv (by kernel_rfl) (JfmC B4 R A1 g n cap f q Lz w0 a0) ⟨⟨rfl, rfl, rfl, fun _ _ => rfl, (Below.refl _ w0).drew, fun j d hj => ?_, fun j hj => ?_⟩, hs0⟩ ?_ ?_
  · exfalso
    rw [Array.getD_eq_getD_getElem?, Array.getElem?_replicate] at hj
    split at hj <;> simp at hj
  · exfalso
    rw [Array.getD_eq_getD_getElem?, Array.getElem?_replicate] at hj
    split at hj <;> simp at hj
  · intro lq aq W iq oq ⟨hJ, hs⟩ hl ho hall
    have hJ2 := hJ
    obtain ⟨z1, z2, z3, z4, z5, z6, z7⟩ := hJ
    obtain ⟨xs, zr, xr⟩ := hs
    have rr0 := xr.c 0 rfl; have sr0 := xr.f 0 rfl; have lr := xr.lt
    have hs : SfmC B4 R A1 g n cap f q Lz W := ⟨xs, zr, xr⟩
    have g1 : aq.tmps.getD 1 undef = .pointer (some ⟨A1, 0, none⟩) := by rw [Array.getD_eq_getD_getElem?, z4 1 (by decide), h1]; rfl
    have g3 : aq.tmps.getD 3 undef = .int .i64 (f : Nat) := by rw [Array.getD_eq_getD_getElem?, z4 3 (by decide), h3]; rfl
    have g2 : aq.tmps.getD 2 undef = .pointer (some ⟨R, 0, none⟩) := by rw [Array.getD_eq_getD_getElem?, z4 2 (by decide), h2]; rfl
    have c0 : W.cell? ⟨A1, 0, none⟩ = some (.slice (some ⟨g, 0, none⟩) n cap) := (z5.cell l0).trans k0
    match iq, ho with
    | 0, ho =>
      cases ho
      refine wpOp_of rfl rfl ?_
      have hK := fun (v : Value) (W2 : World) hW hT hv (hs : SfmC B4 R A1 g n cap f q Lz W2) => show (JfmC B4 R A1 g n cap f q Lz w0 a0) (lq.setIfInBounds 0 true) (aq.put (some 32) v) W2 from ⟨hJ2.put hS 0 32 rfl (by omega) (W' := W2) hW hT v hv, hs⟩
      clear ho hall hl hQ
      generalize (JfmC B4 R A1 g n cap f q Lz w0 a0) (lq.setIfInBounds 0 true) = K at hK ⊢
      clear hJ2 hS z1 z2 z3 z4 z6 z7
      go_simp
      exact hK _ _ z5 (fun _ _ h => h) rfl hs
    | 1, ho =>
      cases ho
      refine wpOp_of rfl rfl ?_
      have f0 : (aq.tmps.getD 32 undef) = .pointer (some ⟨A1, 0, none⟩) := z6 0 32 (hall { on := 0, ground := Ground.data } (by simp) rfl) rfl
      have hK := fun (v : Value) (W2 : World) hW hT hv (hs : SfmC B4 R A1 g n cap f q Lz W2) => show (JfmC B4 R A1 g n cap f q Lz w0 a0) (lq.setIfInBounds 1 true) (aq.put (some 33) v) W2 from ⟨hJ2.put hS 1 33 rfl (by omega) (W' := W2) hW hT v hv, hs⟩
      clear ho hall hl hQ
      generalize (JfmC B4 R A1 g n cap f q Lz w0 a0) (lq.setIfInBounds 1 true) = K at hK ⊢
      clear hJ2 hS z1 z2 z3 z4 z6 z7
      go_simp
      exact hK _ _ z5 (fun _ _ h => h) rfl hs
    | 2, ho =>
      cases ho
      refine wpOp_of rfl rfl ?_
      have hK := fun (v : Value) (W2 : World) hW hT hv (hs : SfmC B4 R A1 g n cap f q Lz W2) => show (JfmC B4 R A1 g n cap f q Lz w0 a0) (lq.setIfInBounds 2 true) (aq.put (some 34) v) W2 from ⟨hJ2.put hS 2 34 rfl (by omega) (W' := W2) hW hT v hv, hs⟩
      clear ho hall hl hQ
      generalize (JfmC B4 R A1 g n cap f q Lz w0 a0) (lq.setIfInBounds 2 true) = K at hK ⊢
      clear hJ2 hS z1 z2 z3 z4 z6 z7
      go_simp
      exact hK _ _ z5 (fun _ _ h => h) rfl hs
    | 3, ho =>
      cases ho
      refine wpOp_of rfl rfl ?_
      have f1 : (aq.tmps.getD 33 undef) = .slice (some ⟨g, 0, none⟩) n cap := z6 1 33 (hall { on := 1, ground := Ground.data } (by simp) rfl) rfl
      have f2 : (aq.tmps.getD 34 undef) = .int .i64 (f : Nat) := z6 2 34 (hall { on := 2, ground := Ground.data } (by simp) rfl) rfl
      have hK := fun (v : Value) (W2 : World) hW hT hv (hs : SfmC B4 R A1 g n cap f q Lz W2) => show (JfmC B4 R A1 g n cap f q Lz w0 a0) (lq.setIfInBounds 3 true) (aq.put (some 35) v) W2 from ⟨hJ2.put hS 3 35 rfl (by omega) (W' := W2) hW hT v hv, hs⟩
      clear ho hall hl hQ
      generalize (JfmC B4 R A1 g n cap f q Lz w0 a0) (lq.setIfInBounds 3 true) = K at hK ⊢
      clear hJ2 hS z1 z2 z3 z4 z6 z7
      go_simp
      exact hK _ _ z5 (fun _ _ h => h) rfl hs
    | 4, ho =>
      cases ho
      refine wpOp_of rfl rfl ?_
      have hK := fun (v : Value) (W2 : World) hW hT hv (hs : SfmC B4 R A1 g n cap f q Lz W2) => show (JfmC B4 R A1 g n cap f q Lz w0 a0) (lq.setIfInBounds 4 true) (aq.put (some 36) v) W2 from ⟨hJ2.put hS 4 36 rfl (by omega) (W' := W2) hW hT v hv, hs⟩
      clear ho hall hl hQ
      generalize (JfmC B4 R A1 g n cap f q Lz w0 a0) (lq.setIfInBounds 4 true) = K at hK ⊢
      clear hJ2 hS z1 z2 z3 z4 z6 z7
      go_simp
      exact hK _ _ z5 (fun _ _ h => h) rfl hs
    | 5, ho =>
      cases ho
      refine wpOp_of rfl rfl ?_
      have f4 : (aq.tmps.getD 36 undef) = .pointer (some ⟨A1, 0, none⟩) := z6 4 36 (hall { on := 4, ground := Ground.data } (by simp) rfl) rfl
      have hK := fun (v : Value) (W2 : World) hW hT hv (hs : SfmC B4 R A1 g n cap f q Lz W2) => show (JfmC B4 R A1 g n cap f q Lz w0 a0) (lq.setIfInBounds 5 true) (aq.put (some 37) v) W2 from ⟨hJ2.put hS 5 37 rfl (by omega) (W' := W2) hW hT v hv, hs⟩
      clear ho hall hl hQ
      generalize (JfmC B4 R A1 g n cap f q Lz w0 a0) (lq.setIfInBounds 5 true) = K at hK ⊢
      clear hJ2 hS z1 z2 z3 z4 z6 z7
      go_simp
      exact hK _ _ z5 (fun _ _ h => h) rfl hs
    | 6, ho =>
      cases ho
      refine wpOp_of rfl rfl ?_
      have hK := fun (v : Value) (W2 : World) hW hT hv (hs : SfmC B4 R A1 g n cap f q Lz W2) => show (JfmC B4 R A1 g n cap f q Lz w0 a0) (lq.setIfInBounds 6 true) (aq.put (some 38) v) W2 from ⟨hJ2.put hS 6 38 rfl (by omega) (W' := W2) hW hT v hv, hs⟩
      clear ho hall hl hQ
      generalize (JfmC B4 R A1 g n cap f q Lz w0 a0) (lq.setIfInBounds 6 true) = K at hK ⊢
      clear hJ2 hS z1 z2 z3 z4 z6 z7
      go_simp
      exact hK _ _ z5 (fun _ _ h => h) rfl hs
    | 7, ho =>
      cases ho
      refine wpOp_of rfl rfl ?_
      have f5 : (aq.tmps.getD 37 undef) = .slice (some ⟨g, 0, none⟩) n cap := z6 5 37 (hall { on := 5, ground := Ground.data } (by simp) rfl) rfl
      have f6 : (aq.tmps.getD 38 undef) = .int .i64 (f : Nat) := z6 6 38 (hall { on := 6, ground := Ground.data } (by simp) rfl) rfl
      have hK := fun (v : Value) (W2 : World) hW hT hv (hs : SfmC B4 R A1 g n cap f q Lz W2) => show (JfmC B4 R A1 g n cap f q Lz w0 a0) (lq.setIfInBounds 7 true) (aq.put (some 39) v) W2 from ⟨hJ2.put hS 7 39 rfl (by omega) (W' := W2) hW hT v hv, hs⟩
      clear ho hall hl hQ
      generalize (JfmC B4 R A1 g n cap f q Lz w0 a0) (lq.setIfInBounds 7 true) = K at hK ⊢
      clear hJ2 hS z1 z2 z3 z4 z6 z7
      go_simp
      exact hK _ _ z5 (fun _ _ h => h) rfl hs
    | 8, ho =>
      cases ho
      refine wpOp_of rfl rfl ?_
      have f3 : (aq.tmps.getD 35 undef) = .slice (some ⟨g, f * 2, none⟩) (n - f) (cap - f) := z6 3 35 (hall { on := 3, ground := Ground.data } (by simp) rfl) rfl
      have f7 : (aq.tmps.getD 39 undef) = .slice (some ⟨g, 0, none⟩) f cap := z6 7 39 (hall { on := 7, ground := Ground.data } (by simp) rfl) rfl
      rw [Array.getD_eq_getD_getElem?] at f3 f7
      have hK := fun (v : Value) (W2 : World) hW hT hv (hs : SfmC B4 R A1 g n cap f q Lz W2) => show (JfmC B4 R A1 g n cap f q Lz w0 a0) (lq.setIfInBounds 8 true) (aq.put (some 40) v) W2 from ⟨hJ2.put hS 8 40 rfl (by omega) (W' := W2) hW hT v hv, hs⟩
      clear ho hall hl hQ
      generalize (JfmC B4 R A1 g n cap f q Lz w0 a0) (lq.setIfInBounds 8 true) = K at hK ⊢
      clear hJ2 hS z1 z2 z3 z4 z6 z7
      go_simp
      exact hK _ _ (z5.alloc (by have := z5.size; omega) _) (fun _ _ h => h.mono ((Below.refl _ _).alloc (Nat.le_refl _) _)) ⟨W.heap.size, rfl, by have := z5.size; omega, Blk.new W [.slice (some ⟨g, f * 2, none⟩) (n - f) (cap - f), .slice (some ⟨g, 0, none⟩) f cap] _ rfl⟩ ⟨xs.step ((Below.refl _ _).alloc (Nat.le_refl _) _), zr, xr.alloc _⟩
    | 9, ho =>
      cases ho
      refine wpOp_of rfl rfl ?_
      have f8 : ∃ gz, (aq.tmps.getD 40 undef) = .slice (some ⟨gz, 0, none⟩) 2 2 ∧ gz ≠ R ∧ Blk W gz [.slice (some ⟨g, f * 2, none⟩) (n - f) (cap - f), .slice (some ⟨g, 0, none⟩) f cap] := z6 8 40 (hall { on := 8, ground := Ground.data } (by simp) rfl) rfl
      have hK := fun (v : Value) (W2 : World) hW hT hv (hs : SfmC B4 R A1 g n cap f q Lz W2) => show (JfmC B4 R A1 g n cap f q Lz w0 a0) (lq.setIfInBounds 9 true) (aq.put (some 41) v) W2 from ⟨hJ2.put hS 9 41 rfl (by omega) (W' := W2) hW hT v hv, hs⟩
      clear ho hall hl hQ
      generalize (JfmC B4 R A1 g n cap f q Lz w0 a0) (lq.setIfInBounds 9 true) = K at hK ⊢
      clear hJ2 hS z1 z2 z3 z4 z6 z7
      obtain ⟨gz, e8, n8, X8⟩ := f8
      have zs := z5.size
      go_simp
      refine (hC gz W X8 xs).mono ?_
      rintro e v1 ⟨v, rfl, O, hBv⟩
      obtain ⟨go, co, rfl⟩ := ownF_slice O
      exact hK _ _ (z5.trans (hBv.mono (by omega))) (fun _ _ h => h.mono hBv) ⟨go, co, rfl, ownF_mono O (by omega)⟩ ⟨xs.step hBv, zr, xr.step hBv⟩
    | 10, ho =>
      cases ho
      refine wpOp_of rfl rfl ?_
      have f9 : ∃ (go : Option Addr) (c : Nat), (aq.tmps.getD 41 undef) = .slice go n c ∧ W.ownsRow B4 38 2 (.slice go n c) n Lz := z6 9 41 (hall { on := 9, ground := Ground.data } (by simp) rfl) rfl
      obtain ⟨go, co, e9, O⟩ := f9
      rw [Array.getD_eq_getD_getElem?] at e9
      have hK := fun (v : Value) (W2 : World) hW hT hv (hs : SfmC B4 R A1 g n cap f q Lz W2) => show (JfmC B4 R A1 g n cap f q Lz w0 a0) (lq.setIfInBounds 10 true) (aq.put (some 42) v) W2 from ⟨hJ2.put hS 10 42 rfl (by omega) (W' := W2) hW hT v hv, hs⟩
      clear ho hall hl hQ
      generalize (JfmC B4 R A1 g n cap f q Lz w0 a0) (lq.setIfInBounds 10 true) = K at hK ⊢
      clear hJ2 hS z1 z2 z3 z4 z6 z7
      go_simp
      exact hK _ _ z5 (fun _ _ h => h) ⟨go, co, rfl, O⟩ hs
    | 11, ho =>
      cases ho
      refine wpOp_of rfl rfl ?_
      have f10 : ∃ (go : Option Addr) (c : Nat), (aq.tmps.getD 42 undef) = .agg #[.slice go n c] ∧ W.ownsRow B4 38 2 (.slice go n c) n Lz := z6 10 42 (hall { on := 10, ground := Ground.data } (by simp) rfl) rfl
      have hK := fun (W2 : World) hW hT hv (hs : SfmC B4 R A1 g n cap f q Lz W2) => show (JfmC B4 R A1 g n cap f q Lz w0 a0) (lq.setIfInBounds 11 true) aq W2 from ⟨hJ2.world 11 rfl (W' := W2) hW hT hv, hs⟩
      clear ho hall hl hQ
      generalize (JfmC B4 R A1 g n cap f q Lz w0 a0) (lq.setIfInBounds 11 true) = K at hK ⊢
      clear hJ2 hS z1 z2 z3 z4 z6 z7
      obtain ⟨go, co, e10, O⟩ := f10
      have nb : Blk (W.setCell ⟨R, 0, none⟩ (.slice go n co)) R [.slice go n co] := xr.setI 0 (by simp) _
      have no : (W.setCell ⟨R, 0, none⟩ (.slice go n co)).ownsRow B4 38 2 (.slice go n co) n Lz := ownF_setO O (show R < B4 from nR) _
      have ns : SfmC B4 R A1 g n cap f q Lz (W.setCell ⟨R, 0, none⟩ (.slice go n co)) := ⟨spIn_setO xs ng _, _, nb⟩
      have nB2 : Below R w0 (W.setCell ⟨R, 0, none⟩ (.slice go n co)) := z5.setCell (p := ⟨R, 0, none⟩) (Nat.le_refl _) _
      clear xs xr
      go_simp
      exact hK _ nB2 (fun _ _ h => VfmC.put nR h ⟨go, co, nb, no⟩) ⟨go, co, nb, no⟩ ns
    | iq + 12, ho => simp at ho
  · intro lq aq W ⟨hJ, hs⟩ hr
    obtain ⟨z1, z2, z3, z4, z5, z6, z7⟩ := hJ
    have hl := listed_of hr [0, 1, 2, 3, 4, 5, 6, 7, 8, 9, 10, 11] [] (by simp) (by kernel_rfl) (by rw [z1]; decide)
    exact hQ aq W z2 z3 (fun e he => z4 e (by simpa using he)) (z7 11 (hl 11 (by simp)) rfl) z5 hs
end Go.Proofs.Ytbhhegmlfclhbaa

/- Rings of their own memory: held against one another, marked, held again. -/
namespace Go.Proofs.Ytbhhegmlfclhbaa
open Go.RowKit
theorem SpOwn.step {w w' : World} {base : Nat} {v : Value} {n : Nat} {p : Ps} (h : SpOwn w base v n p) (hB : Below w.heap.size w w') : SpOwn w' base v n p := by
  rcases h with h | ⟨g, cap, f, h1, h2, h3, h4, h5, h6⟩
  · exact .inl h
  · exact .inr ⟨g, cap, f, h1, h2, h3, h4, rows_step h5 hB, h6⟩
theorem SpOwn.in {w : World} {base : Nat} {v : Value} {n : Nat} {p : Ps} (h : SpOwn w base v n p) : ∃ ao cap, v = .slice ao n cap ∧ SpIn w ao n p := by
  rcases h with ⟨h1, rfl⟩ | ⟨g, cap, f, h1, h2, h3, h4, h5, h6⟩
  · exact ⟨none, 0, h1, fun i hi => by omega⟩
  · have R : w.rowIs g 38 (cap * 2) f := h5
    refine ⟨some ⟨g, 0, none⟩, cap, h1, fun i hi => ⟨g, 0, rfl, R.lt, ?_, ?_⟩⟩
    · rw [Nat.zero_add, R.cell (by omega), h6 _ (by omega), spW0]
    · rw [Nat.zero_add, R.cell (by omega), h6 _ (by omega), spW1]
theorem SpOwn.lt {w : World} {base : Nat} {v : Value} {n : Nat} {p : Ps} (h : SpOwn w base v n p) {g : Nat} (hg : v.ownBlock = some g) : base ≤ g ∧ g < w.heap.size := by
  rcases h with ⟨h1, _⟩ | ⟨g', cap, f, h1, h2, h3, h4, h5, h6⟩
  · subst h1; cases hg
  · subst h1; cases hg; exact ⟨h2, h5.lt⟩
theorem SpOwn.row {w : World} {base g n : Nat} {p : Ps} (R : w.rowIs g 38 (n * 2) (fun i => .int .i64 (spW p i))) (hb : base ≤ g) (hn : n ≤ 1048576) : SpOwn w base (.slice (some ⟨g, 0, none⟩) n n) n p :=
  .inr ⟨g, n, _, rfl, hb, Nat.le_refl _, by unfold maxLen; omega, R, fun _ _ => rfl⟩
theorem OtherB.trans {h : Option Nat} {a b c : World} (k : OtherB h a b) (l : OtherB h b c) : OtherB h a c :=
  ⟨fun g hne hg => (l.1 g hne (Nat.lt_of_lt_of_le hg k.2.1)).trans (k.1 g hne hg), Nat.le_trans k.2.1 l.2.1, fun w0 hb H => l.2.2 w0 hb (k.2.2 w0 hb H)⟩
end Go.Proofs.Ytbhhegmlfclhbaa

/- A ring's form: the program's walk. -/
namespace Go.Proofs.Ytbhhegmlfclhbaa
open Go.RowKit
set_option maxRecDepth 100000 in
set_option maxHeartbeats 8000000 in
theorem implForm_in (g n cap : Nat) (p : Ps) (hn : n ≤ 1048576) (hcap : n ≤ cap) (hcap2 : cap ≤ 9223372036854775807) (w : World) (R : SpIn w (some ⟨g, 0, none⟩) n p) :
    Calls Try.prog 10 #[.agg #[.slice (some ⟨g, 0, none⟩) n cap]] w (RingP (tuN n p) (fmP n p) w) := by
  have C1 := fun w h => rright_any (some ⟨g, 0, none⟩) n cap p hn hcap hcap2 w h
  have hgl : Hid (0 < n → g < w.heap.size) := fun h => (spIn_at R (show 0 < n * 2 by omega)).1
  have HB0 : Below w.heap.size w ((w.alloc (.cells #[.slice (some ⟨g, 0, none⟩) n cap] 26)).alloc (.cells #[.slice none 0 0] 26)) := ((Below.refl _ _).alloc (Nat.le_refl _) _).alloc (by simp) _
  have BA : Blk ((w.alloc (.cells #[.slice (some ⟨g, 0, none⟩) n cap] 26)).alloc (.cells #[.slice none 0 0] 26)) w.heap.size [.slice (some ⟨g, 0, none⟩) n cap] := (Blk.new w [.slice (some ⟨g, 0, none⟩) n cap] 26 rfl).alloc _
  have BR : Blk ((w.alloc (.cells #[.slice (some ⟨g, 0, none⟩) n cap] 26)).alloc (.cells #[.slice none 0 0] 26)) (w.heap.size + 1) [.slice none 0 0] := Blk.new (w.alloc (.cells #[.slice (some ⟨g, 0, none⟩) n cap] 26)) [.slice none 0 0] 26 (by simp)
  go_enter Try.func10, Try.ntmps10
  go_wp2_with fail
  replace R := R.step HB0
  revert HB0 BR BA R
  generalize ((w.alloc (.cells #[.slice (some ⟨g, 0, none⟩) n cap] 26)).alloc (.cells #[.slice none 0 0] 26)) = W2
  intro HB0 BA BR R
  refine (C1 _ (R)).mono ?_
  rintro e w1 ⟨rfl, hB⟩
  replace HB0 := HB0.trans (hB.mono HB0.size)
  replace BR := BR.step hB
  replace BA := BA.step hB
  replace R := R.step hB
  clear hB C1
  by_cases h : rgF n p = 0
  · rw [decide_eq_true h]
    have HN : Hid (tuN n p = n) := by show _ = _; unfold tuN; rw [if_pos h]
    obtain ⟨h3, h12, hok, _⟩ := rgF_okA h
    have C2 := fun w R => area2_any (some ⟨g, 0, none⟩) n cap p h12 hok w R
    have C3 := fun w R => turned_in g n cap p h3 hn w R
    clear h hok
    go_upto_region 3 with fail
    go_cut [12] (fun pv wx => pv = .bool (decide (arA n p n < 0)) ∧ Below w.heap.size w wx ∧ Blk wx w.heap.size [.slice (some ⟨g, 0, none⟩) n cap] ∧ Blk wx (w.heap.size + 1) [.slice none 0 0] ∧ SpIn wx (some ⟨g, 0, none⟩) n p)
    case first =>
      have a0 := BA.c 0 rfl
      go_wp2_with fail
      clear a0
      refine (C2 _ (R)).mono ?_
      rintro e w2 ⟨rfl, hB⟩
      go_wp2
      go_meet
      case rel => exact ⟨rfl, HB0.trans (hB.mono HB0.size), BA.step hB, BR.step hB, R.step hB⟩
    case rest =>
      clear HB0 BA BR R C2
      obtain ⟨rfl, HB0, BA, BR, R⟩ := hcut
      rename_i hk
      refine hk _ _ ?_
      clear hk
      go_cut [] (fun wx => ∃ gq cq, n ≤ cq ∧ gq ≠ w.heap.size + 1 ∧ gq ≠ w.heap.size ∧ Below w.heap.size w wx ∧ Blk wx w.heap.size [.slice (some ⟨gq, 0, none⟩) n cq] ∧ Blk wx (w.heap.size + 1) [.slice none 0 0] ∧ SpIn wx (some ⟨gq, 0, none⟩) n (upP n p))
      case first =>
        by_cases har : arA n p n < 0
        · rw [decide_eq_true har]
          have HU : Hid (upP n p = turnP n p) := by show _ = _; unfold upP; rw [if_pos har]
          have a0 := BA.c 0 rfl; have af := BA.f 0 rfl; have al := BA.lt
          go_wp2_with fail
          clear a0 af al
          refine (C3 _ R).mono ?_
          rintro e w2 ⟨v, rfl, HO, hB⟩
          replace HB0 := HB0.trans (hB.mono HB0.size)
          have hsz := BR.lt
          have hsz2 := BA.lt
          replace BR := BR.step hB
          replace BA := BA.step hB
          rcases HO with ⟨_, h0⟩ | ⟨gq, cq, f, rfl, hgq, hcq, hmx, RQ, hf⟩
          · omega
          have S : SpIn w2 (some ⟨gq, 0, none⟩) n (turnP n p) := by
            have O : SpOwn w2 (w.heap.size + 2) (.slice (some ⟨gq, 0, none⟩) n cq) n (turnP n p) := .inr ⟨gq, cq, f, rfl, by omega, hcq, hmx, RQ, hf⟩
            obtain ⟨ao, cap, e, h⟩ := SpOwn.in O
            cases e
            exact h
          have a0 := BA.c 0 rfl; have af := BA.f 0 rfl; have al := BA.lt
          go_wp2
          go_meet
          case rel => exact ⟨gq, cq, hcq, by omega, by omega, HB0.setCell (by simp) _, BA.setI 0 (by simp) _, BR.setO (by simp) _, by rw [HU.out]; exact spIn_setO S (by simp; omega) _⟩
        · rw [decide_eq_false har]
          have HU : Hid (upP n p = p) := by show _ = _; unfold upP; rw [if_neg har]
          clear har
          go_wp2
          go_meet
          case rel => exact ⟨g, cap, hcap, by have := hgl.out (by omega); omega, by have := hgl.out (by omega); omega, HB0, BA, BR, by rw [HU.out]; exact R⟩
      case rest =>
        clear HB0 BA BR R C3
        obtain ⟨gq, cq, hcq, hg1, hg0, HB0, BA, BR, S⟩ := hcut
        rename ∀ (a : Act) (w_1 : World), Code.wp _ _ _ _ _ → _ => hk
        refine hk _ _ ?_
        clear hk
        have HC : Hid (n ≤ cq) := hcq
        have HSZ : Hid (w.heap.size + 2 ≤ wc.heap.size) := BR.lt
        have HS : Hid (SpIn wc (some ⟨gq, 0, none⟩) n (upP n p)) := S
        have a0 := BA.c 0 rfl; have af := BA.f 0 rfl
        clear S hcq
        go_wp2_with fail
        clear a0 af
        go_loopw [3, 18] (fun l i wr => ∃ c : Nat, c ≤ n ∧ i = .int .i64 c ∧ l = .int .i64 (lsI (upP n p) (c - 1)) ∧ Below wc.heap.size wc wr) (fun _ i _ => n - (intOf i).toNat)
        case atStart => exact ⟨0, by omega, rfl, rfl, Below.refl _ _⟩
        case round =>
          obtain ⟨c, hc, rfl, rfl, HB⟩ := hrel
          by_cases hcn : c < n
          · obtain ⟨A, off, e, hA, q0, q1⟩ := HS.out.step HB c hcn
            cases e
            rw [Nat.zero_add] at q0 q1
            have hcI : (c : Int) < n := by omega
            have hl : lsI (upP n p) (c - 1) ≤ c - 1 := lsI_le _ _
            have hlI : ((lsI (upP n p) (c - 1) : Nat) : Int) < (n : Int) := by omega
            obtain ⟨A, off, e, hA2, q2, q3⟩ := HS.out.step HB (lsI (upP n p) (c - 1)) (by omega)
            cases e
            rw [Nat.zero_add] at q2 q3
            have NX : Hid (lsI (upP n p) c = if lessI (upP n p c).1 (upP n p c).2 (upP n p (lsI (upP n p) (c - 1))).1 (upP n p (lsI (upP n p) (c - 1))).2 = true then c else lsI (upP n p) (c - 1)) := by
              show _ = _
              cases c with
              | zero => simp [lsI]
              | succ c => rfl
            have HBA : Hid (Blk wr w.heap.size [.slice (some ⟨gq, 0, none⟩) n cq]) := BA.step HB
            go_upto_region 9 with fail
            revert NX q0 q1 q2 q3 hlI
            generalize lsI (upP n p) (c - 1) = l
            intro q0 q1 hlI q2 q3 NX
            have X5 := Blk.new wr [.int .i64 (upP n p c).1, .int .i64 (upP n p c).2] 38 rfl
            have X1 := HBA.out.alloc (.cells #[.int .i64 (upP n p c).1, .int .i64 (upP n p c).2] 38)
            have HBN : Below wr.heap.size wr (wr.alloc (.cells #[.int .i64 (upP n p c).1, .int .i64 (upP n p c).2] 38)) := (Below.refl _ _).alloc (Nat.le_refl _) _
            have S2 := (HS.out.step HB).step HBN
            obtain ⟨A, off, e, hA3, q4, q5⟩ := S2 l (by omega)
            cases e
            rw [Nat.zero_add] at q4 q5
            refine fmI (A1 := w.heap.size) (g := gq) (n := n) (cap := cq) (f := l) (x := (upP n p c).1) (y := (upP n p c).2) (u := (upP n p l).1) (t := (upP n p l).2) (b := lessI (upP n p c).1 (upP n p c).2 (upP n p l).1 (upP n p l).2) (A5 := wr.heap.size) hlI (fun w' => isAhead_any _ _ _ _ _ rfl w') rfl rfl rfl (X5.c 0 rfl) X5.lt (X5.c 1 rfl) X5.lt (X1.c 0 rfl) X1.lt q4 hA3 q5 hA3 rfl ?_
            rintro ⟨tm, df⟩ Wz hz hdf hoff hV hBz
            simp only at hz hdf hoff hV
            subst hdf
            have htm := tmps_fold [23, 24, 25, 26, 27, 28, 29] tm _ hz hoff
            simp only [List.foldl, List.setIfInBounds_toArray, List.set_cons_zero, List.set_cons_succ] at htm
            clear hz hoff
            have hV2 : tm.getD 29 undef = .bool (lessI (upP n p c).1 (upP n p c).2 (upP n p l).1 (upP n p l).2) := hV
            rw [hV2] at htm
            clear hV hV2
            generalize tm.getD 23 undef = sl0, tm.getD 24 undef = sl1, tm.getD 25 undef = sl2, tm.getD 26 undef = sl3, tm.getD 27 undef = sl4, tm.getD 28 undef = sl5 at htm
            subst htm
            replace HB := (HB.trans (HBN.mono HB.size)).trans (hBz.mono (HB.trans (HBN.mono HB.size)).size)
            clear X5 X1 HBN S2 q0 q1 q2 q3 q4 q5 hBz HBA hA hA2 hA3
            have NX2 := NX.out
            clear NX
            cases hb : lessI (upP n p c).1 (upP n p c).2 (upP n p l).1 (upP n p l).2 with
            | true =>
              rw [hb, if_pos rfl] at NX2
              have NX : Hid (lsI (upP n p) c = c) := NX2
              clear NX2 hb
              go_wp2
              go_roundw
              case rel => exact ⟨c + 1, by omega, by go_num, by rw [Nat.add_sub_cancel, NX.out], HB⟩
              case measure => simp [intOf]; omega
            | false =>
              rw [hb, if_neg (by simp)] at NX2
              have NX : Hid (lsI (upP n p) c = l) := NX2
              clear NX2 hb
              go_wp2
              go_roundw
              case rel => exact ⟨c + 1, by omega, by go_num, by rw [Nat.add_sub_cancel, NX.out], HB⟩
              case measure => simp [intOf]; omega
          · obtain rfl : c = n := by omega
            have hl : lsI (upP c p) (c - 1) ≤ c - 1 := lsI_le _ _
            have HL : Hid (fmP c p = fun k => upP c p ((lsI (upP c p) (c - 1) + k) % c)) := rfl
            have HBA : Hid (Blk wr w.heap.size [.slice (some ⟨gq, 0, none⟩) c cq]) := BA.step HB
            have HBR : Hid (Blk wr (w.heap.size + 1) [.slice none 0 0]) := BR.step HB
            have S2 : Hid (SpIn wr (some ⟨gq, 0, none⟩) c (upP c p)) := HS.out.step HB
            have hcq := HC.out
            have hsz := HSZ.out
            have hsz2 := HB.size
            have HT := HB0.trans (HB.mono HB0.size)
            have hlI : ((lsI (upP c p) (c - 1) : Nat) : Int) < (c : Int) := by omega
            clear HB0 HB BA BR HS
            revert hl HL hlI
            generalize lsI (upP c p) (c - 1) = l
            intro hl HL hlI
            go_upto_region 12 with fail
            refine fmC (B4 := w.heap.size + 2) (R := w.heap.size + 1) (A1 := w.heap.size) (g := gq) (n := c) (cap := cq) (f := l) (q := upP c p) (Lz := spL c (fmP c p)) (by omega) (by omega) (by omega) (by omega) (by omega) hg1 (fun AS w' A S => by rw [HL.out, ← spF_rot _ (by omega)]; exact concat_any AS gq c l _ _ _ (by omega) h12 w' A S) rfl rfl rfl (HBA.out.c 0 rfl) (by simp) rfl ⟨S2.out, _, HBR.out.drew⟩ ?_
            rintro ⟨tm, df⟩ Wz hz hdf hoff ⟨go, c', F0, F1⟩ hBz _
            simp only at hz hdf hoff
            subst hdf
            have htm := tmps_fold [32, 33, 34, 35, 36, 37, 38, 39, 40, 41, 42] tm _ hz hoff
            simp only [List.foldl, List.setIfInBounds_toArray, List.set_cons_zero, List.set_cons_succ] at htm
            clear hz hoff
            generalize tm.getD 32 undef = sl0, tm.getD 33 undef = sl1, tm.getD 34 undef = sl2, tm.getD 35 undef = sl3, tm.getD 36 undef = sl4, tm.getD 37 undef = sl5, tm.getD 38 undef = sl6, tm.getD 39 undef = sl7, tm.getD 40 undef = sl8, tm.getD 41 undef = sl9, tm.getD 42 undef = sl10 at htm
            subst htm
            have HF : Hid (RingP (tuN c p) (fmP c p) w (.returned (.agg #[.slice go c c'])) Wz) := by
              rw [HN.out]
              exact ⟨_, rfl, (SpOwn.of F1).mono (by omega), HT.trans (hBz.mono (by omega))⟩
            have r0 := F0.c 0 rfl; have rf := F0.f 0 rfl
            clear F0 F1 hBz HT S2 HBA HBR
            go_wp2
            refine bodyPost_ret (v := .agg #[.slice go c c']) (by simp [results, Try.results10, go_sem, r0]) rfl ?_
            exact HF.out
  · rw [decide_eq_false h]
    have HN : Hid (tuN n p = 0) := by show _ = _; unfold tuN; rw [if_neg h]
    have r0 := BR.c 0 rfl; have rf := BR.f 0 rfl
    clear h R BA BR
    go_wp2
    refine bodyPost_ret (v := .agg #[.slice none 0 0]) (by simp [results, Try.results10, go_sem, r0]) rfl ?_
    rw [HN.out]
    exact ⟨_, rfl, .inl ⟨rfl, rfl⟩, HB0.setCell (by simp) _⟩
end Go.Proofs.Ytbhhegmlfclhbaa

/- The sides of a ring as a row: the program's walk. -/
namespace Go.Proofs.Ytbhhegmlfclhbaa
open Go.RowKit Go.Shelf
attribute [local go_sem] Oper.semAt_some
theorem rgF_facts {n : Nat} {p : Ps} (h : rgF n p = 0) : 3 ≤ n ∧ n ≤ 12 ∧ (∀ i, i < n → spotOk (p i).1 (p i).2 = true) ∧ OneN n p := by
  unfold rgF at h
  split at h
  · cases h
  split at h
  · cases h
  split at h
  · cases h
  rename_i h3
  split at h
  · cases h
  rename_i h4
  exact ⟨by omega, by omega, Classical.not_not.1 h3, Classical.not_not.1 h4⟩
/-- The cells of some sides, one behind the other. -/
def sdC (n : Nat) (p : Ps) (pre : List (Fin n)) : List Value := pre.flatMap fun x => [.int .i64 (sdA n p x.1).1, .int .i64 (sdA n p x.1).2.1, .int .i64 (sdA n p x.1).2.2.1, .int .i64 (sdA n p x.1).2.2.2]
theorem sdC_snoc (n : Nat) (p : Ps) (pre : List (Fin n)) (x : Fin n) : sdC n p (pre ++ [x]) = sdC n p pre ++ [.int .i64 (sdA n p x.1).1, .int .i64 (sdA n p x.1).2.1, .int .i64 (sdA n p x.1).2.2.1, .int .i64 (sdA n p x.1).2.2.2] := by simp [sdC]
theorem Try.infoSeg2 : (Try.prog.info? 50).map (fun i => (i.zero, i.size, i.bytes)) = some (some (.agg #[.int .i64 0, .int .i64 0, .int .i64 0, .int .i64 0]), 4, 32) := by kernel_rfl
theorem own_mono {w : World} {b b' n : Nat} {e : TypeId} {size : Nat} {v : Value} {xs : List Value} (h : w.ownsRow b' e size v n xs) (hb : b ≤ b') : w.ownsRow b e size v n xs := by
  rcases h with ⟨h0, h1 | ⟨g, cap, cur, h1, h2, h3⟩⟩
  · exact ⟨h0, .inl h1⟩
  · exact ⟨h0, .inr ⟨g, cap, cur, h1, Nat.le_trans hb h2, h3⟩⟩
/-- A slice of the call's own, with these cells, four a piece. -/
def SdP (m : Nat) (cs : List Value) (w : World) (e : Ending) (w' : World) : Prop := ∃ v, e = .returned v ∧ w'.ownsRow w.heap.size 50 4 v m cs ∧ Below w.heap.size w w'
theorem cell_four_new (w : World) (a b c d : Value) (t : TypeId) : ∀ j u, [a, b, c, d][j]? = some u → (w.alloc (.cells #[a, b, c, d] t)).cell? ((⟨w.heap.size, 0, none⟩ : Addr).add j) = some u := by
  intro j u hj
  match j, hj with
  | 0, hj => simp at hj; subst hj; simp [Addr.add]
  | 1, hj => simp at hj; subst hj; simp [Addr.add]
  | 2, hj => simp at hj; subst hj; simp [Addr.add]
  | 3, hj => simp at hj; subst hj; simp [Addr.add]
  | j + 4, hj => simp at hj
theorem one_cell4 (x y z t : Int) : ∀ u ∈ [Value.int .i64 x, Value.int .i64 y, Value.int .i64 z, Value.int .i64 t], u.oneCell' = true := by
  intro u hu
  simp only [List.mem_cons, List.not_mem_nil, or_false] at hu
  rcases hu with rfl | rfl | rfl | rfl <;> rfl
set_option maxRecDepth 100000 in
set_option maxHeartbeats 8000000 in
theorem implSegs_any (ao : Option Addr) (n cap : Nat) (p : Ps) (hn : n ≤ 1048576) (hcap : n ≤ cap) (hcap2 : cap ≤ 9223372036854775807) (h0 : rgF n p = 0) (w : World) (hS : SpIn w ao n p) : Calls Try.prog 11 #[.agg #[.slice ao n cap]] w (SdP n (sdC n p (List.finRange n)) w) := by
  obtain ⟨hn3, hn12, hok, hone⟩ := rgF_facts h0
  have C := fun w h => rright_any ao n cap p hn hcap hcap2 w h
  rw [decide_eq_true h0] at C
  have HS := hS.step ((Below.refl _ _).alloc (Nat.le_refl _) (.cells #[.slice ao n cap] 26))
  have b0 := Blk.new w [.slice ao n cap] 26 rfl
  refine (callsIn_wide (n := 12)).1 ?_
  refine callsIn_of_wp_marks Try.func11 rfl trivial ?_ rfl
  simp only [Try.ntmps11, List.size_toArray, List.length_cons, List.length_nil, Nat.reduceAdd, Nat.reduceSub, Array.replicate_succ, Array.replicate_zero, List.push_toArray, List.append_toArray, List.nil_append, List.cons_append]
  gi_wp2_with (first
    | (refine ⟨trivial, ?_⟩; gi_at_call 22; refine (callsIn_wide.2 (C _ HS)).mono ?_; rintro e w1 ⟨rfl, hB1⟩; have b1 := b0.step hB1; have c1 := b1.c 0 rfl; have l1 := b1.lt)
    | (refine ⟨trivial, ?_⟩; gi_at_call 27; refine (callsIn_wide.2 (sides_any _ _ _ _)).mono ?_; rintro e w' ⟨rfl, rfl⟩))
  have HBw : Below w.heap.size w w1 := ((Below.refl _ _).alloc (Nat.le_refl _) _).trans (hB1.mono (by simp))
  have bS := (Boxed.new w1 31 (.slice none 0 0)).alloc (.cells #[.slice ao n cap] 26)
  have bN := Boxed.new (w1.alloc (.cells #[.slice none 0 0] 31)) 26 (.slice ao n cap)
  simp only [World.size_alloc] at bN
  have hB0 : Below w.heap.size w ((w1.alloc (.cells #[.slice none 0 0] 31)).alloc (.cells #[.slice ao n cap] 26)) := (HBw.alloc HBw.size _).alloc (Nat.le_trans HBw.size (by simp)) _
  have hsz : ((w1.alloc (.cells #[.slice none 0 0] 31)).alloc (.cells #[.slice ao n cap] 26)).heap.size = w1.heap.size + 2 := by simp
  obtain ⟨W0, hW0⟩ : ∃ W0, ((w1.alloc (.cells #[.slice none 0 0] 31)).alloc (.cells #[.slice ao n cap] 26)) = W0 := ⟨_, rfl⟩
  rw [hW0] at bS bN hB0 hsz ⊢
  clear hW0
  have hS0 : SpB w.heap.size W0 ao n p := (hS.low).keep (fun k hk => hB0.block k hk)
  obtain ⟨i0, hi, hz0, hz1, hz2⟩ := info_parts Try.infoSeg2
  clear C HS b0 hB1 b1 c1
  refine wpIn_rangeFunc_ownH rfl (by omega) (gf := 49) (lb := #[.pointer (some ⟨w1.heap.size + 1, 0, none⟩)]) rfl trivial (enters_of Try.func49 (by kernel_rfl) rfl)
    (sides_stops (12 - 1) w.heap.size (w1.heap.size + 1) ao n cap p hn3 hn12 hok hone W0 (by omega) (by omega) bN.cell hS0) (fun h k => h.trans k) (KpB.put (by omega) (by omega)) (Below.refl _ _) (fun _ => rfl)
    (fun pre W => (∃ v, Boxed W w1.heap.size 31 v ∧ W.ownsRow W0.heap.size 50 4 v pre.length (sdC n p pre) ∧ True) ∧ Below w.heap.size w W ∧ W0.heap.size ≤ W.heap.size)
    (fun _ _ _ => False)
    (OwnFrom.and (Own.from (holdsRow_own W0.heap.size w1.heap.size 31 50 4 (fun pre : List (Fin n) => pre.length) (fun pre => sdC n p pre) (fun _ _ => True)) _) (OwnFrom.and (ownFrom_below (Nat.le_refl _) (by omega)) (fun _ X Y row hs hg _ => Nat.le_trans hs hg.size)))
    (fun _ _ _ _ _ hs _ _ => hs.elim)
    ⟨⟨_, bS, World.ownsRow_nil _ _ _ _, trivial⟩, hB0, Nat.le_refl _⟩
    (fun x a' W => ∃ Bs, BoxV W Bs 50 [.int .i64 (sdA n p x.1).1, .int .i64 (sdA n p x.1).2.1, .int .i64 (sdA n p x.1).2.2.1, .int .i64 (sdA n p x.1).2.2.2] ∧ a' = { tmps := #[.agg #[.slice ao n cap], .pointer (some ⟨w.heap.size, 0, none⟩), .slice none 0 0, .pointer (some ⟨w1.heap.size, 0, none⟩), undef, .pointer (some ⟨Bs, 0, none⟩), .agg #[.slice ao n cap], .bool true, .bool false, .agg #[.slice ao n cap], .func (.func 49) #[] #[.pointer (some ⟨w1.heap.size + 1, 0, none⟩)], .int .i64 (x.1 : Int), .agg #[.int .i64 (sdA n p x.1).1, .int .i64 (sdA n p x.1).2.1, .int .i64 (sdA n p x.1).2.2.1, .int .i64 (sdA n p x.1).2.2.2], undef, undef, undef, undef, undef], defers := [] })
    (fun x a' _ X Y row hs hg hr => by obtain ⟨Bs, e4, e5⟩ := hs; exact ⟨Bs, boxV_own Bs 50 (fun (_ : Unit) => [.int .i64 (sdA n p x.1).1, .int .i64 (sdA n p x.1).2.1, .int .i64 (sdA n p x.1).2.2.1, .int .i64 (sdA n p x.1).2.2.2]) () X Y row e4 hg (fun r e => (hr r e).2), e5⟩)
    ?assign ?body ?done ?stop
  case assign =>
    rintro l pre x W K ⟨⟨v, hv, hr, _⟩, hB1, hs1⟩ hK
    unfold enS
    gi_wp2
    have hB2 : Below W.heap.size W (W.alloc (.cells #[.int .i64 (sdA n p x.1).1, .int .i64 (sdA n p x.1).2.1, .int .i64 (sdA n p x.1).2.2.1, .int .i64 (sdA n p x.1).2.2.2] 50)) := (Below.refl _ W).alloc (Nat.le_refl _) _
    have hsW := hB1.size
    have b2 := BoxV.new W 50 [.int .i64 (sdA n p x.1).1, .int .i64 (sdA n p x.1).2.1, .int .i64 (sdA n p x.1).2.2.1, .int .i64 (sdA n p x.1).2.2.2]
    exact hK _ _ (below_keeps hB2) (KpB.of hB2 (by omega) (by omega)) ⟨⟨v, hv.alloc _, hr.alloc _, trivial⟩, hB1.trans (hB2.mono hB1.size), Nat.le_trans hs1 hB2.size⟩ ⟨_, b2, rfl⟩
  case body =>
    rintro l pre x a' W hl ⟨r, hr0⟩ ⟨⟨v, hv, hr, _⟩, hB1, hs1⟩ ⟨Bs, bB, rfl⟩ hlt
    have cv := hv.cell
    have s0 := bB.blk.c 0 rfl; have s1 := bB.blk.c 1 rfl; have s2 := bB.blk.c 2 rfl; have s3 := bB.blk.c 3 rfl
    gi_wp2_with (gi_at_builtin; refine wpListIn_append_own _ rfl _ _ 31 rfl W0.heap.size 50 i0 (.agg #[.int .i64 0, .int .i64 0, .int .i64 0, .int .i64 0]) 4 32 Try.underlying31 hi hz0 hz1 hz2 rfl (by decide) _ _ _ rfl (hr.alloc _) ⟨W.heap.size, 0, none⟩ 1 1 [.int .i64 (sdA n p x.1).1, .int .i64 (sdA n p x.1).2.1, .int .i64 (sdA n p x.1).2.2.1, .int .i64 (sdA n p x.1).2.2.2] rfl rfl (cell_four_new _ _ _ _ _ _) (one_cell4 _ _ _ _) (by unfold maxLen; omega) (by omega) (by simp; omega) ?_)
    intro v' w2 hown' hgrow hnn
    obtain ⟨g', cap', rfl⟩ := ownsRow_succ hown'
    have hvo : ∀ j, v.ownBlock = some j → w1.heap.size + 2 ≤ j := fun j hj => by have := (hr.lt j hj).1; omega
    have hblk : ∀ k, k < w1.heap.size + 2 → w2.heap[k]? = W.heap[k]? := fun k hk => (hgrow.block k (by simp; omega) (fun e => by have := hvo k e.symm; omega)).trans (Below.heap_alloc W _ k (by omega))
    have hv1 : Boxed w2 w1.heap.size 31 v := (hblk _ (by omega)).trans hv
    have c1 := hv1.cell
    have f1 := hv1.frozen
    have hBN : Below w.heap.size w w2 := (hB1.alloc hB1.size _).grown hgrow (by simp; have := hB1.size; omega) (fun j hj => by have := hvo j hj; omega)
    have hgs := hgrow.size
    simp only [World.size_alloc] at hgs
    have KO := ((KeepsOthers.alloc W (.cells #[.int .i64 (sdA n p x.1).1, .int .i64 (sdA n p x.1).2.1, .int .i64 (sdA n p x.1).2.2.1, .int .i64 (sdA n p x.1).2.2.2] 50)).trans (KeepsOthers.of_grownBy hgrow fun j o ej hj => by
      rcases (hr.alloc (.cells #[.int .i64 (sdA n p x.1).1, .int .i64 (sdA n p x.1).2.1, .int .i64 (sdA n p x.1).2.2.1, .int .i64 (sdA n p x.1).2.2.2] 50)).2 with ⟨rfl, _⟩ | ⟨g, cap, cur, rfl, _, hgb, _⟩
      · simp [Value.ownBlock] at ej
      · obtain rfl : g = j := by simpa [Value.ownBlock] using ej
        rw [hgb] at hj; cases hj; rfl)).trans (KeepsOthers.setCell w2 ⟨w1.heap.size, 0, none⟩ (.slice (some ⟨g', 0, none⟩) (pre.length + 1) cap'))
    have HFIN : Hid (KeepsFrom W0.heap.size W (w2.setCell ⟨w1.heap.size, 0, none⟩ (.slice (some ⟨g', 0, none⟩) (pre.length + 1) cap')) ∧ KpB w.heap.size (w1.heap.size + 1) W (w2.setCell ⟨w1.heap.size, 0, none⟩ (.slice (some ⟨g', 0, none⟩) (pre.length + 1) cap')) ∧ ((∃ v, Boxed (w2.setCell ⟨w1.heap.size, 0, none⟩ (.slice (some ⟨g', 0, none⟩) (pre.length + 1) cap')) w1.heap.size 31 v ∧ (w2.setCell ⟨w1.heap.size, 0, none⟩ (.slice (some ⟨g', 0, none⟩) (pre.length + 1) cap')).ownsRow W0.heap.size 50 4 v (pre ++ [x]).length (sdC n p (pre ++ [x])) ∧ True) ∧ Below w.heap.size w (w2.setCell ⟨w1.heap.size, 0, none⟩ (.slice (some ⟨g', 0, none⟩) (pre.length + 1) cap')) ∧ W0.heap.size ≤ (w2.setCell ⟨w1.heap.size, 0, none⟩ (.slice (some ⟨g', 0, none⟩) (pre.length + 1) cap')).heap.size)) := by
      refine ⟨KO.from _, ⟨by simp [World.setCell]; omega, fun k hk => (Below.heap_setCell _ _ _ _ (by show k ≠ w1.heap.size; omega)).trans (hblk k (by omega)), (Below.heap_setCell _ _ _ _ (by show w1.heap.size + 1 ≠ w1.heap.size; omega)).trans (hblk _ (by omega))⟩, ⟨_, hv1.set _, ?_, trivial⟩, hBN.setCell (by show w.heap.size ≤ w1.heap.size; omega) _, by simp [World.setCell]; omega⟩
      rw [sdC_snoc, List.length_append]
      refine ownsRow_setCell_below ?_ (by show w1.heap.size < W0.heap.size; omega) _
      rw [hsz]
      exact hown'
    clear KO hBN hgs hvo hblk hown' hgrow hnn s0 s1 s2 s3 cv
    gi_wp2
    exact HFIN.out
  case done =>
    rintro D zs W hD rfl ⟨⟨v, hv, hr, _⟩, hB1, hs1⟩ hK
    rw [List.length_finRange] at hr
    obtain ⟨g', cap', rfl⟩ : ∃ g cap, v = .slice (some ⟨g, 0, none⟩) n cap := by
      rcases hr.2 with ⟨_, h⟩ | ⟨g, c, _, h, _⟩
      · omega
      · exact ⟨g, c, h⟩
    have cR := hv.cell
    have HR : Hid (W.ownsRow W0.heap.size 50 4 (.slice (some ⟨g', 0, none⟩) n cap') n (sdC n p (List.finRange n))) := hr
    clear hr hv
    gi_wp2
    refine ⟨by simp, .inl ⟨_, _, rfl, run_takeDeferred hK, ?_⟩⟩
    refine ⟨.slice (some ⟨g', 0, none⟩) n cap', ?_, _, rfl, own_mono (ownsRow_putObj HR.out _ hK rfl) (by omega), hB1.trans (belowK_b (w := w) (Nat.le_refl _) _ D _ _ (by omega) hK rfl rfl)⟩
    simp [results, Try.results11, go_sem]
  case stop =>
    rintro D c pre W hD hpre hF hK
    exact hF.elim
end Go.Proofs.Ytbhhegmlfclhbaa

/- The sides of a ring as a row: both sides' answers. -/
namespace Go.Proofs.Ytbhhegmlfclhbaa
open Go.RowKit
def sgCs (n : Nat) (p : Ps) : List Value := if rgF n p = 0 then sdC n p (List.finRange n) else []
set_option maxRecDepth 100000 in
set_option maxHeartbeats 2000000 in
theorem implSegs_all (ao : Option Addr) (n cap : Nat) (p : Ps) (hn : n ≤ 1048576) (hcap : n ≤ cap) (hcap2 : cap ≤ 9223372036854775807) (w : World) (hS : SpIn w ao n p) : Calls Try.prog 11 #[.agg #[.slice ao n cap]] w (SdP (tuN n p) (sgCs n p) w) := by
  by_cases h0 : rgF n p = 0
  · unfold tuN sgCs
    rw [if_pos h0, if_pos h0]
    exact implSegs_any ao n cap p hn hcap hcap2 h0 w hS
  · have HN : Hid (tuN n p = 0 ∧ sgCs n p = []) := by
      unfold tuN sgCs
      rw [if_neg h0, if_neg h0]
      exact ⟨rfl, rfl⟩
    have C := fun w h => rright_any ao n cap p hn hcap hcap2 w h
    rw [decide_eq_false h0] at C
    have HS := hS.step ((Below.refl _ _).alloc (Nat.le_refl _) (.cells #[.slice ao n cap] 26))
    have HB : Below w.heap.size w (w.alloc (.cells #[.slice ao n cap] 26)) := (Below.refl _ _).alloc (Nat.le_refl _) _
    clear hS h0
    go_enter Try.func11, Try.ntmps11
    go_wp2_with fail
    refine (C _ HS).mono ?_
    rintro e w1 ⟨rfl, hB⟩
    replace HB := HB.trans (hB.mono HB.size)
    clear hB C HS
    go_wp2
    go_ret
    rw [HN.out.1, HN.out.2]
    exact ⟨_, rfl, World.ownsRow_nil _ _ _ _, HB⟩
end Go.Proofs.Ytbhhegmlfclhbaa

/- Two rings of the same spots are the same: the laws' own helper. -/
namespace Go.Proofs.Ytbhhegmlfclhbaa
open Go.RowKit
def VsmR (B1 B2 A off n ca D of2 cb cx : Nat) (x y : Int) (_B : Nat) : Nat → Value → World → Prop
  | 0, v, _ => v = .pointer (some ⟨B1, 0, none⟩)
  | 1, v, _ => v = .slice (some ⟨A, off, none⟩) n ca
  | 2, v, _ => v = .int .i64 (cx : Nat)
  | 3, v, _ => v = .pointer (some ⟨A, off + cx * 2, none⟩)
  | 4, v, _ => v = .agg #[.int .i64 x, .int .i64 y]
  | 5, v, _ => v = .pointer (some ⟨B2, 0, none⟩)
  | 6, v, _ => v = .slice (some ⟨D, of2, none⟩) n cb
  | 7, v, _ => v = .int .i64 (cx : Nat)
  | 8, v, _ => v = .pointer (some ⟨D, of2 + cx * 2, none⟩)
  | 9, v, _ => v = .agg #[.int .i64 x, .int .i64 y]
  | 10, v, _ => v = .bool false
  | _, _, _ => True
theorem VsmR.mono {B1 B2 A off n ca D of2 cb cx : Nat} {x y : Int} {B j : Nat} {v : Value} {W W2 : World} (_hB : Below W.heap.size W W2) (h : VsmR B1 B2 A off n ca D of2 cb cx x y B j v W) : VsmR B1 B2 A off n ca D of2 cb cx x y B j v W2 := by
  unfold VsmR at *
  split <;> simp only at h <;> first | exact h | trivial
set_option maxRecDepth 100000 in
set_option maxHeartbeats 4000000 in
theorem smR {Q : Exit → Act → World → Prop} {B1 B2 A off n ca D of2 cb cx : Nat} {x y : Int}  {w0 : World} {a0 : Act} {idq : Nat} {t0 t1 t2 t3 t4 t5 t6 t7 t8 t9 t10 : TypeId} {q0 q1 q2 q3 q4 q5 q6 q7 q8 q9 q10 : String}
    (cn : (cx : Int) < (n : Int)) (hE : ∀ w', (Op.equalIn 10000 38 (.agg #[.int .i64 x, .int .i64 y]) (.agg #[.int .i64 x, .int .i64 y])).run Try.prog w' = .ok true w') (h2 : a0.tmps[2]? = some (.pointer (some ⟨B1, 0, none⟩))) (h3 : a0.tmps[3]? = some (.pointer (some ⟨B2, 0, none⟩))) (h5 : a0.tmps[5]? = some (.int .i64 (cx : Nat))) (k0 : w0.cell? ⟨B1, 0, none⟩ = some (.slice (some ⟨A, off, none⟩) n ca)) (l0 : (⟨B1, 0, none⟩ : Addr).block < w0.heap.size) (k1 : w0.cell? ⟨B2, 0, none⟩ = some (.slice (some ⟨D, of2, none⟩) n cb)) (l1 : (⟨B2, 0, none⟩ : Addr).block < w0.heap.size) (k2 : w0.cell? ⟨A, off + cx * 2, none⟩ = some (.int .i64 x)) (l2 : (⟨A, off + cx * 2, none⟩ : Addr).block < w0.heap.size) (k3 : w0.cell? ⟨A, off + cx * 2 + 1, none⟩ = some (.int .i64 y)) (l3 : (⟨A, off + cx * 2 + 1, none⟩ : Addr).block < w0.heap.size) (k4 : w0.cell? ⟨D, of2 + cx * 2, none⟩ = some (.int .i64 x)) (l4 : (⟨D, of2 + cx * 2, none⟩ : Addr).block < w0.heap.size) (k5 : w0.cell? ⟨D, of2 + cx * 2 + 1, none⟩ = some (.int .i64 y)) (l5 : (⟨D, of2 + cx * 2 + 1, none⟩ : Addr).block < w0.heap.size) (hz : a0.tmps.size = 31)
    (hQ : ∀ aq W, aq.tmps.size = a0.tmps.size → aq.defers = a0.defers → (∀ e, e ∉ ([20, 21, 22, 23, 24, 25, 26, 27, 28, 29, 30] : List Nat) → aq.tmps[e]? = a0.tmps[e]?) → VsmR B1 B2 A off n ca D of2 cb cx x y w0.heap.size 10 (aq.tmps.getD 30 undef) W → Below w0.heap.size w0 W → Q .normal aq W) :
    (Code.region idq #[{ dst := some 20, op := Op.fieldAddr 26 (Operand.tmp 2) 0, type := t0, pos := q0, after := #[], guard := none },
    { dst := some 21, op := Op.load 24 (Operand.tmp 20), type := t1, pos := q1, after := #[{ on := 0, ground := Ground.data }], guard := none },
    { dst := some 22, op := Op.move (Operand.tmp 5), type := t2, pos := q2, after := #[], guard := none },
    { dst := some 23, op := Op.indexAddr 24 (Operand.tmp 21) (Operand.tmp 22), type := t3, pos := q3, after := #[{ on := 1, ground := Ground.data }, { on := 2, ground := Ground.data }], guard := none },
    { dst := some 24, op := Op.load 38 (Operand.tmp 23), type := t4, pos := q4, after := #[{ on := 3, ground := Ground.data }], guard := none },
    { dst := some 25, op := Op.fieldAddr 26 (Operand.tmp 3) 0, type := t5, pos := q5, after := #[], guard := none },
    { dst := some 26, op := Op.load 24 (Operand.tmp 25), type := t6, pos := q6, after := #[{ on := 5, ground := Ground.data }], guard := none },
    { dst := some 27, op := Op.move (Operand.tmp 5), type := t7, pos := q7, after := #[], guard := none },
    { dst := some 28, op := Op.indexAddr 24 (Operand.tmp 26) (Operand.tmp 27), type := t8, pos := q8, after := #[{ on := 6, ground := Ground.data }, { on := 7, ground := Ground.data }], guard := none },
    { dst := some 29, op := Op.load 38 (Operand.tmp 28), type := t9, pos := q9, after := #[{ on := 8, ground := Ground.data }], guard := none },
    { dst := some 30, op := Op.binOp BinOp.neq 38 (Operand.tmp 24) (Operand.tmp 29) 38, type := t10, pos := q10, after := #[{ on := 4, ground := Ground.data }, { on := 9, ground := Ground.data }], guard := none }] true).wp Try.prog Q a0 w0 := by
  have hS : distS [some 20, some 21, some 22, some 23, some 24, some 25, some 26, some 27, some 28, some 29, some 30] = true := rfl
  refine wp_region_q (by kernel_rfl) w0.heap.size [some 20, some 21, some 22, some 23, some 24, some 25, some 26, some 27, some 28, some 29, some 30] (VsmR B1 B2 A off n ca D of2 cb cx x y w0.heap.size) rfl ?_ ?_
  · intro Q lq aq W iq oq hJ hl ho hall
    have hJ2 := hJ
    obtain ⟨z1, z2, z3, z4, z5, z6, z7⟩ := hJ
    have g2 : aq.tmps.getD 2 undef = .pointer (some ⟨B1, 0, none⟩) := by rw [Array.getD_eq_getD_getElem?, z4 2 (by decide), h2]; rfl
    have g3 : aq.tmps.getD 3 undef = .pointer (some ⟨B2, 0, none⟩) := by rw [Array.getD_eq_getD_getElem?, z4 3 (by decide), h3]; rfl
    have g5 : aq.tmps.getD 5 undef = .int .i64 (cx : Nat) := by rw [Array.getD_eq_getD_getElem?, z4 5 (by decide), h5]; rfl
    have c0 : W.cell? ⟨B1, 0, none⟩ = some (.slice (some ⟨A, off, none⟩) n ca) := (z5.cell l0).trans k0
    have c1 : W.cell? ⟨B2, 0, none⟩ = some (.slice (some ⟨D, of2, none⟩) n cb) := (z5.cell l1).trans k1
    have c2 : W.cell? ⟨A, off + cx * 2, none⟩ = some (.int .i64 x) := (z5.cell l2).trans k2
    have c3 : W.cell? ⟨A, off + cx * 2 + 1, none⟩ = some (.int .i64 y) := (z5.cell l3).trans k3
    have c4 : W.cell? ⟨D, of2 + cx * 2, none⟩ = some (.int .i64 x) := (z5.cell l4).trans k4
    have c5 : W.cell? ⟨D, of2 + cx * 2 + 1, none⟩ = some (.int .i64 y) := (z5.cell l5).trans k5
    match iq, ho with
    | 0, ho =>
      cases ho
      refine wpOp_of rfl rfl ?_
      have hK := fun (v : Value) (W2 : World) hW hT hv => hJ2.put hS 0 20 rfl (by omega) (W' := W2) hW hT v hv
      clear ho hall hl hQ
      generalize InvQ _ _ _ w0 a0 (lq.setIfInBounds 0 true) = K at hK ⊢
      clear hJ2 hS z1 z2 z3 z4 z6 z7
      go_simp
      exact hK _ _ z5 (fun _ _ h => h) rfl
    | 1, ho =>
      cases ho
      refine wpOp_of rfl rfl ?_
      have f0 : (aq.tmps.getD 20 undef) = .pointer (some ⟨B1, 0, none⟩) := z6 0 20 (hall { on := 0, ground := Ground.data } (by simp) rfl) rfl
      have hK := fun (v : Value) (W2 : World) hW hT hv => hJ2.put hS 1 21 rfl (by omega) (W' := W2) hW hT v hv
      clear ho hall hl hQ
      generalize InvQ _ _ _ w0 a0 (lq.setIfInBounds 1 true) = K at hK ⊢
      clear hJ2 hS z1 z2 z3 z4 z6 z7
      go_simp
      exact hK _ _ z5 (fun _ _ h => h) rfl
    | 2, ho =>
      cases ho
      refine wpOp_of rfl rfl ?_
      have hK := fun (v : Value) (W2 : World) hW hT hv => hJ2.put hS 2 22 rfl (by omega) (W' := W2) hW hT v hv
      clear ho hall hl hQ
      generalize InvQ _ _ _ w0 a0 (lq.setIfInBounds 2 true) = K at hK ⊢
      clear hJ2 hS z1 z2 z3 z4 z6 z7
      go_simp
      exact hK _ _ z5 (fun _ _ h => h) rfl
    | 3, ho =>
      cases ho
      refine wpOp_of rfl rfl ?_
      have f1 : (aq.tmps.getD 21 undef) = .slice (some ⟨A, off, none⟩) n ca := z6 1 21 (hall { on := 1, ground := Ground.data } (by simp) rfl) rfl
      have f2 : (aq.tmps.getD 22 undef) = .int .i64 (cx : Nat) := z6 2 22 (hall { on := 2, ground := Ground.data } (by simp) rfl) rfl
      have hK := fun (v : Value) (W2 : World) hW hT hv => hJ2.put hS 3 23 rfl (by omega) (W' := W2) hW hT v hv
      clear ho hall hl hQ
      generalize InvQ _ _ _ w0 a0 (lq.setIfInBounds 3 true) = K at hK ⊢
      clear hJ2 hS z1 z2 z3 z4 z6 z7
      go_simp
      exact hK _ _ z5 (fun _ _ h => h) rfl
    | 4, ho =>
      cases ho
      refine wpOp_of rfl rfl ?_
      have f3 : (aq.tmps.getD 23 undef) = .pointer (some ⟨A, off + cx * 2, none⟩) := z6 3 23 (hall { on := 3, ground := Ground.data } (by simp) rfl) rfl
      have hK := fun (v : Value) (W2 : World) hW hT hv => hJ2.put hS 4 24 rfl (by omega) (W' := W2) hW hT v hv
      clear ho hall hl hQ
      generalize InvQ _ _ _ w0 a0 (lq.setIfInBounds 4 true) = K at hK ⊢
      clear hJ2 hS z1 z2 z3 z4 z6 z7
      go_simp
      exact hK _ _ z5 (fun _ _ h => h) rfl
    | 5, ho =>
      cases ho
      refine wpOp_of rfl rfl ?_
      have hK := fun (v : Value) (W2 : World) hW hT hv => hJ2.put hS 5 25 rfl (by omega) (W' := W2) hW hT v hv
      clear ho hall hl hQ
      generalize InvQ _ _ _ w0 a0 (lq.setIfInBounds 5 true) = K at hK ⊢
      clear hJ2 hS z1 z2 z3 z4 z6 z7
      go_simp
      exact hK _ _ z5 (fun _ _ h => h) rfl
    | 6, ho =>
      cases ho
      refine wpOp_of rfl rfl ?_
      have f5 : (aq.tmps.getD 25 undef) = .pointer (some ⟨B2, 0, none⟩) := z6 5 25 (hall { on := 5, ground := Ground.data } (by simp) rfl) rfl
      have hK := fun (v : Value) (W2 : World) hW hT hv => hJ2.put hS 6 26 rfl (by omega) (W' := W2) hW hT v hv
      clear ho hall hl hQ
      generalize InvQ _ _ _ w0 a0 (lq.setIfInBounds 6 true) = K at hK ⊢
      clear hJ2 hS z1 z2 z3 z4 z6 z7
      go_simp
      exact hK _ _ z5 (fun _ _ h => h) rfl
    | 7, ho =>
      cases ho
      refine wpOp_of rfl rfl ?_
      have hK := fun (v : Value) (W2 : World) hW hT hv => hJ2.put hS 7 27 rfl (by omega) (W' := W2) hW hT v hv
      clear ho hall hl hQ
      generalize InvQ _ _ _ w0 a0 (lq.setIfInBounds 7 true) = K at hK ⊢
      clear hJ2 hS z1 z2 z3 z4 z6 z7
      go_simp
      exact hK _ _ z5 (fun _ _ h => h) rfl
    | 8, ho =>
      cases ho
      refine wpOp_of rfl rfl ?_
      have f6 : (aq.tmps.getD 26 undef) = .slice (some ⟨D, of2, none⟩) n cb := z6 6 26 (hall { on := 6, ground := Ground.data } (by simp) rfl) rfl
      have f7 : (aq.tmps.getD 27 undef) = .int .i64 (cx : Nat) := z6 7 27 (hall { on := 7, ground := Ground.data } (by simp) rfl) rfl
      have hK := fun (v : Value) (W2 : World) hW hT hv => hJ2.put hS 8 28 rfl (by omega) (W' := W2) hW hT v hv
      clear ho hall hl hQ
      generalize InvQ _ _ _ w0 a0 (lq.setIfInBounds 8 true) = K at hK ⊢
      clear hJ2 hS z1 z2 z3 z4 z6 z7
      go_simp
      exact hK _ _ z5 (fun _ _ h => h) rfl
    | 9, ho =>
      cases ho
      refine wpOp_of rfl rfl ?_
      have f8 : (aq.tmps.getD 28 undef) = .pointer (some ⟨D, of2 + cx * 2, none⟩) := z6 8 28 (hall { on := 8, ground := Ground.data } (by simp) rfl) rfl
      have hK := fun (v : Value) (W2 : World) hW hT hv => hJ2.put hS 9 29 rfl (by omega) (W' := W2) hW hT v hv
      clear ho hall hl hQ
      generalize InvQ _ _ _ w0 a0 (lq.setIfInBounds 9 true) = K at hK ⊢
      clear hJ2 hS z1 z2 z3 z4 z6 z7
      go_simp
      exact hK _ _ z5 (fun _ _ h => h) rfl
    | 10, ho =>
      cases ho
      refine wpOp_of rfl rfl ?_
      have f4 : (aq.tmps.getD 24 undef) = .agg #[.int .i64 x, .int .i64 y] := z6 4 24 (hall { on := 4, ground := Ground.data } (by simp) rfl) rfl
      have f9 : (aq.tmps.getD 29 undef) = .agg #[.int .i64 x, .int .i64 y] := z6 9 29 (hall { on := 9, ground := Ground.data } (by simp) rfl) rfl
      rw [Array.getD_eq_getD_getElem?] at f4 f9
      have hK := fun (v : Value) (W2 : World) hW hT hv => hJ2.put hS 10 30 rfl (by omega) (W' := W2) hW hT v hv
      clear ho hall hl hQ
      generalize InvQ _ _ _ w0 a0 (lq.setIfInBounds 10 true) = K at hK ⊢
      clear hJ2 hS z1 z2 z3 z4 z6 z7
      go_simp
      exact hK _ _ z5 (fun _ _ h => h) rfl
    | iq + 11, ho => simp at ho
  · intro lq aq W hJ hr
    obtain ⟨z1, z2, z3, z4, z5, z6, z7⟩ := hJ
    have hl := listed_of hr [0, 1, 2, 3, 4, 5, 6, 7, 8, 9, 10] [] (by simp) (by kernel_rfl) (by rw [z1]; decide)
    exact hQ aq W z2 z3 (fun e he => z4 e (by simpa using he)) (z6 10 30 (hl 10 (by simp)) rfl) z5
set_option maxRecDepth 100000 in
set_option maxHeartbeats 8000000 in
theorem sameRing_any (ao bo : Option Addr) (n ca cb : Nat) (p q : Ps) (hpq : ∀ i, i < n → p i = q i) (hn : n ≤ 1048576) (w : World) (hA : SpIn w ao n p) (hC : SpIn w bo n q) : Calls Try.prog 9 #[.agg #[.slice ao n ca], .agg #[.slice bo n cb]] w (BoolP true w) := by
  have HA : Hid (SpIn w ao n p) := hA
  have HC : Hid (SpIn w bo n q) := hC
  have HP : Hid (∀ i, i < n → p i = q i) := hpq
  have hnI : (n : Int) ≤ 1048576 := by omega
  have T0 : ArgsB w ((w.alloc (.cells #[.slice ao n ca] 26)).alloc (.cells #[.slice bo n cb] 26)) [[.slice ao n ca], [.slice bo n cb]] := ar2 _ _ _ _ w
  clear hA hC hpq
  have hx : ((n : Int) != n) = false := by simp
  have X0 : Blk _ w.heap.size _ := T0.b 0 rfl; have X1 : Blk _ (w.heap.size + 1) _ := T0.b 1 rfl
  have a0 := X0.c 0 rfl; have b0 := X1.c 0 rfl
  go_enter Try.func9, Try.ntmps9
  go_wp2_with fail
  generalize ((w.alloc (.cells #[.slice ao n ca] 26)).alloc (.cells #[.slice bo n cb] 26)) = W0 at *
  go_loopw [5] (fun i wr => ∃ c : Nat, c ≤ n ∧ i = .int .i64 c ∧ Below W0.heap.size W0 wr) (fun i _ => n - (intOf i).toNat)
  case atStart => exact ⟨0, by omega, rfl, Below.refl _ _⟩
  case round =>
    clear a0 b0
    obtain ⟨c, hc, rfl, HB⟩ := hrel
    have HBw := T0.below.trans (HB.mono T0.below.size)
    have Y0 := X0.step HB; have Y1 := X1.step HB
    have a0 := Y0.c 0 rfl
    by_cases hcn : c < n
    · obtain ⟨A, off, rfl, hA, q0, q1⟩ := HA.out.step HBw c hcn
      obtain ⟨D, of2, rfl, hD, r0, r1⟩ := HC.out.step HBw c hcn
      rw [← HP.out c hcn] at r0 r1
      have hcI : (c : Int) < n := by omega
      go_upto_region 6 with fail
      refine smR (B1 := w.heap.size) (B2 := w.heap.size + 1) (A := A) (off := off) (n := n) (ca := ca) (D := D) (of2 := of2) (cb := cb) (cx := c) (x := (p c).1) (y := (p c).2) hcI (fun w' => by have := eqSp (p c).1 (p c).2 (p c).1 (p c).2 w'; simpa using this) rfl rfl rfl (Y0.c 0 rfl) Y0.lt (Y1.c 0 rfl) Y1.lt q0 hA q1 hA r0 hD r1 hD rfl ?_
      rintro ⟨tm, df⟩ w3 hz hdf hoff hV hB1
      simp only at hz hdf hoff hV
      subst hdf
      have hV2 : tm.getD 30 undef = .bool false := hV
      clear hV
      have htm := tmps_fold [20, 21, 22, 23, 24, 25, 26, 27, 28, 29, 30] tm _ hz hoff
      simp only [List.foldl, List.setIfInBounds_toArray, List.set_cons_zero, List.set_cons_succ, hV2] at htm
      clear hz hoff
      generalize tm.getD 20 undef = tz0, tm.getD 21 undef = tz1, tm.getD 22 undef = tz2, tm.getD 23 undef = tz3, tm.getD 24 undef = tz4, tm.getD 25 undef = tz5, tm.getD 26 undef = tz6, tm.getD 27 undef = tz7, tm.getD 28 undef = tz8, tm.getD 29 undef = tz9 at htm
      clear hV2
      subst htm
      have HB2 := HB.trans (hB1.mono HB.size)
      clear q0 q1 r0 r1 hB1 HB Y0 Y1 a0
      go_wp2
      go_roundw
      case rel => exact ⟨c + 1, by omega, by go_num, HB2⟩
      case measure => simp [intOf]; omega
    · obtain rfl : c = n := by omega
      clear HA HC
      go_wp2
      go_ret
      exact ⟨rfl, HBw⟩
end Go.Proofs.Ytbhhegmlfclhbaa
