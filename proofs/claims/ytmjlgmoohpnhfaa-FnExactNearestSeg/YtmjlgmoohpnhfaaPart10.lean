/- Part 10 of the walks that the proof leans on. -/
import Derived.Test.YtmjlgmoohpnhfaaPart9
import Derived.Test.YtmjlgmoohpnhfaaPart2
import Derived.Test.YtmjlgmoohpnhfaaPart5
import Derived.Test.YtmjlgmoohpnhfaaPart7
/- A region that draws its order, by what each slot holds once its operation has come up: the general form. -/
namespace Go.Proofs.Ytmjlgmoohpnhfaa
open Go.RowKit
variable {P : Program} {ops : Array Oper}
/-- No slot is written by two operations. -/
def distS : List (Option Nat) → Bool
  | [] => true
  | none :: r => distS r
  | some d :: r => !(r.contains (some d)) && distS r
theorem distS_inj : ∀ (S : List (Option Nat)) (i j d : Nat), distS S = true → S[i]? = some (some d) → S[j]? = some (some d) → i = j
  | [], i, _, _, _, h, _ => by simp at h
  | o :: r, i, j, d, hd, hi, hj => by
    have hr : distS r = true := by
      cases o with
      | none => exact hd
      | some d' => simp only [distS, Bool.and_eq_true] at hd; exact hd.2
    have hno : ∀ k, o = some d → r[k]? = some (some d) → False := fun k ho hk => by
      subst ho
      simp only [distS, Bool.and_eq_true, Bool.not_eq_true'] at hd
      have hm : some d ∈ r := List.mem_of_getElem? hk
      rw [← List.contains_iff_mem, hd.1] at hm
      cases hm
    match i, j with
    | 0, 0 => rfl
    | 0, j + 1 => exact (hno j (by simpa using hi) (by simpa using hj)).elim
    | i + 1, 0 => exact (hno i (by simpa using hj) (by simpa using hi)).elim
    | i + 1, j + 1 => exact congrArg (· + 1) (distS_inj r i j d hr (by simpa using hi) (by simpa using hj))
/-- What every operation keeps. -/
def InvQ (B : Nat) (S : List (Option Nat)) (V : Nat → Value → World → Prop) (w0 : World) (a0 : Act) (l : Array Bool) (a : Act) (W : World) : Prop :=
  l.size = S.length ∧ a.tmps.size = a0.tmps.size ∧ a.defers = a0.defers ∧ (∀ e, some e ∉ S → a.tmps[e]? = a0.tmps[e]?) ∧ Below B w0 W ∧ (∀ j d, l.getD j false = true → S[j]? = some (some d) → V j (a.tmps.getD d undef) W) ∧ (∀ j, l.getD j false = true → S[j]? = some none → V j undef W)
theorem getD_set_q {l : Array Bool} {i j : Nat} (h : (l.setIfInBounds i true).getD j false = true) (hne : j ≠ i) : l.getD j false = true := by
  rw [getD_set_ne false (Ne.symm hne)] at h
  exact h
theorem InvQ.put {B : Nat} {S : List (Option Nat)} {V : Nat → Value → World → Prop} {w0 : World} {a0 : Act} {l : Array Bool} {a : Act} {W W' : World} (h : InvQ B S V w0 a0 l a W) (hS : distS S = true) (i d : Nat) (hi : S[i]? = some (some d)) (hlt : d < a0.tmps.size)
    (hW : Below B w0 W') (hT : ∀ j v, V j v W → V j v W') (v : Value) (hv : V i v W') : InvQ B S V w0 a0 (l.setIfInBounds i true) (a.put (some d) v) W' := by
  obtain ⟨h1, h2, h3, h4, h5, h6, h7⟩ := h
  refine ⟨by simpa using h1, by simpa [Act.put] using h2, h3, fun e he => ?_, hW, fun j d' hj hd' => ?_, fun j hj hn => ?_⟩
  · have hne : d ≠ e := fun hh => he (hh ▸ List.mem_of_getElem? hi)
    simp only [Act.put]
    rw [Array.getElem?_setIfInBounds_ne hne]
    exact h4 e he
  · by_cases hji : j = i
    · subst hji
      rw [hi] at hd'
      cases hd'
      rw [put_getD_same (by omega)]
      exact hv
    · have hne : d ≠ d' := fun hh => hji (distS_inj S j i d hS (hh ▸ hd') hi)
      rw [put_getD_ne hne]
      exact hT _ _ (h6 j d' (getD_set_q hj hji) hd')
  · have hji : j ≠ i := fun hh => by subst hh; rw [hi] at hn; cases hn
    exact hT _ _ (h7 j (getD_set_q hj hji) hn)
theorem InvQ.world {B : Nat} {S : List (Option Nat)} {V : Nat → Value → World → Prop} {w0 : World} {a0 : Act} {l : Array Bool} {a : Act} {W W' : World} (h : InvQ B S V w0 a0 l a W) (i : Nat) (hi : S[i]? = some none)
    (hW : Below B w0 W') (hT : ∀ j v, V j v W → V j v W') (hv : V i undef W') : InvQ B S V w0 a0 (l.setIfInBounds i true) a W' := by
  obtain ⟨h1, h2, h3, h4, h5, h6, h7⟩ := h
  refine ⟨by simpa using h1, h2, h3, h4, hW, fun j d hj hd => ?_, fun j hj hn => ?_⟩
  · have hji : j ≠ i := fun hh => by subst hh; rw [hi] at hd; cases hd
    exact hT _ _ (h6 j d (getD_set_q hj hji) hd)
  · by_cases hji : j = i
    · subst hji; exact hv
    · exact hT _ _ (h7 j (getD_set_q hj hji) hn)
/-- A block of so many cells. -/
def BlkN (W : World) (g n : Nat) : Prop := ∃ vs : List Value, vs.length = n ∧ Blk W g vs
theorem BlkN.step {W W' : World} {g n : Nat} (h : BlkN W g n) (hB : Below W.heap.size W W') : BlkN W' g n := by
  obtain ⟨vs, h1, h2⟩ := h
  exact ⟨vs, h1, h2.step hB⟩
theorem Blk.setA {W : World} {g : Nat} {vs : List Value} (h : Blk W g vs) (j : Nat) (u : Value) : Blk (W.setCell ⟨g, j, none⟩ u) g (vs.set j u) := by
  rcases Nat.lt_or_ge j vs.length with hj | hj
  · exact h.setI j hj u
  · refine ⟨by simpa [World.setCell] using h.1, fun i v hi => ?_⟩
    rw [List.set_eq_of_length_le hj] at hi
    have hne : i ≠ j := fun e => by
      subst e
      rw [List.getElem?_eq_none hj] at hi
      cases hi
    exact ⟨(World.cell?_setCell_other _ _ _ _ (by simp)).trans (h.c i hi), by simp [go_sem, h.f i hi]⟩
theorem BlkN.set {W : World} {g n : Nat} (h : BlkN W g n) (g' j : Nat) (u : Value) : BlkN (W.setCell ⟨g', j, none⟩ u) g n := by
  obtain ⟨vs, h1, h2⟩ := h
  by_cases hg : g = g'
  · subst hg
    exact ⟨vs.set j u, by simpa using h1, h2.setA j u⟩
  · exact ⟨vs, h1, h2.setO (p := ⟨g', j, none⟩) hg u⟩
end Go.Proofs.Ytmjlgmoohpnhfaa

/- The drawn regions of the program's walk to the nearest segment. -/
namespace Go.Proofs.Ytmjlgmoohpnhfaa
open Go.RowKit
def VnkR (_B4 _gs gl gb _A8 _gp _gr : Nat) (_p _q k y0 y1 y2 y3 y4 y5 y6 y7 : Int) (_B : Nat) : Nat → Value → World → Prop
  | 0, v, _ => v = .int .i64 k
  | 1, v, _ => v = .agg #[.int .u64 y0, .int .u64 y1, .int .u64 y2, .int .u64 y3, .int .u64 y4, .int .u64 y5, .int .u64 y6, .int .u64 y7]
  | 2, _, W => Blk W gb [.int .i64 k]
  | 3, _, W => Blk W gl [.int .u64 y0, .int .u64 y1, .int .u64 y2, .int .u64 y3, .int .u64 y4, .int .u64 y5, .int .u64 y6, .int .u64 y7]
  | _, _, _ => True
theorem VnkR.mono {B4 gs gl gb A8 gp gr : Nat} {p q k y0 y1 y2 y3 y4 y5 y6 y7 : Int} {B j : Nat} {v : Value} {W W2 : World} (hB : Below W.heap.size W W2) (h : VnkR B4 gs gl gb A8 gp gr p q k y0 y1 y2 y3 y4 y5 y6 y7 B j v W) : VnkR B4 gs gl gb A8 gp gr p q k y0 y1 y2 y3 y4 y5 y6 y7 B j v W2 := by
  unfold VnkR at *
  split <;> simp only at h <;> first | exact h | exact h.step hB | trivial
theorem VnkR.put {B4 gs gl gb A8 gp gr : Nat} {p q k y0 y1 y2 y3 y4 y5 y6 y7 : Int} {B j : Nat} {v : Value} {W W2 : World} (h0 : Blk W gb [.int .i64 k] → Blk W2 gb [.int .i64 k]) (h1 : Blk W gl [.int .u64 y0, .int .u64 y1, .int .u64 y2, .int .u64 y3, .int .u64 y4, .int .u64 y5, .int .u64 y6, .int .u64 y7] → Blk W2 gl [.int .u64 y0, .int .u64 y1, .int .u64 y2, .int .u64 y3, .int .u64 y4, .int .u64 y5, .int .u64 y6, .int .u64 y7]) (h : VnkR B4 gs gl gb A8 gp gr p q k y0 y1 y2 y3 y4 y5 y6 y7 B j v W) : VnkR B4 gs gl gb A8 gp gr p q k y0 y1 y2 y3 y4 y5 y6 y7 B j v W2 := by
  unfold VnkR at *
  split <;> simp only at h <;> first | exact h | exact h0 h | exact h1 h | trivial
def SnkR (_B4 gs gl gb A8 gp gr : Nat) (p q k y0 y1 y2 y3 y4 y5 y6 y7 : Int) (W : World) : Prop := Blk W gs [.int .i64 k] ∧ Blk W A8 [.int .u64 y0, .int .u64 y1, .int .u64 y2, .int .u64 y3, .int .u64 y4, .int .u64 y5, .int .u64 y6, .int .u64 y7] ∧ Blk W gp [.int .i64 p, .int .i64 q] ∧ Blk W gr [.int .u64 0, .int .u64 0, .int .u64 0, .int .u64 0, .int .u64 0, .int .u64 0, .int .u64 0, .int .u64 0] ∧ (∃ e0, Blk W gb [e0]) ∧ ∃ z0q z1q z2q z3q z4q z5q z6q z7q, Blk W gl [z0q, z1q, z2q, z3q, z4q, z5q, z6q, z7q]
def JnkR (B4 gs gl gb A8 gp gr : Nat) (p q k y0 y1 y2 y3 y4 y5 y6 y7 : Int) (w0 : World) (a0 : Act) (lz : Array Bool) (az : Act) (W : World) : Prop := InvQ (B4) [some 24, some 25, none, none] (VnkR B4 gs gl gb A8 gp gr p q k y0 y1 y2 y3 y4 y5 y6 y7 (B4)) w0 a0 lz az W ∧ SnkR B4 gs gl gb A8 gp gr p q k y0 y1 y2 y3 y4 y5 y6 y7 W
set_option maxRecDepth 100000 in
set_option maxHeartbeats 4000000 in
theorem nkR {Q : Exit → Act → World → Prop} {B4 gs gl gb A8 gp gr : Nat} {p q k y0 y1 y2 y3 y4 y5 y6 y7 : Int}  {w0 : World} {a0 : Act} {idq : Nat} {t0 t1 t2 t3 : TypeId} {q0 q1 q2 q3 : String}
    (nsb : gs ≠ gb) (nsl : gs ≠ gl) (n8b : A8 ≠ gb) (n8l : A8 ≠ gl) (nbl : gb ≠ gl) (nlb : gl ≠ gb) (npb : gp ≠ gb) (npl : gp ≠ gl) (nrb : gr ≠ gb) (nrl : gr ≠ gl) (hbb : B4 ≤ gb) (hbl : B4 ≤ gl) (h2 : a0.tmps[2]? = some (.pointer (some ⟨gs, 0, none⟩))) (h3 : a0.tmps[3]? = some (.pointer (some ⟨gl, 0, none⟩))) (h4 : a0.tmps[4]? = some (.pointer (some ⟨gb, 0, none⟩))) (h8 : a0.tmps[8]? = some (.pointer (some ⟨A8, 0, none⟩)))  (hz : a0.tmps.size = 30) (hs0 : SnkR B4 gs gl gb A8 gp gr p q k y0 y1 y2 y3 y4 y5 y6 y7 w0.drew)
    (hQ : ∀ aq W, aq.tmps.size = a0.tmps.size → aq.defers = a0.defers → (∀ e, e ∉ ([24, 25] : List Nat) → aq.tmps[e]? = a0.tmps[e]?) → VnkR B4 gs gl gb A8 gp gr p q k y0 y1 y2 y3 y4 y5 y6 y7 (B4) 2 undef W → VnkR B4 gs gl gb A8 gp gr p q k y0 y1 y2 y3 y4 y5 y6 y7 (B4) 3 undef W → Below (B4) w0 W → SnkR B4 gs gl gb A8 gp gr p q k y0 y1 y2 y3 y4 y5 y6 y7 W → Q .normal aq W) :
    (Code.region idq #[{ dst := some 24, op := Op.load 2 (Operand.tmp 2), type := t0, pos := q0, after := #[], guard := none },
    { dst := some 25, op := Op.load 50 (Operand.tmp 8), type := t1, pos := q1, after := #[{ on := 2, ground := Ground.gcOnly Departure.lateStores }], guard := none },
    { dst := none, op := Op.store 2 (Operand.tmp 4) (Operand.tmp 24), type := t2, pos := q2, after := #[{ on := 0, ground := Ground.data }, { on := 0, ground := Ground.phase }, { on := 1, ground := Ground.textOnly Departure.lateStores }], guard := none },
    { dst := none, op := Op.store 50 (Operand.tmp 3) (Operand.tmp 25), type := t3, pos := q3, after := #[{ on := 1, ground := Ground.data }, { on := 2, ground := Ground.chain }, { on := 0, ground := Ground.phase }, { on := 1, ground := Ground.phase }, { on := 2, ground := Ground.phase }], guard := none }] true).wp Try.prog Q a0 w0 := by
  have hS : distS [some 24, some 25, none, none] = true := rfl
  refine wp_region_inv (by kernel_rfl) (JnkR B4 gs gl gb A8 gp gr p q k y0 y1 y2 y3 y4 y5 y6 y7 w0 a0) ⟨⟨rfl, rfl, rfl, fun _ _ => rfl, (Below.refl _ w0).drew, fun j d hj => ?_, fun j hj => ?_⟩, hs0⟩ ?_ ?_
  · exfalso
    rw [Array.getD_eq_getD_getElem?, Array.getElem?_replicate] at hj
    split at hj <;> simp at hj
  · exfalso
    rw [Array.getD_eq_getD_getElem?, Array.getElem?_replicate] at hj
    split at hj <;> simp at hj
  · intro lq aq W iq oq ⟨hJ, hs⟩ hl ho hall
    have hJ2 := hJ
    obtain ⟨z1, z2, z3, z4, z5, z6, z7⟩ := hJ
    obtain ⟨xa, xb, xp, xr, ⟨e0, xc⟩, z0q, z1q, z2q, z3q, z4q, z5q, z6q, z7q, xd⟩ := hs
    have ca0 := xa.c 0 rfl; have cb0 := xb.c 0 rfl; have cb1 := xb.c 1 rfl; have cb2 := xb.c 2 rfl; have cb3 := xb.c 3 rfl; have cb4 := xb.c 4 rfl; have cb5 := xb.c 5 rfl; have cb6 := xb.c 6 rfl; have cb7 := xb.c 7 rfl; have ra0 := xc.c 0 rfl; have sa0 := xc.f 0 rfl; have rb0 := xd.c 0 rfl; have sb0 := xd.f 0 rfl; have rb1 := xd.c 1 rfl; have sb1 := xd.f 1 rfl; have rb2 := xd.c 2 rfl; have sb2 := xd.f 2 rfl; have rb3 := xd.c 3 rfl; have sb3 := xd.f 3 rfl; have rb4 := xd.c 4 rfl; have sb4 := xd.f 4 rfl; have rb5 := xd.c 5 rfl; have sb5 := xd.f 5 rfl; have rb6 := xd.c 6 rfl; have sb6 := xd.f 6 rfl; have rb7 := xd.c 7 rfl; have sb7 := xd.f 7 rfl
    have rla := xc.lt; have rlb := xd.lt
    have hs : SnkR B4 gs gl gb A8 gp gr p q k y0 y1 y2 y3 y4 y5 y6 y7 W := ⟨xa, xb, xp, xr, ⟨_, xc⟩, _, _, _, _, _, _, _, _, xd⟩
    have g2 : aq.tmps.getD 2 undef = .pointer (some ⟨gs, 0, none⟩) := by rw [Array.getD_eq_getD_getElem?, z4 2 (by decide), h2]; rfl
    have g3 : aq.tmps.getD 3 undef = .pointer (some ⟨gl, 0, none⟩) := by rw [Array.getD_eq_getD_getElem?, z4 3 (by decide), h3]; rfl
    have g4 : aq.tmps.getD 4 undef = .pointer (some ⟨gb, 0, none⟩) := by rw [Array.getD_eq_getD_getElem?, z4 4 (by decide), h4]; rfl
    have g8 : aq.tmps.getD 8 undef = .pointer (some ⟨A8, 0, none⟩) := by rw [Array.getD_eq_getD_getElem?, z4 8 (by decide), h8]; rfl
    match iq, ho with
    | 0, ho =>
      cases ho
      refine wpOp_of rfl rfl ?_
      have hK := fun (v : Value) (W2 : World) hW hT hv (hs : SnkR B4 gs gl gb A8 gp gr p q k y0 y1 y2 y3 y4 y5 y6 y7 W2) => show (JnkR B4 gs gl gb A8 gp gr p q k y0 y1 y2 y3 y4 y5 y6 y7 w0 a0) (lq.setIfInBounds 0 true) (aq.put (some 24) v) W2 from ⟨hJ2.put hS 0 24 rfl (by omega) (W' := W2) hW hT v hv, hs⟩
      clear ho hall hl hQ
      generalize (JnkR B4 gs gl gb A8 gp gr p q k y0 y1 y2 y3 y4 y5 y6 y7 w0 a0) (lq.setIfInBounds 0 true) = K at hK ⊢
      clear hJ2 hS z1 z2 z3 z4 z6 z7
      go_simp
      exact hK _ _ z5 (fun _ _ h => h) rfl hs
    | 1, ho =>
      cases ho
      refine wpOp_of rfl rfl ?_
      have hK := fun (v : Value) (W2 : World) hW hT hv (hs : SnkR B4 gs gl gb A8 gp gr p q k y0 y1 y2 y3 y4 y5 y6 y7 W2) => show (JnkR B4 gs gl gb A8 gp gr p q k y0 y1 y2 y3 y4 y5 y6 y7 w0 a0) (lq.setIfInBounds 1 true) (aq.put (some 25) v) W2 from ⟨hJ2.put hS 1 25 rfl (by omega) (W' := W2) hW hT v hv, hs⟩
      clear ho hall hl hQ
      generalize (JnkR B4 gs gl gb A8 gp gr p q k y0 y1 y2 y3 y4 y5 y6 y7 w0 a0) (lq.setIfInBounds 1 true) = K at hK ⊢
      clear hJ2 hS z1 z2 z3 z4 z6 z7
      go_simp
      exact hK _ _ z5 (fun _ _ h => h) rfl hs
    | 2, ho =>
      cases ho
      refine wpOp_of rfl rfl ?_
      have f0 : (aq.tmps.getD 24 undef) = .int .i64 k := z6 0 24 (hall { on := 0, ground := Ground.data } (by simp) rfl) rfl
      have hK := fun (W2 : World) hW hT hv (hs : SnkR B4 gs gl gb A8 gp gr p q k y0 y1 y2 y3 y4 y5 y6 y7 W2) => show (JnkR B4 gs gl gb A8 gp gr p q k y0 y1 y2 y3 y4 y5 y6 y7 w0 a0) (lq.setIfInBounds 2 true) aq W2 from ⟨hJ2.world 2 rfl (W' := W2) hW hT hv, hs⟩
      clear ho hall hl hQ
      generalize (JnkR B4 gs gl gb A8 gp gr p q k y0 y1 y2 y3 y4 y5 y6 y7 w0 a0) (lq.setIfInBounds 2 true) = K at hK ⊢
      clear hJ2 hS z1 z2 z3 z4 z6 z7
      have nb : Blk (W.setCell ⟨gb, 0, none⟩ (.int .i64 k)) gb [.int .i64 k] := xc.setI 0 (by simp) _
      have ns : SnkR B4 gs gl gb A8 gp gr p q k y0 y1 y2 y3 y4 y5 y6 y7 (W.setCell ⟨gb, 0, none⟩ (.int .i64 k)) := ⟨xa.setO (p := ⟨gb, 0, none⟩) nsb _, xb.setO (p := ⟨gb, 0, none⟩) n8b _, xp.setO (p := ⟨gb, 0, none⟩) npb _, xr.setO (p := ⟨gb, 0, none⟩) nrb _, ⟨_, nb⟩, _, _, _, _, _, _, _, _, xd.setO (p := ⟨gb, 0, none⟩) nlb _⟩
      have nB : Below B4 w0 (W.setCell ⟨gb, 0, none⟩ (.int .i64 k)) := z5.setCell (p := ⟨gb, 0, none⟩) hbb _
      clear xa xb xc xd xp xr
      go_simp
      exact hK _ nB (fun j v h => VnkR.put (fun _ => nb) (fun h => h.setO (p := ⟨gb, 0, none⟩) nlb _) h) nb ns
    | 3, ho =>
      cases ho
      refine wpOp_of rfl rfl ?_
      have f1 : (aq.tmps.getD 25 undef) = .agg #[.int .u64 y0, .int .u64 y1, .int .u64 y2, .int .u64 y3, .int .u64 y4, .int .u64 y5, .int .u64 y6, .int .u64 y7] := z6 1 25 (hall { on := 1, ground := Ground.data } (by simp) rfl) rfl
      have hK := fun (W2 : World) hW hT hv (hs : SnkR B4 gs gl gb A8 gp gr p q k y0 y1 y2 y3 y4 y5 y6 y7 W2) => show (JnkR B4 gs gl gb A8 gp gr p q k y0 y1 y2 y3 y4 y5 y6 y7 w0 a0) (lq.setIfInBounds 3 true) aq W2 from ⟨hJ2.world 3 rfl (W' := W2) hW hT hv, hs⟩
      clear ho hall hl hQ
      generalize (JnkR B4 gs gl gb A8 gp gr p q k y0 y1 y2 y3 y4 y5 y6 y7 w0 a0) (lq.setIfInBounds 3 true) = K at hK ⊢
      clear hJ2 hS z1 z2 z3 z4 z6 z7
      have nb : Blk ((((((((W.setCell ⟨gl, 0, none⟩ (.int .u64 y0)).setCell ⟨gl, 1, none⟩ (.int .u64 y1)).setCell ⟨gl, 2, none⟩ (.int .u64 y2)).setCell ⟨gl, 3, none⟩ (.int .u64 y3)).setCell ⟨gl, 4, none⟩ (.int .u64 y4)).setCell ⟨gl, 5, none⟩ (.int .u64 y5)).setCell ⟨gl, 6, none⟩ (.int .u64 y6)).setCell ⟨gl, 7, none⟩ (.int .u64 y7)) gl [.int .u64 y0, .int .u64 y1, .int .u64 y2, .int .u64 y3, .int .u64 y4, .int .u64 y5, .int .u64 y6, .int .u64 y7] := Blk.stored8 xd _ _ _ _ _ _ _ _
      have ns : SnkR B4 gs gl gb A8 gp gr p q k y0 y1 y2 y3 y4 y5 y6 y7 ((((((((W.setCell ⟨gl, 0, none⟩ (.int .u64 y0)).setCell ⟨gl, 1, none⟩ (.int .u64 y1)).setCell ⟨gl, 2, none⟩ (.int .u64 y2)).setCell ⟨gl, 3, none⟩ (.int .u64 y3)).setCell ⟨gl, 4, none⟩ (.int .u64 y4)).setCell ⟨gl, 5, none⟩ (.int .u64 y5)).setCell ⟨gl, 6, none⟩ (.int .u64 y6)).setCell ⟨gl, 7, none⟩ (.int .u64 y7)) := ⟨xa.set8 nsl, xb.set8 n8l, xp.set8 npl, xr.set8 nrl, ⟨_, xc.set8 nbl⟩, _, _, _, _, _, _, _, _, nb⟩
      have nB : Below B4 w0 ((((((((W.setCell ⟨gl, 0, none⟩ (.int .u64 y0)).setCell ⟨gl, 1, none⟩ (.int .u64 y1)).setCell ⟨gl, 2, none⟩ (.int .u64 y2)).setCell ⟨gl, 3, none⟩ (.int .u64 y3)).setCell ⟨gl, 4, none⟩ (.int .u64 y4)).setCell ⟨gl, 5, none⟩ (.int .u64 y5)).setCell ⟨gl, 6, none⟩ (.int .u64 y6)).setCell ⟨gl, 7, none⟩ (.int .u64 y7)) := ((((((((z5.setCell (p := ⟨gl, 0, none⟩) hbl _).setCell (p := ⟨gl, 1, none⟩) hbl _).setCell (p := ⟨gl, 2, none⟩) hbl _).setCell (p := ⟨gl, 3, none⟩) hbl _).setCell (p := ⟨gl, 4, none⟩) hbl _).setCell (p := ⟨gl, 5, none⟩) hbl _).setCell (p := ⟨gl, 6, none⟩) hbl _).setCell (p := ⟨gl, 7, none⟩) hbl _)
      clear xa xb xc xd xp xr
      go_simp
      exact hK _ nB (fun j v h => VnkR.put (fun h => h.set8 nbl) (fun _ => nb) h) nb ns
    | iq + 4, ho => simp at ho
  · intro lq aq W ⟨hJ, hs⟩ hr
    obtain ⟨z1, z2, z3, z4, z5, z6, z7⟩ := hJ
    have hl := listed_of hr [0, 2, 1, 3] [] (by simp) (by kernel_rfl) (by rw [z1]; decide)
    exact hQ aq W z2 z3 (fun e he => z4 e (by simpa using he)) (z7 2 (hl 2 (by simp)) rfl) (z7 3 (hl 3 (by simp)) rfl) z5 hs

def VnkS (_B4 _gl _gb A7 : Nat) (k y0 y1 y2 y3 y4 y5 y6 y7 : Int) (_B : Nat) : Nat → Value → World → Prop
  | 0, v, _ => v = .int .i64 k
  | 1, v, _ => v = .agg #[.int .u64 y0, .int .u64 y1, .int .u64 y2, .int .u64 y3, .int .u64 y4, .int .u64 y5, .int .u64 y6, .int .u64 y7]
  | 2, v, _ => v = .int .i64 k
  | 3, _, W => Blk W A7 [.int .u64 y0, .int .u64 y1, .int .u64 y2, .int .u64 y3, .int .u64 y4, .int .u64 y5, .int .u64 y6, .int .u64 y7]
  | _, _, _ => True
theorem VnkS.mono {B4 gl gb A7 : Nat} {k y0 y1 y2 y3 y4 y5 y6 y7 : Int} {B j : Nat} {v : Value} {W W2 : World} (hB : Below W.heap.size W W2) (h : VnkS B4 gl gb A7 k y0 y1 y2 y3 y4 y5 y6 y7 B j v W) : VnkS B4 gl gb A7 k y0 y1 y2 y3 y4 y5 y6 y7 B j v W2 := by
  unfold VnkS at *
  split <;> simp only at h <;> first | exact h | exact h.step hB | trivial
theorem VnkS.put {B4 gl gb A7 : Nat} {k y0 y1 y2 y3 y4 y5 y6 y7 : Int} {B j : Nat} {v : Value} {W W2 : World} (h1 : Blk W A7 [.int .u64 y0, .int .u64 y1, .int .u64 y2, .int .u64 y3, .int .u64 y4, .int .u64 y5, .int .u64 y6, .int .u64 y7] → Blk W2 A7 [.int .u64 y0, .int .u64 y1, .int .u64 y2, .int .u64 y3, .int .u64 y4, .int .u64 y5, .int .u64 y6, .int .u64 y7]) (h : VnkS B4 gl gb A7 k y0 y1 y2 y3 y4 y5 y6 y7 B j v W) : VnkS B4 gl gb A7 k y0 y1 y2 y3 y4 y5 y6 y7 B j v W2 := by
  unfold VnkS at *
  split <;> simp only at h <;> first | exact h | exact h1 h | trivial
def SnkS (_B4 gl gb A7 : Nat) (k y0 y1 y2 y3 y4 y5 y6 y7 : Int) (W : World) : Prop := Blk W gb [.int .i64 k] ∧ Blk W gl [.int .u64 y0, .int .u64 y1, .int .u64 y2, .int .u64 y3, .int .u64 y4, .int .u64 y5, .int .u64 y6, .int .u64 y7] ∧ ∃ z0q z1q z2q z3q z4q z5q z6q z7q, Blk W A7 [z0q, z1q, z2q, z3q, z4q, z5q, z6q, z7q]
def JnkS (B4 gl gb A7 : Nat) (k y0 y1 y2 y3 y4 y5 y6 y7 : Int) (w0 : World) (a0 : Act) (lz : Array Bool) (az : Act) (W : World) : Prop := InvQ (B4) [some 28, some 29, some 6, none] (VnkS B4 gl gb A7 k y0 y1 y2 y3 y4 y5 y6 y7 (B4)) w0 a0 lz az W ∧ SnkS B4 gl gb A7 k y0 y1 y2 y3 y4 y5 y6 y7 W
set_option maxRecDepth 100000 in
set_option maxHeartbeats 4000000 in
theorem nkS {Q : Exit → Act → World → Prop} {B4 gl gb A7 : Nat} {k y0 y1 y2 y3 y4 y5 y6 y7 : Int}  {w0 : World} {a0 : Act} {idq : Nat} {t0 t1 t2 t3 : TypeId} {q0 q1 q2 q3 : String}
    (nb7 : gb ≠ A7) (nl7 : gl ≠ A7) (hb7 : B4 ≤ A7) (h3 : a0.tmps[3]? = some (.pointer (some ⟨gl, 0, none⟩))) (h4 : a0.tmps[4]? = some (.pointer (some ⟨gb, 0, none⟩))) (h7 : a0.tmps[7]? = some (.pointer (some ⟨A7, 0, none⟩)))  (hz : a0.tmps.size = 30) (hs0 : SnkS B4 gl gb A7 k y0 y1 y2 y3 y4 y5 y6 y7 w0.drew)
    (hQ : ∀ aq W, aq.tmps.size = a0.tmps.size → aq.defers = a0.defers → (∀ e, e ∉ ([28, 29, 6] : List Nat) → aq.tmps[e]? = a0.tmps[e]?) → VnkS B4 gl gb A7 k y0 y1 y2 y3 y4 y5 y6 y7 (B4) 2 (aq.tmps.getD 6 undef) W → VnkS B4 gl gb A7 k y0 y1 y2 y3 y4 y5 y6 y7 (B4) 3 undef W → Below (B4) w0 W → SnkS B4 gl gb A7 k y0 y1 y2 y3 y4 y5 y6 y7 W → Q .normal aq W) :
    (Code.region idq #[{ dst := some 28, op := Op.load 2 (Operand.tmp 4), type := t0, pos := q0, after := #[], guard := none },
    { dst := some 29, op := Op.load 50 (Operand.tmp 3), type := t1, pos := q1, after := #[{ on := 2, ground := Ground.gcOnly Departure.lateStores }], guard := none },
    { dst := some 6, op := Op.assign (Operand.tmp 28), type := t2, pos := q2, after := #[{ on := 0, ground := Ground.data }, { on := 0, ground := Ground.phase }, { on := 1, ground := Ground.textOnly Departure.lateStores }], guard := none },
    { dst := none, op := Op.store 50 (Operand.tmp 7) (Operand.tmp 29), type := t3, pos := q3, after := #[{ on := 1, ground := Ground.data }, { on := 2, ground := Ground.chain }, { on := 0, ground := Ground.phase }, { on := 1, ground := Ground.phase }, { on := 2, ground := Ground.phase }], guard := none }] true).wp Try.prog Q a0 w0 := by
  have hS : distS [some 28, some 29, some 6, none] = true := rfl
  refine wp_region_inv (by kernel_rfl) (JnkS B4 gl gb A7 k y0 y1 y2 y3 y4 y5 y6 y7 w0 a0) ⟨⟨rfl, rfl, rfl, fun _ _ => rfl, (Below.refl _ w0).drew, fun j d hj => ?_, fun j hj => ?_⟩, hs0⟩ ?_ ?_
  · exfalso
    rw [Array.getD_eq_getD_getElem?, Array.getElem?_replicate] at hj
    split at hj <;> simp at hj
  · exfalso
    rw [Array.getD_eq_getD_getElem?, Array.getElem?_replicate] at hj
    split at hj <;> simp at hj
  · intro lq aq W iq oq ⟨hJ, hs⟩ hl ho hall
    have hJ2 := hJ
    obtain ⟨z1, z2, z3, z4, z5, z6, z7⟩ := hJ
    obtain ⟨xa, xb, z0q, z1q, z2q, z3q, z4q, z5q, z6q, z7q, xd⟩ := hs
    have ca0 := xa.c 0 rfl; have cb0 := xb.c 0 rfl; have cb1 := xb.c 1 rfl; have cb2 := xb.c 2 rfl; have cb3 := xb.c 3 rfl; have cb4 := xb.c 4 rfl; have cb5 := xb.c 5 rfl; have cb6 := xb.c 6 rfl; have cb7 := xb.c 7 rfl; have rb0 := xd.c 0 rfl; have sb0 := xd.f 0 rfl; have rb1 := xd.c 1 rfl; have sb1 := xd.f 1 rfl; have rb2 := xd.c 2 rfl; have sb2 := xd.f 2 rfl; have rb3 := xd.c 3 rfl; have sb3 := xd.f 3 rfl; have rb4 := xd.c 4 rfl; have sb4 := xd.f 4 rfl; have rb5 := xd.c 5 rfl; have sb5 := xd.f 5 rfl; have rb6 := xd.c 6 rfl; have sb6 := xd.f 6 rfl; have rb7 := xd.c 7 rfl; have sb7 := xd.f 7 rfl
    have rlb := xd.lt
    have hs : SnkS B4 gl gb A7 k y0 y1 y2 y3 y4 y5 y6 y7 W := ⟨xa, xb, _, _, _, _, _, _, _, _, xd⟩
    have g3 : aq.tmps.getD 3 undef = .pointer (some ⟨gl, 0, none⟩) := by rw [Array.getD_eq_getD_getElem?, z4 3 (by decide), h3]; rfl
    have g4 : aq.tmps.getD 4 undef = .pointer (some ⟨gb, 0, none⟩) := by rw [Array.getD_eq_getD_getElem?, z4 4 (by decide), h4]; rfl
    have g7 : aq.tmps.getD 7 undef = .pointer (some ⟨A7, 0, none⟩) := by rw [Array.getD_eq_getD_getElem?, z4 7 (by decide), h7]; rfl
    match iq, ho with
    | 0, ho =>
      cases ho
      refine wpOp_of rfl rfl ?_
      have hK := fun (v : Value) (W2 : World) hW hT hv (hs : SnkS B4 gl gb A7 k y0 y1 y2 y3 y4 y5 y6 y7 W2) => show (JnkS B4 gl gb A7 k y0 y1 y2 y3 y4 y5 y6 y7 w0 a0) (lq.setIfInBounds 0 true) (aq.put (some 28) v) W2 from ⟨hJ2.put hS 0 28 rfl (by omega) (W' := W2) hW hT v hv, hs⟩
      clear ho hall hl hQ
      generalize (JnkS B4 gl gb A7 k y0 y1 y2 y3 y4 y5 y6 y7 w0 a0) (lq.setIfInBounds 0 true) = K at hK ⊢
      clear hJ2 hS z1 z2 z3 z4 z6 z7
      go_simp
      exact hK _ _ z5 (fun _ _ h => h) rfl hs
    | 1, ho =>
      cases ho
      refine wpOp_of rfl rfl ?_
      have hK := fun (v : Value) (W2 : World) hW hT hv (hs : SnkS B4 gl gb A7 k y0 y1 y2 y3 y4 y5 y6 y7 W2) => show (JnkS B4 gl gb A7 k y0 y1 y2 y3 y4 y5 y6 y7 w0 a0) (lq.setIfInBounds 1 true) (aq.put (some 29) v) W2 from ⟨hJ2.put hS 1 29 rfl (by omega) (W' := W2) hW hT v hv, hs⟩
      clear ho hall hl hQ
      generalize (JnkS B4 gl gb A7 k y0 y1 y2 y3 y4 y5 y6 y7 w0 a0) (lq.setIfInBounds 1 true) = K at hK ⊢
      clear hJ2 hS z1 z2 z3 z4 z6 z7
      go_simp
      exact hK _ _ z5 (fun _ _ h => h) rfl hs
    | 2, ho =>
      cases ho
      refine wpOp_of rfl rfl ?_
      have f0 : (aq.tmps.getD 28 undef) = .int .i64 k := z6 0 28 (hall { on := 0, ground := Ground.data } (by simp) rfl) rfl
      have hK := fun (v : Value) (W2 : World) hW hT hv (hs : SnkS B4 gl gb A7 k y0 y1 y2 y3 y4 y5 y6 y7 W2) => show (JnkS B4 gl gb A7 k y0 y1 y2 y3 y4 y5 y6 y7 w0 a0) (lq.setIfInBounds 2 true) (aq.put (some 6) v) W2 from ⟨hJ2.put hS 2 6 rfl (by omega) (W' := W2) hW hT v hv, hs⟩
      clear ho hall hl hQ
      generalize (JnkS B4 gl gb A7 k y0 y1 y2 y3 y4 y5 y6 y7 w0 a0) (lq.setIfInBounds 2 true) = K at hK ⊢
      clear hJ2 hS z1 z2 z3 z4 z6 z7
      go_simp
      exact hK _ _ z5 (fun _ _ h => h) rfl hs
    | 3, ho =>
      cases ho
      refine wpOp_of rfl rfl ?_
      have f1 : (aq.tmps.getD 29 undef) = .agg #[.int .u64 y0, .int .u64 y1, .int .u64 y2, .int .u64 y3, .int .u64 y4, .int .u64 y5, .int .u64 y6, .int .u64 y7] := z6 1 29 (hall { on := 1, ground := Ground.data } (by simp) rfl) rfl
      have hK := fun (W2 : World) hW hT hv (hs : SnkS B4 gl gb A7 k y0 y1 y2 y3 y4 y5 y6 y7 W2) => show (JnkS B4 gl gb A7 k y0 y1 y2 y3 y4 y5 y6 y7 w0 a0) (lq.setIfInBounds 3 true) aq W2 from ⟨hJ2.world 3 rfl (W' := W2) hW hT hv, hs⟩
      clear ho hall hl hQ
      generalize (JnkS B4 gl gb A7 k y0 y1 y2 y3 y4 y5 y6 y7 w0 a0) (lq.setIfInBounds 3 true) = K at hK ⊢
      clear hJ2 hS z1 z2 z3 z4 z6 z7
      have nb : Blk ((((((((W.setCell ⟨A7, 0, none⟩ (.int .u64 y0)).setCell ⟨A7, 1, none⟩ (.int .u64 y1)).setCell ⟨A7, 2, none⟩ (.int .u64 y2)).setCell ⟨A7, 3, none⟩ (.int .u64 y3)).setCell ⟨A7, 4, none⟩ (.int .u64 y4)).setCell ⟨A7, 5, none⟩ (.int .u64 y5)).setCell ⟨A7, 6, none⟩ (.int .u64 y6)).setCell ⟨A7, 7, none⟩ (.int .u64 y7)) A7 [.int .u64 y0, .int .u64 y1, .int .u64 y2, .int .u64 y3, .int .u64 y4, .int .u64 y5, .int .u64 y6, .int .u64 y7] := Blk.stored8 xd _ _ _ _ _ _ _ _
      have ns : SnkS B4 gl gb A7 k y0 y1 y2 y3 y4 y5 y6 y7 ((((((((W.setCell ⟨A7, 0, none⟩ (.int .u64 y0)).setCell ⟨A7, 1, none⟩ (.int .u64 y1)).setCell ⟨A7, 2, none⟩ (.int .u64 y2)).setCell ⟨A7, 3, none⟩ (.int .u64 y3)).setCell ⟨A7, 4, none⟩ (.int .u64 y4)).setCell ⟨A7, 5, none⟩ (.int .u64 y5)).setCell ⟨A7, 6, none⟩ (.int .u64 y6)).setCell ⟨A7, 7, none⟩ (.int .u64 y7)) := ⟨xa.set8 nb7, xb.set8 nl7, _, _, _, _, _, _, _, _, nb⟩
      have nB : Below B4 w0 ((((((((W.setCell ⟨A7, 0, none⟩ (.int .u64 y0)).setCell ⟨A7, 1, none⟩ (.int .u64 y1)).setCell ⟨A7, 2, none⟩ (.int .u64 y2)).setCell ⟨A7, 3, none⟩ (.int .u64 y3)).setCell ⟨A7, 4, none⟩ (.int .u64 y4)).setCell ⟨A7, 5, none⟩ (.int .u64 y5)).setCell ⟨A7, 6, none⟩ (.int .u64 y6)).setCell ⟨A7, 7, none⟩ (.int .u64 y7)) := ((((((((z5.setCell (p := ⟨A7, 0, none⟩) hb7 _).setCell (p := ⟨A7, 1, none⟩) hb7 _).setCell (p := ⟨A7, 2, none⟩) hb7 _).setCell (p := ⟨A7, 3, none⟩) hb7 _).setCell (p := ⟨A7, 4, none⟩) hb7 _).setCell (p := ⟨A7, 5, none⟩) hb7 _).setCell (p := ⟨A7, 6, none⟩) hb7 _).setCell (p := ⟨A7, 7, none⟩) hb7 _)
      clear xa xb xd
      go_simp
      exact hK _ nB (fun j v h => VnkS.put (fun _ => nb) h) nb ns
    | iq + 4, ho => simp at ho
  · intro lq aq W ⟨hJ, hs⟩ hr
    obtain ⟨z1, z2, z3, z4, z5, z6, z7⟩ := hJ
    have hl := listed_of hr [0, 2, 1, 3] [] (by simp) (by kernel_rfl) (by rw [z1]; decide)
    exact hQ aq W z2 z3 (fun e he => z4 e (by simpa using he)) (z6 2 6 (hl 2 (by simp)) rfl) (z7 3 (hl 3 (by simp)) rfl) z5 hs

def VnkE (_B4 A5 _A8 : Nat) (k y0 y1 y2 y3 y4 y5 y6 y7 : Int) (_B : Nat) : Nat → Value → World → Prop
  | 0, v, _ => v = .int .i64 k
  | 1, v, _ => v = .agg #[.int .u64 y0, .int .u64 y1, .int .u64 y2, .int .u64 y3, .int .u64 y4, .int .u64 y5, .int .u64 y6, .int .u64 y7]
  | 2, v, _ => v = .int .i64 k
  | 3, _, W => Blk W A5 [.int .u64 y0, .int .u64 y1, .int .u64 y2, .int .u64 y3, .int .u64 y4, .int .u64 y5, .int .u64 y6, .int .u64 y7]
  | 4, v, _ => v = .bool true
  | _, _, _ => True
theorem VnkE.mono {B4 A5 A8 : Nat} {k y0 y1 y2 y3 y4 y5 y6 y7 : Int} {B j : Nat} {v : Value} {W W2 : World} (hB : Below W.heap.size W W2) (h : VnkE B4 A5 A8 k y0 y1 y2 y3 y4 y5 y6 y7 B j v W) : VnkE B4 A5 A8 k y0 y1 y2 y3 y4 y5 y6 y7 B j v W2 := by
  unfold VnkE at *
  split <;> simp only at h <;> first | exact h | exact h.step hB | trivial
theorem VnkE.put {B4 A5 A8 : Nat} {k y0 y1 y2 y3 y4 y5 y6 y7 : Int} {B j : Nat} {v : Value} {W W2 : World} (h1 : Blk W A5 [.int .u64 y0, .int .u64 y1, .int .u64 y2, .int .u64 y3, .int .u64 y4, .int .u64 y5, .int .u64 y6, .int .u64 y7] → Blk W2 A5 [.int .u64 y0, .int .u64 y1, .int .u64 y2, .int .u64 y3, .int .u64 y4, .int .u64 y5, .int .u64 y6, .int .u64 y7]) (h : VnkE B4 A5 A8 k y0 y1 y2 y3 y4 y5 y6 y7 B j v W) : VnkE B4 A5 A8 k y0 y1 y2 y3 y4 y5 y6 y7 B j v W2 := by
  unfold VnkE at *
  split <;> simp only at h <;> first | exact h | exact h1 h | trivial
def SnkE (_B4 A5 A8 : Nat) (_k y0 y1 y2 y3 y4 y5 y6 y7 : Int) (W : World) : Prop := Blk W A8 [.int .u64 y0, .int .u64 y1, .int .u64 y2, .int .u64 y3, .int .u64 y4, .int .u64 y5, .int .u64 y6, .int .u64 y7] ∧ ∃ z0q z1q z2q z3q z4q z5q z6q z7q, Blk W A5 [z0q, z1q, z2q, z3q, z4q, z5q, z6q, z7q]
def JnkE (B4 A5 A8 : Nat) (k y0 y1 y2 y3 y4 y5 y6 y7 : Int) (w0 : World) (a0 : Act) (lz : Array Bool) (az : Act) (W : World) : Prop := InvQ (B4) [some 41, some 42, some 4, none, some 6] (VnkE B4 A5 A8 k y0 y1 y2 y3 y4 y5 y6 y7 (B4)) w0 a0 lz az W ∧ SnkE B4 A5 A8 k y0 y1 y2 y3 y4 y5 y6 y7 W
set_option maxRecDepth 100000 in
set_option maxHeartbeats 4000000 in
theorem nkE {Q : Exit → Act → World → Prop} {B4 A5 A8 : Nat} {k y0 y1 y2 y3 y4 y5 y6 y7 : Int}  {w0 : World} {a0 : Act} {idq : Nat} {t0 t1 t2 t3 t4 : TypeId} {q0 q1 q2 q3 q4 : String}
    (n85 : A8 ≠ A5) (hb5 : B4 ≤ A5) (h7 : a0.tmps[7]? = some (.int .i64 k)) (h8 : a0.tmps[8]? = some (.pointer (some ⟨A8, 0, none⟩))) (h5 : a0.tmps[5]? = some (.pointer (some ⟨A5, 0, none⟩)))  (hz : a0.tmps.size = 43) (hs0 : SnkE B4 A5 A8 k y0 y1 y2 y3 y4 y5 y6 y7 w0.drew)
    (hQ : ∀ aq W, aq.tmps.size = a0.tmps.size → aq.defers = a0.defers → (∀ e, e ∉ ([41, 42, 4, 6] : List Nat) → aq.tmps[e]? = a0.tmps[e]?) → VnkE B4 A5 A8 k y0 y1 y2 y3 y4 y5 y6 y7 (B4) 2 (aq.tmps.getD 4 undef) W → VnkE B4 A5 A8 k y0 y1 y2 y3 y4 y5 y6 y7 (B4) 3 undef W → VnkE B4 A5 A8 k y0 y1 y2 y3 y4 y5 y6 y7 (B4) 4 (aq.tmps.getD 6 undef) W → Below (B4) w0 W → SnkE B4 A5 A8 k y0 y1 y2 y3 y4 y5 y6 y7 W → Q .normal aq W) :
    (Code.region idq #[{ dst := some 41, op := Op.move (Operand.tmp 7), type := t0, pos := q0, after := #[], guard := none },
    { dst := some 42, op := Op.load 50 (Operand.tmp 8), type := t1, pos := q1, after := #[{ on := 2, ground := Ground.gcOnly Departure.lateStores }], guard := none },
    { dst := some 4, op := Op.assign (Operand.tmp 41), type := t2, pos := q2, after := #[{ on := 0, ground := Ground.data }, { on := 0, ground := Ground.phase }, { on := 1, ground := Ground.textOnly Departure.lateStores }], guard := none },
    { dst := none, op := Op.store 50 (Operand.tmp 5) (Operand.tmp 42), type := t3, pos := q3, after := #[{ on := 1, ground := Ground.data }, { on := 2, ground := Ground.chain }, { on := 0, ground := Ground.phase }, { on := 1, ground := Ground.phase }, { on := 2, ground := Ground.phase }], guard := none },
    { dst := some 6, op := Op.assign (Operand.const (Value.bool true)), type := t4, pos := q4, after := #[{ on := 3, ground := Ground.chain }, { on := 0, ground := Ground.phase }, { on := 1, ground := Ground.phase }, { on := 2, ground := Ground.phase }, { on := 3, ground := Ground.phase }], guard := none }] true).wp Try.prog Q a0 w0 := by
  have hS : distS [some 41, some 42, some 4, none, some 6] = true := rfl
  refine wp_region_inv (by kernel_rfl) (JnkE B4 A5 A8 k y0 y1 y2 y3 y4 y5 y6 y7 w0 a0) ⟨⟨rfl, rfl, rfl, fun _ _ => rfl, (Below.refl _ w0).drew, fun j d hj => ?_, fun j hj => ?_⟩, hs0⟩ ?_ ?_
  · exfalso
    rw [Array.getD_eq_getD_getElem?, Array.getElem?_replicate] at hj
    split at hj <;> simp at hj
  · exfalso
    rw [Array.getD_eq_getD_getElem?, Array.getElem?_replicate] at hj
    split at hj <;> simp at hj
  · intro lq aq W iq oq ⟨hJ, hs⟩ hl ho hall
    have hJ2 := hJ
    obtain ⟨z1, z2, z3, z4, z5, z6, z7⟩ := hJ
    obtain ⟨xb, z0q, z1q, z2q, z3q, z4q, z5q, z6q, z7q, xd⟩ := hs
    have cb0 := xb.c 0 rfl; have cb1 := xb.c 1 rfl; have cb2 := xb.c 2 rfl; have cb3 := xb.c 3 rfl; have cb4 := xb.c 4 rfl; have cb5 := xb.c 5 rfl; have cb6 := xb.c 6 rfl; have cb7 := xb.c 7 rfl; have rb0 := xd.c 0 rfl; have sb0 := xd.f 0 rfl; have rb1 := xd.c 1 rfl; have sb1 := xd.f 1 rfl; have rb2 := xd.c 2 rfl; have sb2 := xd.f 2 rfl; have rb3 := xd.c 3 rfl; have sb3 := xd.f 3 rfl; have rb4 := xd.c 4 rfl; have sb4 := xd.f 4 rfl; have rb5 := xd.c 5 rfl; have sb5 := xd.f 5 rfl; have rb6 := xd.c 6 rfl; have sb6 := xd.f 6 rfl; have rb7 := xd.c 7 rfl; have sb7 := xd.f 7 rfl
    have rlb := xd.lt
    have hs : SnkE B4 A5 A8 k y0 y1 y2 y3 y4 y5 y6 y7 W := ⟨xb, _, _, _, _, _, _, _, _, xd⟩
    have g7 : aq.tmps.getD 7 undef = .int .i64 k := by rw [Array.getD_eq_getD_getElem?, z4 7 (by decide), h7]; rfl
    have g8 : aq.tmps.getD 8 undef = .pointer (some ⟨A8, 0, none⟩) := by rw [Array.getD_eq_getD_getElem?, z4 8 (by decide), h8]; rfl
    have g5 : aq.tmps.getD 5 undef = .pointer (some ⟨A5, 0, none⟩) := by rw [Array.getD_eq_getD_getElem?, z4 5 (by decide), h5]; rfl
    match iq, ho with
    | 0, ho =>
      cases ho
      refine wpOp_of rfl rfl ?_
      have hK := fun (v : Value) (W2 : World) hW hT hv (hs : SnkE B4 A5 A8 k y0 y1 y2 y3 y4 y5 y6 y7 W2) => show (JnkE B4 A5 A8 k y0 y1 y2 y3 y4 y5 y6 y7 w0 a0) (lq.setIfInBounds 0 true) (aq.put (some 41) v) W2 from ⟨hJ2.put hS 0 41 rfl (by omega) (W' := W2) hW hT v hv, hs⟩
      clear ho hall hl hQ
      generalize (JnkE B4 A5 A8 k y0 y1 y2 y3 y4 y5 y6 y7 w0 a0) (lq.setIfInBounds 0 true) = K at hK ⊢
      clear hJ2 hS z1 z2 z3 z4 z6 z7
      go_simp
      exact hK _ _ z5 (fun _ _ h => h) rfl hs
    | 1, ho =>
      cases ho
      refine wpOp_of rfl rfl ?_
      have hK := fun (v : Value) (W2 : World) hW hT hv (hs : SnkE B4 A5 A8 k y0 y1 y2 y3 y4 y5 y6 y7 W2) => show (JnkE B4 A5 A8 k y0 y1 y2 y3 y4 y5 y6 y7 w0 a0) (lq.setIfInBounds 1 true) (aq.put (some 42) v) W2 from ⟨hJ2.put hS 1 42 rfl (by omega) (W' := W2) hW hT v hv, hs⟩
      clear ho hall hl hQ
      generalize (JnkE B4 A5 A8 k y0 y1 y2 y3 y4 y5 y6 y7 w0 a0) (lq.setIfInBounds 1 true) = K at hK ⊢
      clear hJ2 hS z1 z2 z3 z4 z6 z7
      go_simp
      exact hK _ _ z5 (fun _ _ h => h) rfl hs
    | 2, ho =>
      cases ho
      refine wpOp_of rfl rfl ?_
      have f0 : (aq.tmps.getD 41 undef) = .int .i64 k := z6 0 41 (hall { on := 0, ground := Ground.data } (by simp) rfl) rfl
      have hK := fun (v : Value) (W2 : World) hW hT hv (hs : SnkE B4 A5 A8 k y0 y1 y2 y3 y4 y5 y6 y7 W2) => show (JnkE B4 A5 A8 k y0 y1 y2 y3 y4 y5 y6 y7 w0 a0) (lq.setIfInBounds 2 true) (aq.put (some 4) v) W2 from ⟨hJ2.put hS 2 4 rfl (by omega) (W' := W2) hW hT v hv, hs⟩
      clear ho hall hl hQ
      generalize (JnkE B4 A5 A8 k y0 y1 y2 y3 y4 y5 y6 y7 w0 a0) (lq.setIfInBounds 2 true) = K at hK ⊢
      clear hJ2 hS z1 z2 z3 z4 z6 z7
      go_simp
      exact hK _ _ z5 (fun _ _ h => h) rfl hs
    | 3, ho =>
      cases ho
      refine wpOp_of rfl rfl ?_
      have f1 : (aq.tmps.getD 42 undef) = .agg #[.int .u64 y0, .int .u64 y1, .int .u64 y2, .int .u64 y3, .int .u64 y4, .int .u64 y5, .int .u64 y6, .int .u64 y7] := z6 1 42 (hall { on := 1, ground := Ground.data } (by simp) rfl) rfl
      have hK := fun (W2 : World) hW hT hv (hs : SnkE B4 A5 A8 k y0 y1 y2 y3 y4 y5 y6 y7 W2) => show (JnkE B4 A5 A8 k y0 y1 y2 y3 y4 y5 y6 y7 w0 a0) (lq.setIfInBounds 3 true) aq W2 from ⟨hJ2.world 3 rfl (W' := W2) hW hT hv, hs⟩
      clear ho hall hl hQ
      generalize (JnkE B4 A5 A8 k y0 y1 y2 y3 y4 y5 y6 y7 w0 a0) (lq.setIfInBounds 3 true) = K at hK ⊢
      clear hJ2 hS z1 z2 z3 z4 z6 z7
      have nb : Blk ((((((((W.setCell ⟨A5, 0, none⟩ (.int .u64 y0)).setCell ⟨A5, 1, none⟩ (.int .u64 y1)).setCell ⟨A5, 2, none⟩ (.int .u64 y2)).setCell ⟨A5, 3, none⟩ (.int .u64 y3)).setCell ⟨A5, 4, none⟩ (.int .u64 y4)).setCell ⟨A5, 5, none⟩ (.int .u64 y5)).setCell ⟨A5, 6, none⟩ (.int .u64 y6)).setCell ⟨A5, 7, none⟩ (.int .u64 y7)) A5 [.int .u64 y0, .int .u64 y1, .int .u64 y2, .int .u64 y3, .int .u64 y4, .int .u64 y5, .int .u64 y6, .int .u64 y7] := Blk.stored8 xd _ _ _ _ _ _ _ _
      have ns : SnkE B4 A5 A8 k y0 y1 y2 y3 y4 y5 y6 y7 ((((((((W.setCell ⟨A5, 0, none⟩ (.int .u64 y0)).setCell ⟨A5, 1, none⟩ (.int .u64 y1)).setCell ⟨A5, 2, none⟩ (.int .u64 y2)).setCell ⟨A5, 3, none⟩ (.int .u64 y3)).setCell ⟨A5, 4, none⟩ (.int .u64 y4)).setCell ⟨A5, 5, none⟩ (.int .u64 y5)).setCell ⟨A5, 6, none⟩ (.int .u64 y6)).setCell ⟨A5, 7, none⟩ (.int .u64 y7)) := ⟨xb.set8 n85, _, _, _, _, _, _, _, _, nb⟩
      have nB : Below B4 w0 ((((((((W.setCell ⟨A5, 0, none⟩ (.int .u64 y0)).setCell ⟨A5, 1, none⟩ (.int .u64 y1)).setCell ⟨A5, 2, none⟩ (.int .u64 y2)).setCell ⟨A5, 3, none⟩ (.int .u64 y3)).setCell ⟨A5, 4, none⟩ (.int .u64 y4)).setCell ⟨A5, 5, none⟩ (.int .u64 y5)).setCell ⟨A5, 6, none⟩ (.int .u64 y6)).setCell ⟨A5, 7, none⟩ (.int .u64 y7)) := ((((((((z5.setCell (p := ⟨A5, 0, none⟩) hb5 _).setCell (p := ⟨A5, 1, none⟩) hb5 _).setCell (p := ⟨A5, 2, none⟩) hb5 _).setCell (p := ⟨A5, 3, none⟩) hb5 _).setCell (p := ⟨A5, 4, none⟩) hb5 _).setCell (p := ⟨A5, 5, none⟩) hb5 _).setCell (p := ⟨A5, 6, none⟩) hb5 _).setCell (p := ⟨A5, 7, none⟩) hb5 _)
      clear xb xd
      go_simp
      exact hK _ nB (fun j v h => VnkE.put (fun _ => nb) h) nb ns
    | 4, ho =>
      cases ho
      refine wpOp_of rfl rfl ?_
      have hK := fun (v : Value) (W2 : World) hW hT hv (hs : SnkE B4 A5 A8 k y0 y1 y2 y3 y4 y5 y6 y7 W2) => show (JnkE B4 A5 A8 k y0 y1 y2 y3 y4 y5 y6 y7 w0 a0) (lq.setIfInBounds 4 true) (aq.put (some 6) v) W2 from ⟨hJ2.put hS 4 6 rfl (by omega) (W' := W2) hW hT v hv, hs⟩
      clear ho hall hl hQ
      generalize (JnkE B4 A5 A8 k y0 y1 y2 y3 y4 y5 y6 y7 w0 a0) (lq.setIfInBounds 4 true) = K at hK ⊢
      clear hJ2 hS z1 z2 z3 z4 z6 z7
      go_simp
      exact hK _ _ z5 (fun _ _ h => h) rfl hs
    | iq + 5, ho => simp at ho
  · intro lq aq W ⟨hJ, hs⟩ hr
    obtain ⟨z1, z2, z3, z4, z5, z6, z7⟩ := hJ
    have hl := listed_of hr [0, 2, 1, 3, 4] [] (by simp) (by kernel_rfl) (by rw [z1]; decide)
    exact hQ aq W z2 z3 (fun e he => z4 e (by simpa using he)) (z6 2 4 (hl 2 (by simp)) rfl) (z7 3 (hl 3 (by simp)) rfl) (z6 4 6 (hl 4 (by simp)) rfl) z5 hs
end Go.Proofs.Ytmjlgmoohpnhfaa

/- The function that keepNearest hands out. -/
namespace Go.Proofs.Ytmjlgmoohpnhfaa
open Go.RowKit
/-- What one call of it leaves. -/
def NeP1 (B4 gp gs gl gb : Nat) (p q k l m t : Int) (w : World) (e : Ending) (w' : World) : Prop :=
  e = .returned (.tuple #[.int .i64 t, .agg #[.int .u64 (ww3 l), .int .u64 (ww2 l), .int .u64 (ww1 l), .int .u64 (ww0 l), .int .u64 (ww3 m), .int .u64 (ww2 m), .int .u64 (ww1 m), .int .u64 (ww0 m)]]) ∧ Blk w' gp [.int .i64 p, .int .i64 q] ∧ Blk w' gs [.int .i64 k] ∧ Blk w' gl [.int .u64 (ww3 l), .int .u64 (ww2 l), .int .u64 (ww1 l), .int .u64 (ww0 l), .int .u64 (ww3 m), .int .u64 (ww2 m), .int .u64 (ww1 m), .int .u64 (ww0 m)] ∧ Blk w' gb [.int .i64 t] ∧ Below B4 w w'
set_option maxRecDepth 100000 in
set_option maxHeartbeats 8000000 in
theorem near1_any (B4 gp gs gl gb : Nat) (a b c d p q u v l m k t o : Int) (up : Bool) (hN : ∀ w, Calls Try.prog 113 #[.agg #[.int .i64 a, .int .i64 b, .int .i64 c, .int .i64 d], .agg #[.int .i64 p, .int .i64 q]] w (VP (.tuple #[.agg #[.int .u64 (ww3 u), .int .u64 (ww2 u), .int .u64 (ww1 u), .int .u64 (ww0 u), .int .u64 (ww3 v), .int .u64 (ww2 v), .int .u64 (ww1 v), .int .u64 (ww0 v)], .bool true]) w)) (hO : k ≠ 0 → ∀ w, Calls Try.prog 114 #[.agg #[.int .u64 (ww3 u), .int .u64 (ww2 u), .int .u64 (ww1 u), .int .u64 (ww0 u), .int .u64 (ww3 v), .int .u64 (ww2 v), .int .u64 (ww1 v), .int .u64 (ww0 v)], .agg #[.int .u64 (ww3 l), .int .u64 (ww2 l), .int .u64 (ww1 l), .int .u64 (ww0 l), .int .u64 (ww3 m), .int .u64 (ww2 m), .int .u64 (ww1 m), .int .u64 (ww0 m)]] w (VP (.int .i64 o) w)) (hk0 : 0 ≤ k) (hk1 : k ≤ 2000000) (hup : up = (decide (k = 0) || decide (o < 0))) (w : World)
    (XP : Blk w gp [.int .i64 p, .int .i64 q]) (XS : Blk w gs [.int .i64 k]) (XL : Blk w gl [.int .u64 (ww3 l), .int .u64 (ww2 l), .int .u64 (ww1 l), .int .u64 (ww0 l), .int .u64 (ww3 m), .int .u64 (ww2 m), .int .u64 (ww1 m), .int .u64 (ww0 m)]) (XB : Blk w gb [.int .i64 t]) (nps : gp ≠ gs) (npl : gp ≠ gl) (npb : gp ≠ gb) (nsl : gs ≠ gl) (nsb : gs ≠ gb) (nlb : gl ≠ gb) (hp : B4 ≤ gp) (hs : B4 ≤ gs) (hl : B4 ≤ gl) (hb : B4 ≤ gb) :
    Calls Try.prog 112 #[.agg #[.int .i64 a, .int .i64 b, .int .i64 c, .int .i64 d], .pointer (some ⟨gp, 0, none⟩), .pointer (some ⟨gs, 0, none⟩), .pointer (some ⟨gl, 0, none⟩), .pointer (some ⟨gb, 0, none⟩)] w (NeP1 B4 gp gs gl gb p q (k + 1) (cond up u l) (cond up v m) (cond up k t) w) := by
  have lp := XP.lt
  have ls := XS.lt
  have ll := XL.lt
  have lb := XB.lt
  have HB : Below B4 w ((w.alloc (.cells #[.int .i64 a, .int .i64 b, .int .i64 c, .int .i64 d] 103)).alloc (.cells #[.int .u64 0, .int .u64 0, .int .u64 0, .int .u64 0, .int .u64 0, .int .u64 0, .int .u64 0, .int .u64 0] 50)) := ((Below.refl _ _).alloc (by omega) _).alloc (by simp; omega) _
  replace XP := (XP.alloc (.cells #[.int .i64 a, .int .i64 b, .int .i64 c, .int .i64 d] 103)).alloc (.cells #[.int .u64 0, .int .u64 0, .int .u64 0, .int .u64 0, .int .u64 0, .int .u64 0, .int .u64 0, .int .u64 0] 50)
  replace XS := (XS.alloc (.cells #[.int .i64 a, .int .i64 b, .int .i64 c, .int .i64 d] 103)).alloc (.cells #[.int .u64 0, .int .u64 0, .int .u64 0, .int .u64 0, .int .u64 0, .int .u64 0, .int .u64 0, .int .u64 0] 50)
  replace XL := (XL.alloc (.cells #[.int .i64 a, .int .i64 b, .int .i64 c, .int .i64 d] 103)).alloc (.cells #[.int .u64 0, .int .u64 0, .int .u64 0, .int .u64 0, .int .u64 0, .int .u64 0, .int .u64 0, .int .u64 0] 50)
  replace XB := (XB.alloc (.cells #[.int .i64 a, .int .i64 b, .int .i64 c, .int .i64 d] 103)).alloc (.cells #[.int .u64 0, .int .u64 0, .int .u64 0, .int .u64 0, .int .u64 0, .int .u64 0, .int .u64 0, .int .u64 0] 50)
  have XR := Blk.new (w.alloc (.cells #[.int .i64 a, .int .i64 b, .int .i64 c, .int .i64 d] 103)) [.int .u64 0, .int .u64 0, .int .u64 0, .int .u64 0, .int .u64 0, .int .u64 0, .int .u64 0, .int .u64 0] 50 (g := w.heap.size + 1) (by simp)
  rw [show ([.int .u64 0, .int .u64 0, .int .u64 0, .int .u64 0, .int .u64 0, .int .u64 0, .int .u64 0, .int .u64 0] : List Value).toArray = #[.int .u64 0, .int .u64 0, .int .u64 0, .int .u64 0, .int .u64 0, .int .u64 0, .int .u64 0, .int .u64 0] from rfl] at XR
  have wk : IntKind.i64.wrap (k + 1) = k + 1 := by rw [IntKind.wrap_i64]; omega
  obtain ⟨p0, p1⟩ := XP.cs2
  go_enter Try.func112, Try.ntmps112
  go_wp2_with fail
  clear p0 p1
  generalize ((w.alloc (.cells #[.int .i64 a, .int .i64 b, .int .i64 c, .int .i64 d] 103)).alloc (.cells #[.int .u64 0, .int .u64 0, .int .u64 0, .int .u64 0, .int .u64 0, .int .u64 0, .int .u64 0, .int .u64 0] 50)) = W1 at *
  have lpr : gp < w.heap.size + 1 := by omega
  have lsr : gs < w.heap.size + 1 := by omega
  have llr : gl < w.heap.size + 1 := by omega
  have lbr : gb < w.heap.size + 1 := by omega
  have hbr : B4 ≤ w.heap.size + 1 := by omega
  generalize w.heap.size + 1 = gr at *
  have nbr : gb ≠ gr := by omega
  have nlr : gl ≠ gr := by omega
  have nrb : gr ≠ gb := by omega
  have nrl : gr ≠ gl := by omega
  have nrs : gr ≠ gs := by omega
  have nls : gl ≠ gs := by omega
  have nbs : gb ≠ gs := by omega
  have nbl : gb ≠ gl := by omega
  refine (hN _).mono ?_
  rintro e w1 ⟨rfl, hB⟩
  replace HB := HB.trans (hB.mono (by have := XP.lt; omega))
  replace XP := XP.step hB
  replace XS := XS.step hB
  replace XL := XL.step hB
  replace XB := XB.step hB
  replace XR := XR.step hB
  clear hB hN
  have r1 := XR.lt
  have X8 := Blk.new w1 [.int .u64 (ww3 u), .int .u64 (ww2 u), .int .u64 (ww1 u), .int .u64 (ww0 u), .int .u64 (ww3 v), .int .u64 (ww2 v), .int .u64 (ww1 v), .int .u64 (ww0 v)] 50 rfl
  rw [show ([.int .u64 (ww3 u), .int .u64 (ww2 u), .int .u64 (ww1 u), .int .u64 (ww0 u), .int .u64 (ww3 v), .int .u64 (ww2 v), .int .u64 (ww1 v), .int .u64 (ww0 v)] : List Value).toArray = #[.int .u64 (ww3 u), .int .u64 (ww2 u), .int .u64 (ww1 u), .int .u64 (ww0 u), .int .u64 (ww3 v), .int .u64 (ww2 v), .int .u64 (ww1 v), .int .u64 (ww0 v)] from rfl] at X8
  replace HB := HB.alloc (by omega) (.cells #[.int .u64 (ww3 u), .int .u64 (ww2 u), .int .u64 (ww1 u), .int .u64 (ww0 u), .int .u64 (ww3 v), .int .u64 (ww2 v), .int .u64 (ww1 v), .int .u64 (ww0 v)] 50)
  replace XP := XP.alloc (.cells #[.int .u64 (ww3 u), .int .u64 (ww2 u), .int .u64 (ww1 u), .int .u64 (ww0 u), .int .u64 (ww3 v), .int .u64 (ww2 v), .int .u64 (ww1 v), .int .u64 (ww0 v)] 50)
  replace XS := XS.alloc (.cells #[.int .u64 (ww3 u), .int .u64 (ww2 u), .int .u64 (ww1 u), .int .u64 (ww0 u), .int .u64 (ww3 v), .int .u64 (ww2 v), .int .u64 (ww1 v), .int .u64 (ww0 v)] 50)
  replace XL := XL.alloc (.cells #[.int .u64 (ww3 u), .int .u64 (ww2 u), .int .u64 (ww1 u), .int .u64 (ww0 u), .int .u64 (ww3 v), .int .u64 (ww2 v), .int .u64 (ww1 v), .int .u64 (ww0 v)] 50)
  replace XB := XB.alloc (.cells #[.int .u64 (ww3 u), .int .u64 (ww2 u), .int .u64 (ww1 u), .int .u64 (ww0 u), .int .u64 (ww3 v), .int .u64 (ww2 v), .int .u64 (ww1 v), .int .u64 (ww0 v)] 50)
  replace XR := XR.alloc (.cells #[.int .u64 (ww3 u), .int .u64 (ww2 u), .int .u64 (ww1 u), .int .u64 (ww0 u), .int .u64 (ww3 v), .int .u64 (ww2 v), .int .u64 (ww1 v), .int .u64 (ww0 v)] 50)
  have n8b : w1.heap.size ≠ gb := by omega
  have n8l : w1.heap.size ≠ gl := by omega
  go_upto_region 2 with fail
  generalize (w1.alloc (.cells #[.int .u64 (ww3 u), .int .u64 (ww2 u), .int .u64 (ww1 u), .int .u64 (ww0 u), .int .u64 (ww3 v), .int .u64 (ww2 v), .int .u64 (ww1 v), .int .u64 (ww0 v)] 50)) = W2 at *
  generalize w1.heap.size = g8 at *
  by_cases h0 : k = 0
  · have hu : up = true := by rw [hup, decide_eq_true h0]; rfl
    subst hu
    have kk : (k == 0) = true := beq_iff_eq.2 h0
    have xs0 := XS.c 0 rfl
    clear hup hO h0
    go_upto_region 3 with fail
    refine nkR (B4 := B4) (gs := gs) (gl := gl) (gb := gb) (A8 := g8) (gp := gp) (gr := gr) (p := p) (q := q) nsb nsl n8b n8l nbl nlb npb npl nrb nrl hb hl rfl rfl rfl rfl rfl ⟨XS.drew, X8.drew, XP.drew, XR.drew, ⟨_, XB.drew⟩, _, _, _, _, _, _, _, _, XL.drew⟩ ?_
    rintro ⟨tm, df⟩ W4 hz hdf hoff hB1 hL1 hBz ⟨XS4, _, XP4, XR4, _, _⟩
    have hB1 : Blk W4 gb [.int .i64 k] := hB1
    have hL1 : Blk W4 gl [.int .u64 (ww3 u), .int .u64 (ww2 u), .int .u64 (ww1 u), .int .u64 (ww0 u), .int .u64 (ww3 v), .int .u64 (ww2 v), .int .u64 (ww1 v), .int .u64 (ww0 v)] := hL1
    simp only at hz hdf hoff
    subst hdf
    have htm := tmps_fold [24, 25] tm _ hz hoff
    simp only [List.foldl, List.setIfInBounds_toArray, List.set_cons_zero, List.set_cons_succ] at htm
    clear hz hoff
    generalize tm.getD 24 undef = u0, tm.getD 25 undef = u1 at htm
    subst htm
    replace HB := HB.trans hBz
    clear XP XS XL XB XR X8 hBz
    have XP := XP4
    have XS := XS4
    have XR := XR4
    have XL := hL1
    have XB := hB1
    clear XP4 XS4 XR4 hL1 hB1
    clear xs0 kk
    have xs0 := XS.c 0 rfl
    have xf0 := XS.f 0 rfl
    have xsl := XS.lt
    go_upto_region 5 with fail
    replace HB := HB.setCell (p := ⟨gs, 0, none⟩) hs (.int .i64 (k + 1))
    replace XP := XP.setO (p := ⟨gs, 0, none⟩) nps (.int .i64 (k + 1))
    replace XL := XL.setO (p := ⟨gs, 0, none⟩) nls (.int .i64 (k + 1))
    replace XB := XB.setO (p := ⟨gs, 0, none⟩) nbs (.int .i64 (k + 1))
    replace XR := XR.setO (p := ⟨gs, 0, none⟩) nrs (.int .i64 (k + 1))
    have XS2 : Blk (W4.setCell ⟨gs, 0, none⟩ (.int .i64 (k + 1))) gs [.int .i64 (k + 1)] := XS.setI 0 (by simp) _
    clear xs0 xf0 xsl XS
    generalize (W4.setCell ⟨gs, 0, none⟩ (.int .i64 (k + 1))) = W5 at *
    refine nkS (B4 := gr) (gl := gl) (gb := gb) (A7 := gr) nbr nlr (Nat.le_refl _) rfl rfl rfl rfl ⟨XB.drew, XL.drew, _, _, _, _, _, _, _, _, XR.drew⟩ ?_
    rintro ⟨tm, df⟩ Wz hz hdf hoff h6 hR hBz hS
    have hR : Blk Wz gr [.int .u64 (ww3 u), .int .u64 (ww2 u), .int .u64 (ww1 u), .int .u64 (ww0 u), .int .u64 (ww3 v), .int .u64 (ww2 v), .int .u64 (ww1 v), .int .u64 (ww0 v)] := hR
    simp only at hz hdf hoff
    change tm.getD 6 undef = .int .i64 k at h6
    subst hdf
    have htm := tmps_fold [28, 29, 6] tm _ hz hoff
    simp only [List.foldl, List.setIfInBounds_toArray, List.set_cons_zero, List.set_cons_succ, h6] at htm
    clear hz hoff
    generalize tm.getD 28 undef = s0, tm.getD 29 undef = s1 at htm
    clear h6
    subst htm
    have HBF := HB.trans (hBz.mono hbr)
    have YP := XP.below hBz lpr
    have YS := XS2.below hBz lsr
    have YL := XL.below hBz llr
    have YB := XB.below hBz lbr
    clear XP XS2 XL XB XR HB hBz hS
    have m0 := hR.c 0 rfl; have m1 := hR.c 1 rfl; have m2 := hR.c 2 rfl; have m3 := hR.c 3 rfl; have m4 := hR.c 4 rfl; have m5 := hR.c 5 rfl; have m6 := hR.c 6 rfl; have m7 := hR.c 7 rfl
    go_wp2
    refine bodyPost_ret (v := .tuple #[.int .i64 k, .agg #[.int .u64 (ww3 u), .int .u64 (ww2 u), .int .u64 (ww1 u), .int .u64 (ww0 u), .int .u64 (ww3 v), .int .u64 (ww2 v), .int .u64 (ww1 v), .int .u64 (ww0 v)]]) (by simp [results, Try.results112, go_sem, m0, m1, m2, m3, m4, m5, m6, m7]) rfl ?_
    exact ⟨rfl, YP, YS, YL, YB, HBF⟩
  · have hO := hO h0
    have kk : (k == 0) = false := beq_eq_false_iff_ne.2 h0
    have xs0 := XS.c 0 rfl
    obtain ⟨c0, c1, c2, c3, c4, c5, c6, c7⟩ := X8.cs8
    obtain ⟨d0, d1, d2, d3, d4, d5, d6, d7⟩ := XL.cs8
    go_wp2_with fail
    clear c0 c1 c2 c3 c4 c5 c6 c7 d0 d1 d2 d3 d4 d5 d6 d7 xs0
    refine (hO _).mono ?_
    rintro e w3 ⟨rfl, hB⟩
    replace HB := HB.trans (hB.mono (by have := XP.lt; omega))
    replace XP := XP.step hB
    replace XS := XS.step hB
    replace XL := XL.step hB
    replace XB := XB.step hB
    replace XR := XR.step hB
    replace X8 := X8.step hB
    clear hB hO
    by_cases ho : o < 0
    · have hu : up = true := by rw [hup, decide_eq_true ho]; simp
      subst hu
      clear hup
      go_upto_region 3 with fail
      refine nkR (B4 := B4) (gs := gs) (gl := gl) (gb := gb) (A8 := g8) (gp := gp) (gr := gr) (p := p) (q := q) nsb nsl n8b n8l nbl nlb npb npl nrb nrl hb hl rfl rfl rfl rfl rfl ⟨XS.drew, X8.drew, XP.drew, XR.drew, ⟨_, XB.drew⟩, _, _, _, _, _, _, _, _, XL.drew⟩ ?_
      rintro ⟨tm, df⟩ W4 hz hdf hoff hB1 hL1 hBz ⟨XS4, _, XP4, XR4, _, _⟩
      have hB1 : Blk W4 gb [.int .i64 k] := hB1
      have hL1 : Blk W4 gl [.int .u64 (ww3 u), .int .u64 (ww2 u), .int .u64 (ww1 u), .int .u64 (ww0 u), .int .u64 (ww3 v), .int .u64 (ww2 v), .int .u64 (ww1 v), .int .u64 (ww0 v)] := hL1
      simp only at hz hdf hoff
      subst hdf
      have htm := tmps_fold [24, 25] tm _ hz hoff
      simp only [List.foldl, List.setIfInBounds_toArray, List.set_cons_zero, List.set_cons_succ] at htm
      clear hz hoff
      generalize tm.getD 24 undef = u0, tm.getD 25 undef = u1 at htm
      subst htm
      replace HB := HB.trans hBz
      clear XP XS XL XB XR X8 hBz
      have XP := XP4
      have XS := XS4
      have XR := XR4
      have XL := hL1
      have XB := hB1
      clear XP4 XS4 XR4 hL1 hB1
      have xs0 := XS.c 0 rfl
      have xf0 := XS.f 0 rfl
      have xsl := XS.lt
      go_upto_region 5 with fail
      replace HB := HB.setCell (p := ⟨gs, 0, none⟩) hs (.int .i64 (k + 1))
      replace XP := XP.setO (p := ⟨gs, 0, none⟩) nps (.int .i64 (k + 1))
      replace XL := XL.setO (p := ⟨gs, 0, none⟩) nls (.int .i64 (k + 1))
      replace XB := XB.setO (p := ⟨gs, 0, none⟩) nbs (.int .i64 (k + 1))
      replace XR := XR.setO (p := ⟨gs, 0, none⟩) nrs (.int .i64 (k + 1))
      have XS2 : Blk (W4.setCell ⟨gs, 0, none⟩ (.int .i64 (k + 1))) gs [.int .i64 (k + 1)] := XS.setI 0 (by simp) _
      clear xs0 xf0 xsl XS
      generalize (W4.setCell ⟨gs, 0, none⟩ (.int .i64 (k + 1))) = W5 at *
      refine nkS (B4 := gr) (gl := gl) (gb := gb) (A7 := gr) nbr nlr (Nat.le_refl _) rfl rfl rfl rfl ⟨XB.drew, XL.drew, _, _, _, _, _, _, _, _, XR.drew⟩ ?_
      rintro ⟨tm, df⟩ Wz hz hdf hoff h6 hR hBz hS
      have hR : Blk Wz gr [.int .u64 (ww3 u), .int .u64 (ww2 u), .int .u64 (ww1 u), .int .u64 (ww0 u), .int .u64 (ww3 v), .int .u64 (ww2 v), .int .u64 (ww1 v), .int .u64 (ww0 v)] := hR
      simp only at hz hdf hoff
      change tm.getD 6 undef = .int .i64 k at h6
      subst hdf
      have htm := tmps_fold [28, 29, 6] tm _ hz hoff
      simp only [List.foldl, List.setIfInBounds_toArray, List.set_cons_zero, List.set_cons_succ, h6] at htm
      clear hz hoff
      generalize tm.getD 28 undef = s0, tm.getD 29 undef = s1 at htm
      clear h6
      subst htm
      have HBF := HB.trans (hBz.mono hbr)
      have YP := XP.below hBz lpr
      have YS := XS2.below hBz lsr
      have YL := XL.below hBz llr
      have YB := XB.below hBz lbr
      clear XP XS2 XL XB XR HB hBz hS
      have m0 := hR.c 0 rfl; have m1 := hR.c 1 rfl; have m2 := hR.c 2 rfl; have m3 := hR.c 3 rfl; have m4 := hR.c 4 rfl; have m5 := hR.c 5 rfl; have m6 := hR.c 6 rfl; have m7 := hR.c 7 rfl
      go_wp2
      refine bodyPost_ret (v := .tuple #[.int .i64 k, .agg #[.int .u64 (ww3 u), .int .u64 (ww2 u), .int .u64 (ww1 u), .int .u64 (ww0 u), .int .u64 (ww3 v), .int .u64 (ww2 v), .int .u64 (ww1 v), .int .u64 (ww0 v)]]) (by simp [results, Try.results112, go_sem, m0, m1, m2, m3, m4, m5, m6, m7]) rfl ?_
      exact ⟨rfl, YP, YS, YL, YB, HBF⟩
    · have hu : up = false := by rw [hup, decide_eq_false ho, decide_eq_false h0]; rfl
      subst hu
      clear hup X8
      have ho' : ¬ (o < 0) := ho
      have xs0 := XS.c 0 rfl
      have xf0 := XS.f 0 rfl
      have xsl := XS.lt
      go_upto_region 5 with fail
      replace HB := HB.setCell (p := ⟨gs, 0, none⟩) hs (.int .i64 (k + 1))
      replace XP := XP.setO (p := ⟨gs, 0, none⟩) nps (.int .i64 (k + 1))
      replace XL := XL.setO (p := ⟨gs, 0, none⟩) nls (.int .i64 (k + 1))
      replace XB := XB.setO (p := ⟨gs, 0, none⟩) nbs (.int .i64 (k + 1))
      replace XR := XR.setO (p := ⟨gs, 0, none⟩) nrs (.int .i64 (k + 1))
      have XS2 : Blk (w3.setCell ⟨gs, 0, none⟩ (.int .i64 (k + 1))) gs [.int .i64 (k + 1)] := XS.setI 0 (by simp) _
      clear xs0 xf0 xsl XS
      generalize (w3.setCell ⟨gs, 0, none⟩ (.int .i64 (k + 1))) = W5 at *
      refine nkS (B4 := gr) (gl := gl) (gb := gb) (A7 := gr) nbr nlr (Nat.le_refl _) rfl rfl rfl rfl ⟨XB.drew, XL.drew, _, _, _, _, _, _, _, _, XR.drew⟩ ?_
      rintro ⟨tm, df⟩ Wz hz hdf hoff h6 hR hBz hS
      have hR : Blk Wz gr [.int .u64 (ww3 l), .int .u64 (ww2 l), .int .u64 (ww1 l), .int .u64 (ww0 l), .int .u64 (ww3 m), .int .u64 (ww2 m), .int .u64 (ww1 m), .int .u64 (ww0 m)] := hR
      simp only at hz hdf hoff
      change tm.getD 6 undef = .int .i64 t at h6
      subst hdf
      have htm := tmps_fold [28, 29, 6] tm _ hz hoff
      simp only [List.foldl, List.setIfInBounds_toArray, List.set_cons_zero, List.set_cons_succ, h6] at htm
      clear hz hoff
      generalize tm.getD 28 undef = s0, tm.getD 29 undef = s1 at htm
      clear h6
      subst htm
      have HBF := HB.trans (hBz.mono hbr)
      have YP := XP.below hBz lpr
      have YS := XS2.below hBz lsr
      have YL := XL.below hBz llr
      have YB := XB.below hBz lbr
      clear XP XS2 XL XB XR HB hBz hS
      have m0 := hR.c 0 rfl; have m1 := hR.c 1 rfl; have m2 := hR.c 2 rfl; have m3 := hR.c 3 rfl; have m4 := hR.c 4 rfl; have m5 := hR.c 5 rfl; have m6 := hR.c 6 rfl; have m7 := hR.c 7 rfl
      go_wp2
      refine bodyPost_ret (v := .tuple #[.int .i64 t, .agg #[.int .u64 (ww3 l), .int .u64 (ww2 l), .int .u64 (ww1 l), .int .u64 (ww0 l), .int .u64 (ww3 m), .int .u64 (ww2 m), .int .u64 (ww1 m), .int .u64 (ww0 m)]]) (by simp [results, Try.results112, go_sem, m0, m1, m2, m3, m4, m5, m6, m7]) rfl ?_
      exact ⟨rfl, YP, YS, YL, YB, HBF⟩
end Go.Proofs.Ytmjlgmoohpnhfaa

/- The square of the distance of a spot and a segment: the program's walk. -/
namespace Go.Proofs.Ytmjlgmoohpnhfaa
open Go.RowKit
theorem nt_cells {C m n : Int} {W : World} {gT gM : Nat} (BT : Blk W gT [.int .u64 (ww3 C), .int .u64 (ww2 C), .int .u64 (ww1 C), .int .u64 (ww0 C)]) (BM : Blk W gM [.int .i64 m, .int .i64 n]) : (fun w' => w'.cell? ⟨gT, 0, none⟩ = some (.int .u64 (ww3 C)) ∧ w'.cell? ⟨gT, 1, none⟩ = some (.int .u64 (ww2 C)) ∧ w'.cell? ⟨gT, 2, none⟩ = some (.int .u64 (ww1 C)) ∧ w'.cell? ⟨gT, 3, none⟩ = some (.int .u64 (ww0 C)) ∧ w'.cell? ⟨gM, 0, none⟩ = some (.int .i64 m) ∧ w'.cell? ⟨gM, 1, none⟩ = some (.int .i64 n)) W := ⟨BT.c 0 rfl, BT.c 1 rfl, BT.c 2 rfl, BT.c 3 rfl, BM.c 0 rfl, BM.c 1 rfl⟩
theorem nt_cells8 {C m n : Int} {W : World} {gT gM g : Nat} {v0 v1 v2 v3 v4 v5 v6 v7 : Value} (BT : Blk W gT [.int .u64 (ww3 C), .int .u64 (ww2 C), .int .u64 (ww1 C), .int .u64 (ww0 C)]) (BM : Blk W gM [.int .i64 m, .int .i64 n]) (hT : gT ≠ g) (hM : gM ≠ g) : (fun w' => w'.cell? ⟨gT, 0, none⟩ = some (.int .u64 (ww3 C)) ∧ w'.cell? ⟨gT, 1, none⟩ = some (.int .u64 (ww2 C)) ∧ w'.cell? ⟨gT, 2, none⟩ = some (.int .u64 (ww1 C)) ∧ w'.cell? ⟨gT, 3, none⟩ = some (.int .u64 (ww0 C)) ∧ w'.cell? ⟨gM, 0, none⟩ = some (.int .i64 m) ∧ w'.cell? ⟨gM, 1, none⟩ = some (.int .i64 n)) ((((((((W.setCell ⟨g, 0, none⟩ v0).setCell ⟨g, 1, none⟩ v1).setCell ⟨g, 2, none⟩ v2).setCell ⟨g, 3, none⟩ v3).setCell ⟨g, 4, none⟩ v4).setCell ⟨g, 5, none⟩ v5).setCell ⟨g, 6, none⟩ v6).setCell ⟨g, 7, none⟩ v7) := ⟨(BT.set8 hT).c 0 rfl, (BT.set8 hT).c 1 rfl, (BT.set8 hT).c 2 rfl, (BT.set8 hT).c 3 rfl, (BM.set8 hM).c 0 rfl, (BM.set8 hM).c 1 rfl⟩
set_option maxRecDepth 100000 in
set_option maxHeartbeats 8000000 in
theorem implNear2_det (a b c d x y : Int) (w : World) : Calls Try.prog 113 #[Sg a b c d, Sp x y] w (VP (nearV a b c d x y) w) := by
  have T0 : ArgsB w (((w.alloc (.cells #[.int .i64 a, .int .i64 b, .int .i64 c, .int .i64 d] 103)).alloc (.cells #[.int .i64 x, .int .i64 y] 55)).alloc (.cells #[.int .u64 0, .int .u64 0, .int .u64 0, .int .u64 0, .int .u64 0, .int .u64 0, .int .u64 0, .int .u64 0] 50)) [[.int .i64 a, .int .i64 b, .int .i64 c, .int .i64 d], [.int .i64 x, .int .i64 y], [.int .u64 0, .int .u64 0, .int .u64 0, .int .u64 0, .int .u64 0, .int .u64 0, .int .u64 0, .int .u64 0]] := ar3 _ _ _ _ _ _ w
  have SO := fun w => implSegOk_any a b c d _ rfl w
  have PO := fun w => implSpotOk_any x y _ rfl w
  go_enter Try.func113, Try.ntmps113
  go_wp2_with fail
  generalize (((w.alloc (.cells #[.int .i64 a, .int .i64 b, .int .i64 c, .int .i64 d] 103)).alloc (.cells #[.int .i64 x, .int .i64 y] 55)).alloc (.cells #[.int .u64 0, .int .u64 0, .int .u64 0, .int .u64 0, .int .u64 0, .int .u64 0, .int .u64 0, .int .u64 0] 50)) = WW at *
  refine (SO _).mono ?_
  rintro e w1 ⟨rfl, hB⟩
  replace T0 := T0.step hB
  clear hB
  by_cases hs : segOk a b c d = true
  · rw [hs]
    have Y0 : Blk _ (w.heap.size + 1) _ := T0.b 1 rfl; have q0 := Y0.c 0 rfl; have q1 := Y0.c 1 rfl; clear Y0
    go_wp2_with fail
    refine (PO _).mono ?_
    rintro e w2 ⟨rfl, hB⟩
    replace T0 := T0.step hB
    clear hB q0 q1
    by_cases hp : spotOk x y = true
    · rw [hp]
      have HW : Hid (nearV a b c d x y = nearW a b c d x y) := by show _ = _; unfold nearV; rw [hs, hp]; rfl
      obtain ⟨i1, i2, i3, i4⟩ := in6_seg hs
      obtain ⟨i5, i6⟩ := in1_spot hp
      have M1 := minusS_det c d a b i3 i4 i1 i2
      have M2 := minusS_det x y a b i5 i6 i1 i2
      have M3 := minusS_det x y c d i5 i6 i3 i4
      have hm2 : In2 (c - a) := ⟨by omega, by omega⟩
      have hn2 : In2 (d - b) := ⟨by omega, by omega⟩
      have hi2 : In2 (x - a) := ⟨by omega, by omega⟩
      have hj2 : In2 (y - b) := ⟨by omega, by omega⟩
      have hk2 : In2 (x - c) := ⟨by omega, by omega⟩
      have hl2 : In2 (y - d) := ⟨by omega, by omega⟩
      have HJ : Hid (nearW a b c d x y = if (x - a) * (c - a) + (y - b) * (d - b) ≤ 0 then ratV ((x - a) * (x - a) + (y - b) * (y - b)) 1 else if (x - c) * (c - a) + (y - d) * (d - b) ≥ 0 then ratV ((x - c) * (x - c) + (y - d) * (y - d)) 1 else ratV (((c - a) * (y - b) - (d - b) * (x - a)) * ((c - a) * (y - b) - (d - b) * (x - a))) ((c - a) * (c - a) + (d - b) * (d - b))) := rfl
      generalize hm : c - a = m at *
      generalize hn : d - b = n at *
      generalize hi : x - a = i at *
      generalize hj : y - b = j at *
      generalize hk : x - c = k at *
      generalize hl : y - d = l at *
      clear hm hn hi hj hk hl i1 i2 i3 i4 i5 i6 hs hp SO PO
      have D1 := dot_det i j m n hi2 hj2 hm2 hn2
      have D2 := dot_det i j i j hi2 hj2 hi2 hj2
      have D3 := dot_det k l m n hk2 hl2 hm2 hn2
      have D4 := dot_det k l k l hk2 hl2 hk2 hl2
      have D5 := cross_det m n i j hm2 hn2 hi2 hj2
      have D6 := dot_det m n m n hm2 hn2 hm2 hn2
      have b1 := prod2 hi2 hi2; have b2 := prod2 hj2 hj2; have b3 := prod2 hk2 hk2; have b4 := prod2 hl2 hl2; have b5 := prod2 hm2 hj2; have b6 := prod2 hn2 hi2; have b7 := prod2 hm2 hm2; have b8 := prod2 hn2 hn2
      clear hm2 hn2 hi2 hj2 hk2 hl2
      obtain ⟨z0, z1, z2, z3, z4, z5, z6, z7, f, hf⟩ := nearW_ex a b c d x y
      have HO : Hid (nearV a b c d x y = .tuple #[.agg #[.int .u64 z0, .int .u64 z1, .int .u64 z2, .int .u64 z3, .int .u64 z4, .int .u64 z5, .int .u64 z6, .int .u64 z7], .bool f]) := HW.out.trans hf
      rw [HJ.out] at hf
      clear HW HJ
      have Y1 : Blk _ w.heap.size _ := T0.b 0 rfl; have g0 := Y1.c 0 rfl; have g1 := Y1.c 1 rfl; have g2 := Y1.c 2 rfl; have g3 := Y1.c 3 rfl; clear Y1
      go_wp2_with fail
      refine (M1 _).mono ?_
      rintro e w3 ⟨rfl, hB⟩
      have hgM : w.heap.size + 2 < w3.heap.size := ((T0.step hB).b 2 rfl).lt
      replace T0 := (T0.step hB).alloc (.cells #[.int .i64 m, .int .i64 n] 55)
      have BM := Blk.new w3 [.int .i64 m, .int .i64 n] 55 rfl
      clear hB M1 g0 g1 g2 g3
      have tok1 : True := trivial
      go_upto_region 4 with fail
      generalize w3.alloc (.cells #[.int .i64 m, .int .i64 n] 55) = W3 at *
      generalize w3.heap.size = gM at *
      have hl0 := (T0.b 2 rfl).lt
      have hlM := BM.lt
      go_cut [7, 8] (fun p q wx => CutG w wx [[.int .i64 a, .int .i64 b, .int .i64 c, .int .i64 d], [.int .i64 x, .int .i64 y], [.int .u64 0, .int .u64 0, .int .u64 0, .int .u64 0, .int .u64 0, .int .u64 0, .int .u64 0, .int .u64 0]] [.int .i64 i, .int .i64 j] [.int .i64 k, .int .i64 l] p q ∧ Blk wx gM [.int .i64 m, .int .i64 n])
      case first =>
        go_region_held3 (fun w' => w'.cell? ⟨w.heap.size, 0, none⟩ = some (.int .i64 a) ∧ w'.cell? ⟨w.heap.size, 1, none⟩ = some (.int .i64 b) ∧ w'.cell? ⟨w.heap.size, 2, none⟩ = some (.int .i64 c) ∧ w'.cell? ⟨w.heap.size, 3, none⟩ = some (.int .i64 d) ∧ w'.cell? ⟨w.heap.size + 1, 0, none⟩ = some (.int .i64 x) ∧ w'.cell? ⟨w.heap.size + 1, 1, none⟩ = some (.int .i64 y)) ((refine nr_cells ?_ <;> repeat (first | (with_reducible exact T0) | (with_reducible refine ArgsB.drew ?_) | (with_reducible refine ArgsB.alloc ?_ _) | (with_reducible refine ArgsB.set2 ?_ (by simp; omega) _ _))))
          (first
            | (go_at_call 149; have _t := tok1; refine (M2 _).mono ?_; rintro e w4 ⟨rfl, hB⟩; (first | (have T1 : ArgsB w w4 [[.int .i64 a, .int .i64 b, .int .i64 c, .int .i64 d], [.int .i64 x, .int .i64 y], [.int .u64 0, .int .u64 0, .int .u64 0, .int .u64 0, .int .u64 0, .int .u64 0, .int .u64 0, .int .u64 0]] := (by with_reducible exact T0.step hB); have tltw4 := (T0.b 2 rfl).lt; have lBMw4 := BM.lt; replace BM := BM.step hB; (try (replace G0 := G0.step hB; have j0c := G0.c 0 rfl; have j0f := G0.f 0 rfl; have j1c := G0.c 1 rfl; have j1f := G0.f 1 rfl; have jlt := G0.lt)); (try (replace G1 := G1.step hB; have k0c := G1.c 0 rfl; have k0f := G1.f 0 rfl; have k1c := G1.c 1 rfl; have k1f := G1.f 1 rfl; have klt := G1.lt))) | (have T1 : ArgsB w w4 [[.int .i64 a, .int .i64 b, .int .i64 c, .int .i64 d], [.int .i64 x, .int .i64 y], [.int .u64 0, .int .u64 0, .int .u64 0, .int .u64 0, .int .u64 0, .int .u64 0, .int .u64 0, .int .u64 0]] := (by with_reducible exact T0.drew.step hB); have tltw4 := (T0.b 2 rfl).lt; have lBMw4 := BM.lt; replace BM := BM.drew.step hB; (try (replace G0 := G0.drew.step hB; have j0c := G0.c 0 rfl; have j0f := G0.f 0 rfl; have j1c := G0.c 1 rfl; have j1f := G0.f 1 rfl; have jlt := G0.lt)); (try (replace G1 := G1.drew.step hB; have k0c := G1.c 0 rfl; have k0f := G1.f 0 rfl; have k1c := G1.c 1 rfl; have k1f := G1.f 1 rfl; have klt := G1.lt))) | (have T1 : ArgsB w w4 [[.int .i64 a, .int .i64 b, .int .i64 c, .int .i64 d], [.int .i64 x, .int .i64 y], [.int .u64 0, .int .u64 0, .int .u64 0, .int .u64 0, .int .u64 0, .int .u64 0, .int .u64 0, .int .u64 0]] := (by with_reducible exact (T0.alloc _).step hB); have tltw4 := (T0.b 2 rfl).lt; have lBMw4 := BM.lt; replace BM := (BM.alloc _).step hB; (first | (have G1 := (Blk.new _ [.int .i64 0, .int .i64 0] _ rfl).step hB; have hgg := G0.lt; replace G0 := (G0.alloc _).step hB; have j0c := G0.c 0 rfl; have j0f := G0.f 0 rfl; have j1c := G0.c 1 rfl; have j1f := G0.f 1 rfl; have jlt := G0.lt; have k0c := G1.c 0 rfl; have k0f := G1.f 0 rfl; have k1c := G1.c 1 rfl; have k1f := G1.f 1 rfl; have klt := G1.lt) | (have G0 := (Blk.new _ [.int .i64 0, .int .i64 0] _ rfl).step hB; have j0c := G0.c 0 rfl; have j0f := G0.f 0 rfl; have j1c := G0.c 1 rfl; have j1f := G0.f 1 rfl; have jlt := G0.lt))) | (have T1 : ArgsB w w4 [[.int .i64 a, .int .i64 b, .int .i64 c, .int .i64 d], [.int .i64 x, .int .i64 y], [.int .u64 0, .int .u64 0, .int .u64 0, .int .u64 0, .int .u64 0, .int .u64 0, .int .u64 0, .int .u64 0]] := (by with_reducible exact (T0.alloc _).drew.step hB); have tltw4 := (T0.b 2 rfl).lt; have lBMw4 := BM.lt; replace BM := (BM.alloc _).drew.step hB; (first | (have G1 := (Blk.new _ [.int .i64 0, .int .i64 0] _ rfl).drew.step hB; have hgg := G0.lt; replace G0 := (G0.alloc _).drew.step hB; have j0c := G0.c 0 rfl; have j0f := G0.f 0 rfl; have j1c := G0.c 1 rfl; have j1f := G0.f 1 rfl; have jlt := G0.lt; have k0c := G1.c 0 rfl; have k0f := G1.f 0 rfl; have k1c := G1.c 1 rfl; have k1f := G1.f 1 rfl; have klt := G1.lt) | (have G0 := (Blk.new _ [.int .i64 0, .int .i64 0] _ rfl).drew.step hB; have j0c := G0.c 0 rfl; have j0f := G0.f 0 rfl; have j1c := G0.c 1 rfl; have j1f := G0.f 1 rfl; have jlt := G0.lt))) | (have T1 : ArgsB w w4 [[.int .i64 a, .int .i64 b, .int .i64 c, .int .i64 d], [.int .i64 x, .int .i64 y], [.int .u64 0, .int .u64 0, .int .u64 0, .int .u64 0, .int .u64 0, .int .u64 0, .int .u64 0, .int .u64 0]] := (by with_reducible exact ((T0.alloc _).alloc _).step hB); have tltw4 := (T0.b 2 rfl).lt; have lBMw4 := BM.lt; replace BM := ((BM.alloc _).alloc _).step hB; have G0 := ((Blk.new _ [.int .i64 0, .int .i64 0] _ rfl).alloc _).step hB; have G1 := (Blk.newS _ _ [.int .i64 0, .int .i64 0] _).step hB; have j0c := G0.c 0 rfl; have j0f := G0.f 0 rfl; have j1c := G0.c 1 rfl; have j1f := G0.f 1 rfl; have jlt := G0.lt; have k0c := G1.c 0 rfl; have k0f := G1.f 0 rfl; have k1c := G1.c 1 rfl; have k1f := G1.f 1 rfl; have klt := G1.lt) | (have T1 : ArgsB w w4 [[.int .i64 a, .int .i64 b, .int .i64 c, .int .i64 d], [.int .i64 x, .int .i64 y], [.int .u64 0, .int .u64 0, .int .u64 0, .int .u64 0, .int .u64 0, .int .u64 0, .int .u64 0, .int .u64 0]] := (by with_reducible exact ((T0.alloc _).alloc _).drew.step hB); have tltw4 := (T0.b 2 rfl).lt; have lBMw4 := BM.lt; replace BM := ((BM.alloc _).alloc _).drew.step hB; have G0 := ((Blk.new _ [.int .i64 0, .int .i64 0] _ rfl).alloc _).drew.step hB; have G1 := (Blk.newS _ _ [.int .i64 0, .int .i64 0] _).drew.step hB; have j0c := G0.c 0 rfl; have j0f := G0.f 0 rfl; have j1c := G0.c 1 rfl; have j1f := G0.f 1 rfl; have jlt := G0.lt; have k0c := G1.c 0 rfl; have k0f := G1.f 0 rfl; have k1c := G1.c 1 rfl; have k1f := G1.f 1 rfl; have klt := G1.lt)); clear T0; have T0 := T1; clear T1; clear hB tok1 _t)
            | (go_at_call 149; refine (M3 _).mono ?_; rintro e w5 ⟨rfl, hB⟩; (first | (have T1 : ArgsB w w5 [[.int .i64 a, .int .i64 b, .int .i64 c, .int .i64 d], [.int .i64 x, .int .i64 y], [.int .u64 0, .int .u64 0, .int .u64 0, .int .u64 0, .int .u64 0, .int .u64 0, .int .u64 0, .int .u64 0]] := (by with_reducible exact T0.step hB); have tltw5 := (T0.b 2 rfl).lt; have lBMw5 := BM.lt; replace BM := BM.step hB; (try (replace G0 := G0.step hB; have j0c := G0.c 0 rfl; have j0f := G0.f 0 rfl; have j1c := G0.c 1 rfl; have j1f := G0.f 1 rfl; have jlt := G0.lt)); (try (replace G1 := G1.step hB; have k0c := G1.c 0 rfl; have k0f := G1.f 0 rfl; have k1c := G1.c 1 rfl; have k1f := G1.f 1 rfl; have klt := G1.lt))) | (have T1 : ArgsB w w5 [[.int .i64 a, .int .i64 b, .int .i64 c, .int .i64 d], [.int .i64 x, .int .i64 y], [.int .u64 0, .int .u64 0, .int .u64 0, .int .u64 0, .int .u64 0, .int .u64 0, .int .u64 0, .int .u64 0]] := (by with_reducible exact T0.drew.step hB); have tltw5 := (T0.b 2 rfl).lt; have lBMw5 := BM.lt; replace BM := BM.drew.step hB; (try (replace G0 := G0.drew.step hB; have j0c := G0.c 0 rfl; have j0f := G0.f 0 rfl; have j1c := G0.c 1 rfl; have j1f := G0.f 1 rfl; have jlt := G0.lt)); (try (replace G1 := G1.drew.step hB; have k0c := G1.c 0 rfl; have k0f := G1.f 0 rfl; have k1c := G1.c 1 rfl; have k1f := G1.f 1 rfl; have klt := G1.lt))) | (have T1 : ArgsB w w5 [[.int .i64 a, .int .i64 b, .int .i64 c, .int .i64 d], [.int .i64 x, .int .i64 y], [.int .u64 0, .int .u64 0, .int .u64 0, .int .u64 0, .int .u64 0, .int .u64 0, .int .u64 0, .int .u64 0]] := (by with_reducible exact (T0.alloc _).step hB); have tltw5 := (T0.b 2 rfl).lt; have lBMw5 := BM.lt; replace BM := (BM.alloc _).step hB; (first | (have G1 := (Blk.new _ [.int .i64 0, .int .i64 0] _ rfl).step hB; have hgg := G0.lt; replace G0 := (G0.alloc _).step hB; have j0c := G0.c 0 rfl; have j0f := G0.f 0 rfl; have j1c := G0.c 1 rfl; have j1f := G0.f 1 rfl; have jlt := G0.lt; have k0c := G1.c 0 rfl; have k0f := G1.f 0 rfl; have k1c := G1.c 1 rfl; have k1f := G1.f 1 rfl; have klt := G1.lt) | (have G0 := (Blk.new _ [.int .i64 0, .int .i64 0] _ rfl).step hB; have j0c := G0.c 0 rfl; have j0f := G0.f 0 rfl; have j1c := G0.c 1 rfl; have j1f := G0.f 1 rfl; have jlt := G0.lt))) | (have T1 : ArgsB w w5 [[.int .i64 a, .int .i64 b, .int .i64 c, .int .i64 d], [.int .i64 x, .int .i64 y], [.int .u64 0, .int .u64 0, .int .u64 0, .int .u64 0, .int .u64 0, .int .u64 0, .int .u64 0, .int .u64 0]] := (by with_reducible exact (T0.alloc _).drew.step hB); have tltw5 := (T0.b 2 rfl).lt; have lBMw5 := BM.lt; replace BM := (BM.alloc _).drew.step hB; (first | (have G1 := (Blk.new _ [.int .i64 0, .int .i64 0] _ rfl).drew.step hB; have hgg := G0.lt; replace G0 := (G0.alloc _).drew.step hB; have j0c := G0.c 0 rfl; have j0f := G0.f 0 rfl; have j1c := G0.c 1 rfl; have j1f := G0.f 1 rfl; have jlt := G0.lt; have k0c := G1.c 0 rfl; have k0f := G1.f 0 rfl; have k1c := G1.c 1 rfl; have k1f := G1.f 1 rfl; have klt := G1.lt) | (have G0 := (Blk.new _ [.int .i64 0, .int .i64 0] _ rfl).drew.step hB; have j0c := G0.c 0 rfl; have j0f := G0.f 0 rfl; have j1c := G0.c 1 rfl; have j1f := G0.f 1 rfl; have jlt := G0.lt))) | (have T1 : ArgsB w w5 [[.int .i64 a, .int .i64 b, .int .i64 c, .int .i64 d], [.int .i64 x, .int .i64 y], [.int .u64 0, .int .u64 0, .int .u64 0, .int .u64 0, .int .u64 0, .int .u64 0, .int .u64 0, .int .u64 0]] := (by with_reducible exact ((T0.alloc _).alloc _).step hB); have tltw5 := (T0.b 2 rfl).lt; have lBMw5 := BM.lt; replace BM := ((BM.alloc _).alloc _).step hB; have G0 := ((Blk.new _ [.int .i64 0, .int .i64 0] _ rfl).alloc _).step hB; have G1 := (Blk.newS _ _ [.int .i64 0, .int .i64 0] _).step hB; have j0c := G0.c 0 rfl; have j0f := G0.f 0 rfl; have j1c := G0.c 1 rfl; have j1f := G0.f 1 rfl; have jlt := G0.lt; have k0c := G1.c 0 rfl; have k0f := G1.f 0 rfl; have k1c := G1.c 1 rfl; have k1f := G1.f 1 rfl; have klt := G1.lt) | (have T1 : ArgsB w w5 [[.int .i64 a, .int .i64 b, .int .i64 c, .int .i64 d], [.int .i64 x, .int .i64 y], [.int .u64 0, .int .u64 0, .int .u64 0, .int .u64 0, .int .u64 0, .int .u64 0, .int .u64 0, .int .u64 0]] := (by with_reducible exact ((T0.alloc _).alloc _).drew.step hB); have tltw5 := (T0.b 2 rfl).lt; have lBMw5 := BM.lt; replace BM := ((BM.alloc _).alloc _).drew.step hB; have G0 := ((Blk.new _ [.int .i64 0, .int .i64 0] _ rfl).alloc _).drew.step hB; have G1 := (Blk.newS _ _ [.int .i64 0, .int .i64 0] _).drew.step hB; have j0c := G0.c 0 rfl; have j0f := G0.f 0 rfl; have j1c := G0.c 1 rfl; have j1f := G0.f 1 rfl; have jlt := G0.lt; have k0c := G1.c 0 rfl; have k0f := G1.f 0 rfl; have k1c := G1.c 1 rfl; have k1f := G1.f 1 rfl; have klt := G1.lt)); clear T0; have T0 := T1; clear T1; clear hB))
        all_goals go_wp2_with fail
        all_goals go_meet
        all_goals have hl3 : w.heap.size + ([[.int .i64 a, .int .i64 b, .int .i64 c, .int .i64 d], [.int .i64 x, .int .i64 y], [.int .u64 0, .int .u64 0, .int .u64 0, .int .u64 0, .int .u64 0, .int .u64 0, .int .u64 0, .int .u64 0]] : List (List Value)).length ≤ w5.heap.size := (T0.b 2 rfl).lt
        all_goals have hlb := BM.lt
        all_goals first | (with_reducible exact ⟨cutG_nn T0 hl3, (BM.alloc _).alloc _⟩) | (with_reducible exact ⟨cutG_nn' T0 hl3, (BM.alloc _).alloc _⟩) | (with_reducible exact ⟨cutG_sn T0 G0 (by simp; omega) hl3, (BM.set2 (by omega)).alloc _⟩) | (with_reducible exact ⟨cutG_sn' T0 G0 (by simp; omega) hl3, (BM.set2 (by omega)).alloc _⟩) | (with_reducible exact ⟨cutG_ss T0 G0 G1 (by simp; omega) (by simp; omega) (by omega), (BM.set2 (by omega)).set2 (by omega)⟩) | (with_reducible exact ⟨cutG_ss T0 G1 G0 (by simp; omega) (by simp; omega) (by omega), (BM.set2 (by omega)).set2 (by omega)⟩)
      case rest =>
        clear T0 BM tok1 M2 M3 hl0 hlM
        obtain ⟨⟨gA, gB, hp, hq, hne, hgA, hgB, T0, BA, BB⟩, BM⟩ := hcut
        subst hp; subst hq
        have bm0 := BM.c 0 rfl; have bm1 := BM.c 1 rfl; have ba0 := BA.c 0 rfl; have ba1 := BA.c 1 rfl; have bb0 := BB.c 0 rfl; have bb1 := BB.c 1 rfl
        go_wp2_with fail
        refine (D1 _).mono ?_
        rintro e w6 ⟨rfl, hB⟩
        replace T0 := T0.step hB; replace BM := BM.step hB; replace BA := BA.step hB; replace BB := BB.step hB
        clear hB bm0 bm1 ba0 ba1 bb0 bb1
        have bm0 := BM.c 0 rfl; have bm1 := BM.c 1 rfl; have ba0 := BA.c 0 rfl; have ba1 := BA.c 1 rfl; have bb0 := BB.c 0 rfl; have bb1 := BB.c 1 rfl
        by_cases h1 : i * m + j * n ≤ 0
        · rw [if_pos h1] at hf
          have E1 := implOf_det (i * i + j * j)
          have E2 := implOf_det 1
          have E3 := implRatioOf_det (i * i + j * j) 1 (told_big (by omega)) (by decide)
          rw [hf] at E3
          generalize i * m + j * n = o1 at *
          obtain ⟨b1l, b1u⟩ : -8000000000000 ≤ i * i + j * j ∧ i * i + j * j ≤ 8000000000000 := by omega
          replace E1 := fun w => E1 w (by omega) (by omega)
          replace E2 := fun w => E2 w (by decide) (by decide)
          clear b1 b2 b3 b4 b5 b6 b7 b8 D1 D3 D4 D5 D6 hf
          generalize i * i + j * j = o2 at *
          go_wp2_with fail
          refine (D2 _).mono ?_
          rintro e w7 ⟨rfl, hB⟩
          replace T0 := T0.step hB; replace BM := BM.step hB; replace BA := BA.step hB; replace BB := BB.step hB
          clear hB bm0 bm1 ba0 ba1 bb0 bb1
          have bm0 := BM.c 0 rfl; have bm1 := BM.c 1 rfl; have ba0 := BA.c 0 rfl; have ba1 := BA.c 1 rfl; have bb0 := BB.c 0 rfl; have bb1 := BB.c 1 rfl
          go_wp2_with fail
          refine (E1 _).mono ?_
          rintro e w8 ⟨rfl, hB⟩
          replace T0 := T0.step hB; replace BM := BM.step hB; replace BA := BA.step hB; replace BB := BB.step hB
          clear hB bm0 bm1 ba0 ba1 bb0 bb1
          have bm0 := BM.c 0 rfl; have bm1 := BM.c 1 rfl; have ba0 := BA.c 0 rfl; have ba1 := BA.c 1 rfl; have bb0 := BB.c 0 rfl; have bb1 := BB.c 1 rfl
          go_wp2_with fail
          refine (E2 _).mono ?_
          rintro e w9 ⟨rfl, hB⟩
          replace T0 := T0.step hB; replace BM := BM.step hB; replace BA := BA.step hB; replace BB := BB.step hB
          clear hB bm0 bm1 ba0 ba1 bb0 bb1
          have bm0 := BM.c 0 rfl; have bm1 := BM.c 1 rfl; have ba0 := BA.c 0 rfl; have ba1 := BA.c 1 rfl; have bb0 := BB.c 0 rfl; have bb1 := BB.c 1 rfl
          go_wp2_with fail
          refine (E3 _).mono ?_
          rintro e w10 ⟨rfl, hB⟩
          replace T0 := T0.step hB
          have o0 := (T0.b 2 rfl).c 0 rfl; have r0 := (T0.b 2 rfl).f 0 rfl; have o1 := (T0.b 2 rfl).c 1 rfl; have r1 := (T0.b 2 rfl).f 1 rfl; have o2 := (T0.b 2 rfl).c 2 rfl; have r2 := (T0.b 2 rfl).f 2 rfl; have o3 := (T0.b 2 rfl).c 3 rfl; have r3 := (T0.b 2 rfl).f 3 rfl; have o4 := (T0.b 2 rfl).c 4 rfl; have r4 := (T0.b 2 rfl).f 4 rfl; have o5 := (T0.b 2 rfl).c 5 rfl; have r5 := (T0.b 2 rfl).f 5 rfl; have o6 := (T0.b 2 rfl).c 6 rfl; have r6 := (T0.b 2 rfl).f 6 rfl; have o7 := (T0.b 2 rfl).c 7 rfl; have r7 := (T0.b 2 rfl).f 7 rfl; have olt := (T0.b 2 rfl).lt
          have HB := T0.below
          clear hB T0 BM BA BB bm0 bm1 ba0 ba1 bb0 bb1
          go_wp2
          refine bodyPost_ret (v := .tuple #[.agg #[.int .u64 z0, .int .u64 z1, .int .u64 z2, .int .u64 z3, .int .u64 z4, .int .u64 z5, .int .u64 z6, .int .u64 z7], .bool f]) (by simp [results, Try.results113, go_sem, o0, o1, o2, o3, o4, o5, o6, o7]) rfl ?_
          refine ⟨by rw [HO.out], ?_⟩
          repeat' (refine Below.setCell ?_ (by simp; try omega) _)
          exact HB
        · rw [if_neg h1] at hf
          generalize i * m + j * n = o1 at *
          go_wp2_with fail
          refine (D3 _).mono ?_
          rintro e w7 ⟨rfl, hB⟩
          replace T0 := T0.step hB; replace BM := BM.step hB; replace BA := BA.step hB; replace BB := BB.step hB
          clear hB bm0 bm1 ba0 ba1 bb0 bb1
          have bm0 := BM.c 0 rfl; have bm1 := BM.c 1 rfl; have ba0 := BA.c 0 rfl; have ba1 := BA.c 1 rfl; have bb0 := BB.c 0 rfl; have bb1 := BB.c 1 rfl
          by_cases h2 : k * m + l * n ≥ 0
          · rw [if_pos h2] at hf
            have E1 := implOf_det (k * k + l * l)
            have E2 := implOf_det 1
            have E3 := implRatioOf_det (k * k + l * l) 1 (told_big (by omega)) (by decide)
            rw [hf] at E3
            generalize k * m + l * n = o3 at *
            obtain ⟨b1l, b1u⟩ : -8000000000000 ≤ k * k + l * l ∧ k * k + l * l ≤ 8000000000000 := by omega
            replace E1 := fun w => E1 w (by omega) (by omega)
            replace E2 := fun w => E2 w (by decide) (by decide)
            clear b1 b2 b3 b4 b5 b6 b7 b8 D1 D3 D2 D5 D6 hf
            generalize k * k + l * l = o2 at *
            go_wp2_with fail
            refine (D4 _).mono ?_
            rintro e w8 ⟨rfl, hB⟩
            replace T0 := T0.step hB; replace BM := BM.step hB; replace BA := BA.step hB; replace BB := BB.step hB
            clear hB bm0 bm1 ba0 ba1 bb0 bb1
            have bm0 := BM.c 0 rfl; have bm1 := BM.c 1 rfl; have ba0 := BA.c 0 rfl; have ba1 := BA.c 1 rfl; have bb0 := BB.c 0 rfl; have bb1 := BB.c 1 rfl
            go_wp2_with fail
            refine (E1 _).mono ?_
            rintro e w9 ⟨rfl, hB⟩
            replace T0 := T0.step hB; replace BM := BM.step hB; replace BA := BA.step hB; replace BB := BB.step hB
            clear hB bm0 bm1 ba0 ba1 bb0 bb1
            have bm0 := BM.c 0 rfl; have bm1 := BM.c 1 rfl; have ba0 := BA.c 0 rfl; have ba1 := BA.c 1 rfl; have bb0 := BB.c 0 rfl; have bb1 := BB.c 1 rfl
            go_wp2_with fail
            refine (E2 _).mono ?_
            rintro e w10 ⟨rfl, hB⟩
            replace T0 := T0.step hB; replace BM := BM.step hB; replace BA := BA.step hB; replace BB := BB.step hB
            clear hB bm0 bm1 ba0 ba1 bb0 bb1
            have bm0 := BM.c 0 rfl; have bm1 := BM.c 1 rfl; have ba0 := BA.c 0 rfl; have ba1 := BA.c 1 rfl; have bb0 := BB.c 0 rfl; have bb1 := BB.c 1 rfl
            go_wp2_with fail
            refine (E3 _).mono ?_
            rintro e w11 ⟨rfl, hB⟩
            replace T0 := T0.step hB
            have o0 := (T0.b 2 rfl).c 0 rfl; have r0 := (T0.b 2 rfl).f 0 rfl; have o1 := (T0.b 2 rfl).c 1 rfl; have r1 := (T0.b 2 rfl).f 1 rfl; have o2 := (T0.b 2 rfl).c 2 rfl; have r2 := (T0.b 2 rfl).f 2 rfl; have o3 := (T0.b 2 rfl).c 3 rfl; have r3 := (T0.b 2 rfl).f 3 rfl; have o4 := (T0.b 2 rfl).c 4 rfl; have r4 := (T0.b 2 rfl).f 4 rfl; have o5 := (T0.b 2 rfl).c 5 rfl; have r5 := (T0.b 2 rfl).f 5 rfl; have o6 := (T0.b 2 rfl).c 6 rfl; have r6 := (T0.b 2 rfl).f 6 rfl; have o7 := (T0.b 2 rfl).c 7 rfl; have r7 := (T0.b 2 rfl).f 7 rfl; have olt := (T0.b 2 rfl).lt
            have HB := T0.below
            clear hB T0 BM BA BB bm0 bm1 ba0 ba1 bb0 bb1
            go_wp2
            refine bodyPost_ret (v := .tuple #[.agg #[.int .u64 z0, .int .u64 z1, .int .u64 z2, .int .u64 z3, .int .u64 z4, .int .u64 z5, .int .u64 z6, .int .u64 z7], .bool f]) (by simp [results, Try.results113, go_sem, o0, o1, o2, o3, o4, o5, o6, o7]) rfl ?_
            refine ⟨by rw [HO.out], ?_⟩
            repeat' (refine Below.setCell ?_ (by simp; try omega) _)
            exact HB
          · rw [if_neg h2] at hf
            generalize k * m + l * n = o3 at *
            obtain ⟨c1l, c1u⟩ : -8000000000000 ≤ m * j - n * i ∧ m * j - n * i ≤ 8000000000000 := by omega
            obtain ⟨c2l, c2u⟩ : -8000000000000 ≤ m * m + n * n ∧ m * m + n * n ≤ 8000000000000 := by omega
            clear b1 b2 b3 b4 b5 b6 b7 b8 D1 D2 D3 D4
            generalize m * j - n * i = C at *
            generalize m * m + n * n = G at *
            have c3 := mul_in (p := C) (q := C) (M := 8000000000000) (N := 8000000000000) c1l c1u c1l c1u
            have E1 := fun w => implOf_det C w (by omega) (by omega)
            have E2 := fun w => implOf_det G w (by omega) (by omega)
            have E3 := times_det C C (told_big (by omega)) (told_big (by omega))
            have E4 := toldI_det (C * C) (told_big (by omega))
            have E5 := implRatioOf_det (C * C) G (told_big (by omega)) (told_big (by omega))
            rw [hf] at E5
            clear hf c1l c1u c2l c2u c3
            generalize C * C = CC at *
            go_wp2_with fail
            refine (D5 _).mono ?_
            rintro e w8 ⟨rfl, hB⟩
            replace T0 := T0.step hB; replace BM := BM.step hB; replace BA := BA.step hB; replace BB := BB.step hB
            clear hB bm0 bm1 ba0 ba1 bb0 bb1
            have bm0 := BM.c 0 rfl; have bm1 := BM.c 1 rfl; have ba0 := BA.c 0 rfl; have ba1 := BA.c 1 rfl; have bb0 := BB.c 0 rfl; have bb1 := BB.c 1 rfl
            go_wp2_with fail
            refine (E1 _).mono ?_
            rintro e w9 ⟨rfl, hB⟩
            have hgT : w.heap.size + 2 < w9.heap.size := ((T0.step hB).b 2 rfl).lt
            replace T0 := (T0.step hB).alloc (.cells #[.int .u64 (ww3 C), .int .u64 (ww2 C), .int .u64 (ww1 C), .int .u64 (ww0 C)] 48)
            replace BM := (BM.step hB).alloc (.cells #[.int .u64 (ww3 C), .int .u64 (ww2 C), .int .u64 (ww1 C), .int .u64 (ww0 C)] 48)
            have BT := Blk.new w9 [.int .u64 (ww3 C), .int .u64 (ww2 C), .int .u64 (ww1 C), .int .u64 (ww0 C)] 48 rfl
            clear hB BA BB bm0 bm1 ba0 ba1 bb0 bb1 E1
            go_upto_region 10 with fail
            generalize w9.alloc (.cells #[.int .u64 (ww3 C), .int .u64 (ww2 C), .int .u64 (ww1 C), .int .u64 (ww0 C)] 48) = W9 at *
            generalize w9.heap.size = gT at *
            go_region_held3 (fun w' => w'.cell? ⟨gT, 0, none⟩ = some (.int .u64 (ww3 C)) ∧ w'.cell? ⟨gT, 1, none⟩ = some (.int .u64 (ww2 C)) ∧ w'.cell? ⟨gT, 2, none⟩ = some (.int .u64 (ww1 C)) ∧ w'.cell? ⟨gT, 3, none⟩ = some (.int .u64 (ww0 C)) ∧ w'.cell? ⟨gM, 0, none⟩ = some (.int .i64 m) ∧ w'.cell? ⟨gM, 1, none⟩ = some (.int .i64 n)) (first | (with_reducible exact nt_cells BT BM) | (with_reducible exact nt_cells BT.drew BM.drew) | (with_reducible exact nt_cells8 BT BM (by omega) (by omega)))
              (first
                | (go_at_call 154; refine (E3 _).mono ?_; rintro e k1 ⟨rfl, hB⟩; (first | (replace BT := BT.step hB; replace BM := BM.step hB; replace T0 := T0.step hB) | (replace BT := BT.drew.step hB; replace BM := BM.drew.step hB; replace T0 := T0.drew.step hB)); clear hB)
                | (go_at_call 153; refine (E4 _).mono ?_; rintro e k2 ⟨rfl, hB⟩; (first | (replace BT := BT.step hB; replace BM := BM.step hB; replace T0 := T0.step hB) | (replace BT := BT.drew.step hB; replace BM := BM.drew.step hB; replace T0 := T0.drew.step hB)); clear hB)
                | (go_at_call 150; refine (D6 _).mono ?_; rintro e k3 ⟨rfl, hB⟩; (first | (replace BT := BT.step hB; replace BM := BM.step hB; replace T0 := T0.step hB) | (replace BT := BT.drew.step hB; replace BM := BM.drew.step hB; replace T0 := T0.drew.step hB)); clear hB)
                | (go_at_call 152; refine (E2 _).mono ?_; rintro e k4 ⟨rfl, hB⟩; (first | (replace BT := BT.step hB; replace BM := BM.step hB; replace T0 := T0.step hB) | (replace BT := BT.drew.step hB; replace BM := BM.drew.step hB; replace T0 := T0.drew.step hB)); clear hB)
                | (go_at_call 151; refine (E5 _).mono ?_; rintro e k5 ⟨rfl, hB⟩; (first | (replace BT := BT.step hB; replace BM := BM.step hB; replace T0 := T0.step hB) | (replace BT := BT.drew.step hB; replace BM := BM.drew.step hB; replace T0 := T0.drew.step hB)); clear hB; have o0 := (T0.b 2 rfl).c 0 rfl; have r0 := (T0.b 2 rfl).f 0 rfl; have o1 := (T0.b 2 rfl).c 1 rfl; have r1 := (T0.b 2 rfl).f 1 rfl; have o2 := (T0.b 2 rfl).c 2 rfl; have r2 := (T0.b 2 rfl).f 2 rfl; have o3 := (T0.b 2 rfl).c 3 rfl; have r3 := (T0.b 2 rfl).f 3 rfl; have o4 := (T0.b 2 rfl).c 4 rfl; have r4 := (T0.b 2 rfl).f 4 rfl; have o5 := (T0.b 2 rfl).c 5 rfl; have r5 := (T0.b 2 rfl).f 5 rfl; have o6 := (T0.b 2 rfl).c 6 rfl; have r6 := (T0.b 2 rfl).f 6 rfl; have o7 := (T0.b 2 rfl).c 7 rfl; have r7 := (T0.b 2 rfl).f 7 rfl; have olt := (T0.b 2 rfl).lt))
            all_goals have HB := T0.below
            all_goals clear BM BT T0
            all_goals go_wp2
            all_goals refine bodyPost_ret (v := .tuple #[.agg #[.int .u64 z0, .int .u64 z1, .int .u64 z2, .int .u64 z3, .int .u64 z4, .int .u64 z5, .int .u64 z6, .int .u64 z7], .bool f]) (by simp [results, Try.results113, go_sem, o0, o1, o2, o3, o4, o5, o6, o7]) rfl ?_
            all_goals refine ⟨by rw [HO.out], ?_⟩
            all_goals repeat' (refine Below.setCell ?_ (by simp; try omega) _)
            all_goals first | exact HB | exact HB.drew
    · replace hp := Bool.eq_false_iff.2 hp
      rw [hp]
      have HO : Hid (nearV a b c d x y = .tuple #[.agg #[.int .u64 0, .int .u64 0, .int .u64 0, .int .u64 0, .int .u64 0, .int .u64 0, .int .u64 0, .int .u64 0], .bool false]) := by show _ = _; unfold nearV; rw [hp]; simp
      have o0 := (T0.b 2 rfl).c 0 rfl; have r0 := (T0.b 2 rfl).f 0 rfl; have o1 := (T0.b 2 rfl).c 1 rfl; have r1 := (T0.b 2 rfl).f 1 rfl; have o2 := (T0.b 2 rfl).c 2 rfl; have r2 := (T0.b 2 rfl).f 2 rfl; have o3 := (T0.b 2 rfl).c 3 rfl; have r3 := (T0.b 2 rfl).f 3 rfl; have o4 := (T0.b 2 rfl).c 4 rfl; have r4 := (T0.b 2 rfl).f 4 rfl; have o5 := (T0.b 2 rfl).c 5 rfl; have r5 := (T0.b 2 rfl).f 5 rfl; have o6 := (T0.b 2 rfl).c 6 rfl; have r6 := (T0.b 2 rfl).f 6 rfl; have o7 := (T0.b 2 rfl).c 7 rfl; have r7 := (T0.b 2 rfl).f 7 rfl; have olt := (T0.b 2 rfl).lt
      have HB := T0.below
      clear T0
      go_wp2
      refine bodyPost_ret (v := .tuple #[.agg #[.int .u64 0, .int .u64 0, .int .u64 0, .int .u64 0, .int .u64 0, .int .u64 0, .int .u64 0, .int .u64 0], .bool false]) (by simp [results, Try.results113, go_sem, o0, o1, o2, o3, o4, o5, o6, o7]) rfl ?_
      refine ⟨by rw [HO.out], ?_⟩
      repeat' (refine Below.setCell ?_ (by simp; try omega) _)
      exact HB
  · replace hs := Bool.eq_false_iff.2 hs
    rw [hs]
    have HO : Hid (nearV a b c d x y = .tuple #[.agg #[.int .u64 0, .int .u64 0, .int .u64 0, .int .u64 0, .int .u64 0, .int .u64 0, .int .u64 0, .int .u64 0], .bool false]) := by show _ = _; unfold nearV; rw [hs]; simp
    have o0 := (T0.b 2 rfl).c 0 rfl; have r0 := (T0.b 2 rfl).f 0 rfl; have o1 := (T0.b 2 rfl).c 1 rfl; have r1 := (T0.b 2 rfl).f 1 rfl; have o2 := (T0.b 2 rfl).c 2 rfl; have r2 := (T0.b 2 rfl).f 2 rfl; have o3 := (T0.b 2 rfl).c 3 rfl; have r3 := (T0.b 2 rfl).f 3 rfl; have o4 := (T0.b 2 rfl).c 4 rfl; have r4 := (T0.b 2 rfl).f 4 rfl; have o5 := (T0.b 2 rfl).c 5 rfl; have r5 := (T0.b 2 rfl).f 5 rfl; have o6 := (T0.b 2 rfl).c 6 rfl; have r6 := (T0.b 2 rfl).f 6 rfl; have o7 := (T0.b 2 rfl).c 7 rfl; have r7 := (T0.b 2 rfl).f 7 rfl; have olt := (T0.b 2 rfl).lt
    have HB := T0.below
    clear T0
    go_wp2
    refine bodyPost_ret (v := .tuple #[.agg #[.int .u64 0, .int .u64 0, .int .u64 0, .int .u64 0, .int .u64 0, .int .u64 0, .int .u64 0, .int .u64 0], .bool false]) (by simp [results, Try.results113, go_sem, o0, o1, o2, o3, o4, o5, o6, o7]) rfl ?_
    refine ⟨by rw [HO.out], ?_⟩
    repeat' (refine Below.setCell ?_ (by simp; try omega) _)
    exact HB
end Go.Proofs.Ytmjlgmoohpnhfaa
