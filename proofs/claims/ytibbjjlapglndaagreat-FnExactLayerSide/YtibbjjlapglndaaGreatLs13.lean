/- Part 13 of the walks that the proof leans on. -/
import Derived.Test.YtibbjjlapglndaaGreatLs12
import Derived.Test.YtibbjjlapglndaaGreatLs2
import Derived.OrdersIn
import Derived.TacticsIn
import Derived.RangeFuncCalls
import Derived.Test.YtibbjjlapglndaaGreatLs7
import Derived.RangeFuncNested
import Derived.RangeFuncBound
import Derived.RangeFuncLeaves
import Derived.Shelf.Abstract
import Derived.Shelf.RegionOpen
import Derived.WalkKit
import Derived.OwnWalkIn
import Derived.TacticsInMore
import Derived.LoopNIn
import Derived.LoopIn
namespace Go.Proofs.YtibbjjlapglndaaGreat
open Go.RowKit
variable {P : Program} {ops : Array Oper}
def distS : List (Option Nat) → Bool
 | [] => true
 | none :: r => distS r
 | some d :: r => !(r.contains (some d)) && distS r
theorem distS_inj : ∀ (S : List (Option Nat)) (i j d : Nat), distS S = true → S[i]? = some (some d) → S[j]? = some (some d) → i = j
 | [], i, _, _, _, h, _ => by simp at h
 | o :: r, i, j, d, hd, hi, hj => by
   have hr : distS r = true := by
     cases o with
     | none => exact hd
     | some d' => simp only [distS, Bool.and_eq_true] at hd; exact hd.2
   have hno : ∀ k, o = some d → r[k]? = some (some d) → False := fun k ho hk => by
     subst ho
     simp only [distS, Bool.and_eq_true, Bool.not_eq_true'] at hd
     have hm : some d ∈ r := List.mem_of_getElem? hk
     rw [← List.contains_iff_mem, hd.1] at hm
     cases hm
   match i, j with
   | 0, 0 => rfl
   | 0, j + 1 => exact (hno j (by simpa using hi) (by simpa using hj)).elim
   | i + 1, 0 => exact (hno i (by simpa using hj) (by simpa using hi)).elim
   | i + 1, j + 1 => exact congrArg (· + 1) (distS_inj r i j d hr (by simpa using hi) (by simpa using hj))
def InvQ (B : Nat) (S : List (Option Nat)) (V : Nat → Value → World → Prop) (w0 : World) (a0 : Act) (l : Array Bool) (a : Act) (W : World) : Prop :=
 l.size = S.length ∧ a.tmps.size = a0.tmps.size ∧ a.defers = a0.defers ∧ (∀ e, some e ∉ S → a.tmps[e]? = a0.tmps[e]?) ∧ Below B w0 W ∧ (∀ j d, l.getD j false = true → S[j]? = some (some d) → V j (a.tmps.getD d undef) W) ∧ (∀ j, l.getD j false = true → S[j]? = some none → V j undef W)
theorem getD_set_q {l : Array Bool} {i j : Nat} (h : (l.setIfInBounds i true).getD j false = true) (hne : j ≠ i) : l.getD j false = true := by
 rw [getD_set_ne false (Ne.symm hne)] at h
 exact h
theorem InvQ.put {B : Nat} {S : List (Option Nat)} {V : Nat → Value → World → Prop} {w0 : World} {a0 : Act} {l : Array Bool} {a : Act} {W W' : World} (h : InvQ B S V w0 a0 l a W) (hS : distS S = true) (i d : Nat) (hi : S[i]? = some (some d)) (hlt : d < a0.tmps.size)
   (hW : Below B w0 W') (hT : ∀ j v, V j v W → V j v W') (v : Value) (hv : V i v W') : InvQ B S V w0 a0 (l.setIfInBounds i true) (a.put (some d) v) W' := by
 obtain ⟨h1, h2, h3, h4, h5, h6, h7⟩ := h
 refine ⟨by simpa using h1, by simpa [Act.put] using h2, h3, fun e he => ?_, hW, fun j d' hj hd' => ?_, fun j hj hn => ?_⟩
 · have hne : d ≠ e := fun hh => he (hh ▸ List.mem_of_getElem? hi)
   simp only [Act.put]
   rw [Array.getElem?_setIfInBounds_ne hne]
   exact h4 e he
 · by_cases hji : j = i
   · subst hji
     rw [hi] at hd'
     cases hd'
     rw [put_getD_same (by omega)]
     exact hv
   · have hne : d ≠ d' := fun hh => hji (distS_inj S j i d hS (hh ▸ hd') hi)
     rw [put_getD_ne hne]
     exact hT _ _ (h6 j d' (getD_set_q hj hji) hd')
 · have hji : j ≠ i := fun hh => by subst hh; rw [hi] at hn; cases hn
   exact hT _ _ (h7 j (getD_set_q hj hji) hn)
theorem InvQ.world {B : Nat} {S : List (Option Nat)} {V : Nat → Value → World → Prop} {w0 : World} {a0 : Act} {l : Array Bool} {a : Act} {W W' : World} (h : InvQ B S V w0 a0 l a W) (i : Nat) (hi : S[i]? = some none)
   (hW : Below B w0 W') (hT : ∀ j v, V j v W → V j v W') (hv : V i undef W') : InvQ B S V w0 a0 (l.setIfInBounds i true) a W' := by
 obtain ⟨h1, h2, h3, h4, h5, h6, h7⟩ := h
 refine ⟨by simpa using h1, h2, h3, h4, hW, fun j d hj hd => ?_, fun j hj hn => ?_⟩
 · have hji : j ≠ i := fun hh => by subst hh; rw [hi] at hd; cases hd
   exact hT _ _ (h6 j d (getD_set_q hj hji) hd)
 · by_cases hji : j = i
   · subst hji; exact hv
   · exact hT _ _ (h7 j (getD_set_q hj hji) hn)
theorem wp_region_q {Q : Exit → Act → World → Prop} {id : Nat} {a0 : Act} {w0 : World} (hm : P.follows .mixedOrders = true) (B : Nat) (S : List (Option Nat)) (V : Nat → Value → World → Prop) (hSz : ops.size = S.length)
   (hs : ∀ (Q : Exit → Act → World → Prop) l a W i o, InvQ B S V w0 a0 l a W → l.getD i true = false → ops[i]? = some o → (∀ e ∈ o.after, Region.binds .any e = true → l.getD e.on false = true) → wpOp P ops Q i (InvQ B S V w0 a0 (l.setIfInBounds i true)) a W)
   (hd : ∀ l a W, InvQ B S V w0 a0 l a W → Region.ready .any ops l = [] → Q .normal a W) : (Code.region id ops true).wp P Q a0 w0 := by
 refine wp_region_inv hm (InvQ B S V w0 a0) ⟨by simpa using hSz, rfl, rfl, fun _ _ => rfl, (Below.refl _ w0).drew, fun j d hj => ?_, fun j hj => ?_⟩ (hs Q) hd
 all_goals
   exfalso
   rw [Array.getD_eq_getD_getElem?, Array.getElem?_replicate] at hj
   split at hj <;> simp at hj
def BlkN (W : World) (g n : Nat) : Prop := ∃ vs : List Value, vs.length = n ∧ Blk W g vs
theorem BlkN.step {W W' : World} {g n : Nat} (h : BlkN W g n) (hB : Below W.heap.size W W') : BlkN W' g n := by
 obtain ⟨vs, h1, h2⟩ := h
 exact ⟨vs, h1, h2.step hB⟩
theorem Blk.setA {W : World} {g : Nat} {vs : List Value} (h : Blk W g vs) (j : Nat) (u : Value) : Blk (W.setCell ⟨g, j, none⟩ u) g (vs.set j u) := by
 rcases Nat.lt_or_ge j vs.length with hj | hj
 · exact h.setI j hj u
 · refine ⟨by simpa [World.setCell] using h.1, fun i v hi => ?_⟩
   rw [List.set_eq_of_length_le hj] at hi
   have hne : i ≠ j := fun e => by
     subst e
     rw [List.getElem?_eq_none hj] at hi
     cases hi
   exact ⟨(World.cell?_setCell_other _ _ _ _ (by simp)).trans (h.c i hi), by simp [go_sem, h.f i hi]⟩
theorem BlkN.set {W : World} {g n : Nat} (h : BlkN W g n) (g' j : Nat) (u : Value) : BlkN (W.setCell ⟨g', j, none⟩ u) g n := by
 obtain ⟨vs, h1, h2⟩ := h
 by_cases hg : g = g'
 · subst hg
   exact ⟨vs.set j u, by simpa using h1, h2.setA j u⟩
 · exact ⟨vs, h1, h2.setO (p := ⟨g', j, none⟩) hg u⟩
end Go.Proofs.YtibbjjlapglndaaGreat
namespace Go.Proofs.YtibbjjlapglndaaGreat
open Go.RowKit
variable {P : Program} {ops : Array Oper} {Q : Exit → Act → World → Prop} {md : Region.Mode} {F : Fence} {n : Nat}
theorem wpAnyIn_inv (J : Array Bool → Act → World → Prop) (hs : ∀ l a w i o, J l a w → l.getD i true = false → ops[i]? = some o → (∀ e ∈ o.after, Region.binds md e = true → l.getD e.on false = true) → wpOpIn F n P ops Q i (J (l.setIfInBounds i true)) a w)
   (hd : ∀ l a w, J l a w → Region.ready md ops l = [] → Q .normal a w) : ∀ (fuel : Nat) (l : Array Bool) (a : Act) (w : World), open_ l ≤ fuel → J l a w → wpAnyIn F n P md ops Q fuel l a w := by
 intro fuel
 induction fuel with
 | zero =>
   intro l a w hf hJ
   have hr : Region.ready md ops l = [] := by
     rw [List.eq_nil_iff_forall_not_mem]
     intro i hi
     have := open_set (mem_ready.1 hi).1
     omega
   exact ⟨hr, hd l a w hJ hr⟩
 | succ fuel ih =>
   intro l a w hf hJ
   refine ⟨fun hr => hd l a w hJ hr, fun i hi => ?_⟩
   obtain ⟨h0, o, ho, hall⟩ := mem_ready.1 hi
   exact wpOpIn_mono (fun a' w' h' => ih _ a' w' (by have := open_set h0; omega) h') (hs l a w i o hJ h0 ho hall)
theorem wpIn_region_inv {id : Nat} {a : Act} {w : World} (hm : P.follows .mixedOrders = true) (J : Array Bool → Act → World → Prop)
   (h0 : J (Array.replicate ops.size false) a { w with drawn := w.drawn + 1 })
   (hs : ∀ l a w i o, J l a w → l.getD i true = false → ops[i]? = some o → (∀ e ∈ o.after, Region.binds .any e = true → l.getD e.on false = true) → wpOpIn F n P ops Q i (J (l.setIfInBounds i true)) a w)
   (hd : ∀ l a w, J l a w → Region.ready .any ops l = [] → Q .normal a w) : (Code.region id ops true).wpIn F n P Q a w :=
 wpIn_region_any hm (wpAnyIn_inv J hs hd _ _ _ _ (by
   unfold open_
   refine Nat.le_trans List.countP_le_length ?_
   simp) h0)
theorem wpIn_of_wp {l : Nat} {o : Oper} {a : Act} {w : World} {K : Act → World → Prop} (hd : ∀ c, o.op ≠ .defer c) (h : o.wp P a w K Q) : o.wpIn (Fence.wide.inRound l) n P a w K Q := by
 refine ⟨fun f _ => trivial, ?_⟩
 have e : o.semAt (Fence.wide.inRound l).round a.eval = execOp a.eval o := Oper.semAt_some l _ o hd
 rw [e]
 unfold Oper.wp at h
 generalize (execOp a.eval o).run P w = r at *
 cases r with
 | ok x w' =>
   cases x
   case enter f args => exact ⟨fun hh => by simp [Fence.wide, Fence.inRound] at hh, CallsIn.inRound l (callsIn_wide.2 h)⟩
   case row row args => exact ⟨fun hh => by simp [Fence.wide, Fence.inRound] at hh, fun c cs _ => let ⟨v, w2, r, s⟩ := h c cs; ⟨v, w2, r, stepsIn_wide.2 s⟩⟩
   all_goals first | exact h | exact h.elim
 | halt x w' => cases x <;> exact h
theorem wpOpIn_of {l i : Nat} {o : Oper} {a : Act} {w : World} {K : Act → World → Prop} (ho : ops[i]? = some o) (hg : o.guard = none) (hd : ∀ c, o.op ≠ .defer c) (h : o.wp P a w K Q) : wpOpIn (Fence.wide.inRound l) n P ops Q i K a w := by
 unfold wpOpIn
 simp only [ho]
 have hw : Region.wanted o (yielded ops a.tmps) = true := by unfold Region.wanted; rw [hg]
 rw [if_pos hw]
 exact wpIn_of_wp hd h
theorem wpOpIn_off {l i k d : Nat} {b : Bool} {o ok : Oper} {a : Act} {w : World} {K : Act → World → Prop} (ho : ops[i]? = some o) (hg : o.guard = some (k, b)) (hk : ops[k]? = some ok) (hd : ok.dst = some d) (ht : a.tmps.getD d undef = .bool (!b)) (h : K (a.put o.dst undef) w) : wpOpIn (Fence.wide.inRound l) n P ops Q i K a w := by
 unfold wpOpIn
 simp only [ho]
 have hw : Region.wanted o (yielded ops a.tmps) = false := by
   unfold Region.wanted
   rw [hg]
   simp only [yielded_of hk hd ht]
   cases b <;> rfl
 rw [hw]
 exact ⟨fun f _ => trivial, h⟩
theorem wpOpIn_on {l i k d : Nat} {b : Bool} {o ok : Oper} {a : Act} {w : World} {K : Act → World → Prop} (ho : ops[i]? = some o) (hg : o.guard = some (k, b)) (hk : ops[k]? = some ok) (hd : ok.dst = some d) (ht : a.tmps.getD d undef = .bool b) (hn : ∀ c, o.op ≠ .defer c) (h : o.wp P a w K Q) : wpOpIn (Fence.wide.inRound l) n P ops Q i K a w := by
 unfold wpOpIn
 simp only [ho]
 have hw : Region.wanted o (yielded ops a.tmps) = true := by
   unfold Region.wanted
   rw [hg]
   simp only [yielded_of hk hd ht]
   cases b <;> rfl
 rw [if_pos hw]
 exact wpIn_of_wp hn h
theorem wpIn_region_q {id : Nat} {a0 : Act} {w0 : World} (hm : P.follows .mixedOrders = true) (B : Nat) (S : List (Option Nat)) (V : Nat → Value → World → Prop) (hSz : ops.size = S.length)
   (hs : ∀ (Q : Exit → Act → World → Prop) l a W i o, InvQ B S V w0 a0 l a W → l.getD i true = false → ops[i]? = some o → (∀ e ∈ o.after, Region.binds .any e = true → l.getD e.on false = true) → wpOpIn F n P ops Q i (InvQ B S V w0 a0 (l.setIfInBounds i true)) a W)
   (hd : ∀ l a W, InvQ B S V w0 a0 l a W → Region.ready .any ops l = [] → Q .normal a W) : (Code.region id ops true).wpIn F n P Q a0 w0 := by
 refine wpIn_region_inv hm (InvQ B S V w0 a0) ⟨by simpa using hSz, rfl, rfl, fun _ _ => rfl, (Below.refl _ w0).drew, fun j d hj => ?_, fun j hj => ?_⟩ (hs Q) hd
 all_goals
   exfalso
   rw [Array.getD_eq_getD_getElem?, Array.getElem?_replicate] at hj
   split at hj <;> simp at hj
end Go.Proofs.YtibbjjlapglndaaGreat
namespace Go.Proofs.YtibbjjlapglndaaGreat
open Go.RowKit
theorem rn_small {a : Int} (h : -1000000 ≤ a ∧ a ≤ 1000000) : small a = true := small_int (by omega) (by omega)
theorem rn_one : small 1 = true := small_int (by omega) (by omega)
def VregSideOn (c d x y z o : Int) (Bs : Nat) (_B : Nat) : Nat → Value → World → Prop
 | 0, v, _ => v = .int .i64 o
 | 1, v, _ => v = .bool true
 | 2, v, _ => v = .bool true
 | 3, v, _ => v = PV x y z
 | 4, v, _ => v = .pointer (some ⟨Bs, 2, none⟩)
 | 5, v, _ => v = Sp c d
 | 6, v, _ => v = PV c d 1
 | 7, v, _ => v = .int .i64 (cmpI (x * 1) (c * z))
 | 8, v, _ => v = .bool (decide (cmpI (x * 1) (c * z) < 0))
 | 9, v, _ => v = .bool (decide (cmpI (x * 1) (c * z) < 0))
 | _, _, _ => True
theorem VregSideOn.mono {c d x y z o : Int} {Bs : Nat} {B j : Nat} {v : Value} {W W2 : World} (_hS : ∀ g k, BlkN W g k → BlkN W2 g k) (h : VregSideOn c d x y z o Bs B j v W) : VregSideOn c d x y z o Bs B j v W2 := by
 unfold VregSideOn at *
 split <;> simp only at h <;> first | exact h | trivial
set_option maxRecDepth 100000 in
set_option maxHeartbeats 4000000 in
theorem regSideOn {Q : Exit → Act → World → Prop} {c d x y z o : Int} {Bs : Nat} {a b : Int} {Bp : Nat} {lr nr : Nat} {w0 : World} {a0 : Act} {idq : Nat} {t0 t1 t2 t3 t4 t5 t6 t7 t8 t9 : TypeId} {q0 q1 q2 q3 q4 q5 q6 q7 q8 q9 : String}
   (ho : (o == 1) = true) (ic : -1000000 ≤ c ∧ c ≤ 1000000) (jd : -1000000 ≤ d ∧ d ≤ 1000000) (sx : small x = true) (sz : small z = true) (h3 : a0.tmps[3]? = some (.pointer (some ⟨Bp, 0, none⟩))) (h7 : a0.tmps[7]? = some (.pointer (some ⟨Bs, 0, none⟩))) (h8 : a0.tmps[8]? = some (.int .i64 o)) (k0 : w0.cell? ⟨Bp, 0, none⟩ = some (.int .u64 (ww3 x))) (l0 : (⟨Bp, 0, none⟩ : Addr).block < w0.heap.size) (k1 : w0.cell? ⟨Bp, 1, none⟩ = some (.int .u64 (ww2 x))) (l1 : (⟨Bp, 1, none⟩ : Addr).block < w0.heap.size) (k2 : w0.cell? ⟨Bp, 2, none⟩ = some (.int .u64 (ww1 x))) (l2 : (⟨Bp, 2, none⟩ : Addr).block < w0.heap.size) (k3 : w0.cell? ⟨Bp, 3, none⟩ = some (.int .u64 (ww0 x))) (l3 : (⟨Bp, 3, none⟩ : Addr).block < w0.heap.size) (k4 : w0.cell? ⟨Bp, 4, none⟩ = some (.int .u64 (ww3 y))) (l4 : (⟨Bp, 4, none⟩ : Addr).block < w0.heap.size) (k5 : w0.cell? ⟨Bp, 5, none⟩ = some (.int .u64 (ww2 y))) (l5 : (⟨Bp, 5, none⟩ : Addr).block < w0.heap.size) (k6 : w0.cell? ⟨Bp, 6, none⟩ = some (.int .u64 (ww1 y))) (l6 : (⟨Bp, 6, none⟩ : Addr).block < w0.heap.size) (k7 : w0.cell? ⟨Bp, 7, none⟩ = some (.int .u64 (ww0 y))) (l7 : (⟨Bp, 7, none⟩ : Addr).block < w0.heap.size) (k8 : w0.cell? ⟨Bp, 8, none⟩ = some (.int .u64 (ww3 z))) (l8 : (⟨Bp, 8, none⟩ : Addr).block < w0.heap.size) (k9 : w0.cell? ⟨Bp, 9, none⟩ = some (.int .u64 (ww2 z))) (l9 : (⟨Bp, 9, none⟩ : Addr).block < w0.heap.size) (k10 : w0.cell? ⟨Bp, 10, none⟩ = some (.int .u64 (ww1 z))) (l10 : (⟨Bp, 10, none⟩ : Addr).block < w0.heap.size) (k11 : w0.cell? ⟨Bp, 11, none⟩ = some (.int .u64 (ww0 z))) (l11 : (⟨Bp, 11, none⟩ : Addr).block < w0.heap.size) (k12 : w0.cell? ⟨Bs, 0, none⟩ = some (.int .i64 a)) (l12 : (⟨Bs, 0, none⟩ : Addr).block < w0.heap.size) (k13 : w0.cell? ⟨Bs, 1, none⟩ = some (.int .i64 b)) (l13 : (⟨Bs, 1, none⟩ : Addr).block < w0.heap.size) (k14 : w0.cell? ⟨Bs, 2, none⟩ = some (.int .i64 c)) (l14 : (⟨Bs, 2, none⟩ : Addr).block < w0.heap.size) (k15 : w0.cell? ⟨Bs, 3, none⟩ = some (.int .i64 d)) (l15 : (⟨Bs, 3, none⟩ : Addr).block < w0.heap.size) (hz : a0.tmps.size = 31)
   (hQ : ∀ aq W, aq.tmps.size = a0.tmps.size → aq.defers = a0.defers → (∀ e, e ∉ ([18, 19, 20, 21, 22, 23, 24, 25, 26, 27] : List Nat) → aq.tmps[e]? = a0.tmps[e]?) → VregSideOn c d x y z o Bs w0.heap.size 9 (aq.tmps.getD 27 undef) W → Below w0.heap.size w0 W → Q .normal aq W) :
   (Code.region idq #[{ dst := some 18, op := Op.move (Operand.tmp 8), type := t0, pos := q0, after := #[], guard := none },
   { dst := some 19, op := Op.binOp BinOp.eql 2 (Operand.tmp 18) (Operand.const (Value.int IntKind.i64 1)) 2, type := t1, pos := q1, after := #[{ on := 0, ground := Ground.data }], guard := none },
   { dst := some 20, op := Op.move (Operand.tmp 19), type := t2, pos := q2, after := #[{ on := 1, ground := Ground.data }], guard := none },
   { dst := some 21, op := Op.load 38 (Operand.tmp 3), type := t3, pos := q3, after := #[{ on := 2, ground := Ground.guard }], guard := some (2, true) },
   { dst := some 22, op := Op.fieldAddr 83 (Operand.tmp 7) 1, type := t4, pos := q4, after := #[{ on := 2, ground := Ground.guard }], guard := some (2, true) },
   { dst := some 23, op := Op.load 81 (Operand.tmp 22), type := t5, pos := q5, after := #[{ on := 4, ground := Ground.data }, { on := 2, ground := Ground.guard }], guard := some (2, true) },
   { dst := some 24, op := Op.call { callee := Callee.value (Operand.func 68), args := #[Operand.tmp 23], argTypes := #[81] }, type := t6, pos := q6, after := #[{ on := 5, ground := Ground.data }, { on := 2, ground := Ground.chain }, { on := 2, ground := Ground.guard }], guard := some (2, true) },
   { dst := some 25, op := Op.call { callee := Callee.value (Operand.func 67), args := #[Operand.tmp 21, Operand.tmp 24], argTypes := #[38, 38] }, type := t7, pos := q7, after := #[{ on := 3, ground := Ground.data }, { on := 6, ground := Ground.data }, { on := 6, ground := Ground.chain }, { on := 2, ground := Ground.guard }], guard := some (2, true) },
   { dst := some 26, op := Op.binOp BinOp.lss 2 (Operand.tmp 25) (Operand.const (Value.int IntKind.i64 0)) 2, type := t8, pos := q8, after := #[{ on := 7, ground := Ground.data }, { on := 2, ground := Ground.guard }], guard := some (2, true) },
   { dst := some 27, op := Op.pick (Operand.tmp 20) (Operand.tmp 26) (Operand.const (Value.bool false)), type := t9, pos := q9, after := #[{ on := 2, ground := Ground.data }, { on := 8, ground := Ground.data }], guard := none }] true).wpIn (Fence.wide.inRound lr) nr Tryz.prog Q a0 w0 := by
 have hS : distS [some 18, some 19, some 20, some 21, some 22, some 23, some 24, some 25, some 26, some 27] = true := rfl
 refine wpIn_region_q (by kernel_rfl) w0.heap.size [some 18, some 19, some 20, some 21, some 22, some 23, some 24, some 25, some 26, some 27] (VregSideOn c d x y z o Bs w0.heap.size) rfl ?_ ?_
 · intro Q lq aq W iq oq hJ hl ho hall
   have hJ2 := hJ
   obtain ⟨z1, z2, z3, z4, z5, z6, z7⟩ := hJ
   have g3 : aq.tmps.getD 3 undef = .pointer (some ⟨Bp, 0, none⟩) := by rw [Array.getD_eq_getD_getElem?, z4 3 (by decide), h3]; rfl
   have g7 : aq.tmps.getD 7 undef = .pointer (some ⟨Bs, 0, none⟩) := by rw [Array.getD_eq_getD_getElem?, z4 7 (by decide), h7]; rfl
   have g8 : aq.tmps.getD 8 undef = .int .i64 o := by rw [Array.getD_eq_getD_getElem?, z4 8 (by decide), h8]; rfl
   have c0 : W.cell? ⟨Bp, 0, none⟩ = some (.int .u64 (ww3 x)) := (z5.cell l0).trans k0
   have c1 : W.cell? ⟨Bp, 1, none⟩ = some (.int .u64 (ww2 x)) := (z5.cell l1).trans k1
   have c2 : W.cell? ⟨Bp, 2, none⟩ = some (.int .u64 (ww1 x)) := (z5.cell l2).trans k2
   have c3 : W.cell? ⟨Bp, 3, none⟩ = some (.int .u64 (ww0 x)) := (z5.cell l3).trans k3
   have c4 : W.cell? ⟨Bp, 4, none⟩ = some (.int .u64 (ww3 y)) := (z5.cell l4).trans k4
   have c5 : W.cell? ⟨Bp, 5, none⟩ = some (.int .u64 (ww2 y)) := (z5.cell l5).trans k5
   have c6 : W.cell? ⟨Bp, 6, none⟩ = some (.int .u64 (ww1 y)) := (z5.cell l6).trans k6
   have c7 : W.cell? ⟨Bp, 7, none⟩ = some (.int .u64 (ww0 y)) := (z5.cell l7).trans k7
   have c8 : W.cell? ⟨Bp, 8, none⟩ = some (.int .u64 (ww3 z)) := (z5.cell l8).trans k8
   have c9 : W.cell? ⟨Bp, 9, none⟩ = some (.int .u64 (ww2 z)) := (z5.cell l9).trans k9
   have c10 : W.cell? ⟨Bp, 10, none⟩ = some (.int .u64 (ww1 z)) := (z5.cell l10).trans k10
   have c11 : W.cell? ⟨Bp, 11, none⟩ = some (.int .u64 (ww0 z)) := (z5.cell l11).trans k11
   have c12 : W.cell? ⟨Bs, 0, none⟩ = some (.int .i64 a) := (z5.cell l12).trans k12
   have c13 : W.cell? ⟨Bs, 1, none⟩ = some (.int .i64 b) := (z5.cell l13).trans k13
   have c14 : W.cell? ⟨Bs, 2, none⟩ = some (.int .i64 c) := (z5.cell l14).trans k14
   have c15 : W.cell? ⟨Bs, 3, none⟩ = some (.int .i64 d) := (z5.cell l15).trans k15
   match iq, ho with
   | 0, ho =>
     cases ho
     refine wpOpIn_of rfl rfl (by intro c h; cases h) ?_
     have hK := fun (v : Value) (W2 : World) hW hT hv => hJ2.put hS 0 18 rfl (by omega) (W' := W2) hW hT v hv
     clear ho hall hl hQ
     generalize InvQ w0.heap.size [some 18, some 19, some 20, some 21, some 22, some 23, some 24, some 25, some 26, some 27] (VregSideOn c d x y z o Bs w0.heap.size) w0 a0 (lq.setIfInBounds 0 true) = K at hK ⊢
     clear hJ2 hS z1 z2 z3 z4 z6 z7
     go_simp
     exact hK _ _ z5 (fun _ _ h => h) rfl
   | 1, ho =>
     cases ho
     refine wpOpIn_of rfl rfl (by intro c h; cases h) ?_
     have f0 : (aq.tmps.getD 18 undef) = .int .i64 o := z6 0 18 (hall { on := 0, ground := Ground.data } (by simp) rfl) rfl
     have hK := fun (v : Value) (W2 : World) hW hT hv => hJ2.put hS 1 19 rfl (by omega) (W' := W2) hW hT v hv
     clear ho hall hl hQ
     generalize InvQ w0.heap.size [some 18, some 19, some 20, some 21, some 22, some 23, some 24, some 25, some 26, some 27] (VregSideOn c d x y z o Bs w0.heap.size) w0 a0 (lq.setIfInBounds 1 true) = K at hK ⊢
     clear hJ2 hS z1 z2 z3 z4 z6 z7
     go_simp
     exact hK _ _ z5 (fun _ _ h => h) rfl
   | 2, ho =>
     cases ho
     refine wpOpIn_of rfl rfl (by intro c h; cases h) ?_
     have f1 : (aq.tmps.getD 19 undef) = .bool true := z6 1 19 (hall { on := 1, ground := Ground.data } (by simp) rfl) rfl
     have hK := fun (v : Value) (W2 : World) hW hT hv => hJ2.put hS 2 20 rfl (by omega) (W' := W2) hW hT v hv
     clear ho hall hl hQ
     generalize InvQ w0.heap.size [some 18, some 19, some 20, some 21, some 22, some 23, some 24, some 25, some 26, some 27] (VregSideOn c d x y z o Bs w0.heap.size) w0 a0 (lq.setIfInBounds 2 true) = K at hK ⊢
     clear hJ2 hS z1 z2 z3 z4 z6 z7
     go_simp
     exact hK _ _ z5 (fun _ _ h => h) rfl
   | 3, ho =>
     cases ho
     have fg : aq.tmps.getD 20 undef = .bool true := z6 2 20 (hall { on := 2, ground := Ground.guard } (by simp) rfl) rfl
     refine wpOpIn_on rfl rfl rfl rfl fg (by intro c h; cases h) ?_
     have hK := fun (v : Value) (W2 : World) hW hT hv => hJ2.put hS 3 21 rfl (by omega) (W' := W2) hW hT v hv
     clear ho hall hl hQ
     generalize InvQ w0.heap.size [some 18, some 19, some 20, some 21, some 22, some 23, some 24, some 25, some 26, some 27] (VregSideOn c d x y z o Bs w0.heap.size) w0 a0 (lq.setIfInBounds 3 true) = K at hK ⊢
     clear hJ2 hS z1 z2 z3 z4 z6 z7
     go_simp
     exact hK _ _ z5 (fun _ _ h => h) rfl
   | 4, ho =>
     cases ho
     have fg : aq.tmps.getD 20 undef = .bool true := z6 2 20 (hall { on := 2, ground := Ground.guard } (by simp) rfl) rfl
     refine wpOpIn_on rfl rfl rfl rfl fg (by intro c h; cases h) ?_
     have hK := fun (v : Value) (W2 : World) hW hT hv => hJ2.put hS 4 22 rfl (by omega) (W' := W2) hW hT v hv
     clear ho hall hl hQ
     generalize InvQ w0.heap.size [some 18, some 19, some 20, some 21, some 22, some 23, some 24, some 25, some 26, some 27] (VregSideOn c d x y z o Bs w0.heap.size) w0 a0 (lq.setIfInBounds 4 true) = K at hK ⊢
     clear hJ2 hS z1 z2 z3 z4 z6 z7
     go_simp
     exact hK _ _ z5 (fun _ _ h => h) rfl
   | 5, ho =>
     cases ho
     have fg : aq.tmps.getD 20 undef = .bool true := z6 2 20 (hall { on := 2, ground := Ground.guard } (by simp) rfl) rfl
     refine wpOpIn_on rfl rfl rfl rfl fg (by intro c h; cases h) ?_
     have f4 : (aq.tmps.getD 22 undef) = .pointer (some ⟨Bs, 2, none⟩) := z6 4 22 (hall { on := 4, ground := Ground.data } (by simp) rfl) rfl
     have hK := fun (v : Value) (W2 : World) hW hT hv => hJ2.put hS 5 23 rfl (by omega) (W' := W2) hW hT v hv
     clear ho hall hl hQ
     generalize InvQ w0.heap.size [some 18, some 19, some 20, some 21, some 22, some 23, some 24, some 25, some 26, some 27] (VregSideOn c d x y z o Bs w0.heap.size) w0 a0 (lq.setIfInBounds 5 true) = K at hK ⊢
     clear hJ2 hS z1 z2 z3 z4 z6 z7
     go_simp
     exact hK _ _ z5 (fun _ _ h => h) rfl
   | 6, ho =>
     cases ho
     have fg : aq.tmps.getD 20 undef = .bool true := z6 2 20 (hall { on := 2, ground := Ground.guard } (by simp) rfl) rfl
     refine wpOpIn_on rfl rfl rfl rfl fg (by intro c h; cases h) ?_
     have f5 : (aq.tmps.getD 23 undef) = Sp c d := z6 5 23 (hall { on := 5, ground := Ground.data } (by simp) rfl) rfl
     have hK := fun (v : Value) (W2 : World) hW hT hv => hJ2.put hS 6 24 rfl (by omega) (W' := W2) hW hT v hv
     clear ho hall hl hQ
     generalize InvQ w0.heap.size [some 18, some 19, some 20, some 21, some 22, some 23, some 24, some 25, some 26, some 27] (VregSideOn c d x y z o Bs w0.heap.size) w0 a0 (lq.setIfInBounds 6 true) = K at hK ⊢
     clear hJ2 hS z1 z2 z3 z4 z6 z7
     go_simp
     refine (implPointOf_any c d (by omega) (by omega) (by omega) (by omega) W).mono ?_
     rintro e v1 ⟨rfl, hBv⟩
     exact hK _ _ (z5.trans (hBv.mono z5.size)) (fun j v h => h.mono fun g k hg => hg.step hBv) rfl
   | 7, ho =>
     cases ho
     have fg : aq.tmps.getD 20 undef = .bool true := z6 2 20 (hall { on := 2, ground := Ground.guard } (by simp) rfl) rfl
     refine wpOpIn_on rfl rfl rfl rfl fg (by intro c h; cases h) ?_
     have f3 : (aq.tmps.getD 21 undef) = PV x y z := z6 3 21 (hall { on := 3, ground := Ground.data } (by simp) rfl) rfl
     have f6 : (aq.tmps.getD 24 undef) = PV c d 1 := z6 6 24 (hall { on := 6, ground := Ground.data } (by simp) rfl) rfl
     have hK := fun (v : Value) (W2 : World) hW hT hv => hJ2.put hS 7 25 rfl (by omega) (W' := W2) hW hT v hv
     clear ho hall hl hQ
     generalize InvQ w0.heap.size [some 18, some 19, some 20, some 21, some 22, some 23, some 24, some 25, some 26, some 27] (VregSideOn c d x y z o Bs w0.heap.size) w0 a0 (lq.setIfInBounds 7 true) = K at hK ⊢
     clear hJ2 hS z1 z2 z3 z4 z6 z7
     go_simp
     refine (byX_det x y z c d 1 sx sz (rn_small ic) rn_one W).mono ?_
     rintro e v1 ⟨rfl, hBv⟩
     exact hK _ _ (z5.trans (hBv.mono z5.size)) (fun j v h => h.mono fun g k hg => hg.step hBv) rfl
   | 8, ho =>
     cases ho
     have fg : aq.tmps.getD 20 undef = .bool true := z6 2 20 (hall { on := 2, ground := Ground.guard } (by simp) rfl) rfl
     refine wpOpIn_on rfl rfl rfl rfl fg (by intro c h; cases h) ?_
     have f7 : (aq.tmps.getD 25 undef) = .int .i64 (cmpI (x * 1) (c * z)) := z6 7 25 (hall { on := 7, ground := Ground.data } (by simp) rfl) rfl
     have hK := fun (v : Value) (W2 : World) hW hT hv => hJ2.put hS 8 26 rfl (by omega) (W' := W2) hW hT v hv
     clear ho hall hl hQ
     generalize InvQ w0.heap.size [some 18, some 19, some 20, some 21, some 22, some 23, some 24, some 25, some 26, some 27] (VregSideOn c d x y z o Bs w0.heap.size) w0 a0 (lq.setIfInBounds 8 true) = K at hK ⊢
     clear hJ2 hS z1 z2 z3 z4 z6 z7
     obtain ⟨zc, hzc⟩ : ∃ q, q = cmpI (x * 1) (c * z) := ⟨_, rfl⟩
     rw [← hzc] at f7
     have HZ : Hid (zc = cmpI (x * 1) (c * z)) := hzc
     clear hzc
     go_simp
     exact hK _ _ z5 (fun _ _ h => h) (by show Value.bool _ = Value.bool _; rw [HZ.out])
   | 9, ho =>
     cases ho
     refine wpOpIn_of rfl rfl (by intro c h; cases h) ?_
     have f2 : (aq.tmps.getD 20 undef) = .bool true := z6 2 20 (hall { on := 2, ground := Ground.data } (by simp) rfl) rfl
     have f8 : (aq.tmps.getD 26 undef) = .bool (decide (cmpI (x * 1) (c * z) < 0)) := z6 8 26 (hall { on := 8, ground := Ground.data } (by simp) rfl) rfl
     have hK := fun (v : Value) (W2 : World) hW hT hv => hJ2.put hS 9 27 rfl (by omega) (W' := W2) hW hT v hv
     clear ho hall hl hQ
     generalize InvQ w0.heap.size [some 18, some 19, some 20, some 21, some 22, some 23, some 24, some 25, some 26, some 27] (VregSideOn c d x y z o Bs w0.heap.size) w0 a0 (lq.setIfInBounds 9 true) = K at hK ⊢
     clear hJ2 hS z1 z2 z3 z4 z6 z7
     cases hzb : decide (cmpI (x * 1) (c * z) < 0)
     all_goals rw [hzb] at f8
     all_goals have HZ : Hid (decide (cmpI (x * 1) (c * z) < 0) = _) := hzb
     all_goals clear hzb
     all_goals go_simp
     all_goals exact hK _ _ z5 (fun _ _ h => h) (congrArg Value.bool HZ.out.symm)
   | iq + 10, ho => simp at ho
 · intro lq aq W hJ hr
   obtain ⟨z1, z2, z3, z4, z5, z6, z7⟩ := hJ
   have hl := listed_of hr [0, 1, 2, 3, 4, 5, 6, 7, 8, 9] [] (by simp) (by kernel_rfl) (by rw [z1]; decide)
   exact hQ aq W z2 z3 (fun e he => z4 e (by simpa using he)) (z6 9 27 (hl 9 (by simp)) rfl) z5
def VregSideOff (o : Int) (_B : Nat) : Nat → Value → World → Prop
 | 0, v, _ => v = .int .i64 o
 | 1, v, _ => v = .bool false
 | 2, v, _ => v = .bool false
 | 3, v, _ => v = undef
 | 4, v, _ => v = undef
 | 5, v, _ => v = undef
 | 6, v, _ => v = undef
 | 7, v, _ => v = undef
 | 8, v, _ => v = undef
 | 9, v, _ => v = .bool false
 | _, _, _ => True
set_option maxRecDepth 100000 in
set_option maxHeartbeats 4000000 in
theorem regSideOff {Q : Exit → Act → World → Prop} {o : Int}  {lr nr : Nat} {w0 : World} {a0 : Act} {idq : Nat} {t0 t1 t2 t3 t4 t5 t6 t7 t8 t9 : TypeId} {q0 q1 q2 q3 q4 q5 q6 q7 q8 q9 : String}
   (ho : (o == 1) = false) (h8 : a0.tmps[8]? = some (.int .i64 o))  (hz : a0.tmps.size = 31)
   (hQ : ∀ aq W, aq.tmps.size = a0.tmps.size → aq.defers = a0.defers → (∀ e, e ∉ ([18, 19, 20, 21, 22, 23, 24, 25, 26, 27] : List Nat) → aq.tmps[e]? = a0.tmps[e]?) → VregSideOff o w0.heap.size 9 (aq.tmps.getD 27 undef) W → Below w0.heap.size w0 W → Q .normal aq W) :
   (Code.region idq #[{ dst := some 18, op := Op.move (Operand.tmp 8), type := t0, pos := q0, after := #[], guard := none },
   { dst := some 19, op := Op.binOp BinOp.eql 2 (Operand.tmp 18) (Operand.const (Value.int IntKind.i64 1)) 2, type := t1, pos := q1, after := #[{ on := 0, ground := Ground.data }], guard := none },
   { dst := some 20, op := Op.move (Operand.tmp 19), type := t2, pos := q2, after := #[{ on := 1, ground := Ground.data }], guard := none },
   { dst := some 21, op := Op.load 38 (Operand.tmp 3), type := t3, pos := q3, after := #[{ on := 2, ground := Ground.guard }], guard := some (2, true) },
   { dst := some 22, op := Op.fieldAddr 83 (Operand.tmp 7) 1, type := t4, pos := q4, after := #[{ on := 2, ground := Ground.guard }], guard := some (2, true) },
   { dst := some 23, op := Op.load 81 (Operand.tmp 22), type := t5, pos := q5, after := #[{ on := 4, ground := Ground.data }, { on := 2, ground := Ground.guard }], guard := some (2, true) },
   { dst := some 24, op := Op.call { callee := Callee.value (Operand.func 68), args := #[Operand.tmp 23], argTypes := #[81] }, type := t6, pos := q6, after := #[{ on := 5, ground := Ground.data }, { on := 2, ground := Ground.chain }, { on := 2, ground := Ground.guard }], guard := some (2, true) },
   { dst := some 25, op := Op.call { callee := Callee.value (Operand.func 67), args := #[Operand.tmp 21, Operand.tmp 24], argTypes := #[38, 38] }, type := t7, pos := q7, after := #[{ on := 3, ground := Ground.data }, { on := 6, ground := Ground.data }, { on := 6, ground := Ground.chain }, { on := 2, ground := Ground.guard }], guard := some (2, true) },
   { dst := some 26, op := Op.binOp BinOp.lss 2 (Operand.tmp 25) (Operand.const (Value.int IntKind.i64 0)) 2, type := t8, pos := q8, after := #[{ on := 7, ground := Ground.data }, { on := 2, ground := Ground.guard }], guard := some (2, true) },
   { dst := some 27, op := Op.pick (Operand.tmp 20) (Operand.tmp 26) (Operand.const (Value.bool false)), type := t9, pos := q9, after := #[{ on := 2, ground := Ground.data }, { on := 8, ground := Ground.data }], guard := none }] true).wpIn (Fence.wide.inRound lr) nr Tryz.prog Q a0 w0 := by
 have hS : distS [some 18, some 19, some 20, some 21, some 22, some 23, some 24, some 25, some 26, some 27] = true := rfl
 refine wpIn_region_q (by kernel_rfl) w0.heap.size [some 18, some 19, some 20, some 21, some 22, some 23, some 24, some 25, some 26, some 27] (VregSideOff o w0.heap.size) rfl ?_ ?_
 · intro Q lq aq W iq oq hJ hl ho hall
   have hJ2 := hJ
   obtain ⟨z1, z2, z3, z4, z5, z6, z7⟩ := hJ
   have g8 : aq.tmps.getD 8 undef = .int .i64 o := by rw [Array.getD_eq_getD_getElem?, z4 8 (by decide), h8]; rfl
   match iq, ho with
   | 0, ho =>
     cases ho
     refine wpOpIn_of rfl rfl (by intro c h; cases h) ?_
     have hK := fun (v : Value) (W2 : World) hW hT hv => hJ2.put hS 0 18 rfl (by omega) (W' := W2) hW hT v hv
     clear ho hall hl hQ
     generalize InvQ w0.heap.size [some 18, some 19, some 20, some 21, some 22, some 23, some 24, some 25, some 26, some 27] (VregSideOff o w0.heap.size) w0 a0 (lq.setIfInBounds 0 true) = K at hK ⊢
     clear hJ2 hS z1 z2 z3 z4 z6 z7
     go_simp
     exact hK _ _ z5 (fun _ _ h => h) rfl
   | 1, ho =>
     cases ho
     refine wpOpIn_of rfl rfl (by intro c h; cases h) ?_
     have f0 : (aq.tmps.getD 18 undef) = .int .i64 o := z6 0 18 (hall { on := 0, ground := Ground.data } (by simp) rfl) rfl
     have hK := fun (v : Value) (W2 : World) hW hT hv => hJ2.put hS 1 19 rfl (by omega) (W' := W2) hW hT v hv
     clear ho hall hl hQ
     generalize InvQ w0.heap.size [some 18, some 19, some 20, some 21, some 22, some 23, some 24, some 25, some 26, some 27] (VregSideOff o w0.heap.size) w0 a0 (lq.setIfInBounds 1 true) = K at hK ⊢
     clear hJ2 hS z1 z2 z3 z4 z6 z7
     go_simp
     exact hK _ _ z5 (fun _ _ h => h) rfl
   | 2, ho =>
     cases ho
     refine wpOpIn_of rfl rfl (by intro c h; cases h) ?_
     have f1 : (aq.tmps.getD 19 undef) = .bool false := z6 1 19 (hall { on := 1, ground := Ground.data } (by simp) rfl) rfl
     have hK := fun (v : Value) (W2 : World) hW hT hv => hJ2.put hS 2 20 rfl (by omega) (W' := W2) hW hT v hv
     clear ho hall hl hQ
     generalize InvQ w0.heap.size [some 18, some 19, some 20, some 21, some 22, some 23, some 24, some 25, some 26, some 27] (VregSideOff o w0.heap.size) w0 a0 (lq.setIfInBounds 2 true) = K at hK ⊢
     clear hJ2 hS z1 z2 z3 z4 z6 z7
     go_simp
     exact hK _ _ z5 (fun _ _ h => h) rfl
   | 3, ho =>
     cases ho
     have fg : aq.tmps.getD 20 undef = .bool false := z6 2 20 (hall { on := 2, ground := Ground.guard } (by simp) rfl) rfl
     refine wpOpIn_off rfl rfl rfl rfl fg ?_
     exact hJ2.put hS 3 21 rfl (by omega) z5 (fun _ _ h => h) undef rfl
   | 4, ho =>
     cases ho
     have fg : aq.tmps.getD 20 undef = .bool false := z6 2 20 (hall { on := 2, ground := Ground.guard } (by simp) rfl) rfl
     refine wpOpIn_off rfl rfl rfl rfl fg ?_
     exact hJ2.put hS 4 22 rfl (by omega) z5 (fun _ _ h => h) undef rfl
   | 5, ho =>
     cases ho
     have fg : aq.tmps.getD 20 undef = .bool false := z6 2 20 (hall { on := 2, ground := Ground.guard } (by simp) rfl) rfl
     refine wpOpIn_off rfl rfl rfl rfl fg ?_
     exact hJ2.put hS 5 23 rfl (by omega) z5 (fun _ _ h => h) undef rfl
   | 6, ho =>
     cases ho
     have fg : aq.tmps.getD 20 undef = .bool false := z6 2 20 (hall { on := 2, ground := Ground.guard } (by simp) rfl) rfl
     refine wpOpIn_off rfl rfl rfl rfl fg ?_
     exact hJ2.put hS 6 24 rfl (by omega) z5 (fun _ _ h => h) undef rfl
   | 7, ho =>
     cases ho
     have fg : aq.tmps.getD 20 undef = .bool false := z6 2 20 (hall { on := 2, ground := Ground.guard } (by simp) rfl) rfl
     refine wpOpIn_off rfl rfl rfl rfl fg ?_
     exact hJ2.put hS 7 25 rfl (by omega) z5 (fun _ _ h => h) undef rfl
   | 8, ho =>
     cases ho
     have fg : aq.tmps.getD 20 undef = .bool false := z6 2 20 (hall { on := 2, ground := Ground.guard } (by simp) rfl) rfl
     refine wpOpIn_off rfl rfl rfl rfl fg ?_
     exact hJ2.put hS 8 26 rfl (by omega) z5 (fun _ _ h => h) undef rfl
   | 9, ho =>
     cases ho
     refine wpOpIn_of rfl rfl (by intro c h; cases h) ?_
     have f2 : (aq.tmps.getD 20 undef) = .bool false := z6 2 20 (hall { on := 2, ground := Ground.data } (by simp) rfl) rfl
     have f8 : (aq.tmps.getD 26 undef) = undef := z6 8 26 (hall { on := 8, ground := Ground.data } (by simp) rfl) rfl
     have hK := fun (v : Value) (W2 : World) hW hT hv => hJ2.put hS 9 27 rfl (by omega) (W' := W2) hW hT v hv
     clear ho hall hl hQ
     generalize InvQ w0.heap.size [some 18, some 19, some 20, some 21, some 22, some 23, some 24, some 25, some 26, some 27] (VregSideOff o w0.heap.size) w0 a0 (lq.setIfInBounds 9 true) = K at hK ⊢
     clear hJ2 hS z1 z2 z3 z4 z6 z7
     go_simp
     exact hK _ _ z5 (fun _ _ h => h) rfl
   | iq + 10, ho => simp at ho
 · intro lq aq W hJ hr
   obtain ⟨z1, z2, z3, z4, z5, z6, z7⟩ := hJ
   have hl := listed_of hr [0, 1, 2, 3, 4, 5, 6, 7, 8, 9] [] (by simp) (by kernel_rfl) (by rw [z1]; decide)
   exact hQ aq W z2 z3 (fun e he => z4 e (by simpa using he)) (z6 9 27 (hl 9 (by simp)) rfl) z5
set_option maxRecDepth 100000 in
set_option maxHeartbeats 400000 in
theorem implSegOf_any (x y u v A B C D : Int) (l k : Bool) (hl : lessI u v x y = l) (hk : segOk A B C D = k) (hA : cond l u x = A) (hB : cond l v y = B) (hC : cond l x u = C) (hD : cond l y v = D) (w : World) :
   Calls Tryz.prog 97 #[Sp x y, Sp u v] w (VP (.tuple #[Sg (cond k A 0) (cond k B 0) (cond k C 0) (cond k D 0), .bool k]) w) := by
 cases l <;> simp only [cond_true, cond_false] at hA hB hC hD <;> subst hA hB hC hD
 · have B0 := Blk.new w [.int .i64 x, .int .i64 y] 81 rfl
   have HB0 : Below w.heap.size w _ := (Below.refl _ w).alloc (Nat.le_refl _) (.cells #[.int .i64 x, .int .i64 y] 81)
   have B1 := Blk.new (w.alloc (.cells #[.int .i64 x, .int .i64 y] 81)) [.int .i64 u, .int .i64 v] 81 (g := w.heap.size + 1) (by simp)
   replace B0 := B0.alloc (.cells #[.int .i64 u, .int .i64 v] 81)
   replace HB0 := HB0.alloc (by simp) (.cells #[.int .i64 u, .int .i64 v] 81)
   have B2 := Blk.new ((w.alloc (.cells #[.int .i64 x, .int .i64 y] 81)).alloc (.cells #[.int .i64 u, .int .i64 v] 81)) [.int .i64 0, .int .i64 0, .int .i64 0, .int .i64 0] 83 (g := w.heap.size + 1 + 1) (by simp)
   replace B0 := B0.alloc (.cells #[.int .i64 0, .int .i64 0, .int .i64 0, .int .i64 0] 83)
   replace B1 := B1.alloc (.cells #[.int .i64 0, .int .i64 0, .int .i64 0, .int .i64 0] 83)
   replace HB0 := HB0.alloc (by simp; omega) (.cells #[.int .i64 0, .int .i64 0, .int .i64 0, .int .i64 0] 83)
   have B3 := Blk.new (((w.alloc (.cells #[.int .i64 x, .int .i64 y] 81)).alloc (.cells #[.int .i64 u, .int .i64 v] 81)).alloc (.cells #[.int .i64 0, .int .i64 0, .int .i64 0, .int .i64 0] 83)) [.int .i64 x, .int .i64 y, .int .i64 u, .int .i64 v] 83 (g := w.heap.size + 1 + 1 + 1) (by simp)
   replace B0 := B0.alloc (.cells #[.int .i64 x, .int .i64 y, .int .i64 u, .int .i64 v] 83)
   replace B1 := B1.alloc (.cells #[.int .i64 x, .int .i64 y, .int .i64 u, .int .i64 v] 83)
   replace B2 := B2.alloc (.cells #[.int .i64 x, .int .i64 y, .int .i64 u, .int .i64 v] 83)
   replace HB0 := HB0.alloc (by simp; omega) (.cells #[.int .i64 x, .int .i64 y, .int .i64 u, .int .i64 v] 83)
   go_enter Tryz.func97, Tryz.ntmps97
   go_wp2_with fail
   refine (isAhead_any _ _ _ _ false hl _).mono ?_
   rintro e w1 ⟨rfl, hB⟩
   replace B0 := B0.step hB; replace B1 := B1.step hB; replace B2 := B2.step hB; replace B3 := B3.step hB
   have HB : Below w.heap.size w w1 := HB0.trans (hB.mono HB0.size)
   clear hB HB0
   obtain ⟨cB00, fB00, cB01, fB01⟩ := B0.cf2; obtain ⟨cB10, fB10, cB11, fB11⟩ := B1.cf2; obtain ⟨cB20, fB20, cB21, fB21, cB22, fB22, cB23, fB23⟩ := B2.cf4; obtain ⟨cB30, fB30, cB31, fB31, cB32, fB32, cB33, fB33⟩ := B3.cf4; have ltB0 := B0.lt; have ltB1 := B1.lt; have ltB2 := B2.lt; have ltB3 := B3.lt
   go_wp2_with fail
   have D2 := B2
   have D3 := B3
   have HC := HB
   refine (implSegOk_any _ _ _ _ k hk _).mono ?_
   rintro e w2 ⟨rfl, hB⟩
   replace D2 := D2.step hB
   replace D3 := D3.step hB
   have HD : Below w.heap.size w w2 := HC.trans (hB.mono HC.size)
   clear hB HC HB B0 B1 B2 B3 cB00 fB00 cB01 fB01 cB10 fB10 cB11 fB11 cB20 fB20 cB21 fB21 cB22 fB22 cB23 fB23 cB30 fB30 cB31 fB31 cB32 fB32 cB33 fB33 ltB0 ltB1 ltB2 ltB3
   obtain ⟨cD20, fD20, cD21, fD21, cD22, fD22, cD23, fD23⟩ := D2.cf4; obtain ⟨cD30, fD30, cD31, fD31, cD32, fD32, cD33, fD33⟩ := D3.cf4
   have ltD2 := D2.lt; have ltD3 := D3.lt
   cases k
   · go_wp2
     refine bodyPost_ret (v := .tuple #[Sg 0 0 0 0, .bool false]) (by simp [results, Tryz.results97, go_sem, cD20, cD21, cD22, cD23]) rfl ?_
     refine ⟨rfl, ?_⟩
     repeat' (refine Below.setCell ?_ (by simp; try omega) _)
     exact HD
   · go_wp2
     refine bodyPost_ret (v := .tuple #[Sg x y u v, .bool true]) (by simp [results, Tryz.results97, go_sem, cD20, cD21, cD22, cD23]) rfl ?_
     refine ⟨rfl, ?_⟩
     repeat' (refine Below.setCell ?_ (by simp; try omega) _)
     exact HD
 · have B0 := Blk.new w [.int .i64 x, .int .i64 y] 81 rfl
   have HB0 : Below w.heap.size w _ := (Below.refl _ w).alloc (Nat.le_refl _) (.cells #[.int .i64 x, .int .i64 y] 81)
   have B1 := Blk.new (w.alloc (.cells #[.int .i64 x, .int .i64 y] 81)) [.int .i64 u, .int .i64 v] 81 (g := w.heap.size + 1) (by simp)
   replace B0 := B0.alloc (.cells #[.int .i64 u, .int .i64 v] 81)
   replace HB0 := HB0.alloc (by simp) (.cells #[.int .i64 u, .int .i64 v] 81)
   have B2 := Blk.new ((w.alloc (.cells #[.int .i64 x, .int .i64 y] 81)).alloc (.cells #[.int .i64 u, .int .i64 v] 81)) [.int .i64 0, .int .i64 0, .int .i64 0, .int .i64 0] 83 (g := w.heap.size + 1 + 1) (by simp)
   replace B0 := B0.alloc (.cells #[.int .i64 0, .int .i64 0, .int .i64 0, .int .i64 0] 83)
   replace B1 := B1.alloc (.cells #[.int .i64 0, .int .i64 0, .int .i64 0, .int .i64 0] 83)
   replace HB0 := HB0.alloc (by simp; omega) (.cells #[.int .i64 0, .int .i64 0, .int .i64 0, .int .i64 0] 83)
   have B3 := Blk.new (((w.alloc (.cells #[.int .i64 x, .int .i64 y] 81)).alloc (.cells #[.int .i64 u, .int .i64 v] 81)).alloc (.cells #[.int .i64 0, .int .i64 0, .int .i64 0, .int .i64 0] 83)) [.int .i64 x, .int .i64 y, .int .i64 u, .int .i64 v] 83 (g := w.heap.size + 1 + 1 + 1) (by simp)
   replace B0 := B0.alloc (.cells #[.int .i64 x, .int .i64 y, .int .i64 u, .int .i64 v] 83)
   replace B1 := B1.alloc (.cells #[.int .i64 x, .int .i64 y, .int .i64 u, .int .i64 v] 83)
   replace B2 := B2.alloc (.cells #[.int .i64 x, .int .i64 y, .int .i64 u, .int .i64 v] 83)
   replace HB0 := HB0.alloc (by simp; omega) (.cells #[.int .i64 x, .int .i64 y, .int .i64 u, .int .i64 v] 83)
   go_enter Tryz.func97, Tryz.ntmps97
   go_wp2_with fail
   refine (isAhead_any _ _ _ _ true hl _).mono ?_
   rintro e w1 ⟨rfl, hB⟩
   replace B0 := B0.step hB; replace B1 := B1.step hB; replace B2 := B2.step hB; replace B3 := B3.step hB
   have HB : Below w.heap.size w w1 := HB0.trans (hB.mono HB0.size)
   clear hB HB0
   obtain ⟨cB00, fB00, cB01, fB01⟩ := B0.cf2; obtain ⟨cB10, fB10, cB11, fB11⟩ := B1.cf2; obtain ⟨cB20, fB20, cB21, fB21, cB22, fB22, cB23, fB23⟩ := B2.cf4; obtain ⟨cB30, fB30, cB31, fB31, cB32, fB32, cB33, fB33⟩ := B3.cf4; have ltB0 := B0.lt; have ltB1 := B1.lt; have ltB2 := B2.lt; have ltB3 := B3.lt
   go_wp2_with fail
   have D2 := ((((B2.setO (p := ⟨w.heap.size + 1 + 1 + 1, 0, none⟩) (by simp) (.int .i64 u)).setO (p := ⟨w.heap.size + 1 + 1 + 1, 1, none⟩) (by simp) (.int .i64 v)).setO (p := ⟨w.heap.size + 1 + 1 + 1, 2, none⟩) (by simp) (.int .i64 x)).setO (p := ⟨w.heap.size + 1 + 1 + 1, 3, none⟩) (by simp) (.int .i64 y))
   have D3 := ((((B3.setI 0 (by simp) (.int .i64 u)).setI 1 (by simp) (.int .i64 v)).setI 2 (by simp) (.int .i64 x)).setI 3 (by simp) (.int .i64 y))
   simp only [List.set_cons_zero, List.set_cons_succ] at D3
   have HC := ((((HB.setCell (p := ⟨w.heap.size + 1 + 1 + 1, 0, none⟩) (by simp; omega) (.int .i64 u)).setCell (p := ⟨w.heap.size + 1 + 1 + 1, 1, none⟩) (by simp; omega) (.int .i64 v)).setCell (p := ⟨w.heap.size + 1 + 1 + 1, 2, none⟩) (by simp; omega) (.int .i64 x)).setCell (p := ⟨w.heap.size + 1 + 1 + 1, 3, none⟩) (by simp; omega) (.int .i64 y))
   refine (implSegOk_any _ _ _ _ k hk _).mono ?_
   rintro e w2 ⟨rfl, hB⟩
   replace D2 := D2.step hB
   replace D3 := D3.step hB
   have HD : Below w.heap.size w w2 := HC.trans (hB.mono HC.size)
   clear hB HC HB B0 B1 B2 B3 cB00 fB00 cB01 fB01 cB10 fB10 cB11 fB11 cB20 fB20 cB21 fB21 cB22 fB22 cB23 fB23 cB30 fB30 cB31 fB31 cB32 fB32 cB33 fB33 ltB0 ltB1 ltB2 ltB3
   obtain ⟨cD20, fD20, cD21, fD21, cD22, fD22, cD23, fD23⟩ := D2.cf4; obtain ⟨cD30, fD30, cD31, fD31, cD32, fD32, cD33, fD33⟩ := D3.cf4
   have ltD2 := D2.lt; have ltD3 := D3.lt
   cases k
   · go_wp2
     refine bodyPost_ret (v := .tuple #[Sg 0 0 0 0, .bool false]) (by simp [results, Tryz.results97, go_sem, cD20, cD21, cD22, cD23]) rfl ?_
     refine ⟨rfl, ?_⟩
     repeat' (refine Below.setCell ?_ (by simp; try omega) _)
     exact HD
   · go_wp2
     refine bodyPost_ret (v := .tuple #[Sg u v x y, .bool true]) (by simp [results, Tryz.results97, go_sem, cD20, cD21, cD22, cD23]) rfl ?_
     refine ⟨rfl, ?_⟩
     repeat' (refine Below.setCell ?_ (by simp; try omega) _)
     exact HD
set_option maxRecDepth 100000 in
set_option maxHeartbeats 4000000 in
theorem spotAfter_any (ao : Option Addr) (n cap : Nat) (p : Ps) (i : Nat) (hi : i < n) (hn : n ≤ 1048576) (w : World) (hS : SpIn w ao n p) : Calls Tryz.prog 76 #[.agg #[.slice ao n cap], .int .i64 (i : Int)] w (VP (Sp (p ((i + 1) % n)).1 (p ((i + 1) % n)).2) w) := by
 have hm : (i + 1) % n < n := Nat.mod_lt _ (by omega)
 obtain ⟨A, off, rfl, hA, q0, q1⟩ := hS _ hm
 have B0 := (Blk.new w [.slice (some ⟨A, off, none⟩) n cap] 34 rfl).alloc (.cells #[.int .i64 0, .int .i64 0] 81)
 have B1 := Blk.new (w.alloc (.cells #[.slice (some ⟨A, off, none⟩) n cap] 34)) [.int .i64 0, .int .i64 0] 81 (g := w.heap.size + 1) (by simp)
 have HB : Below w.heap.size w ((w.alloc (.cells #[.slice (some ⟨A, off, none⟩) n cap] 34)).alloc (.cells #[.int .i64 0, .int .i64 0] 81)) := ((Below.refl _ w).alloc (Nat.le_refl _) _).alloc (by simp) _
 replace q0 := (HB.cell (p := ⟨A, _, none⟩) hA).trans q0
 replace q1 := (HB.cell (p := ⟨A, _, none⟩) hA).trans q1
 have hrem : ((i : Int) + 1).tmod (n : Int) = (((i + 1) % n : Nat) : Int) := by
   rw [Int.tmod_eq_emod_of_nonneg (by omega), Int.natCast_emod]
   rfl
 have hadd : IntKind.i64.wrap ((i : Int) + 1) = (i : Int) + 1 := by rw [IntKind.wrap_i64]; omega
 have hmI : (((i + 1) % n : Nat) : Int) < n := by have := Nat.mod_lt (i + 1) (show 0 < n by omega); omega
 have hl0 : ¬ ((n : Int) = 0) := by omega
 have hl1 : ¬ (n = 0) := by omega
 have hne : A ≠ w.heap.size := by omega
 have hne1 : A ≠ w.heap.size + 1 := by omega
 go_enter Tryz.func76, Tryz.ntmps76
 go_upto_region 1 with fail
 generalize (w.alloc (.cells #[.slice (some ⟨A, off, none⟩) n cap] 34)).alloc (.cells #[.int .i64 0, .int .i64 0] 81) = W at *
 have HK : ∀ W', Below (w.heap.size + 1) W W' → (fun w' : World => w'.cell? ⟨w.heap.size, 0, none⟩ = some (.slice (some ⟨A, off, none⟩) n cap) ∧ w'.cell? ⟨A, off + ((i + 1) % n) * 2, none⟩ = some (.int .i64 (p ((i + 1) % n)).1) ∧ w'.cell? ⟨A, off + ((i + 1) % n) * 2 + 1, none⟩ = some (.int .i64 (p ((i + 1) % n)).2)) W' := fun W' h => ⟨(B0.below h (by omega)).c 0 rfl, (h.cell (p := ⟨A, _, none⟩) (by show A < w.heap.size + 1; omega)).trans q0, (h.cell (p := ⟨A, _, none⟩) (by show A < w.heap.size + 1; omega)).trans q1⟩
 have H0 : Below (w.heap.size + 1) W W := Below.refl _ _
 have z0 := B1.c 0 rfl; have z1 := B1.c 1 rfl; have y0 := B1.f 0 rfl; have y1 := B1.f 1 rfl; have zl := B1.lt
 have hI1 : (i : Int) < n := by omega
 have hnI : (n : Int) ≤ 1048576 := by omega
 clear hm hS B0 q0 q1
 generalize ((i + 1) % n) = e' at *
 go_region_held3 (fun w' : World => w'.cell? ⟨w.heap.size, 0, none⟩ = some (.slice (some ⟨A, off, none⟩) n cap) ∧ w'.cell? ⟨A, off + e' * 2, none⟩ = some (.int .i64 (p e').1) ∧ w'.cell? ⟨A, off + e' * 2 + 1, none⟩ = some (.int .i64 (p e').2)) (refine HK _ ?_ <;> repeat (first | (with_reducible exact H0) | (with_reducible refine Below.drew ?_) | (with_reducible refine Below.setCell ?_ (by first | exact Nat.le_refl _ | simp) _))) (fail)
 all_goals have RN : Blk ((W.setCell ⟨w.heap.size + 1, 0, none⟩ (.int .i64 (p e').1)).setCell ⟨w.heap.size + 1, 1, none⟩ (.int .i64 (p e').2)).drew (w.heap.size + 1) [.int .i64 (p e').1, .int .i64 (p e').2] := ((B1.setI 0 (by simp) _).setI 1 (by simp) _).drew
 all_goals have HN : Below w.heap.size w ((W.setCell ⟨w.heap.size + 1, 0, none⟩ (.int .i64 (p e').1)).setCell ⟨w.heap.size + 1, 1, none⟩ (.int .i64 (p e').2)).drew := ((HB.setCell (p := ⟨w.heap.size + 1, 0, none⟩) (by simp) _).setCell (p := ⟨w.heap.size + 1, 1, none⟩) (by simp) _).drew
 all_goals have r0 := RN.c 0 rfl; have r1 := RN.c 1 rfl
 all_goals go_wp2
 all_goals refine bodyPost_ret (v := Sp (p e').1 (p e').2) (by simp [results, Tryz.results76, go_sem, r0, r1]) rfl ?_
 all_goals exact ⟨rfl, HN⟩
def moI (n i j : Nat) : Int := if i + 1 = j ∨ j + 1 = i ∨ i + n = j + 1 ∨ j + n = i + 1 then 1 else 0
set_option maxRecDepth 100000 in
set_option maxHeartbeats 4000000 in
theorem most_any (ao : Option Addr) (n cap : Nat) (i j : Nat) (hi : i < n) (hj : j < n) (hn : n ≤ 1048576) (h3 : 2 ≤ n) (w : World) : Calls Tryz.prog 119 #[.agg #[.slice ao n cap], .int .i64 (i : Int), .int .i64 (j : Int)] w (VP (.int .i64 (moI n i j)) w) := by
 have HB : Below w.heap.size w (w.alloc (.cells #[.slice ao n cap] 34)) := (Below.refl _ w).alloc (Nat.le_refl _) _
 have B0 := Blk.new w [.slice ao n cap] 34 rfl
 have s1 : IntKind.i64.wrap ((i : Int) - j) = (i : Int) - j := by rw [IntKind.wrap_i64]; omega
 have s2 : IntKind.i64.wrap ((j : Int) - i) = (j : Int) - i := by rw [IntKind.wrap_i64]; omega
 have s3 : IntKind.i64.wrap ((n : Int) - 1) = (n : Int) - 1 := by rw [IntKind.wrap_i64]; omega
 have b0 := B0.c 0 rfl
 go_enter Tryz.func119, Tryz.ntmps119
 go_upto_region 1 with fail
 generalize (w.alloc (.cells #[.slice ao n cap] 34)) = W at *
 go_upto_region 2 with fail
 generalize hz : (if (i : Int) - j < (j : Int) - i then (j : Int) - i else (i : Int) - j) = z at *
 have hz2 : (z = (i : Int) - j ∧ (j : Int) ≤ i) ∨ (z = (j : Int) - i ∧ (i : Int) ≤ j) := by
   rw [← hz]
   split <;> omega
 clear hz s1 s2
 by_cases a1 : z = 1
 · have HO : Hid (moI n i j = 1) := by show _ = _; unfold moI; rw [if_pos (by omega)]
   subst a1
   clear hz2 B0
   go_wp2
   go_ret
   exact ⟨by rw [HO.out]; rfl, HB⟩
 · have a1' : (z == 1) = false := beq_eq_false_iff_ne.2 a1
   by_cases a2 : z = (n : Int) - 1
   · have HO : Hid (moI n i j = 1) := by show _ = _; unfold moI; rw [if_pos (by omega)]
     have a2' : (z == (n : Int) - 1) = true := by rw [a2]; exact beq_self_eq_true _
     clear hz2 B0 a1 a2
     go_wp2
     go_ret
     exact ⟨by rw [HO.out]; rfl, HB⟩
   · have HO : Hid (moI n i j = 0) := by show _ = _; unfold moI; rw [if_neg (by omega)]
     have a2' : (z == (n : Int) - 1) = false := beq_eq_false_iff_ne.2 a2
     clear hz2 B0 a1 a2
     go_wp2
     go_ret
     exact ⟨by rw [HO.out]; rfl, HB⟩
set_option maxRecDepth 100000 in
set_option maxHeartbeats 4000000 in
theorem wrong_any (ao : Option Addr) (n cap : Nat) (p : Ps) (hn : n ≤ 1048576) (w : World) (hS : SpIn w ao n p) : Calls Tryz.prog 88 #[.agg #[.slice ao n cap]] w (VP (.bool (decide (¬ (∀ i, i < n → spotOk (p i).1 (p i).2 = true)))) w) := by
 have B0 := Blk.new w [.slice ao n cap] 34 rfl
 have HB0 : Below w.heap.size w (w.alloc (.cells #[.slice ao n cap] 34)) := (Below.refl _ w).alloc (Nat.le_refl _) _
 have hmI : (n : Int) ≤ 1048576 := by omega
 have HS : Hid (SpIn (w.alloc (.cells #[.slice ao n cap] 34)) ao n p) := hS.step HB0
 clear hS
 go_enter Tryz.func88, Tryz.ntmps88
 have b0 := B0.c 0 rfl
 go_wp2_with fail
 generalize (w.alloc (.cells #[.slice ao n cap] 34)) = W1 at *
 go_loopw [8] (fun i wr => ∃ c : Nat, c ≤ n ∧ i = .int .i64 c ∧ (∀ j, j < c → spotOk (p j).1 (p j).2 = true) ∧ Below W1.heap.size W1 wr) (fun i _ => n - (intOf i).toNat)
 case atStart => exact ⟨0, by omega, rfl, fun j hj => by omega, Below.refl _ _⟩
 case round =>
   obtain ⟨c, hc, rfl, hall, HB⟩ := hrel
   have HA : Hid (∀ j, j < c → spotOk (p j).1 (p j).2 = true) := hall
   clear hall b0
   by_cases hcn : c < n
   · obtain ⟨A, off, rfl, hA, q0, q1⟩ := HS.out.step HB c hcn
     have hcI : (c : Int) < n := by omega
     clear B0
     go_wp2_with fail
     refine (implSpotOk_any (p c).1 (p c).2 _ rfl _).mono ?_
     rintro e w1 ⟨rfl, hB⟩
     replace HB := (HB.alloc HB.size _).trans (hB.mono (HB.alloc HB.size _).size)
     clear hB q0 q1 hA
     by_cases hk : spotOk (p c).1 (p c).2 = true
     · rw [hk]
       have HK : Hid (spotOk (p c).1 (p c).2 = true) := hk
       clear hk
       go_wp2
       go_roundw
       case rel => exact ⟨c + 1, by omega, by go_num, fun j hj => by
         rcases Nat.lt_or_ge j c with h | h
         · exact HA.out j h
         · obtain rfl : j = c := by omega
           exact HK.out, HB⟩
       case measure => simp [intOf]; omega
     · have HO : Hid (decide (¬ (∀ i, i < n → spotOk (p i).1 (p i).2 = true)) = true) := decide_eq_true (fun h => hk (h c hcn))
       rw [Bool.eq_false_iff.2 hk]
       have HBF := HB0.trans (HB.mono HB0.size)
       clear hk
       go_wp2
       go_ret
       exact ⟨by rw [HO.out]; rfl, HBF⟩
   · obtain rfl : c = n := by omega
     have HO : Hid (decide (¬ (∀ i, i < c → spotOk (p i).1 (p i).2 = true)) = false) := decide_eq_false (fun h => h HA.out)
     have HBF := HB0.trans (HB.mono HB0.size)
     clear HA HS B0
     go_wp2
     go_ret
     exact ⟨by rw [HO.out]; rfl, HBF⟩
theorem eqSp2 (x y u v : Int) (w : World) : (Op.equalIn 10000 81 (Sp x y) (Sp u v)).run Tryz.prog w = .ok (decide (x = u) && decide (y = v)) w := by
 have u3 := Tryz.underlying2
 have a3 := Tryz.isAgg2
 have z3 := Tryz.sizeOf2
 rw [show (10000 : Nat) = 9999 + 1 from rfl, Op.equalIn]
 simp only [Sem.run_bind, run_underlying Tryz.underlying81, Result.andThen_ok]
 go_simp
 by_cases h1 : x = u
 · by_cases h2 : y = v
   · simp [h1, h2]
   · simp [h1, h2]
 · simp [h1]
def amB (n : Nat) (p : Ps) (x y : Int) : Bool := decide (∃ i, i < n ∧ (p i).1 = x ∧ (p i).2 = y)
set_option maxRecDepth 100000 in
set_option maxHeartbeats 4000000 in
theorem index_any (ao : Option Addr) (n cap : Nat) (p : Ps) (x y : Int) (hn : n ≤ 1048576) (w : World) (hS : SpIn w ao n p) : Calls Tryz.prog 139 #[.slice ao n cap, Sp x y] w (fun e w' => ∃ k : Int, e = .returned (.int .i64 k) ∧ decide (0 ≤ k) = amB n p x y ∧ Below w.heap.size w w') := by
 have B0 := Blk.new w [.int .i64 x, .int .i64 y] 81 rfl
 have HB0 : Below w.heap.size w (w.alloc (.cells #[.int .i64 x, .int .i64 y] 81)) := (Below.refl _ w).alloc (Nat.le_refl _) _
 have hmI : (n : Int) ≤ 1048576 := by omega
 have HS : Hid (SpIn (w.alloc (.cells #[.int .i64 x, .int .i64 y] 81)) ao n p) := hS.step HB0
 clear hS
 go_enter Tryz.func139, Tryz.ntmps139
 go_wp2_with fail
 generalize (w.alloc (.cells #[.int .i64 x, .int .i64 y] 81)) = W1 at *
 go_loopw [8] (fun i wr => ∃ c : Nat, c ≤ n ∧ i = .int .i64 c ∧ (∀ j, j < c → ¬ ((p j).1 = x ∧ (p j).2 = y)) ∧ Below W1.heap.size W1 wr) (fun i _ => n - (intOf i).toNat)
 case atStart => exact ⟨0, by omega, rfl, fun j hj => by omega, Below.refl _ _⟩
 case round =>
   obtain ⟨c, hc, rfl, hall, HB⟩ := hrel
   have HA : Hid (∀ j, j < c → ¬ ((p j).1 = x ∧ (p j).2 = y)) := hall
   clear hall
   by_cases hcn : c < n
   · obtain ⟨A, off, rfl, hA, q0, q1⟩ := HS.out.step HB c hcn
     have hcI : (c : Int) < n := by omega
     replace B0 := B0.step HB
     have b0 := B0.c 0 rfl; have b1 := B0.c 1 rfl
     have EQ := eqSp2 x y (p c).1 (p c).2
     have KS : (fun w' : World => w'.cell? ⟨w.heap.size, 0, none⟩ = some (.int .i64 x) ∧ w'.cell? ⟨w.heap.size, 1, none⟩ = some (.int .i64 y) ∧ w'.cell? ⟨A, off + c * 2, none⟩ = some (.int .i64 (p c).1) ∧ w'.cell? ⟨A, off + c * 2 + 1, none⟩ = some (.int .i64 (p c).2)) wr := ⟨b0, b1, q0, q1⟩
     go_upto_region 4 with fail
     go_region_held3 (fun w' : World => w'.cell? ⟨w.heap.size, 0, none⟩ = some (.int .i64 x) ∧ w'.cell? ⟨w.heap.size, 1, none⟩ = some (.int .i64 y) ∧ w'.cell? ⟨A, off + c * 2, none⟩ = some (.int .i64 (p c).1) ∧ w'.cell? ⟨A, off + c * 2 + 1, none⟩ = some (.int .i64 (p c).2)) (exact KS) (fail)
     all_goals have HBF := HB0.trans (HB.drew.mono HB0.size)
     all_goals clear KS b0 b1 q0 q1 EQ B0 hA HS
     all_goals by_cases h : x = (p c).1 ∧ y = (p c).2
     all_goals first
       | (obtain ⟨h1, h2⟩ := h
          have HO : Hid (decide (0 ≤ (c : Int)) = amB n p x y) := by
            show _ = _
            rw [decide_eq_true (by omega), eq_comm]
            exact decide_eq_true ⟨c, hcn, h1.symm, h2.symm⟩
          have d1 : (decide (x = (p c).1) && decide (y = (p c).2)) = true := by simp [h1, h2]
          rw [d1]
          clear d1 h1 h2 HA
          go_wp2
          go_ret
          exact ⟨(c : Int), rfl, HO.out, HBF⟩)
       | (have d1 : (decide (x = (p c).1) && decide (y = (p c).2)) = false := by
            rw [Bool.eq_false_iff]
            intro hh
            simp at hh
            exact h hh
          have HH : Hid (¬ (x = (p c).1 ∧ y = (p c).2)) := h
          rw [d1]
          clear d1 h HBF
          have HBD := HB.drew
          clear HB
          go_wp2
          go_roundw)
     case rel => exact ⟨c + 1, by omega, by go_num, fun j hj => by
       rcases Nat.lt_or_ge j c with h | h
       · exact HA.out j h
       · obtain rfl : j = c := by omega
         exact fun k => HH.out ⟨k.1.symm, k.2.symm⟩, HBD⟩
     case measure => simp [intOf]; omega
   · obtain rfl : c = n := by omega
     have HO : Hid (decide (0 ≤ (-1 : Int)) = amB c p x y) := by
       show _ = _
       rw [decide_eq_false (by omega), eq_comm]
       exact decide_eq_false (fun ⟨i, hi, h⟩ => HA.out i hi h)
     have HBF := HB0.trans (HB.mono HB0.size)
     clear HA HS B0
     go_wp2
     go_ret
     exact ⟨-1, rfl, HO.out, HBF⟩
set_option maxRecDepth 100000 in
set_option maxHeartbeats 4000000 in
theorem contains_any (ao : Option Addr) (n cap : Nat) (p : Ps) (x y : Int) (hn : n ≤ 1048576) (w : World) (hS : SpIn w ao n p) : Calls Tryz.prog 118 #[.slice ao n cap, Sp x y] w (VP (.bool (amB n p x y)) w) := by
 have B0 := Blk.new w [.int .i64 x, .int .i64 y] 81 rfl
 have HB0 : Below w.heap.size w (w.alloc (.cells #[.int .i64 x, .int .i64 y] 81)) := (Below.refl _ w).alloc (Nat.le_refl _) _
 have HS := hS.step HB0
 clear hS
 have b0 := B0.c 0 rfl; have b1 := B0.c 1 rfl
 go_enter Tryz.func118, Tryz.ntmps118
 go_wp2_with fail
 refine (index_any ao n cap p x y hn _ HS).mono ?_
 rintro e w1 ⟨k, rfl, hk, hB⟩
 have HBF := HB0.trans (hB.mono HB0.size)
 have HO : Hid (decide (0 ≤ k) = amB n p x y) := hk
 clear hB B0 b0 b1 HS hk
 go_wp2
 go_ret
 exact ⟨by rw [← HO.out]; rfl, HBF⟩
set_option maxRecDepth 100000 in
set_option maxHeartbeats 4000000 in
theorem twice_any (ao : Option Addr) (n cap : Nat) (p : Ps) (hn : n ≤ 1048576) (w : World) (hS : SpIn w ao n p) (hcap : n ≤ cap) (hcap2 : cap ≤ 9223372036854775807) : Calls Tryz.prog 89 #[.agg #[.slice ao n cap]] w (VP (.bool (decide (¬ OneN n p))) w) := by
 have B0 := Blk.new w [.slice ao n cap] 34 rfl
 have HB0 : Below w.heap.size w (w.alloc (.cells #[.slice ao n cap] 34)) := (Below.refl _ w).alloc (Nat.le_refl _) _
 have hmI : (n : Int) ≤ 1048576 := by omega
 have hcI1 : (n : Int) ≤ cap := by omega
 have hcI2 : (cap : Int) ≤ 9223372036854775807 := by omega
 have HS : Hid (SpIn (w.alloc (.cells #[.slice ao n cap] 34)) ao n p) := hS.step HB0
 clear hS
 go_enter Tryz.func89, Tryz.ntmps89
 have b0 := B0.c 0 rfl
 go_wp2_with fail
 generalize (w.alloc (.cells #[.slice ao n cap] 34)) = W1 at *
 go_loopw [8] (fun i wr => ∃ c : Nat, c ≤ n ∧ i = .int .i64 c ∧ (∀ j, j < c → ∀ k, k < j → p j ≠ p k) ∧ Below W1.heap.size W1 wr) (fun i _ => n - (intOf i).toNat)
 case atStart => exact ⟨0, by omega, rfl, fun j hj => by omega, Below.refl _ _⟩
 case round =>
   obtain ⟨c, hc, rfl, hall, HB⟩ := hrel
   have HA : Hid (∀ j, j < c → ∀ k, k < j → p j ≠ p k) := hall
   clear hall b0
   by_cases hcn : c < n
   · obtain ⟨A, off, rfl, hA, q0, q1⟩ := HS.out.step HB c hcn
     have hcI : (c : Int) < n := by omega
     have hcc : (c : Int) ≤ cap := by omega
     have hc0 : (0 : Int) ≤ c := by omega
     have HSc : SpIn wr (some ⟨A, off, none⟩) c p := fun i hi => HS.out.step HB i (by omega)
     replace B0 := B0.step HB
     have hB1 := (Below.refl wr.heap.size wr).alloc (Nat.le_refl _) (.cells #[.int .i64 (p c).1, .int .i64 (p c).2] 81)
     have HBA := HB.alloc HB.size (.cells #[.int .i64 (p c).1, .int .i64 (p c).2] 81)
     have Bs := Blk.new wr [.int .i64 (p c).1, .int .i64 (p c).2] 81 rfl
     replace B0 := B0.step hB1
     replace HSc := HSc.step hB1
     have CO := fun w h => contains_any (some ⟨A, off, none⟩) c cap p (p c).1 (p c).2 (by omega) w h
     have KS : (fun w' : World => w'.cell? ⟨w.heap.size, 0, none⟩ = some (.slice (some ⟨A, off, none⟩) n cap) ∧ w'.cell? ⟨wr.heap.size, 0, none⟩ = some (.int .i64 (p c).1) ∧ w'.cell? ⟨wr.heap.size, 1, none⟩ = some (.int .i64 (p c).2)) (wr.alloc (.cells #[.int .i64 (p c).1, .int .i64 (p c).2] 81)) := ⟨B0.c 0 rfl, Bs.c 0 rfl, Bs.c 1 rfl⟩
     clear hB1 HB
     go_upto_region 4 with fail
     generalize wr.alloc (.cells #[.int .i64 (p c).1, .int .i64 (p c).2] 81) = W2 at *
     go_region_held3 (fun w' : World => w'.cell? ⟨w.heap.size, 0, none⟩ = some (.slice (some ⟨A, off, none⟩) n cap) ∧ w'.cell? ⟨wr.heap.size, 0, none⟩ = some (.int .i64 (p c).1) ∧ w'.cell? ⟨wr.heap.size, 1, none⟩ = some (.int .i64 (p c).2)) (first | (exact KS) | (exact KS'))
       (first
         | (go_at_call 118; refine (CO _ (by with_reducible first | exact HSc | exact HSc.drew)).mono ?_; rintro e w1 ⟨rfl, hB⟩; (first | (have KS' : (fun w' : World => w'.cell? ⟨w.heap.size, 0, none⟩ = some (.slice (some ⟨A, off, none⟩) n cap) ∧ w'.cell? ⟨wr.heap.size, 0, none⟩ = some (.int .i64 (p c).1) ∧ w'.cell? ⟨wr.heap.size, 1, none⟩ = some (.int .i64 (p c).2)) w1 := ⟨(B0.step hB).c 0 rfl, (Bs.step hB).c 0 rfl, (Bs.step hB).c 1 rfl⟩; have HBN := HBA.trans (hB.mono HBA.size)) | (have KS' : (fun w' : World => w'.cell? ⟨w.heap.size, 0, none⟩ = some (.slice (some ⟨A, off, none⟩) n cap) ∧ w'.cell? ⟨wr.heap.size, 0, none⟩ = some (.int .i64 (p c).1) ∧ w'.cell? ⟨wr.heap.size, 1, none⟩ = some (.int .i64 (p c).2)) w1 := ⟨(B0.drew.step hB).c 0 rfl, (Bs.drew.step hB).c 0 rfl, (Bs.drew.step hB).c 1 rfl⟩; have HBN := HBA.drew.trans (hB.mono HBA.drew.size))); clear hB))
     all_goals clear KS KS' CO HSc Bs B0 HBA hA q0 q1
     all_goals cases ham : amB c p (p c).1 (p c).2
     all_goals first
       | (have HN : Hid (∀ k, k < c → p c ≠ p k) := fun k hk e => by
            have := of_decide_eq_false ham
            exact this ⟨k, hk, by rw [e], by rw [e]⟩
          clear ham
          go_wp2
          go_roundw)
       | (have HO : Hid (decide (¬ OneN n p) = true) := decide_eq_true (fun h => by
            obtain ⟨k, hk, e1, e2⟩ := of_decide_eq_true ham
            exact h c hcn k hk (Prod.ext e1.symm e2.symm))
          have HBF := HB0.trans (HBN.mono HB0.size)
          clear ham
          go_wp2
          go_ret
          exact ⟨by rw [HO.out]; rfl, HBF⟩)
     case rel => exact ⟨c + 1, by omega, by go_num, fun j hj => by
       rcases Nat.lt_or_ge j c with h | h
       · exact HA.out j h
       · obtain rfl : j = c := by omega
         exact HN.out, HBN⟩
     case measure => simp [intOf]; omega
   · obtain rfl : c = n := by omega
     have HO : Hid (decide (¬ OneN c p) = false) := decide_eq_false (fun h => h HA.out)
     have HBF := HB0.trans (HB.mono HB0.size)
     clear HA HS B0
     go_wp2
     go_ret
     exact ⟨by rw [HO.out]; rfl, HBF⟩
open Go.RowKit Go.Shelf
attribute [local go_sem] Oper.semAt_some
structure KpB (m b : Nat) (W W' : World) : Prop where
 size : W.heap.size ≤ W'.heap.size
 low : ∀ k, k < m → W'.heap[k]? = W.heap[k]?
 box : W'.heap[b]? = W.heap[b]?
theorem KpB.trans {m b : Nat} {X Y Z : World} (h : KpB m b X Y) (k : KpB m b Y Z) : KpB m b X Z := ⟨Nat.le_trans h.size k.size, fun i hi => (k.low i hi).trans (h.low i hi), k.box.trans h.box⟩
theorem KpB.of {m b : Nat} {W W' : World} (h : Below W.heap.size W W') (hm : m ≤ W.heap.size) (hb : b < W.heap.size) : KpB m b W W' := ⟨h.size, fun k hk => h.block k (by omega), h.block b hb⟩
theorem KpB.put {m b : Nat} {w : World} (hm : m ≤ w.heap.size) (hb : b < w.heap.size) (W : World) (l : Nat) (o o' : Obj) (hl : w.heap.size ≤ l) (_h : W.heap[l]? = some o) (_c : o.isCells = false) (_k : o.isWalk = false) : KpB m b W (W.putObj l o') := ⟨by simp, fun k hk => World.putObj_heap_other (by omega), World.putObj_heap_other (by omega)⟩
def SpB (m : Nat) (w : World) (ao : Option Addr) (n : Nat) (p : Ps) : Prop :=
 ∀ i, i < n → ∃ A off, ao = some ⟨A, off, none⟩ ∧ A < m ∧ w.cell? ⟨A, off + i * 2, none⟩ = some (.int .i64 (p i).1) ∧ w.cell? ⟨A, off + i * 2 + 1, none⟩ = some (.int .i64 (p i).2)
theorem SpIn.low {w : World} {ao : Option Addr} {n : Nat} {p : Ps} (h : SpIn w ao n p) : SpB w.heap.size w ao n p := h
theorem SpB.high {m : Nat} {w : World} {ao : Option Addr} {n : Nat} {p : Ps} (h : SpB m w ao n p) (hm : m ≤ w.heap.size) : SpIn w ao n p := fun i hi => by
 obtain ⟨A, off, e, hA, h0, h1⟩ := h i hi
 exact ⟨A, off, e, by omega, h0, h1⟩
theorem SpB.keep {m : Nat} {w w' : World} {ao : Option Addr} {n : Nat} {p : Ps} (h : SpB m w ao n p) (hk : ∀ k, k < m → w'.heap[k]? = w.heap[k]?) : SpB m w' ao n p := fun i hi => by
 obtain ⟨A, off, e, hA, h0, h1⟩ := h i hi
 exact ⟨A, off, e, hA, (World.cell?_of_block (a := ⟨A, off + i * 2, none⟩) (hk A hA)).trans h0, (World.cell?_of_block (a := ⟨A, off + i * 2 + 1, none⟩) (hk A hA)).trans h1⟩
def upTo (n c : Nat) : List (Fin n) := (List.finRange n).take c
theorem upTo_succ {n c : Nat} (h : c < n) : upTo n (c + 1) = upTo n c ++ [⟨c, h⟩] := by
 have hl : c < (List.finRange n).length := by simpa using h
 unfold upTo
 rw [List.take_succ_eq_append_getElem hl]
 simp
theorem upTo_all (n : Nat) : upTo n n = List.finRange n := by
 unfold upTo
 exact List.take_of_length_le (by simp)
theorem upTo_len {n c : Nat} (h : c ≤ n) : (upTo n c).length = c := by
 unfold upTo
 simp
 omega
theorem below_grown {W W' : World} (h : Below W.heap.size W W') : W.grownBy W' none := ⟨h.os, h.tape, h.output, h.size, fun k hk _ => h.block k hk⟩
def enS (n : Nat) (p : Ps) (x : Fin n) : Array Value := #[.int .i64 (x.1 : Int), Sg (sdA n p x.1).1 (sdA n p x.1).2.1 (sdA n p x.1).2.2.1 (sdA n p x.1).2.2.2]
theorem side_ok {n : Nat} {p : Ps} (hok : ∀ i, i < n → spotOk (p i).1 (p i).2 = true) (hone : OneN n p) (hn : 3 ≤ n) {i : Nat} (hi : i < n) : segOk (sdA n p i).1 (sdA n p i).2.1 (sdA n p i).2.2.1 (sdA n p i).2.2.2 = true := by
 have h1 := sd_less hone hn hi
 have h2 := hok i hi
 have h3 := hok ((i + 1) % n) (Nat.mod_lt _ (by omega))
 unfold segOk
 rw [h1, Bool.and_true]
 unfold sdA
 split
 · rw [h3, h2]; rfl
 · rw [h2, h3]; rfl
theorem segOf_side {n : Nat} {p : Ps} (hok : ∀ i, i < n → spotOk (p i).1 (p i).2 = true) (hone : OneN n p) (hn : 3 ≤ n) {c : Nat} (hi : c < n) (w : World) : Calls Tryz.prog 97 #[Sp (p c).1 (p c).2, Sp (p ((c + 1) % n)).1 (p ((c + 1) % n)).2] w (VP (.tuple #[Sg (sdA n p c).1 (sdA n p c).2.1 (sdA n p c).2.2.1 (sdA n p c).2.2.2, .bool true]) w) := by
 have hk := side_ok hok hone hn hi
 have h := implSegOf_any (p c).1 (p c).2 (p ((c + 1) % n)).1 (p ((c + 1) % n)).2 (sdA n p c).1 (sdA n p c).2.1 (sdA n p c).2.2.1 (sdA n p c).2.2.2 (lessI (p ((c + 1) % n)).1 (p ((c + 1) % n)).2 (p c).1 (p c).2) true rfl hk (by unfold sdA; split <;> simp_all) (by unfold sdA; split <;> simp_all) (by unfold sdA; split <;> simp_all) (by unfold sdA; split <;> simp_all) w
 exact h
open Go.RowKit Go.Shelf
attribute [local go_sem] Oper.semAt_some
set_option maxRecDepth 100000 in
set_option maxHeartbeats 4000000 in
theorem sides1_in (m n₁ l Bn : Nat) (ao : Option Addr) (n cap : Nat) (p : Ps) (hn3 : 3 ≤ n) (hn : n ≤ 12) (hok : ∀ i, i < n → spotOk (p i).1 (p i).2 = true) (hone : OneN n p) (J Jx : List (Fin n) → World → Prop)
   (hJ : ∀ s W W', J s W → Below W.heap.size W W' → J s W')
   (hY : ∀ pre x W, J pre W → pre.length < n → YieldAt Fence.wide (m - 1) Tryz.prog l (enS n p x) W fun e W' => (e = .returned (.bool true) ∧ J (pre ++ [x]) W' ∧ KpB n₁ Bn W W') ∨ (e = .returned (.bool false) ∧ Jx (pre ++ [x]) W'))
   (W : World) (hBl : Bn < W.heap.size) (hn1 : n₁ ≤ W.heap.size) (hBn : W.cell? ⟨Bn, 0, none⟩ = some (.slice ao n cap)) (hS : SpB n₁ W ao n p) (h0 : J [] W) :
   CallsIn Fence.wide m Tryz.prog 96 #[.func (.yield l) #[] #[], .pointer (some ⟨Bn, 0, none⟩)] W fun e W' => (∃ v, e = .returned v) ∧ ((∃ ys, ys = List.finRange n ∧ J ys W') ∨ (∃ pre, pre <+: List.finRange n ∧ Jx pre W')) := by
 refine callsIn_of_wp Tryz.func96 rfl trivial ?_ rfl
 simp only [Tryz.ntmps96, List.size_toArray, List.length_cons, List.length_nil, Nat.reduceAdd, Nat.reduceSub, Array.replicate_succ, Array.replicate_zero, List.push_toArray, List.append_toArray, List.nil_append, List.cons_append]
 have hnI : (n : Int) ≤ 12 := by omega
 gi_wp2
 gi_loopw [10] (fun i wr => ∃ c : Nat, c ≤ n ∧ i = .int .i64 c ∧ J (upTo n c) wr ∧ KpB n₁ Bn W wr) (fun i _ => n - (intOf i).toNat)
 case atStart => exact ⟨0, by omega, rfl, h0, ⟨Nat.le_refl _, fun _ _ => rfl, rfl⟩⟩
 case round =>
   obtain ⟨c, hc, rfl, hj, hk⟩ := hrel
   by_cases hcn : c < n
   · have hSr := hS.keep hk.low
     have hbox := (World.cell?_of_block (a := ⟨Bn, 0, none⟩) hk.box).trans hBn
     obtain ⟨A, off, rfl, hA, q0, q1⟩ := hSr c hcn
     have hcI : (c : Int) < n := by omega
     have hsz : W.heap.size ≤ wr.heap.size := hk.size
     have hB2 : Below wr.heap.size wr (wr.alloc (.cells #[.int .i64 (p c).1, .int .i64 (p c).2] 81)) := (Below.refl _ _).alloc (Nat.le_refl _) _
     have Bs := Blk.new wr [.int .i64 (p c).1, .int .i64 (p c).2] 81 rfl
     have hjA := hJ _ _ _ hj hB2
     have hkA := hk.trans (KpB.of hB2 (by omega) (by omega))
     have hboxA := (hB2.cell (p := ⟨Bn, 0, none⟩) (show Bn < wr.heap.size by omega)).trans hbox
     have SA := fun w h => spotAfter_any (some ⟨A, off, none⟩) n cap p c hcn (by omega) w h
     have SO := segOf_side hok hone hn3 hcn
     have hSI : SpIn (wr.alloc (.cells #[.int .i64 (p c).1, .int .i64 (p c).2] 81)) (some ⟨A, off, none⟩) n p := (hSr.high (by omega)).step hB2
     gi_wp2
     have hBW : Bn < (wr.alloc (.cells #[.int .i64 (p c).1, .int .i64 (p c).2] 81)).heap.size := Nat.lt_of_lt_of_le (show Bn < wr.heap.size by omega) hB2.size
     generalize (wr.alloc (.cells #[.int .i64 (p c).1, .int .i64 (p c).2] 81)) = W2 at *
     refine wpIn_wide.2 ?_
     go_cut [5] (fun q wx => ∃ g, q = .pointer (some ⟨g, 0, none⟩) ∧ Blk wx g [.int .i64 (sdA n p c).1, .int .i64 (sdA n p c).2.1, .int .i64 (sdA n p c).2.2.1, .int .i64 (sdA n p c).2.2.2] ∧ Below W2.heap.size W2 wx)
     case first =>
       have H0 : Below W2.heap.size W2 W2 := Below.refl _ _
       have HK : ∀ V, Below W2.heap.size W2 V → (fun w' : World => w'.cell? ⟨wr.heap.size, 0, none⟩ = some (.int .i64 (p c).1) ∧ w'.cell? ⟨wr.heap.size, 1, none⟩ = some (.int .i64 (p c).2) ∧ w'.cell? ⟨Bn, 0, none⟩ = some (.slice (some ⟨A, off, none⟩) n cap)) V := fun V h => ⟨(Bs.step h).c 0 rfl, (Bs.step h).c 1 rfl, (h.cell (p := ⟨Bn, 0, none⟩) hBW).trans hboxA⟩
       clear hjA hkA hY hJ hj hk h0
       go_region_held3 (fun w' : World => w'.cell? ⟨wr.heap.size, 0, none⟩ = some (.int .i64 (p c).1) ∧ w'.cell? ⟨wr.heap.size, 1, none⟩ = some (.int .i64 (p c).2) ∧ w'.cell? ⟨Bn, 0, none⟩ = some (.slice (some ⟨A, off, none⟩) n cap)) (refine HK _ ?_ <;> repeat (first | (with_reducible exact H0) | (with_reducible refine Below.drew ?_) | (with_reducible refine Below.alloc ?_ (by first | exact H0.size | simp) _) | (with_reducible refine Below.setCell ?_ (by first | exact H0.size | exact hgl | exact Nat.le_refl _ | simp) _)))
         (first
           | (go_at_call 76; refine (SA _ (hSI.step (by with_reducible first | exact H0 | exact H0.drew | exact H0.alloc H0.size _ | exact (H0.alloc H0.size _).drew))).mono ?_; rintro e v1 ⟨rfl, hB⟩; (first | (have Hn : Below W2.heap.size W2 v1 := (by with_reducible exact H0.trans (hB.mono H0.size)); (try (have G1 := G0.step hB; clear G0; have G0 := G1; clear G1; obtain ⟨j0, f0, j1, f1, j2, f2, j3, f3⟩ := G0.cf4; have jl := G0.lt))) | (have Hn : Below W2.heap.size W2 v1 := (by with_reducible exact H0.drew.trans (hB.mono H0.drew.size)); (try (have G1 := G0.drew.step hB; clear G0; have G0 := G1; clear G1; obtain ⟨j0, f0, j1, f1, j2, f2, j3, f3⟩ := G0.cf4; have jl := G0.lt))) | (have Hn : Below W2.heap.size W2 v1 := (by with_reducible exact (H0.alloc H0.size _).trans (hB.mono (H0.alloc H0.size _).size)); have G0 := (Blk.new _ [.int .i64 0, .int .i64 0, .int .i64 0, .int .i64 0] _ rfl).step hB; have hgl : W2.heap.size ≤ _ := H0.size; obtain ⟨j0, f0, j1, f1, j2, f2, j3, f3⟩ := G0.cf4; have jl := G0.lt) | (have Hn : Below W2.heap.size W2 v1 := (by with_reducible exact (H0.alloc H0.size _).drew.trans (hB.mono (H0.alloc H0.size _).drew.size)); have G0 := (Blk.new _ [.int .i64 0, .int .i64 0, .int .i64 0, .int .i64 0] _ rfl).drew.step hB; have hgl : W2.heap.size ≤ _ := H0.size; obtain ⟨j0, f0, j1, f1, j2, f2, j3, f3⟩ := G0.cf4; have jl := G0.lt)); clear hB H0; have H0 := Hn; clear Hn)
           | (go_at_call 97; refine (SO _).mono ?_; rintro e v2 ⟨rfl, hB⟩; (first | (have Hn : Below W2.heap.size W2 v2 := (by with_reducible exact H0.trans (hB.mono H0.size)); (try (have G1 := G0.step hB; clear G0; have G0 := G1; clear G1; obtain ⟨j0, f0, j1, f1, j2, f2, j3, f3⟩ := G0.cf4; have jl := G0.lt))) | (have Hn : Below W2.heap.size W2 v2 := (by with_reducible exact H0.drew.trans (hB.mono H0.drew.size)); (try (have G1 := G0.drew.step hB; clear G0; have G0 := G1; clear G1; obtain ⟨j0, f0, j1, f1, j2, f2, j3, f3⟩ := G0.cf4; have jl := G0.lt))) | (have Hn : Below W2.heap.size W2 v2 := (by with_reducible exact (H0.alloc H0.size _).trans (hB.mono (H0.alloc H0.size _).size)); have G0 := (Blk.new _ [.int .i64 0, .int .i64 0, .int .i64 0, .int .i64 0] _ rfl).step hB; have hgl : W2.heap.size ≤ _ := H0.size; obtain ⟨j0, f0, j1, f1, j2, f2, j3, f3⟩ := G0.cf4; have jl := G0.lt) | (have Hn : Below W2.heap.size W2 v2 := (by with_reducible exact (H0.alloc H0.size _).drew.trans (hB.mono (H0.alloc H0.size _).drew.size)); have G0 := (Blk.new _ [.int .i64 0, .int .i64 0, .int .i64 0, .int .i64 0] _ rfl).drew.step hB; have hgl : W2.heap.size ≤ _ := H0.size; obtain ⟨j0, f0, j1, f1, j2, f2, j3, f3⟩ := G0.cf4; have jl := G0.lt)); clear hB H0; have H0 := Hn; clear Hn))
       all_goals go_wp2_with fail
       all_goals go_meet
       all_goals first
         | (with_reducible exact ⟨_, rfl, Blk.new _ [.int .i64 (sdA n p c).1, .int .i64 (sdA n p c).2.1, .int .i64 (sdA n p c).2.2.1, .int .i64 (sdA n p c).2.2.2] _ rfl, H0.alloc H0.size _⟩)
         | exact ⟨_, rfl, (((G0.setI 0 (by simp) _).setI 1 (by simp) _).setI 2 (by simp) _).setI 3 (by simp) _, (((H0.setCell (by first | exact hgl | exact Nat.le_refl _) _).setCell (by first | exact hgl | exact Nat.le_refl _) _).setCell (by first | exact hgl | exact Nat.le_refl _) _).setCell (by first | exact hgl | exact Nat.le_refl _) _⟩
     case rest =>
       obtain ⟨g, hq, BG, hB⟩ := hcut
       subst hq
       have hsz2 := hB.size
       have hkN := hkA.trans (KpB.of hB (Nat.le_trans hn1 hkA.size) hBW)
       obtain ⟨fn, tmps, assign, body, hy, hR⟩ := hY (upTo n c) ⟨c, hcn⟩ _ (hJ _ _ _ hjA hB) (by rw [upTo_len hc]; exact hcn)
       unfold enS at hy
       dsimp only at hy
       obtain ⟨g0, g1, g2, g3⟩ := BG.cs4
       gi_wp2
       refine ⟨fun h => absurd h (by simp [Fence.wide]), hR.mono ?_⟩
       rintro e W3 (⟨rfl, hJ3, hk3⟩ | ⟨rfl, hJx3⟩)
       · gi_wp2
         go_roundw
         case rel => exact ⟨c + 1, by omega, by go_num, by rw [upTo_succ hcn]; exact hJ3, hkN.trans hk3⟩
         case measure => simp [intOf]; omega
       · gi_wp2
         refine bodyPost_ret (results_none rfl _ _ _) rfl ?_
         exact ⟨⟨_, rfl⟩, .inr ⟨_, by rw [← upTo_succ hcn]; exact List.take_prefix _ _, hJx3⟩⟩
   · obtain rfl : c = n := by omega
     gi_wp2
     go_end0
     exact ⟨⟨_, rfl⟩, .inl ⟨_, upTo_all c, hj⟩⟩
end Go.Proofs.YtibbjjlapglndaaGreat
