/- Part 14 of the walks that the proof leans on. -/
import Derived.Test.YtibbjjlapglndaaGreatLs13
import Derived.Test.YtibbjjlapglndaaGreatLs12
namespace Go.Proofs.YtibbjjlapglndaaGreat
open Go.RowKit Go.Shelf
attribute [local go_sem] Oper.semAt_some
theorem sides_any (ao : Option Addr) (n cap : Nat) (w : World) : Calls Tryz.prog 65 #[.agg #[.slice ao n cap]] w (fun e w' => e = .returned (.func (.func 96) #[] #[.pointer (some ⟨w.heap.size, 0, none⟩)]) ∧ w' = w.alloc (.cells #[.slice ao n cap] 34)) := by
 go_enter Tryz.func65, Tryz.ntmps65
 go_wp2
 go_ret
 exact ⟨rfl, rfl⟩
theorem sides_stops (m n₁ Bn : Nat) (ao : Option Addr) (n cap : Nat) (p : Ps) (hn3 : 3 ≤ n) (hn : n ≤ 12) (hok : ∀ i, i < n → spotOk (p i).1 (p i).2 = true) (hone : OneN n p) (w : World) (hBl : Bn < w.heap.size) (hn1 : n₁ ≤ w.heap.size) (hBn : w.cell? ⟨Bn, 0, none⟩ = some (.slice ao n cap)) (hS : SpB n₁ w ao n p) :
   SeqStopsK Fence.wide m Tryz.prog 96 #[.pointer (some ⟨Bn, 0, none⟩)] (enS n p) (KpB n₁ Bn) (fun ys => ys = List.finRange n) (fun pre => pre <+: List.finRange n) n w := fun l J Jx W hW hJ _ hY h0 =>
 sides1_in m n₁ l Bn ao n cap p hn3 hn hok hone J Jx (fun s A B hs hB => hJ s A B none hs (below_grown hB) (fun r e => by cases e)) hY W (Nat.lt_of_lt_of_le hBl hW.size) (Nat.le_trans hn1 hW.size) ((hW.cell (p := ⟨Bn, 0, none⟩) hBl).trans hBn) (hS.keep (fun k hk => hW.block k (by omega))) h0
def BoxV (W : World) (B : Nat) (t : TypeId) (vs : List Value) : Prop := W.heap[B]? = some (.cells vs.toArray t (0, 0))
theorem BoxV.lt {W : World} {B : Nat} {t : TypeId} {vs : List Value} (h : BoxV W B t vs) : B < W.heap.size := (Array.getElem?_eq_some_iff.1 h).1
theorem BoxV.blk {W : World} {B : Nat} {t : TypeId} {vs : List Value} (h : BoxV W B t vs) : Blk W B vs := ⟨h.lt, fun i v hi => ⟨by simp [World.cell?, show W.heap[B]? = _ from h, hi], by simp [World.frozen?, show W.heap[B]? = _ from h]⟩⟩
theorem BoxV.new (W : World) (t : TypeId) (vs : List Value) : BoxV (W.alloc (.cells vs.toArray t)) W.heap.size t vs := World.alloc_heap_new W _
theorem BoxV.step {W W' : World} {B : Nat} {t : TypeId} {vs : List Value} (h : BoxV W B t vs) (hB : Below W.heap.size W W') : BoxV W' B t vs := (hB.block B h.lt).trans h
theorem BoxV.alloc {W : World} {B : Nat} {t : TypeId} {vs : List Value} (h : BoxV W B t vs) (o : Obj) : BoxV (W.alloc o) B t vs := h.step ((Below.refl _ _).alloc (Nat.le_refl _) o)
theorem boxV_own {β : Type} (B : Nat) (t : TypeId) (f : β → List Value) : Own (fun s W => BoxV W B t (f s)) := fun s X Y row hs hg hrow =>
 (hg.block B hs.lt (fun e' => by obtain ⟨o, ho, hc⟩ := hrow B e'.symm; rw [show X.heap[B]? = _ from hs] at ho; cases ho; cases hc)).trans hs
theorem boxed_step {W W' : World} {B : Nat} {t : TypeId} {v : Value} (h : Boxed W B t v) (hB : Below W.heap.size W W') : Boxed W' B t v := (hB.block B h.lt).trans h
theorem below_keeps {B : Nat} {W W' : World} (h : Below W.heap.size W W') : KeepsFrom B W W' := ⟨h.size, fun k _ _ hk _ => (h.block k (Array.getElem?_eq_some_iff.1 hk).1).trans hk⟩
def bdI (n : Nat) (p : Ps) (i j : Nat) : Prop := moI n i j < kdA n p i j
theorem prefix_range {n : Nat} {pre : List (Fin n)} (h : pre <+: List.finRange n) : pre = upTo n pre.length := by
 obtain ⟨t, ht⟩ := h
 unfold upTo
 rw [← ht]
 simp
theorem mem_upTo {n c : Nat} {x : Fin n} : x ∈ upTo n c ↔ x.1 < c := by
 unfold upTo
 constructor
 · intro h
   obtain ⟨i, hi, e⟩ := List.mem_take_iff_getElem.1 h
   simp at e
   have : i < c := by simp at hi; omega
   rw [← e]
   exact this
 · intro h
   exact List.mem_take_iff_getElem.2 ⟨x.1, by simp; omega, by simp⟩
theorem bdI_iff {n : Nat} {p : Ps} {i k : Nat} (hi : i < n) (hk : k < i) : bdI n p i k ↔ bdB n p i k = true := by
 unfold bdI bdB
 rw [decide_eq_true_iff]
 have : moI n i k = if nxB n i k = true then 1 else 0 := by
   unfold moI nxB
   by_cases h : k + 1 = i ∨ (k = 0 ∧ i + 1 = n)
   · rw [if_pos (by omega), if_pos (by simp; omega)]
   · rw [if_neg (by omega), if_neg (by simp; omega)]
 rw [this]
set_option maxRecDepth 100000 in
set_option maxHeartbeats 8000000 in
theorem crosses_any (ao : Option Addr) (n cap : Nat) (p : Ps) (hn3 : 3 ≤ n) (hn : n ≤ 12) (hok : ∀ i, i < n → spotOk (p i).1 (p i).2 = true) (hone : OneN n p) (w : World) (hS : SpIn w ao n p) : Calls Tryz.prog 90 #[.agg #[.slice ao n cap]] w (VP (.bool (decide (¬ (∀ i, i < n → ∀ k, k < i → bdB n p i k = false)))) w) := by
 refine (callsIn_wide (n := 12)).1 ?_
 refine callsIn_of_wp_marks Tryz.func90 rfl trivial ?_ rfl
 simp only [Tryz.ntmps90, List.size_toArray, List.length_cons, List.length_nil, Nat.reduceAdd, Nat.reduceSub, Array.replicate_succ, Array.replicate_zero, List.push_toArray, List.append_toArray, List.nil_append, List.cons_append]
 gi_wp2_with (refine ⟨trivial, ?_⟩; gi_at_call 65; refine (callsIn_wide.2 (sides_any _ _ _ _)).mono ?_; rintro e w' ⟨rfl, rfl⟩)
 have bA := ((Boxed.new w 34 (.slice ao n cap)).alloc (.cells #[.bool false] 4)).alloc (.cells #[.slice ao n cap] 34)
 have bR := (Boxed.new (w.alloc (.cells #[.slice ao n cap] 34)) 4 (.bool false)).alloc (.cells #[.slice ao n cap] 34)
 have bN := Boxed.new ((w.alloc (.cells #[.slice ao n cap] 34)).alloc (.cells #[.bool false] 4)) 34 (.slice ao n cap)
 simp only [World.size_alloc] at bR bN
 have hB0 : Below w.heap.size w (((w.alloc (.cells #[.slice ao n cap] 34)).alloc (.cells #[.bool false] 4)).alloc (.cells #[.slice ao n cap] 34)) := (((Below.refl _ w).alloc (Nat.le_refl _) _).alloc (by simp) _).alloc (by simp; omega) _
 have hsz : (((w.alloc (.cells #[.slice ao n cap] 34)).alloc (.cells #[.bool false] 4)).alloc (.cells #[.slice ao n cap] 34)).heap.size = w.heap.size + 3 := by simp
 obtain ⟨W0, hW0⟩ : ∃ W0, (((w.alloc (.cells #[.slice ao n cap] 34)).alloc (.cells #[.bool false] 4)).alloc (.cells #[.slice ao n cap] 34)) = W0 := ⟨_, rfl⟩
 rw [hW0] at bA bR bN hB0 hsz ⊢
 clear hW0
 have hS0 : SpB w.heap.size W0 ao n p := (hS.low).keep (fun k hk => hB0.block k hk)
 refine wpIn_rangeFunc_ownH rfl (by omega) (gf := 96) (lb := #[.pointer (some ⟨w.heap.size + 1 + 1, 0, none⟩)]) rfl trivial (enters_of Tryz.func96 (by kernel_rfl) rfl)
   (sides_stops (12 - 1) w.heap.size (w.heap.size + 1 + 1) ao n cap p hn3 hn hok hone W0 (by omega) (by omega) bN.cell hS0) (fun h k => h.trans k) (KpB.put (by omega) (by omega)) (Below.refl _ _) (fun _ => rfl)
   (fun pre W => (∀ i ∈ pre, ∀ k, k < i.1 → bdB n p i.1 k = false) ∧ Below W0.heap.size W0 W)
   (fun c pre W => ((c = .ret ∧ ∃ i ∈ pre, ∃ k, k < i.1 ∧ bdB n p i.1 k = true) ∧ Boxed W (w.heap.size + 1) 4 (.bool true)) ∧ Below w.heap.size w W)
   (OwnFrom.and (ownFrom_pure _ _) (ownFrom_below (Nat.le_refl _) (Nat.le_refl _)))
   (fun c => OwnFrom.and (OwnFrom.and (ownFrom_pure _ _) (Own.from (boxed_own _ _ _) _)) (ownFrom_below (Nat.le_refl _) (by omega)))
   ⟨by simp, Below.refl _ _⟩
   (fun x a' W => ∃ Bi Bs, Boxed W Bi 3 (.int .i64 (x.1 : Int)) ∧ BoxV W Bs 83 [.int .i64 (sdA n p x.1).1, .int .i64 (sdA n p x.1).2.1, .int .i64 (sdA n p x.1).2.2.1, .int .i64 (sdA n p x.1).2.2.2] ∧ a' = { tmps := #[.agg #[.slice ao n cap], .pointer (some ⟨w.heap.size, 0, none⟩), .pointer (some ⟨w.heap.size + 1, 0, none⟩), .pointer (some ⟨Bi, 0, none⟩), .pointer (some ⟨Bs, 0, none⟩), undef, undef, undef, undef, undef, .agg #[.slice ao n cap], .func (.func 96) #[] #[.pointer (some ⟨w.heap.size + 1 + 1, 0, none⟩)], .int .i64 (x.1 : Int), Sg (sdA n p x.1).1 (sdA n p x.1).2.1 (sdA n p x.1).2.2.1 (sdA n p x.1).2.2.2, undef, undef, undef, undef, undef, undef, undef, undef, undef, undef, undef, undef, undef, undef, undef, undef, undef, undef, undef, undef], defers := [] })
   (fun x a' _ X Y row hs hg hr => by obtain ⟨Bi, Bs, e3, e4, e5⟩ := hs; exact ⟨Bi, Bs, boxed_own Bi 3 (fun (_ : Unit) => Value.int .i64 (x.1 : Int)) () X Y row e3 hg (fun r e => (hr r e).2), boxV_own Bs 83 (fun (_ : Unit) => [.int .i64 (sdA n p x.1).1, .int .i64 (sdA n p x.1).2.1, .int .i64 (sdA n p x.1).2.2.1, .int .i64 (sdA n p x.1).2.2.2]) () X Y row e4 hg (fun r e => (hr r e).2), e5⟩)
   ?assign ?body ?done ?stop
 case assign =>
   rintro l pre x W K ⟨hp, hB1⟩ hK
   unfold enS
   gi_wp2
   have hB2 : Below W.heap.size W ((W.alloc (.cells #[.int .i64 (x.1 : Int)] 3)).alloc (.cells #[.int .i64 (sdA n p x.1).1, .int .i64 (sdA n p x.1).2.1, .int .i64 (sdA n p x.1).2.2.1, .int .i64 (sdA n p x.1).2.2.2] 83)) := ((Below.refl _ W).alloc (Nat.le_refl _) _).alloc (by simp) _
   have hsW := hB1.size
   have b1 := (Boxed.new W 3 (.int .i64 (x.1 : Int))).alloc (.cells #[.int .i64 (sdA n p x.1).1, .int .i64 (sdA n p x.1).2.1, .int .i64 (sdA n p x.1).2.2.1, .int .i64 (sdA n p x.1).2.2.2] 83)
   have b2 := BoxV.new (W.alloc (.cells #[.int .i64 (x.1 : Int)] 3)) 83 [.int .i64 (sdA n p x.1).1, .int .i64 (sdA n p x.1).2.1, .int .i64 (sdA n p x.1).2.2.1, .int .i64 (sdA n p x.1).2.2.2]
   rw [World.size_alloc] at b2
   exact hK _ _ (below_keeps hB2) (KpB.of hB2 (by omega) (by omega)) ⟨hp, hB1.trans (hB2.mono hB1.size)⟩ ⟨_, _, b1, b2, rfl⟩
 case body =>
   rintro l pre x a' W hl ⟨r, hr⟩ ⟨hp, hB1⟩ ⟨Bi, Bs, bI, bS, rfl⟩ hlt
   have bA1 := boxed_step bA hB1
   have cA := bA1.cell
   have h1' : 1 ≤ 12 - 1 - 1 := by omega
   gi_wp2_with (refine ⟨trivial, ?_⟩; gi_at_call 65; refine (CallsIn.inRound l (callsIn_wide.2 (sides_any _ _ _ _))).mono ?_; rintro e w' ⟨rfl, rfl⟩)
   have hsW := hB1.size
   have bN1 := Boxed.new W 34 (.slice ao n cap)
   have hr' : (W.alloc (.cells #[.slice ao n cap] 34)).heap[l]? = some (.loop r) := (Below.heap_alloc W _ l (Array.getElem?_eq_some_iff.1 hr).1).trans hr
   have hBR : Below W.heap.size W (W.alloc (.cells #[.slice ao n cap] 34)) := (Below.refl _ W).alloc (Nat.le_refl _) _
   have hSW : SpB w.heap.size (W.alloc (.cells #[.slice ao n cap] 34)) ao n p := hS0.keep (fun k hk => (hBR.block k (by omega)).trans (hB1.block k (by omega)))
   have hbR := boxed_step bR hB1
   have hxn := x.2
   have hs1 : (W.alloc (.cells #[.slice ao n cap] 34)).heap.size = W.heap.size + 1 := by simp
   obtain ⟨W1, hW1⟩ : ∃ W1, W.alloc (.cells #[.slice ao n cap] 34) = W1 := ⟨_, rfl⟩
   rw [hW1] at bN1 hr' hBR hSW hs1 ⊢
   clear hW1
   refine wpIn_rangeFunc_ownN (l₀ := l) (r₀ := r) rfl hr' h1' (gf := 96) (lb := #[.pointer (some ⟨W.heap.size, 0, none⟩)]) rfl trivial (enters_of Tryz.func96 (by kernel_rfl) rfl)
     ((sides_stops (12 - 1 - 1 - 1) w.heap.size W.heap.size ao n cap p hn3 hn hok hone W1 (by omega) (by omega) bN1.cell hSW).inRound l) (fun h k => h.trans k) (KpB.put (by omega) (by omega)) (Below.refl _ _) (fun _ => rfl)
     (fun pre' W' => (∀ y ∈ pre', y.1 ≠ x.1 ∧ ¬ bdI n p x.1 y.1) ∧ Below W1.heap.size W1 W')
     (fun c pre' W' => ((c = .exit 2 ∧ ∃ q, pre' = q ++ [x] ∧ ∀ y ∈ q, y.1 ≠ x.1 ∧ ¬ bdI n p x.1 y.1) ∧ Below W1.heap.size W1 W') ∨ (((c = .ret ∧ ∃ q y, pre' = q ++ [y] ∧ (∀ z ∈ q, z.1 ≠ x.1) ∧ y.1 ≠ x.1 ∧ bdI n p x.1 y.1) ∧ Boxed W' (w.heap.size + 1) 4 (.bool true)) ∧ Below w.heap.size W W' ∧ KeepsFrom W0.heap.size W W'))
     (OwnFrom.and (ownFrom_pure _ _) (ownFrom_below (Nat.le_refl _) (Nat.le_refl _)))
     (fun c t X Y row hs hg hrw => by
       rcases hs with hs | hs
       · exact .inl (OwnFrom.and (ownFrom_pure _ (fun pre' : List (Fin n) => c = Code.exit 2 ∧ ∃ q, pre' = q ++ [x] ∧ ∀ y ∈ q, y.1 ≠ x.1 ∧ ¬ bdI n p x.1 y.1)) (ownFrom_below (Nat.le_refl _) (Nat.le_refl _)) t X Y row hs hg hrw)
       · have hOr : OwnFrom W1.heap.size (fun (pre' : List (Fin n)) W' => ((c = Code.ret ∧ ∃ q y, pre' = q ++ [y] ∧ (∀ z ∈ q, z.1 ≠ x.1) ∧ y.1 ≠ x.1 ∧ bdI n p x.1 y.1) ∧ Boxed W' (w.heap.size + 1) 4 (.bool true)) ∧ Below w.heap.size W W' ∧ KeepsFrom W0.heap.size W W') := OwnFrom.and (OwnFrom.and (ownFrom_pure _ _) (Own.from (boxed_own _ _ _) _)) (OwnFrom.and (ownFrom_below (by omega) (by omega)) (ownFrom_keepsFrom (by omega)))
         exact .inr (hOr t X Y row hs hg hrw))
     ⟨by simp, Below.refl _ _⟩
     (fun y a'' W' => ∃ Bt, BoxV W' Bt 83 [.int .i64 (sdA n p y.1).1, .int .i64 (sdA n p y.1).2.1, .int .i64 (sdA n p y.1).2.2.1, .int .i64 (sdA n p y.1).2.2.2] ∧ a'' = { tmps := #[.agg #[.slice ao n cap], .pointer (some ⟨w.heap.size, 0, none⟩), .pointer (some ⟨w.heap.size + 1, 0, none⟩), .pointer (some ⟨Bi, 0, none⟩), .pointer (some ⟨Bs, 0, none⟩), .int .i64 (y.1 : Int), .pointer (some ⟨Bt, 0, none⟩), undef, undef, undef, .agg #[.slice ao n cap], .func (.func 96) #[] #[.pointer (some ⟨w.heap.size + 1 + 1, 0, none⟩)], .int .i64 (x.1 : Int), Sg (sdA n p x.1).1 (sdA n p x.1).2.1 (sdA n p x.1).2.2.1 (sdA n p x.1).2.2.2, .agg #[.slice ao n cap], .func (.func 96) #[] #[.pointer (some ⟨W.heap.size, 0, none⟩)], .int .i64 (y.1 : Int), Sg (sdA n p y.1).1 (sdA n p y.1).2.1 (sdA n p y.1).2.2.1 (sdA n p y.1).2.2.2, undef, undef, undef, undef, undef, undef, undef, undef, undef, undef, undef, undef, undef, undef, undef, undef], defers := [] })
     (fun y a'' _ X Y row hs hg hrw => by obtain ⟨Bt, e4, e5⟩ := hs; exact ⟨Bt, boxV_own Bt 83 (fun (_ : Unit) => [.int .i64 (sdA n p y.1).1, .int .i64 (sdA n p y.1).2.1, .int .i64 (sdA n p y.1).2.2.1, .int .i64 (sdA n p y.1).2.2.2]) () X Y row e4 hg (fun r e => (hrw r e).2), e5⟩)
     ?assign2 ?body2 ?done2 ?stop2
   case assign2 =>
     rintro l2 pre' y W' K ⟨hq, hBW⟩ hK
     unfold enS
     gi_wp2
     have hB2 : Below W'.heap.size W' (W'.alloc (.cells #[.int .i64 (sdA n p y.1).1, .int .i64 (sdA n p y.1).2.1, .int .i64 (sdA n p y.1).2.2.1, .int .i64 (sdA n p y.1).2.2.2] 83)) := (Below.refl _ W').alloc (Nat.le_refl _) _
     have hsW2 := hBW.size
     have b2 := BoxV.new W' 83 [.int .i64 (sdA n p y.1).1, .int .i64 (sdA n p y.1).2.1, .int .i64 (sdA n p y.1).2.2.1, .int .i64 (sdA n p y.1).2.2.2]
     exact hK _ _ (below_keeps hB2) (KpB.of hB2 (by omega) (by omega)) ⟨hq, hBW.trans (hB2.mono hBW.size)⟩ ⟨_, b2, rfl⟩
   case body2 =>
     rintro l2 pre' y a'' W' _ _ ⟨hq, hBW⟩ ⟨Bt, bT, rfl⟩ _
     have hBX : Below W.heap.size W W' := hBR.trans (hBW.mono hBR.size)
     have bA2 := boxed_step bA1 hBX
     have bI2 := boxed_step bI hBX
     have bS2 := (bS.step hBX).blk
     have bT2 := bT.blk
     have bR2 := boxed_step hbR hBX
     have cA2 := bA2.cell
     have cI2 := bI2.cell
     have s0' := bS2.c 0 rfl; have s1' := bS2.c 1 rfl; have s2' := bS2.c 2 rfl; have s3' := bS2.c 3 rfl
     have t0' := bT2.c 0 rfl; have t1' := bT2.c 1 rfl; have t2' := bT2.c 2 rfl; have t3' := bT2.c 3 rfl
     have hsX := hBW.size
     by_cases hxy : y.1 = x.1
     · have e1 : ((y.1 : Int) == (x.1 : Int)) = true := by rw [hxy]; exact beq_self_eq_true _
       gi_wp2
       exact ⟨KeepsFrom.refl _ _, .inl ⟨⟨rfl, pre', by rw [Fin.ext hxy], hq⟩, hBW⟩⟩
     · have e1 : ((y.1 : Int) == (x.1 : Int)) = false := beq_eq_false_iff_ne.2 (by omega)
       obtain ⟨i1, i2, i3, i4⟩ := in1_seg (side_ok hok hone hn3 x.2)
       obtain ⟨j1, j2, j3, j4⟩ := in1_seg (side_ok hok hone hn3 y.2)
       obtain ⟨r0, r1, r2, r3, r4, r5, r6, r7, r8, r9, r10, r11, s0, s1, s2, s3, s4, s5, s6, s7, s8, s9, s10, s11, hW12⟩ := meetW_12 (sdA n p x.1).1 (sdA n p x.1).2.1 (sdA n p x.1).2.2.1 (sdA n p x.1).2.2.2 (sdA n p y.1).1 (sdA n p y.1).2.1 (sdA n p y.1).2.2.1 (sdA n p y.1).2.2.2
       have MT := meet_det (sdA n p x.1).1 (sdA n p x.1).2.1 (sdA n p x.1).2.2.1 (sdA n p x.1).2.2.2 (sdA n p y.1).1 (sdA n p y.1).2.1 (sdA n p y.1).2.2.1 (sdA n p y.1).2.2.2 i1 i2 i3 i4 j1 j2 j3 j4
       rw [hW12] at MT
       have hkd : kndZ (sdA n p x.1).1 (sdA n p x.1).2.1 (sdA n p x.1).2.2.1 (sdA n p x.1).2.2.2 (sdA n p y.1).1 (sdA n p y.1).2.1 (sdA n p y.1).2.2.1 (sdA n p y.1).2.2.2 = kdA n p x.1 y.1 := rfl
       rw [hkd] at MT
       have MO := most_any ao n cap x.1 y.1 x.2 y.2 (by omega) (by omega)
       clear i1 i2 i3 i4 j1 j2 j3 j4 hW12 hkd
       generalize hzk : kdA n p x.1 y.1 = zk at *
       generalize hzm : moI n x.1 y.1 = zm at *
       gi_wp2_with (first
         | (refine ⟨trivial, ?_⟩; gi_at_call 72; refine (CallsIn.inRound l2 (CallsIn.inRound l (callsIn_wide.2 (MT _)))).mono ?_; rintro e v1 ⟨rfl, hBm⟩; have cA3 := (boxed_step bA2 hBm).cell; have cI3 := (boxed_step bI2 hBm).cell; have lA3 := (boxed_step bA2 hBm).lt; have lI3 := (boxed_step bI2 hBm).lt)
         | (refine ⟨trivial, ?_⟩; gi_at_call 119; refine (CallsIn.inRound l2 (CallsIn.inRound l (callsIn_wide.2 (MO _)))).mono ?_; rintro e v2 ⟨rfl, hBo⟩; have hBN : Below W'.heap.size W' v2 := ((hBm.alloc hBm.size _).alloc (Nat.le_trans hBm.size (by simp)) _).trans (hBo.mono (Nat.le_trans hBm.size (by simp; omega))); have bR3 := boxed_step bR2 hBN; have cR3 := bR3.cell; have fR3 := bR3.frozen))
       · rename_i hlt2
         have hXN : Below W.heap.size W v2 := hBX.trans (hBN.mono hBX.size)
         exact ⟨(below_keeps hBN).trans ((KeepsOthers.setCell _ _ _).from _), .inr ⟨⟨⟨rfl, pre', y, rfl, fun z hz => (hq z hz).1, hxy, by show moI n x.1 y.1 < kdA n p x.1 y.1; rw [hzm, hzk]; omega⟩, bR3.set _⟩, (hXN.mono (show w.heap.size ≤ W.heap.size by omega)).setCell (p := ⟨w.heap.size + 1, 0, none⟩) (by simp) _, (below_keeps hXN).trans ((KeepsOthers.setCell _ _ _).from _)⟩⟩
       · rename_i hlt2
         refine ⟨below_keeps hBN, KpB.of hBN (by omega) (by omega), fun z hz => ?_, hBW.trans (hBN.mono hBW.size)⟩
         rcases List.mem_append.1 hz with h | h
         · exact hq z h
         · simp at h
           subst h
           exact ⟨hxy, by show ¬ moI n x.1 z.1 < kdA n p x.1 z.1; rw [hzm, hzk]; omega⟩
   case done2 =>
     rintro ys' W' rfl ⟨hq, hBW⟩
     exact absurd rfl (hq x (List.mem_finRange x)).1
   case stop2 =>
     rintro c pre' W' hpre (⟨⟨rfl, q, rfl, hq⟩, hBW⟩ | ⟨⟨⟨rfl, q, y, rfl, hq, hyx, hbd⟩, bR2⟩, hBW, hKF⟩)
     · have hBX : Below W.heap.size W W' := hBR.trans (hBW.mono hBR.size)
       have hpx : q = upTo n x.1 := by
         have e := prefix_range hpre
         have hl : (q ++ [x]).length = q.length + 1 := by simp
         rw [hl, upTo_succ (by have := hpre.length_le; simp at this; omega)] at e
         have e2 := List.append_inj' e rfl
         have e3 : x.1 = q.length := by have := congrArg (fun z => z.1) (List.singleton_inj.1 e2.2); exact this
         rw [e3]
         exact e2.1
       gi_wp2
       refine ⟨below_keeps hBX, KpB.of hBX (by omega) (by omega), fun i hi => ?_, hB1.trans (hBX.mono hB1.size)⟩
       rcases List.mem_append.1 hi with h | h
       · exact hp i h
       · simp at h
         subst h
         intro k hk
         have := (hq ⟨k, by omega⟩ (by rw [hpx]; exact mem_upTo.2 hk)).2
         rw [bdI_iff i.2 hk] at this
         exact Bool.eq_false_iff.2 this
     · have hyx2 : y.1 < x.1 := by
         have e := prefix_range hpre
         have hl : (q ++ [y]).length = q.length + 1 := by simp
         rw [hl, upTo_succ (by have := hpre.length_le; simp at this; omega)] at e
         have e2 := List.append_inj' e rfl
         have e3 : y.1 = q.length := by have := congrArg (fun z => z.1) (List.singleton_inj.1 e2.2); exact this
         have e4 : q = upTo n y.1 := by rw [e3]; exact e2.1
         rcases Nat.lt_or_ge y.1 x.1 with h | h
         · exact h
         · exact absurd rfl (hq x (by rw [e4]; exact mem_upTo.2 (by omega)))
       gi_wp2
       exact ⟨hKF, ⟨⟨rfl, x, List.mem_append.2 (.inr (by simp)), y.1, hyx2, (bdI_iff x.2 hyx2).1 hbd⟩, bR2⟩, (hB0.trans (hB1.mono (by omega))).trans hBW⟩
 case done =>
   rintro D zs W hD rfl ⟨hp, hB1⟩ hK
   have bR1 := boxed_step bR hB1
   have cR := bR1.cell
   have fR := bR1.frozen
   gi_wp2
   have hK' := (KeepsOthers.setCell W ⟨w.heap.size + 1, 0, none⟩ (.bool false)).same D _ hK rfl
   refine ⟨by simp, .inl ⟨_, _, rfl, run_takeDeferred hK', ?_⟩⟩
   have hc5 := cell_kept (bR1.set (.bool false)).cell (grownBy_putObj' _ D (.deferred none)) (fun r e => by cases e; exact ⟨_, hK', rfl⟩)
   have hBW : Below w.heap.size w W := hB0.trans (hB1.mono (by omega))
   refine ⟨.bool false, ?_, by rw [decide_eq_false (fun h => h (fun i hi k hk => hp ⟨i, hi⟩ (List.mem_finRange _) k hk))], (hBW.setCell (p := ⟨w.heap.size + 1, 0, none⟩) (by simp) _).trans (belowK_b (w := w) (Nat.le_refl _) _ D _ _ (by omega) hK' rfl rfl)⟩
   simp [results, Tryz.results90, go_sem, hc5]
 case stop =>
   rintro D c pre W hD hpre ⟨⟨⟨rfl, i, hi, k, hk, hbd⟩, bR1⟩, hB1⟩ hK
   have cR := bR1.cell
   gi_wp2
   refine ⟨by simp, .inl ⟨_, _, rfl, run_takeDeferred hK, ?_⟩⟩
   have hc5 := cell_kept bR1.cell (grownBy_putObj' _ D (.deferred none)) (fun r e => by cases e; exact ⟨_, hK, rfl⟩)
   have hd : decide (¬ (∀ i, i < n → ∀ k, k < i → bdB n p i k = false)) = true := decide_eq_true (fun h => by have := h i.1 i.2 k hk; rw [hbd] at this; cases this)
   refine ⟨.bool true, ?_, by rw [hd], hB1.trans (belowK_b (w := w) (Nat.le_refl _) _ D _ _ (by omega) hK rfl rfl)⟩
   simp [results, Tryz.results90, go_sem, hc5]
open Go.RowKit
set_option maxRecDepth 100000 in
set_option maxHeartbeats 4000000 in
theorem implRingFault_any (ao : Option Addr) (n cap : Nat) (p : Ps) (hn : n ≤ 1048576) (hcap : n ≤ cap) (hcap2 : cap ≤ 9223372036854775807) (w : World) (hS : SpIn w ao n p) : Calls Tryz.prog 61 #[.agg #[.slice ao n cap]] w (VP (.int .i64 (rgF n p)) w) := by
 have B0 := Blk.new w [.slice ao n cap] 34 rfl
 have HB : Below w.heap.size w (w.alloc (.cells #[.slice ao n cap] 34)) := (Below.refl _ w).alloc (Nat.le_refl _) _
 have HS := hS.step HB
 have b0 := B0.c 0 rfl
 have hnI : (n : Int) ≤ 1048576 := by omega
 clear hS
 go_enter Tryz.func61, Tryz.ntmps61
 go_upto_region 1 with fail
 generalize (w.alloc (.cells #[.slice ao n cap] 34)) = W at *
 by_cases h1 : n < 3
 · have HO : Hid (rgF n p = 1) := by show _ = _; unfold rgF; rw [if_pos h1]
   have h1I : (n : Int) < 3 := by omega
   clear HS B0
   go_wp2
   go_ret
   exact ⟨by rw [HO.out]; rfl, HB⟩
 by_cases h2 : 12 < n
 · have HO : Hid (rgF n p = 2) := by show _ = _; unfold rgF; rw [if_neg h1, if_pos h2]
   have h1I : (3 : Int) ≤ n := by omega
   have h2I : (12 : Int) < n := by omega
   clear HS B0
   go_wp2
   go_ret
   exact ⟨by rw [HO.out]; rfl, HB⟩
 have h1I : (3 : Int) ≤ n := by omega
 have h2I : (n : Int) ≤ 12 := by omega
 have WR := fun w h => wrong_any ao n cap p hn w h
 have TW := fun w h => twice_any ao n cap p hn w h hcap hcap2
 go_wp2_with fail
 refine (WR _ HS).mono ?_
 rintro e w1 ⟨rfl, hB⟩
 replace HB := HB.trans (hB.mono HB.size); replace HS := HS.step hB; replace B0 := B0.step hB
 clear hB b0 WR
 by_cases h3 : ∀ i, i < n → spotOk (p i).1 (p i).2 = true
 · have d3 : decide (¬ (∀ i, i < n → spotOk (p i).1 (p i).2 = true)) = false := decide_eq_false (fun h => h h3)
   rw [d3]
   have b0 := B0.c 0 rfl
   clear d3
   go_wp2_with fail
   refine (TW _ HS).mono ?_
   rintro e w2 ⟨rfl, hB⟩
   replace HB := HB.trans (hB.mono HB.size); replace HS := HS.step hB; replace B0 := B0.step hB
   clear hB b0 TW
   by_cases h4 : OneN n p
   · have d4 : decide (¬ OneN n p) = false := decide_eq_false (fun h => h h4)
     rw [d4]
     have b0 := B0.c 0 rfl
     have CR := fun w h => crosses_any ao n cap p (by omega) (by omega) h3 h4 w h
     clear d4
     go_wp2_with fail
     refine (CR _ HS).mono ?_
     rintro e w3 ⟨rfl, hB⟩
     replace HB := HB.trans (hB.mono HB.size)
     clear hB b0 CR HS B0
     by_cases h5 : ∀ i, i < n → ∀ k, k < i → bdB n p i k = false
     · have d5 : decide (¬ (∀ i, i < n → ∀ k, k < i → bdB n p i k = false)) = false := decide_eq_false (fun h => h h5)
       have HO : Hid (rgF n p = 0) := by show _ = _; unfold rgF; rw [if_neg h1, if_neg h2, if_neg (fun h => h h3), if_neg (fun h => h h4), if_neg (fun h => h h5)]
       rw [d5]
       clear d5 h3 h4 h5
       go_wp2
       go_ret
       exact ⟨by rw [HO.out]; rfl, HB⟩
     · have d5 : decide (¬ (∀ i, i < n → ∀ k, k < i → bdB n p i k = false)) = true := decide_eq_true h5
       have HO : Hid (rgF n p = 5) := by show _ = _; unfold rgF; rw [if_neg h1, if_neg h2, if_neg (fun h => h h3), if_neg (fun h => h h4), if_pos h5]
       rw [d5]
       clear d5 h3 h4 h5
       go_wp2
       go_ret
       exact ⟨by rw [HO.out]; rfl, HB⟩
   · have d4 : decide (¬ OneN n p) = true := decide_eq_true h4
     have HO : Hid (rgF n p = 4) := by show _ = _; unfold rgF; rw [if_neg h1, if_neg h2, if_neg (fun h => h h3), if_pos h4]
     rw [d4]
     clear d4 h3 h4 HS B0
     go_wp2
     go_ret
     exact ⟨by rw [HO.out]; rfl, HB⟩
 · have d3 : decide (¬ (∀ i, i < n → spotOk (p i).1 (p i).2 = true)) = true := decide_eq_true h3
   have HO : Hid (rgF n p = 3) := by show _ = _; unfold rgF; rw [if_neg h1, if_neg h2, if_pos h3]
   rw [d3]
   clear d3 h3 HS B0 TW
   go_wp2
   go_ret
   exact ⟨by rw [HO.out]; rfl, HB⟩
set_option maxRecDepth 100000 in
set_option maxHeartbeats 16000000 in
theorem l4Meet_along (a b c d p q u v : Int) (ha : In1 a) (hb : In1 b) (hc : In1 c) (hd : In1 d) (hp : In1 p) (hq : In1 q) (hu : In1 u) (hv : In1 v) (hb0 : turnZ a b c d p q = 0 ∧ turnZ a b c d u v = 0) (w : World) : Calls Tryz.prog 71 #[Sg a b c d, Sg p q u v] w (MtP a b c d p q u v w) := by
 have HS1 := l4TurnZ_det a b c d p q ha hb hc hd hp hq
 have HS2 := l4TurnZ_det a b c d u v ha hb hc hd hu hv
 have HS3 := l4TurnZ_det p q u v a b hp hq hu hv ha hb
 have HS4 := l4TurnZ_det p q u v c d hp hq hu hv hc hd
 have T0 : ArgsB w ((((w.alloc (.cells #[.int .i64 a, .int .i64 b, .int .i64 c, .int .i64 d] 83)).alloc (.cells #[.int .i64 p, .int .i64 q, .int .i64 u, .int .i64 v] 83)).alloc (.cells #[.bool false, .slice none 0 0, .bool false, .slice none 0 0, .bool false, .slice none 0 0] 62)).alloc (.cells #[.bool false, .slice none 0 0, .bool false, .slice none 0 0, .bool false, .slice none 0 0] 62)) [[.int .i64 a, .int .i64 b, .int .i64 c, .int .i64 d], [.int .i64 p, .int .i64 q, .int .i64 u, .int .i64 v], [.bool false, .slice none 0 0, .bool false, .slice none 0 0, .bool false, .slice none 0 0], [.bool false, .slice none 0 0, .bool false, .slice none 0 0, .bool false, .slice none 0 0]] := ar4 _ _ _ _ _ _ _ _ w
 go_enter Tryz.func71, Tryz.ntmps71
 go_upto_region 1 with fail
 generalize ((((w.alloc (.cells #[.int .i64 a, .int .i64 b, .int .i64 c, .int .i64 d] 83)).alloc (.cells #[.int .i64 p, .int .i64 q, .int .i64 u, .int .i64 v] 83)).alloc (.cells #[.bool false, .slice none 0 0, .bool false, .slice none 0 0, .bool false, .slice none 0 0] 62)).alloc (.cells #[.bool false, .slice none 0 0, .bool false, .slice none 0 0, .bool false, .slice none 0 0] 62)) = W at *
 have Y0 : Blk _ w.heap.size _ := T0.b 0 rfl; have Y1 : Blk _ (w.heap.size + 1) _ := T0.b 1 rfl; obtain ⟨sc0, sc1, sc2, sc3⟩ := Y0.cs4; obtain ⟨tc0, tc1, tc2, tc3⟩ := Y1.cs4; clear Y0 Y1
 go_wp2_with fail
 refine (HS1 _).mono ?_
 rintro e w1 ⟨rfl, hB⟩
 replace T0 := T0.step hB
 clear hB sc0 tc0 sc1 tc1 sc2 tc2 sc3 tc3
 have Y0 : Blk _ w.heap.size _ := T0.b 0 rfl; have Y1 : Blk _ (w.heap.size + 1) _ := T0.b 1 rfl; obtain ⟨sc0, sc1, sc2, sc3⟩ := Y0.cs4; obtain ⟨tc0, tc1, tc2, tc3⟩ := Y1.cs4; clear Y0 Y1
 go_wp2_with fail
 refine (HS2 _).mono ?_
 rintro e w2 ⟨rfl, hB⟩
 replace T0 := T0.step hB
 clear hB sc0 tc0 sc1 tc1 sc2 tc2 sc3 tc3
 have Y0 : Blk _ w.heap.size _ := T0.b 0 rfl; have Y1 : Blk _ (w.heap.size + 1) _ := T0.b 1 rfl; obtain ⟨sc0, sc1, sc2, sc3⟩ := Y0.cs4; obtain ⟨tc0, tc1, tc2, tc3⟩ := Y1.cs4; clear Y0 Y1
 go_wp2_with fail
 refine (HS3 _).mono ?_
 rintro e w3 ⟨rfl, hB⟩
 replace T0 := T0.step hB
 clear hB sc0 tc0 sc1 tc1 sc2 tc2 sc3 tc3
 have Y0 : Blk _ w.heap.size _ := T0.b 0 rfl; have Y1 : Blk _ (w.heap.size + 1) _ := T0.b 1 rfl; obtain ⟨sc0, sc1, sc2, sc3⟩ := Y0.cs4; obtain ⟨tc0, tc1, tc2, tc3⟩ := Y1.cs4; clear Y0 Y1
 go_wp2_with fail
 refine (HS4 _).mono ?_
 rintro e w4 ⟨rfl, hB⟩
 replace T0 := T0.step hB
 clear hB sc0 tc0 sc1 tc1 sc2 tc2 sc3 tc3
 obtain ⟨hz1, hz2⟩ := hb0
 have z1 : (sgZ (turnZ a b c d p q) == 0) = true := by rw [hz1]; rfl
 have z2 : (sgZ (turnZ a b c d u v) == 0) = true := by rw [hz2]; rfl
 have HW : Hid (meetW a b c d p q u v = alongV a b c d p q u v) := meet_along hz1 hz2
 have HT : Hid (turnZ a b c d p q = 0) := hz1
 clear hz1 hz2 HS1 HS2 HS3 HS4
 generalize sgZ (turnZ a b c d p q) = s1 at *
 generalize sgZ (turnZ a b c d u v) = s2 at *
 generalize sgZ (turnZ p q u v a b) = s3 at *
 generalize sgZ (turnZ p q u v c d) = s4 at *
 have BS : Blk _ w.heap.size _ := T0.b 0 rfl; have BT : Blk _ (w.heap.size + 1) _ := T0.b 1 rfl; have BP : Blk _ (w.heap.size + 1 + 1) _ := T0.b 2 rfl; have BQ : Blk _ (w.heap.size + 1 + 1 + 1) _ := T0.b 3 rfl; have HB := T0.below
 clear T0
 have hgFx : (w.heap.size + 1 + 1 + 1) < w4.heap.size := BQ.lt
 obtain ⟨sc0, sc1, sc2, sc3⟩ := BS.cs4; have sl := BS.lt; obtain ⟨tc0, tc1, tc2, tc3⟩ := BT.cs4; have tl := BT.lt
 have gFh := HB.size
 go_wp2_with fail
 refine (l4Less_any a b p q _ rfl _).mono ?_
 rintro e a1 ⟨rfl, hB⟩
 replace BS := (BS.alloc (.cells #[.int .i64 a, .int .i64 b] 81)).step hB
 replace BT := (BT.alloc (.cells #[.int .i64 a, .int .i64 b] 81)).step hB
 replace BP := (BP.alloc (.cells #[.int .i64 a, .int .i64 b] 81)).step hB
 replace BQ := (BQ.alloc (.cells #[.int .i64 a, .int .i64 b] 81)).step hB
 have BF := (Blk.new w4 [.int .i64 a, .int .i64 b] 81 rfl).step hB
 replace HB := (HB.alloc HB.size (.cells #[.int .i64 a, .int .i64 b] 81)).trans (hB.mono (HB.alloc HB.size (.cells #[.int .i64 a, .int .i64 b] 81)).size)
 clear hB sc0 sc1 sc2 sc3 sl tc0 tc1 tc2 tc3 tl
 generalize w4.heap.size = gF at *
 by_cases h1 : lessI a b p q = true
 · rw [h1]
   have H1 : Hid (lessI a b p q = true) := h1
   clear h1
   obtain ⟨sc0, sc1, sc2, sc3⟩ := BS.cs4; have sl := BS.lt; obtain ⟨tc0, tc1, tc2, tc3⟩ := BT.cs4; have tl := BT.lt; obtain ⟨fc0, ff0, fc1, ff1⟩ := BF.cf2; have fl := BF.lt
   go_upto_region 9 with fail
   clear sc0 sc1 sc2 sc3 sl tc0 tc1 tc2 tc3 tl fc0 ff0 fc1 ff1 fl
   replace BF := BF.stored2 (.int .i64 p) (.int .i64 q)
   replace BS : Blk ((a1.setCell ⟨gF, 0, none⟩ (.int .i64 p)).setCell ⟨gF, 1, none⟩ (.int .i64 q)) _ _ := BS.set2 (by omega)
   replace BT : Blk ((a1.setCell ⟨gF, 0, none⟩ (.int .i64 p)).setCell ⟨gF, 1, none⟩ (.int .i64 q)) _ _ := BT.set2 (by omega)
   replace BP : Blk ((a1.setCell ⟨gF, 0, none⟩ (.int .i64 p)).setCell ⟨gF, 1, none⟩ (.int .i64 q)) _ _ := BP.set2 (by omega)
   replace BQ : Blk ((a1.setCell ⟨gF, 0, none⟩ (.int .i64 p)).setCell ⟨gF, 1, none⟩ (.int .i64 q)) _ _ := BQ.set2 (by omega)
   replace HB : Below w.heap.size w ((a1.setCell ⟨gF, 0, none⟩ (.int .i64 p)).setCell ⟨gF, 1, none⟩ (.int .i64 q)) := Below.setCell (Below.setCell HB (by show _ ≤ gF; omega) _) (by show _ ≤ gF; omega) _
   generalize ((a1.setCell ⟨gF, 0, none⟩ (.int .i64 p)).setCell ⟨gF, 1, none⟩ (.int .i64 q)) = WN at *
   have hgLx : (w.heap.size + 1 + 1 + 1) < WN.heap.size := BQ.lt
   have hgL : gF < WN.heap.size := BF.lt
   obtain ⟨sc0, sc1, sc2, sc3⟩ := BS.cs4; have sl := BS.lt; obtain ⟨tc0, tc1, tc2, tc3⟩ := BT.cs4; have tl := BT.lt; obtain ⟨fc0, ff0, fc1, ff1⟩ := BF.cf2; have fl := BF.lt
   have gLh := HB.size
   go_wp2_with fail
   refine (l4Less_any u v c d _ rfl _).mono ?_
   rintro e a2 ⟨rfl, hB⟩
   replace BS := (BS.alloc (.cells #[.int .i64 c, .int .i64 d] 81)).step hB
   replace BT := (BT.alloc (.cells #[.int .i64 c, .int .i64 d] 81)).step hB
   replace BF := (BF.alloc (.cells #[.int .i64 c, .int .i64 d] 81)).step hB
   replace BP := (BP.alloc (.cells #[.int .i64 c, .int .i64 d] 81)).step hB
   replace BQ := (BQ.alloc (.cells #[.int .i64 c, .int .i64 d] 81)).step hB
   have BL := (Blk.new WN [.int .i64 c, .int .i64 d] 81 rfl).step hB
   replace HB := (HB.alloc HB.size (.cells #[.int .i64 c, .int .i64 d] 81)).trans (hB.mono (HB.alloc HB.size (.cells #[.int .i64 c, .int .i64 d] 81)).size)
   clear hB sc0 sc1 sc2 sc3 sl tc0 tc1 tc2 tc3 tl fc0 ff0 fc1 ff1 fl
   have hgL2 : (w.heap.size + 1 + 1 + 1) < WN.heap.size := hgLx
   generalize WN.heap.size = gL at *
   by_cases h2 : lessI u v c d = true
   · rw [h2]
     have H2 : Hid (lessI u v c d = true) := h2
     clear h2
     obtain ⟨sc0, sc1, sc2, sc3⟩ := BS.cs4; have sl := BS.lt; obtain ⟨tc0, tc1, tc2, tc3⟩ := BT.cs4; have tl := BT.lt; obtain ⟨fc0, ff0, fc1, ff1⟩ := BF.cf2; have fl := BF.lt; obtain ⟨lc0, lf0, lc1, lf1⟩ := BL.cf2; have ll := BL.lt
     go_upto_region 12 with fail
     clear sc0 sc1 sc2 sc3 sl tc0 tc1 tc2 tc3 tl fc0 ff0 fc1 ff1 fl lc0 lf0 lc1 lf1 ll
     replace BL := BL.stored2 (.int .i64 u) (.int .i64 v)
     replace BF : Blk ((a2.setCell ⟨gL, 0, none⟩ (.int .i64 u)).setCell ⟨gL, 1, none⟩ (.int .i64 v)) _ _ := BF.set2 (by omega)
     replace BS : Blk ((a2.setCell ⟨gL, 0, none⟩ (.int .i64 u)).setCell ⟨gL, 1, none⟩ (.int .i64 v)) _ _ := BS.set2 (by omega)
     replace BT : Blk ((a2.setCell ⟨gL, 0, none⟩ (.int .i64 u)).setCell ⟨gL, 1, none⟩ (.int .i64 v)) _ _ := BT.set2 (by omega)
     replace BP : Blk ((a2.setCell ⟨gL, 0, none⟩ (.int .i64 u)).setCell ⟨gL, 1, none⟩ (.int .i64 v)) _ _ := BP.set2 (by omega)
     replace BQ : Blk ((a2.setCell ⟨gL, 0, none⟩ (.int .i64 u)).setCell ⟨gL, 1, none⟩ (.int .i64 v)) _ _ := BQ.set2 (by omega)
     replace HB : Below w.heap.size w ((a2.setCell ⟨gL, 0, none⟩ (.int .i64 u)).setCell ⟨gL, 1, none⟩ (.int .i64 v)) := Below.setCell (Below.setCell HB (by show _ ≤ gL; omega) _) (by show _ ≤ gL; omega) _
     generalize ((a2.setCell ⟨gL, 0, none⟩ (.int .i64 u)).setCell ⟨gL, 1, none⟩ (.int .i64 v)) = WN2 at *
     obtain ⟨sc0, sc1, sc2, sc3⟩ := BS.cs4; have sl := BS.lt; obtain ⟨tc0, tc1, tc2, tc3⟩ := BT.cs4; have tl := BT.lt; obtain ⟨fc0, ff0, fc1, ff1⟩ := BF.cf2; have fl := BF.lt; obtain ⟨lc0, lf0, lc1, lf1⟩ := BL.cf2; have ll := BL.lt
     go_wp2_with fail
     refine (l4Less_any u v p q _ rfl _).mono ?_
     rintro e a3 ⟨rfl, hB⟩
     replace BS := BS.step hB
     replace BT := BT.step hB
     replace BF := BF.step hB
     replace BL := BL.step hB
     replace BP := BP.step hB
     replace BQ := BQ.step hB
     replace HB := HB.trans (hB.mono HB.size)
     clear hB sc0 sc1 sc2 sc3 sl tc0 tc1 tc2 tc3 tl fc0 ff0 fc1 ff1 fl lc0 lf0 lc1 lf1 ll
     by_cases hA : lessI u v p q = true
     · rw [hA]
       have HO : Hid (meetW a b c d p q u v = .tuple #[.int .i64 0, .agg #[.int .u64 0, .int .u64 0, .int .u64 0, .int .u64 0, .int .u64 0, .int .u64 0, .int .u64 0, .int .u64 0, .int .u64 0, .int .u64 0, .int .u64 0, .int .u64 0], .agg #[.int .u64 0, .int .u64 0, .int .u64 0, .int .u64 0, .int .u64 0, .int .u64 0, .int .u64 0, .int .u64 0, .int .u64 0, .int .u64 0, .int .u64 0, .int .u64 0]]) := by show _ = _; rw [HW.out]; unfold alongV; rw [show (if lessI a b p q = true then p else a) = p by rw [H1.out]; rfl, show (if lessI a b p q = true then q else b) = q by rw [H1.out]; rfl, show (if lessI u v c d = true then u else c) = u by rw [H2.out]; rfl, show (if lessI u v c d = true then v else d) = v by rw [H2.out]; rfl, if_pos (Or.inr hA)]
       clear hA BS BT BF BL
       obtain ⟨xc0, xf0, xc1, xf1, xc2, xf2, xc3, xf3, xc4, xf4, xc5, xf5⟩ := BP.cf6; have xl := BP.lt; obtain ⟨yc0, yf0, yc1, yf1, yc2, yf2, yc3, yf3, yc4, yf4, yc5, yf5⟩ := BQ.cf6; have yl := BQ.lt
       go_wp2
       refine bodyPost_ret (v := .tuple #[.int .i64 0, .agg #[.bool false, .slice none 0 0, .bool false, .slice none 0 0, .bool false, .slice none 0 0], .agg #[.bool false, .slice none 0 0, .bool false, .slice none 0 0, .bool false, .slice none 0 0]]) (by simp [results, Tryz.results71, go_sem, xc0, yc0, xc1, yc1, xc2, yc2, xc3, yc3, xc4, yc4, xc5, yc5]) rfl ?_
       refine ⟨?_, Or.inl ⟨HO.out, rfl⟩⟩
       repeat' (refine Below.setCell ?_ (by simp; try omega) _)
       exact HB
     · have hA' := Bool.eq_false_iff.2 hA
       rw [hA']
       have EQ := eqSp p q u v
       by_cases hE : p = u ∧ q = v
       · have HO : Hid (meetW a b c d p q u v = .tuple #[.int .i64 1, .agg #[.int .u64 (ww3 p), .int .u64 (ww2 p), .int .u64 (ww1 p), .int .u64 (ww0 p), .int .u64 (ww3 q), .int .u64 (ww2 q), .int .u64 (ww1 q), .int .u64 (ww0 q), .int .u64 (ww3 1), .int .u64 (ww2 1), .int .u64 (ww1 1), .int .u64 (ww0 1)], .agg #[.int .u64 0, .int .u64 0, .int .u64 0, .int .u64 0, .int .u64 0, .int .u64 0, .int .u64 0, .int .u64 0, .int .u64 0, .int .u64 0, .int .u64 0, .int .u64 0]]) := by show _ = _; rw [HW.out]; unfold alongV; rw [show (if lessI a b p q = true then p else a) = p by rw [H1.out]; rfl, show (if lessI a b p q = true then q else b) = q by rw [H1.out]; rfl, show (if lessI u v c d = true then u else c) = u by rw [H2.out]; rfl, show (if lessI u v c d = true then v else d) = v by rw [H2.out]; rfl, if_neg (by rw [hA']; rintro (h | h); exact h HT.out; cases h), if_pos hE]
         rw [show (decide (p = u) && decide (q = v)) = true by rw [hE.1, hE.2]; simp] at EQ
         have PO := l3Spot_det p q (by omega) (by omega)
         clear hA hA' hE
         obtain ⟨sc0, sc1, sc2, sc3⟩ := BS.cs4; have sl := BS.lt; obtain ⟨tc0, tc1, tc2, tc3⟩ := BT.cs4; have tl := BT.lt; obtain ⟨fc0, ff0, fc1, ff1⟩ := BF.cf2; have fl := BF.lt; obtain ⟨lc0, lf0, lc1, lf1⟩ := BL.cf2; have ll := BL.lt
         go_wp2_with fail
         refine (PO _).mono ?_
         rintro e a4 ⟨js1, jo1, jn1, jc1, jd1, js2, jo2, jn2, jc2, jd2, js3, jo3, jn3, jc3, jd3, rfl, Nj1, Nj2, Nj3, hB⟩
         replace BP := BP.step hB; replace BQ := BQ.step hB; replace HB := HB.trans (hB.mono HB.size)
         clear hB sc0 sc1 sc2 sc3 sl tc0 tc1 tc2 tc3 tl fc0 ff0 fc1 ff1 fl lc0 lf0 lc1 lf1 ll BS BT BF BL PO EQ
         obtain ⟨xc0, xf0, xc1, xf1, xc2, xf2, xc3, xf3, xc4, xf4, xc5, xf5⟩ := BP.cf6; have xl := BP.lt; obtain ⟨yc0, yf0, yc1, yf1, yc2, yf2, yc3, yf3, yc4, yf4, yc5, yf5⟩ := BQ.cf6; have yl := BQ.lt
         have BQ6 := BQ.set6 (g := (w.heap.size + 1 + 1)) (v0 := .bool js1) (v1 := .slice jo1 jn1 jc1) (v2 := .bool js2) (v3 := .slice jo2 jn2 jc2) (v4 := .bool js3) (v5 := .slice jo3 jn3 jc3) (by omega)
         go_wp2
         refine bodyPost_ret (v := .tuple #[.int .i64 1, .agg #[.bool js1, .slice jo1 jn1 jc1, .bool js2, .slice jo2 jn2 jc2, .bool js3, .slice jo3 jn3 jc3], .agg #[.bool false, .slice none 0 0, .bool false, .slice none 0 0, .bool false, .slice none 0 0]]) (by simp [results, Tryz.results71, go_sem, xc0, yc0, xc1, yc1, xc2, yc2, xc3, yc3, xc4, yc4, xc5, yc5]) rfl ?_
         refine ⟨?_, Or.inr (Or.inl ⟨p, q, 1, _, HO.out, small_int (by omega) (by omega), small_int (by omega) (by omega), small_int (by omega) (by omega), rfl, js1, jo1, jn1, jc1, jd1, js2, jo2, jn2, jc2, jd2, js3, jo3, jn3, jc3, jd3, rfl, ?_, ?_, ?_⟩)⟩
         · repeat' (refine Below.setCell ?_ (by simp; try omega) _)
           exact HB
         · exact num_set6 (num_set6 Nj1 BP (.bool js1) (.slice jo1 jn1 jc1) (.bool js2) (.slice jo2 jn2 jc2) (.bool js3) (.slice jo3 jn3 jc3)) BQ6 (.bool false) (.slice none 0 0) (.bool false) (.slice none 0 0) (.bool false) (.slice none 0 0)
         · exact num_set6 (num_set6 Nj2 BP (.bool js1) (.slice jo1 jn1 jc1) (.bool js2) (.slice jo2 jn2 jc2) (.bool js3) (.slice jo3 jn3 jc3)) BQ6 (.bool false) (.slice none 0 0) (.bool false) (.slice none 0 0) (.bool false) (.slice none 0 0)
         · exact num_set6 (num_set6 Nj3 BP (.bool js1) (.slice jo1 jn1 jc1) (.bool js2) (.slice jo2 jn2 jc2) (.bool js3) (.slice jo3 jn3 jc3)) BQ6 (.bool false) (.slice none 0 0) (.bool false) (.slice none 0 0) (.bool false) (.slice none 0 0)
       · have HO : Hid (meetW a b c d p q u v = .tuple #[.int .i64 2, .agg #[.int .u64 (ww3 p), .int .u64 (ww2 p), .int .u64 (ww1 p), .int .u64 (ww0 p), .int .u64 (ww3 q), .int .u64 (ww2 q), .int .u64 (ww1 q), .int .u64 (ww0 q), .int .u64 (ww3 1), .int .u64 (ww2 1), .int .u64 (ww1 1), .int .u64 (ww0 1)], .agg #[.int .u64 (ww3 u), .int .u64 (ww2 u), .int .u64 (ww1 u), .int .u64 (ww0 u), .int .u64 (ww3 v), .int .u64 (ww2 v), .int .u64 (ww1 v), .int .u64 (ww0 v), .int .u64 (ww3 1), .int .u64 (ww2 1), .int .u64 (ww1 1), .int .u64 (ww0 1)]]) := by show _ = _; rw [HW.out]; unfold alongV; rw [show (if lessI a b p q = true then p else a) = p by rw [H1.out]; rfl, show (if lessI a b p q = true then q else b) = q by rw [H1.out]; rfl, show (if lessI u v c d = true then u else c) = u by rw [H2.out]; rfl, show (if lessI u v c d = true then v else d) = v by rw [H2.out]; rfl, if_neg (by rw [hA']; rintro (h | h); exact h HT.out; cases h), if_neg hE]
         rw [show (decide (p = u) && decide (q = v)) = false by rw [← Bool.decide_and]; exact decide_eq_false hE] at EQ
         have PO := l3Spot_det p q (by omega) (by omega)
         have PL := l3Spot_det u v (by omega) (by omega)
         clear hA hA' hE BS BT
         have tok1 : True := trivial
         obtain ⟨fc0, ff0, fc1, ff1⟩ := BF.cf2; have fl := BF.lt; obtain ⟨lc0, lf0, lc1, lf1⟩ := BL.cf2; have ll := BL.lt
         go_upto_region 16 with fail
         clear fc0 ff0 fc1 ff1 fl lc0 lf0 lc1 lf1 ll EQ
         go_region_held3 (fun w' => w'.cell? ⟨gF, 0, none⟩ = some (.int .i64 p) ∧ w'.cell? ⟨gF, 1, none⟩ = some (.int .i64 q) ∧ w'.cell? ⟨gL, 0, none⟩ = some (.int .i64 u) ∧ w'.cell? ⟨gL, 1, none⟩ = some (.int .i64 v)) ((refine al_cells ?_ ?_ <;> repeat (first | (with_reducible exact BF) | (with_reducible exact BL) | (with_reducible refine Blk.drew ?_) | (with_reducible refine Blk.set6 ?_ (by omega)))))
           (first
             | (go_at_call 58; have _t := tok1; refine (PO _).mono ?_; rintro e a5 ⟨js1, jo1, jn1, jc1, jd1, js2, jo2, jn2, jc2, jd2, js3, jo3, jn3, jc3, jd3, rfl, Nj1, Nj2, Nj3, hB⟩; (first | (replace BF := BF.step hB; replace BL := BL.step hB; replace BP := BP.step hB; replace BQ := BQ.step hB; replace HB := HB.trans (hB.mono HB.size)) | (replace BF := BF.drew.step hB; replace BL := BL.drew.step hB; replace BP := BP.drew.step hB; replace BQ := BQ.drew.step hB; replace HB := HB.drew.trans (hB.mono HB.drew.size))); clear hB; clear tok1 _t)
             | (go_at_call 58; refine (PL _).mono ?_; rintro e a6 ⟨ks1, ko1, kn1, kc1, kd1, ks2, ko2, kn2, kc2, kd2, ks3, ko3, kn3, kc3, kd3, rfl, Nk1, Nk2, Nk3, hB⟩; (first | (replace BF := BF.step hB; replace BL := BL.step hB; replace BP := BP.step hB; replace BQ := BQ.step hB; replace HB := HB.trans (hB.mono HB.size)) | (replace BF := BF.drew.step hB; replace BL := BL.drew.step hB; replace BP := BP.drew.step hB; replace BQ := BQ.drew.step hB; replace HB := HB.drew.trans (hB.mono HB.drew.size))); replace Nj1 := Nj1.below hB; replace Nj2 := Nj2.below hB; replace Nj3 := Nj3.below hB; clear hB; obtain ⟨xc0, xf0, xc1, xf1, xc2, xf2, xc3, xf3, xc4, xf4, xc5, xf5⟩ := BP.cf6; have xl := BP.lt; obtain ⟨yc0, yf0, yc1, yf1, yc2, yf2, yc3, yf3, yc4, yf4, yc5, yf5⟩ := BQ.cf6; have yl := BQ.lt))
         all_goals clear BF BL PO PL
         all_goals (
           have BQ6 := BQ.set6 (g := (w.heap.size + 1 + 1)) (v0 := .bool js1) (v1 := .slice jo1 jn1 jc1) (v2 := .bool js2) (v3 := .slice jo2 jn2 jc2) (v4 := .bool js3) (v5 := .slice jo3 jn3 jc3) (by omega)
           go_wp2
           refine bodyPost_ret (v := .tuple #[.int .i64 2, .agg #[.bool js1, .slice jo1 jn1 jc1, .bool js2, .slice jo2 jn2 jc2, .bool js3, .slice jo3 jn3 jc3], .agg #[.bool ks1, .slice ko1 kn1 kc1, .bool ks2, .slice ko2 kn2 kc2, .bool ks3, .slice ko3 kn3 kc3]]) (by simp [results, Tryz.results71, go_sem, xc0, yc0, xc1, yc1, xc2, yc2, xc3, yc3, xc4, yc4, xc5, yc5]) rfl ?_
           refine ⟨?_, Or.inr (Or.inr ⟨p, q, u, v, _, _, HO.out, small_int (by omega) (by omega), small_int (by omega) (by omega), small_int (by omega) (by omega), small_int (by omega) (by omega), rfl, ⟨js1, jo1, jn1, jc1, jd1, js2, jo2, jn2, jc2, jd2, js3, jo3, jn3, jc3, jd3, rfl, ?_, ?_, ?_⟩, ks1, ko1, kn1, kc1, kd1, ks2, ko2, kn2, kc2, kd2, ks3, ko3, kn3, kc3, kd3, rfl, ?_, ?_, ?_⟩)⟩
           · repeat' (refine Below.setCell ?_ (by simp; try omega) _)
             first | exact HB | exact HB.drew
           · first | exact num_set6 (num_set6 Nj1 BP (.bool js1) (.slice jo1 jn1 jc1) (.bool js2) (.slice jo2 jn2 jc2) (.bool js3) (.slice jo3 jn3 jc3)) BQ6 (.bool ks1) (.slice ko1 kn1 kc1) (.bool ks2) (.slice ko2 kn2 kc2) (.bool ks3) (.slice ko3 kn3 kc3) | exact num_set6 (num_set6 Nj1.drew BP (.bool js1) (.slice jo1 jn1 jc1) (.bool js2) (.slice jo2 jn2 jc2) (.bool js3) (.slice jo3 jn3 jc3)) BQ6 (.bool ks1) (.slice ko1 kn1 kc1) (.bool ks2) (.slice ko2 kn2 kc2) (.bool ks3) (.slice ko3 kn3 kc3)
           · first | exact num_set6 (num_set6 Nj2 BP (.bool js1) (.slice jo1 jn1 jc1) (.bool js2) (.slice jo2 jn2 jc2) (.bool js3) (.slice jo3 jn3 jc3)) BQ6 (.bool ks1) (.slice ko1 kn1 kc1) (.bool ks2) (.slice ko2 kn2 kc2) (.bool ks3) (.slice ko3 kn3 kc3) | exact num_set6 (num_set6 Nj2.drew BP (.bool js1) (.slice jo1 jn1 jc1) (.bool js2) (.slice jo2 jn2 jc2) (.bool js3) (.slice jo3 jn3 jc3)) BQ6 (.bool ks1) (.slice ko1 kn1 kc1) (.bool ks2) (.slice ko2 kn2 kc2) (.bool ks3) (.slice ko3 kn3 kc3)
           · first | exact num_set6 (num_set6 Nj3 BP (.bool js1) (.slice jo1 jn1 jc1) (.bool js2) (.slice jo2 jn2 jc2) (.bool js3) (.slice jo3 jn3 jc3)) BQ6 (.bool ks1) (.slice ko1 kn1 kc1) (.bool ks2) (.slice ko2 kn2 kc2) (.bool ks3) (.slice ko3 kn3 kc3) | exact num_set6 (num_set6 Nj3.drew BP (.bool js1) (.slice jo1 jn1 jc1) (.bool js2) (.slice jo2 jn2 jc2) (.bool js3) (.slice jo3 jn3 jc3)) BQ6 (.bool ks1) (.slice ko1 kn1 kc1) (.bool ks2) (.slice ko2 kn2 kc2) (.bool ks3) (.slice ko3 kn3 kc3)
           · first | exact num_set6 (num_set6 Nk1 BP (.bool js1) (.slice jo1 jn1 jc1) (.bool js2) (.slice jo2 jn2 jc2) (.bool js3) (.slice jo3 jn3 jc3)) BQ6 (.bool ks1) (.slice ko1 kn1 kc1) (.bool ks2) (.slice ko2 kn2 kc2) (.bool ks3) (.slice ko3 kn3 kc3) | exact num_set6 (num_set6 Nk1.drew BP (.bool js1) (.slice jo1 jn1 jc1) (.bool js2) (.slice jo2 jn2 jc2) (.bool js3) (.slice jo3 jn3 jc3)) BQ6 (.bool ks1) (.slice ko1 kn1 kc1) (.bool ks2) (.slice ko2 kn2 kc2) (.bool ks3) (.slice ko3 kn3 kc3)
           · first | exact num_set6 (num_set6 Nk2 BP (.bool js1) (.slice jo1 jn1 jc1) (.bool js2) (.slice jo2 jn2 jc2) (.bool js3) (.slice jo3 jn3 jc3)) BQ6 (.bool ks1) (.slice ko1 kn1 kc1) (.bool ks2) (.slice ko2 kn2 kc2) (.bool ks3) (.slice ko3 kn3 kc3) | exact num_set6 (num_set6 Nk2.drew BP (.bool js1) (.slice jo1 jn1 jc1) (.bool js2) (.slice jo2 jn2 jc2) (.bool js3) (.slice jo3 jn3 jc3)) BQ6 (.bool ks1) (.slice ko1 kn1 kc1) (.bool ks2) (.slice ko2 kn2 kc2) (.bool ks3) (.slice ko3 kn3 kc3)
           · first | exact num_set6 (num_set6 Nk3 BP (.bool js1) (.slice jo1 jn1 jc1) (.bool js2) (.slice jo2 jn2 jc2) (.bool js3) (.slice jo3 jn3 jc3)) BQ6 (.bool ks1) (.slice ko1 kn1 kc1) (.bool ks2) (.slice ko2 kn2 kc2) (.bool ks3) (.slice ko3 kn3 kc3) | exact num_set6 (num_set6 Nk3.drew BP (.bool js1) (.slice jo1 jn1 jc1) (.bool js2) (.slice jo2 jn2 jc2) (.bool js3) (.slice jo3 jn3 jc3)) BQ6 (.bool ks1) (.slice ko1 kn1 kc1) (.bool ks2) (.slice ko2 kn2 kc2) (.bool ks3) (.slice ko3 kn3 kc3))
   · have h2' := Bool.eq_false_iff.2 h2
     rw [h2']
     have H2 : Hid (lessI u v c d = false) := h2'
     clear h2 h2'
     obtain ⟨sc0, sc1, sc2, sc3⟩ := BS.cs4; have sl := BS.lt; obtain ⟨tc0, tc1, tc2, tc3⟩ := BT.cs4; have tl := BT.lt; obtain ⟨fc0, ff0, fc1, ff1⟩ := BF.cf2; have fl := BF.lt; obtain ⟨lc0, lf0, lc1, lf1⟩ := BL.cf2; have ll := BL.lt
     go_wp2_with fail
     refine (l4Less_any c d p q _ rfl _).mono ?_
     rintro e a7 ⟨rfl, hB⟩
     replace BS := BS.step hB
     replace BT := BT.step hB
     replace BF := BF.step hB
     replace BL := BL.step hB
     replace BP := BP.step hB
     replace BQ := BQ.step hB
     replace HB := HB.trans (hB.mono HB.size)
     clear hB sc0 sc1 sc2 sc3 sl tc0 tc1 tc2 tc3 tl fc0 ff0 fc1 ff1 fl lc0 lf0 lc1 lf1 ll
     by_cases hA : lessI c d p q = true
     · rw [hA]
       have HO : Hid (meetW a b c d p q u v = .tuple #[.int .i64 0, .agg #[.int .u64 0, .int .u64 0, .int .u64 0, .int .u64 0, .int .u64 0, .int .u64 0, .int .u64 0, .int .u64 0, .int .u64 0, .int .u64 0, .int .u64 0, .int .u64 0], .agg #[.int .u64 0, .int .u64 0, .int .u64 0, .int .u64 0, .int .u64 0, .int .u64 0, .int .u64 0, .int .u64 0, .int .u64 0, .int .u64 0, .int .u64 0, .int .u64 0]]) := by show _ = _; rw [HW.out]; unfold alongV; rw [show (if lessI a b p q = true then p else a) = p by rw [H1.out]; rfl, show (if lessI a b p q = true then q else b) = q by rw [H1.out]; rfl, show (if lessI u v c d = true then u else c) = c by rw [H2.out]; rfl, show (if lessI u v c d = true then v else d) = d by rw [H2.out]; rfl, if_pos (Or.inr hA)]
       clear hA BS BT BF BL
       obtain ⟨xc0, xf0, xc1, xf1, xc2, xf2, xc3, xf3, xc4, xf4, xc5, xf5⟩ := BP.cf6; have xl := BP.lt; obtain ⟨yc0, yf0, yc1, yf1, yc2, yf2, yc3, yf3, yc4, yf4, yc5, yf5⟩ := BQ.cf6; have yl := BQ.lt
       go_wp2
       refine bodyPost_ret (v := .tuple #[.int .i64 0, .agg #[.bool false, .slice none 0 0, .bool false, .slice none 0 0, .bool false, .slice none 0 0], .agg #[.bool false, .slice none 0 0, .bool false, .slice none 0 0, .bool false, .slice none 0 0]]) (by simp [results, Tryz.results71, go_sem, xc0, yc0, xc1, yc1, xc2, yc2, xc3, yc3, xc4, yc4, xc5, yc5]) rfl ?_
       refine ⟨?_, Or.inl ⟨HO.out, rfl⟩⟩
       repeat' (refine Below.setCell ?_ (by simp; try omega) _)
       exact HB
     · have hA' := Bool.eq_false_iff.2 hA
       rw [hA']
       have EQ := eqSp p q c d
       by_cases hE : p = c ∧ q = d
       · have HO : Hid (meetW a b c d p q u v = .tuple #[.int .i64 1, .agg #[.int .u64 (ww3 p), .int .u64 (ww2 p), .int .u64 (ww1 p), .int .u64 (ww0 p), .int .u64 (ww3 q), .int .u64 (ww2 q), .int .u64 (ww1 q), .int .u64 (ww0 q), .int .u64 (ww3 1), .int .u64 (ww2 1), .int .u64 (ww1 1), .int .u64 (ww0 1)], .agg #[.int .u64 0, .int .u64 0, .int .u64 0, .int .u64 0, .int .u64 0, .int .u64 0, .int .u64 0, .int .u64 0, .int .u64 0, .int .u64 0, .int .u64 0, .int .u64 0]]) := by show _ = _; rw [HW.out]; unfold alongV; rw [show (if lessI a b p q = true then p else a) = p by rw [H1.out]; rfl, show (if lessI a b p q = true then q else b) = q by rw [H1.out]; rfl, show (if lessI u v c d = true then u else c) = c by rw [H2.out]; rfl, show (if lessI u v c d = true then v else d) = d by rw [H2.out]; rfl, if_neg (by rw [hA']; rintro (h | h); exact h HT.out; cases h), if_pos hE]
         rw [show (decide (p = c) && decide (q = d)) = true by rw [hE.1, hE.2]; simp] at EQ
         have PO := l3Spot_det p q (by omega) (by omega)
         clear hA hA' hE
         obtain ⟨sc0, sc1, sc2, sc3⟩ := BS.cs4; have sl := BS.lt; obtain ⟨tc0, tc1, tc2, tc3⟩ := BT.cs4; have tl := BT.lt; obtain ⟨fc0, ff0, fc1, ff1⟩ := BF.cf2; have fl := BF.lt; obtain ⟨lc0, lf0, lc1, lf1⟩ := BL.cf2; have ll := BL.lt
         go_wp2_with fail
         refine (PO _).mono ?_
         rintro e a8 ⟨js1, jo1, jn1, jc1, jd1, js2, jo2, jn2, jc2, jd2, js3, jo3, jn3, jc3, jd3, rfl, Nj1, Nj2, Nj3, hB⟩
         replace BP := BP.step hB; replace BQ := BQ.step hB; replace HB := HB.trans (hB.mono HB.size)
         clear hB sc0 sc1 sc2 sc3 sl tc0 tc1 tc2 tc3 tl fc0 ff0 fc1 ff1 fl lc0 lf0 lc1 lf1 ll BS BT BF BL PO EQ
         obtain ⟨xc0, xf0, xc1, xf1, xc2, xf2, xc3, xf3, xc4, xf4, xc5, xf5⟩ := BP.cf6; have xl := BP.lt; obtain ⟨yc0, yf0, yc1, yf1, yc2, yf2, yc3, yf3, yc4, yf4, yc5, yf5⟩ := BQ.cf6; have yl := BQ.lt
         have BQ6 := BQ.set6 (g := (w.heap.size + 1 + 1)) (v0 := .bool js1) (v1 := .slice jo1 jn1 jc1) (v2 := .bool js2) (v3 := .slice jo2 jn2 jc2) (v4 := .bool js3) (v5 := .slice jo3 jn3 jc3) (by omega)
         go_wp2
         refine bodyPost_ret (v := .tuple #[.int .i64 1, .agg #[.bool js1, .slice jo1 jn1 jc1, .bool js2, .slice jo2 jn2 jc2, .bool js3, .slice jo3 jn3 jc3], .agg #[.bool false, .slice none 0 0, .bool false, .slice none 0 0, .bool false, .slice none 0 0]]) (by simp [results, Tryz.results71, go_sem, xc0, yc0, xc1, yc1, xc2, yc2, xc3, yc3, xc4, yc4, xc5, yc5]) rfl ?_
         refine ⟨?_, Or.inr (Or.inl ⟨p, q, 1, _, HO.out, small_int (by omega) (by omega), small_int (by omega) (by omega), small_int (by omega) (by omega), rfl, js1, jo1, jn1, jc1, jd1, js2, jo2, jn2, jc2, jd2, js3, jo3, jn3, jc3, jd3, rfl, ?_, ?_, ?_⟩)⟩
         · repeat' (refine Below.setCell ?_ (by simp; try omega) _)
           exact HB
         · exact num_set6 (num_set6 Nj1 BP (.bool js1) (.slice jo1 jn1 jc1) (.bool js2) (.slice jo2 jn2 jc2) (.bool js3) (.slice jo3 jn3 jc3)) BQ6 (.bool false) (.slice none 0 0) (.bool false) (.slice none 0 0) (.bool false) (.slice none 0 0)
         · exact num_set6 (num_set6 Nj2 BP (.bool js1) (.slice jo1 jn1 jc1) (.bool js2) (.slice jo2 jn2 jc2) (.bool js3) (.slice jo3 jn3 jc3)) BQ6 (.bool false) (.slice none 0 0) (.bool false) (.slice none 0 0) (.bool false) (.slice none 0 0)
         · exact num_set6 (num_set6 Nj3 BP (.bool js1) (.slice jo1 jn1 jc1) (.bool js2) (.slice jo2 jn2 jc2) (.bool js3) (.slice jo3 jn3 jc3)) BQ6 (.bool false) (.slice none 0 0) (.bool false) (.slice none 0 0) (.bool false) (.slice none 0 0)
       · have HO : Hid (meetW a b c d p q u v = .tuple #[.int .i64 2, .agg #[.int .u64 (ww3 p), .int .u64 (ww2 p), .int .u64 (ww1 p), .int .u64 (ww0 p), .int .u64 (ww3 q), .int .u64 (ww2 q), .int .u64 (ww1 q), .int .u64 (ww0 q), .int .u64 (ww3 1), .int .u64 (ww2 1), .int .u64 (ww1 1), .int .u64 (ww0 1)], .agg #[.int .u64 (ww3 c), .int .u64 (ww2 c), .int .u64 (ww1 c), .int .u64 (ww0 c), .int .u64 (ww3 d), .int .u64 (ww2 d), .int .u64 (ww1 d), .int .u64 (ww0 d), .int .u64 (ww3 1), .int .u64 (ww2 1), .int .u64 (ww1 1), .int .u64 (ww0 1)]]) := by show _ = _; rw [HW.out]; unfold alongV; rw [show (if lessI a b p q = true then p else a) = p by rw [H1.out]; rfl, show (if lessI a b p q = true then q else b) = q by rw [H1.out]; rfl, show (if lessI u v c d = true then u else c) = c by rw [H2.out]; rfl, show (if lessI u v c d = true then v else d) = d by rw [H2.out]; rfl, if_neg (by rw [hA']; rintro (h | h); exact h HT.out; cases h), if_neg hE]
         rw [show (decide (p = c) && decide (q = d)) = false by rw [← Bool.decide_and]; exact decide_eq_false hE] at EQ
         have PO := l3Spot_det p q (by omega) (by omega)
         have PL := l3Spot_det c d (by omega) (by omega)
         clear hA hA' hE BS BT
         have tok1 : True := trivial
         obtain ⟨fc0, ff0, fc1, ff1⟩ := BF.cf2; have fl := BF.lt; obtain ⟨lc0, lf0, lc1, lf1⟩ := BL.cf2; have ll := BL.lt
         go_upto_region 16 with fail
         clear fc0 ff0 fc1 ff1 fl lc0 lf0 lc1 lf1 ll EQ
         go_region_held3 (fun w' => w'.cell? ⟨gF, 0, none⟩ = some (.int .i64 p) ∧ w'.cell? ⟨gF, 1, none⟩ = some (.int .i64 q) ∧ w'.cell? ⟨gL, 0, none⟩ = some (.int .i64 c) ∧ w'.cell? ⟨gL, 1, none⟩ = some (.int .i64 d)) ((refine al_cells ?_ ?_ <;> repeat (first | (with_reducible exact BF) | (with_reducible exact BL) | (with_reducible refine Blk.drew ?_) | (with_reducible refine Blk.set6 ?_ (by omega)))))
           (first
             | (go_at_call 58; have _t := tok1; refine (PO _).mono ?_; rintro e a9 ⟨js1, jo1, jn1, jc1, jd1, js2, jo2, jn2, jc2, jd2, js3, jo3, jn3, jc3, jd3, rfl, Nj1, Nj2, Nj3, hB⟩; (first | (replace BF := BF.step hB; replace BL := BL.step hB; replace BP := BP.step hB; replace BQ := BQ.step hB; replace HB := HB.trans (hB.mono HB.size)) | (replace BF := BF.drew.step hB; replace BL := BL.drew.step hB; replace BP := BP.drew.step hB; replace BQ := BQ.drew.step hB; replace HB := HB.drew.trans (hB.mono HB.drew.size))); clear hB; clear tok1 _t)
             | (go_at_call 58; refine (PL _).mono ?_; rintro e a10 ⟨ks1, ko1, kn1, kc1, kd1, ks2, ko2, kn2, kc2, kd2, ks3, ko3, kn3, kc3, kd3, rfl, Nk1, Nk2, Nk3, hB⟩; (first | (replace BF := BF.step hB; replace BL := BL.step hB; replace BP := BP.step hB; replace BQ := BQ.step hB; replace HB := HB.trans (hB.mono HB.size)) | (replace BF := BF.drew.step hB; replace BL := BL.drew.step hB; replace BP := BP.drew.step hB; replace BQ := BQ.drew.step hB; replace HB := HB.drew.trans (hB.mono HB.drew.size))); replace Nj1 := Nj1.below hB; replace Nj2 := Nj2.below hB; replace Nj3 := Nj3.below hB; clear hB; obtain ⟨xc0, xf0, xc1, xf1, xc2, xf2, xc3, xf3, xc4, xf4, xc5, xf5⟩ := BP.cf6; have xl := BP.lt; obtain ⟨yc0, yf0, yc1, yf1, yc2, yf2, yc3, yf3, yc4, yf4, yc5, yf5⟩ := BQ.cf6; have yl := BQ.lt))
         all_goals clear BF BL PO PL
         all_goals (
           have BQ6 := BQ.set6 (g := (w.heap.size + 1 + 1)) (v0 := .bool js1) (v1 := .slice jo1 jn1 jc1) (v2 := .bool js2) (v3 := .slice jo2 jn2 jc2) (v4 := .bool js3) (v5 := .slice jo3 jn3 jc3) (by omega)
           go_wp2
           refine bodyPost_ret (v := .tuple #[.int .i64 2, .agg #[.bool js1, .slice jo1 jn1 jc1, .bool js2, .slice jo2 jn2 jc2, .bool js3, .slice jo3 jn3 jc3], .agg #[.bool ks1, .slice ko1 kn1 kc1, .bool ks2, .slice ko2 kn2 kc2, .bool ks3, .slice ko3 kn3 kc3]]) (by simp [results, Tryz.results71, go_sem, xc0, yc0, xc1, yc1, xc2, yc2, xc3, yc3, xc4, yc4, xc5, yc5]) rfl ?_
           refine ⟨?_, Or.inr (Or.inr ⟨p, q, c, d, _, _, HO.out, small_int (by omega) (by omega), small_int (by omega) (by omega), small_int (by omega) (by omega), small_int (by omega) (by omega), rfl, ⟨js1, jo1, jn1, jc1, jd1, js2, jo2, jn2, jc2, jd2, js3, jo3, jn3, jc3, jd3, rfl, ?_, ?_, ?_⟩, ks1, ko1, kn1, kc1, kd1, ks2, ko2, kn2, kc2, kd2, ks3, ko3, kn3, kc3, kd3, rfl, ?_, ?_, ?_⟩)⟩
           · repeat' (refine Below.setCell ?_ (by simp; try omega) _)
             first | exact HB | exact HB.drew
           · first | exact num_set6 (num_set6 Nj1 BP (.bool js1) (.slice jo1 jn1 jc1) (.bool js2) (.slice jo2 jn2 jc2) (.bool js3) (.slice jo3 jn3 jc3)) BQ6 (.bool ks1) (.slice ko1 kn1 kc1) (.bool ks2) (.slice ko2 kn2 kc2) (.bool ks3) (.slice ko3 kn3 kc3) | exact num_set6 (num_set6 Nj1.drew BP (.bool js1) (.slice jo1 jn1 jc1) (.bool js2) (.slice jo2 jn2 jc2) (.bool js3) (.slice jo3 jn3 jc3)) BQ6 (.bool ks1) (.slice ko1 kn1 kc1) (.bool ks2) (.slice ko2 kn2 kc2) (.bool ks3) (.slice ko3 kn3 kc3)
           · first | exact num_set6 (num_set6 Nj2 BP (.bool js1) (.slice jo1 jn1 jc1) (.bool js2) (.slice jo2 jn2 jc2) (.bool js3) (.slice jo3 jn3 jc3)) BQ6 (.bool ks1) (.slice ko1 kn1 kc1) (.bool ks2) (.slice ko2 kn2 kc2) (.bool ks3) (.slice ko3 kn3 kc3) | exact num_set6 (num_set6 Nj2.drew BP (.bool js1) (.slice jo1 jn1 jc1) (.bool js2) (.slice jo2 jn2 jc2) (.bool js3) (.slice jo3 jn3 jc3)) BQ6 (.bool ks1) (.slice ko1 kn1 kc1) (.bool ks2) (.slice ko2 kn2 kc2) (.bool ks3) (.slice ko3 kn3 kc3)
           · first | exact num_set6 (num_set6 Nj3 BP (.bool js1) (.slice jo1 jn1 jc1) (.bool js2) (.slice jo2 jn2 jc2) (.bool js3) (.slice jo3 jn3 jc3)) BQ6 (.bool ks1) (.slice ko1 kn1 kc1) (.bool ks2) (.slice ko2 kn2 kc2) (.bool ks3) (.slice ko3 kn3 kc3) | exact num_set6 (num_set6 Nj3.drew BP (.bool js1) (.slice jo1 jn1 jc1) (.bool js2) (.slice jo2 jn2 jc2) (.bool js3) (.slice jo3 jn3 jc3)) BQ6 (.bool ks1) (.slice ko1 kn1 kc1) (.bool ks2) (.slice ko2 kn2 kc2) (.bool ks3) (.slice ko3 kn3 kc3)
           · first | exact num_set6 (num_set6 Nk1 BP (.bool js1) (.slice jo1 jn1 jc1) (.bool js2) (.slice jo2 jn2 jc2) (.bool js3) (.slice jo3 jn3 jc3)) BQ6 (.bool ks1) (.slice ko1 kn1 kc1) (.bool ks2) (.slice ko2 kn2 kc2) (.bool ks3) (.slice ko3 kn3 kc3) | exact num_set6 (num_set6 Nk1.drew BP (.bool js1) (.slice jo1 jn1 jc1) (.bool js2) (.slice jo2 jn2 jc2) (.bool js3) (.slice jo3 jn3 jc3)) BQ6 (.bool ks1) (.slice ko1 kn1 kc1) (.bool ks2) (.slice ko2 kn2 kc2) (.bool ks3) (.slice ko3 kn3 kc3)
           · first | exact num_set6 (num_set6 Nk2 BP (.bool js1) (.slice jo1 jn1 jc1) (.bool js2) (.slice jo2 jn2 jc2) (.bool js3) (.slice jo3 jn3 jc3)) BQ6 (.bool ks1) (.slice ko1 kn1 kc1) (.bool ks2) (.slice ko2 kn2 kc2) (.bool ks3) (.slice ko3 kn3 kc3) | exact num_set6 (num_set6 Nk2.drew BP (.bool js1) (.slice jo1 jn1 jc1) (.bool js2) (.slice jo2 jn2 jc2) (.bool js3) (.slice jo3 jn3 jc3)) BQ6 (.bool ks1) (.slice ko1 kn1 kc1) (.bool ks2) (.slice ko2 kn2 kc2) (.bool ks3) (.slice ko3 kn3 kc3)
           · first | exact num_set6 (num_set6 Nk3 BP (.bool js1) (.slice jo1 jn1 jc1) (.bool js2) (.slice jo2 jn2 jc2) (.bool js3) (.slice jo3 jn3 jc3)) BQ6 (.bool ks1) (.slice ko1 kn1 kc1) (.bool ks2) (.slice ko2 kn2 kc2) (.bool ks3) (.slice ko3 kn3 kc3) | exact num_set6 (num_set6 Nk3.drew BP (.bool js1) (.slice jo1 jn1 jc1) (.bool js2) (.slice jo2 jn2 jc2) (.bool js3) (.slice jo3 jn3 jc3)) BQ6 (.bool ks1) (.slice ko1 kn1 kc1) (.bool ks2) (.slice ko2 kn2 kc2) (.bool ks3) (.slice ko3 kn3 kc3))
 · have h1' := Bool.eq_false_iff.2 h1
   rw [h1']
   have H1 : Hid (lessI a b p q = false) := h1'
   clear h1 h1'
   have hgLx : (w.heap.size + 1 + 1 + 1) < a1.heap.size := BQ.lt
   have hgL : gF < a1.heap.size := BF.lt
   obtain ⟨sc0, sc1, sc2, sc3⟩ := BS.cs4; have sl := BS.lt; obtain ⟨tc0, tc1, tc2, tc3⟩ := BT.cs4; have tl := BT.lt; obtain ⟨fc0, ff0, fc1, ff1⟩ := BF.cf2; have fl := BF.lt
   have gLh := HB.size
   go_wp2_with fail
   refine (l4Less_any u v c d _ rfl _).mono ?_
   rintro e a11 ⟨rfl, hB⟩
   replace BS := (BS.alloc (.cells #[.int .i64 c, .int .i64 d] 81)).step hB
   replace BT := (BT.alloc (.cells #[.int .i64 c, .int .i64 d] 81)).step hB
   replace BF := (BF.alloc (.cells #[.int .i64 c, .int .i64 d] 81)).step hB
   replace BP := (BP.alloc (.cells #[.int .i64 c, .int .i64 d] 81)).step hB
   replace BQ := (BQ.alloc (.cells #[.int .i64 c, .int .i64 d] 81)).step hB
   have BL := (Blk.new a1 [.int .i64 c, .int .i64 d] 81 rfl).step hB
   replace HB := (HB.alloc HB.size (.cells #[.int .i64 c, .int .i64 d] 81)).trans (hB.mono (HB.alloc HB.size (.cells #[.int .i64 c, .int .i64 d] 81)).size)
   clear hB sc0 sc1 sc2 sc3 sl tc0 tc1 tc2 tc3 tl fc0 ff0 fc1 ff1 fl
   have hgL2 : (w.heap.size + 1 + 1 + 1) < a1.heap.size := hgLx
   generalize a1.heap.size = gL at *
   by_cases h2 : lessI u v c d = true
   · rw [h2]
     have H2 : Hid (lessI u v c d = true) := h2
     clear h2
     obtain ⟨sc0, sc1, sc2, sc3⟩ := BS.cs4; have sl := BS.lt; obtain ⟨tc0, tc1, tc2, tc3⟩ := BT.cs4; have tl := BT.lt; obtain ⟨fc0, ff0, fc1, ff1⟩ := BF.cf2; have fl := BF.lt; obtain ⟨lc0, lf0, lc1, lf1⟩ := BL.cf2; have ll := BL.lt
     go_upto_region 12 with fail
     clear sc0 sc1 sc2 sc3 sl tc0 tc1 tc2 tc3 tl fc0 ff0 fc1 ff1 fl lc0 lf0 lc1 lf1 ll
     replace BL := BL.stored2 (.int .i64 u) (.int .i64 v)
     replace BF : Blk ((a11.setCell ⟨gL, 0, none⟩ (.int .i64 u)).setCell ⟨gL, 1, none⟩ (.int .i64 v)) _ _ := BF.set2 (by omega)
     replace BS : Blk ((a11.setCell ⟨gL, 0, none⟩ (.int .i64 u)).setCell ⟨gL, 1, none⟩ (.int .i64 v)) _ _ := BS.set2 (by omega)
     replace BT : Blk ((a11.setCell ⟨gL, 0, none⟩ (.int .i64 u)).setCell ⟨gL, 1, none⟩ (.int .i64 v)) _ _ := BT.set2 (by omega)
     replace BP : Blk ((a11.setCell ⟨gL, 0, none⟩ (.int .i64 u)).setCell ⟨gL, 1, none⟩ (.int .i64 v)) _ _ := BP.set2 (by omega)
     replace BQ : Blk ((a11.setCell ⟨gL, 0, none⟩ (.int .i64 u)).setCell ⟨gL, 1, none⟩ (.int .i64 v)) _ _ := BQ.set2 (by omega)
     replace HB : Below w.heap.size w ((a11.setCell ⟨gL, 0, none⟩ (.int .i64 u)).setCell ⟨gL, 1, none⟩ (.int .i64 v)) := Below.setCell (Below.setCell HB (by show _ ≤ gL; omega) _) (by show _ ≤ gL; omega) _
     generalize ((a11.setCell ⟨gL, 0, none⟩ (.int .i64 u)).setCell ⟨gL, 1, none⟩ (.int .i64 v)) = WN at *
     obtain ⟨sc0, sc1, sc2, sc3⟩ := BS.cs4; have sl := BS.lt; obtain ⟨tc0, tc1, tc2, tc3⟩ := BT.cs4; have tl := BT.lt; obtain ⟨fc0, ff0, fc1, ff1⟩ := BF.cf2; have fl := BF.lt; obtain ⟨lc0, lf0, lc1, lf1⟩ := BL.cf2; have ll := BL.lt
     go_wp2_with fail
     refine (l4Less_any u v a b _ rfl _).mono ?_
     rintro e a12 ⟨rfl, hB⟩
     replace BS := BS.step hB
     replace BT := BT.step hB
     replace BF := BF.step hB
     replace BL := BL.step hB
     replace BP := BP.step hB
     replace BQ := BQ.step hB
     replace HB := HB.trans (hB.mono HB.size)
     clear hB sc0 sc1 sc2 sc3 sl tc0 tc1 tc2 tc3 tl fc0 ff0 fc1 ff1 fl lc0 lf0 lc1 lf1 ll
     by_cases hA : lessI u v a b = true
     · rw [hA]
       have HO : Hid (meetW a b c d p q u v = .tuple #[.int .i64 0, .agg #[.int .u64 0, .int .u64 0, .int .u64 0, .int .u64 0, .int .u64 0, .int .u64 0, .int .u64 0, .int .u64 0, .int .u64 0, .int .u64 0, .int .u64 0, .int .u64 0], .agg #[.int .u64 0, .int .u64 0, .int .u64 0, .int .u64 0, .int .u64 0, .int .u64 0, .int .u64 0, .int .u64 0, .int .u64 0, .int .u64 0, .int .u64 0, .int .u64 0]]) := by show _ = _; rw [HW.out]; unfold alongV; rw [show (if lessI a b p q = true then p else a) = a by rw [H1.out]; rfl, show (if lessI a b p q = true then q else b) = b by rw [H1.out]; rfl, show (if lessI u v c d = true then u else c) = u by rw [H2.out]; rfl, show (if lessI u v c d = true then v else d) = v by rw [H2.out]; rfl, if_pos (Or.inr hA)]
       clear hA BS BT BF BL
       obtain ⟨xc0, xf0, xc1, xf1, xc2, xf2, xc3, xf3, xc4, xf4, xc5, xf5⟩ := BP.cf6; have xl := BP.lt; obtain ⟨yc0, yf0, yc1, yf1, yc2, yf2, yc3, yf3, yc4, yf4, yc5, yf5⟩ := BQ.cf6; have yl := BQ.lt
       go_wp2
       refine bodyPost_ret (v := .tuple #[.int .i64 0, .agg #[.bool false, .slice none 0 0, .bool false, .slice none 0 0, .bool false, .slice none 0 0], .agg #[.bool false, .slice none 0 0, .bool false, .slice none 0 0, .bool false, .slice none 0 0]]) (by simp [results, Tryz.results71, go_sem, xc0, yc0, xc1, yc1, xc2, yc2, xc3, yc3, xc4, yc4, xc5, yc5]) rfl ?_
       refine ⟨?_, Or.inl ⟨HO.out, rfl⟩⟩
       repeat' (refine Below.setCell ?_ (by simp; try omega) _)
       exact HB
     · have hA' := Bool.eq_false_iff.2 hA
       rw [hA']
       have EQ := eqSp a b u v
       by_cases hE : a = u ∧ b = v
       · have HO : Hid (meetW a b c d p q u v = .tuple #[.int .i64 1, .agg #[.int .u64 (ww3 a), .int .u64 (ww2 a), .int .u64 (ww1 a), .int .u64 (ww0 a), .int .u64 (ww3 b), .int .u64 (ww2 b), .int .u64 (ww1 b), .int .u64 (ww0 b), .int .u64 (ww3 1), .int .u64 (ww2 1), .int .u64 (ww1 1), .int .u64 (ww0 1)], .agg #[.int .u64 0, .int .u64 0, .int .u64 0, .int .u64 0, .int .u64 0, .int .u64 0, .int .u64 0, .int .u64 0, .int .u64 0, .int .u64 0, .int .u64 0, .int .u64 0]]) := by show _ = _; rw [HW.out]; unfold alongV; rw [show (if lessI a b p q = true then p else a) = a by rw [H1.out]; rfl, show (if lessI a b p q = true then q else b) = b by rw [H1.out]; rfl, show (if lessI u v c d = true then u else c) = u by rw [H2.out]; rfl, show (if lessI u v c d = true then v else d) = v by rw [H2.out]; rfl, if_neg (by rw [hA']; rintro (h | h); exact h HT.out; cases h), if_pos hE]
         rw [show (decide (a = u) && decide (b = v)) = true by rw [hE.1, hE.2]; simp] at EQ
         have PO := l3Spot_det a b (by omega) (by omega)
         clear hA hA' hE
         obtain ⟨sc0, sc1, sc2, sc3⟩ := BS.cs4; have sl := BS.lt; obtain ⟨tc0, tc1, tc2, tc3⟩ := BT.cs4; have tl := BT.lt; obtain ⟨fc0, ff0, fc1, ff1⟩ := BF.cf2; have fl := BF.lt; obtain ⟨lc0, lf0, lc1, lf1⟩ := BL.cf2; have ll := BL.lt
         go_wp2_with fail
         refine (PO _).mono ?_
         rintro e a13 ⟨js1, jo1, jn1, jc1, jd1, js2, jo2, jn2, jc2, jd2, js3, jo3, jn3, jc3, jd3, rfl, Nj1, Nj2, Nj3, hB⟩
         replace BP := BP.step hB; replace BQ := BQ.step hB; replace HB := HB.trans (hB.mono HB.size)
         clear hB sc0 sc1 sc2 sc3 sl tc0 tc1 tc2 tc3 tl fc0 ff0 fc1 ff1 fl lc0 lf0 lc1 lf1 ll BS BT BF BL PO EQ
         obtain ⟨xc0, xf0, xc1, xf1, xc2, xf2, xc3, xf3, xc4, xf4, xc5, xf5⟩ := BP.cf6; have xl := BP.lt; obtain ⟨yc0, yf0, yc1, yf1, yc2, yf2, yc3, yf3, yc4, yf4, yc5, yf5⟩ := BQ.cf6; have yl := BQ.lt
         have BQ6 := BQ.set6 (g := (w.heap.size + 1 + 1)) (v0 := .bool js1) (v1 := .slice jo1 jn1 jc1) (v2 := .bool js2) (v3 := .slice jo2 jn2 jc2) (v4 := .bool js3) (v5 := .slice jo3 jn3 jc3) (by omega)
         go_wp2
         refine bodyPost_ret (v := .tuple #[.int .i64 1, .agg #[.bool js1, .slice jo1 jn1 jc1, .bool js2, .slice jo2 jn2 jc2, .bool js3, .slice jo3 jn3 jc3], .agg #[.bool false, .slice none 0 0, .bool false, .slice none 0 0, .bool false, .slice none 0 0]]) (by simp [results, Tryz.results71, go_sem, xc0, yc0, xc1, yc1, xc2, yc2, xc3, yc3, xc4, yc4, xc5, yc5]) rfl ?_
         refine ⟨?_, Or.inr (Or.inl ⟨a, b, 1, _, HO.out, small_int (by omega) (by omega), small_int (by omega) (by omega), small_int (by omega) (by omega), rfl, js1, jo1, jn1, jc1, jd1, js2, jo2, jn2, jc2, jd2, js3, jo3, jn3, jc3, jd3, rfl, ?_, ?_, ?_⟩)⟩
         · repeat' (refine Below.setCell ?_ (by simp; try omega) _)
           exact HB
         · exact num_set6 (num_set6 Nj1 BP (.bool js1) (.slice jo1 jn1 jc1) (.bool js2) (.slice jo2 jn2 jc2) (.bool js3) (.slice jo3 jn3 jc3)) BQ6 (.bool false) (.slice none 0 0) (.bool false) (.slice none 0 0) (.bool false) (.slice none 0 0)
         · exact num_set6 (num_set6 Nj2 BP (.bool js1) (.slice jo1 jn1 jc1) (.bool js2) (.slice jo2 jn2 jc2) (.bool js3) (.slice jo3 jn3 jc3)) BQ6 (.bool false) (.slice none 0 0) (.bool false) (.slice none 0 0) (.bool false) (.slice none 0 0)
         · exact num_set6 (num_set6 Nj3 BP (.bool js1) (.slice jo1 jn1 jc1) (.bool js2) (.slice jo2 jn2 jc2) (.bool js3) (.slice jo3 jn3 jc3)) BQ6 (.bool false) (.slice none 0 0) (.bool false) (.slice none 0 0) (.bool false) (.slice none 0 0)
       · have HO : Hid (meetW a b c d p q u v = .tuple #[.int .i64 2, .agg #[.int .u64 (ww3 a), .int .u64 (ww2 a), .int .u64 (ww1 a), .int .u64 (ww0 a), .int .u64 (ww3 b), .int .u64 (ww2 b), .int .u64 (ww1 b), .int .u64 (ww0 b), .int .u64 (ww3 1), .int .u64 (ww2 1), .int .u64 (ww1 1), .int .u64 (ww0 1)], .agg #[.int .u64 (ww3 u), .int .u64 (ww2 u), .int .u64 (ww1 u), .int .u64 (ww0 u), .int .u64 (ww3 v), .int .u64 (ww2 v), .int .u64 (ww1 v), .int .u64 (ww0 v), .int .u64 (ww3 1), .int .u64 (ww2 1), .int .u64 (ww1 1), .int .u64 (ww0 1)]]) := by show _ = _; rw [HW.out]; unfold alongV; rw [show (if lessI a b p q = true then p else a) = a by rw [H1.out]; rfl, show (if lessI a b p q = true then q else b) = b by rw [H1.out]; rfl, show (if lessI u v c d = true then u else c) = u by rw [H2.out]; rfl, show (if lessI u v c d = true then v else d) = v by rw [H2.out]; rfl, if_neg (by rw [hA']; rintro (h | h); exact h HT.out; cases h), if_neg hE]
         rw [show (decide (a = u) && decide (b = v)) = false by rw [← Bool.decide_and]; exact decide_eq_false hE] at EQ
         have PO := l3Spot_det a b (by omega) (by omega)
         have PL := l3Spot_det u v (by omega) (by omega)
         clear hA hA' hE BS BT
         have tok1 : True := trivial
         obtain ⟨fc0, ff0, fc1, ff1⟩ := BF.cf2; have fl := BF.lt; obtain ⟨lc0, lf0, lc1, lf1⟩ := BL.cf2; have ll := BL.lt
         go_upto_region 16 with fail
         clear fc0 ff0 fc1 ff1 fl lc0 lf0 lc1 lf1 ll EQ
         go_region_held3 (fun w' => w'.cell? ⟨gF, 0, none⟩ = some (.int .i64 a) ∧ w'.cell? ⟨gF, 1, none⟩ = some (.int .i64 b) ∧ w'.cell? ⟨gL, 0, none⟩ = some (.int .i64 u) ∧ w'.cell? ⟨gL, 1, none⟩ = some (.int .i64 v)) ((refine al_cells ?_ ?_ <;> repeat (first | (with_reducible exact BF) | (with_reducible exact BL) | (with_reducible refine Blk.drew ?_) | (with_reducible refine Blk.set6 ?_ (by omega)))))
           (first
             | (go_at_call 58; have _t := tok1; refine (PO _).mono ?_; rintro e a14 ⟨js1, jo1, jn1, jc1, jd1, js2, jo2, jn2, jc2, jd2, js3, jo3, jn3, jc3, jd3, rfl, Nj1, Nj2, Nj3, hB⟩; (first | (replace BF := BF.step hB; replace BL := BL.step hB; replace BP := BP.step hB; replace BQ := BQ.step hB; replace HB := HB.trans (hB.mono HB.size)) | (replace BF := BF.drew.step hB; replace BL := BL.drew.step hB; replace BP := BP.drew.step hB; replace BQ := BQ.drew.step hB; replace HB := HB.drew.trans (hB.mono HB.drew.size))); clear hB; clear tok1 _t)
             | (go_at_call 58; refine (PL _).mono ?_; rintro e a15 ⟨ks1, ko1, kn1, kc1, kd1, ks2, ko2, kn2, kc2, kd2, ks3, ko3, kn3, kc3, kd3, rfl, Nk1, Nk2, Nk3, hB⟩; (first | (replace BF := BF.step hB; replace BL := BL.step hB; replace BP := BP.step hB; replace BQ := BQ.step hB; replace HB := HB.trans (hB.mono HB.size)) | (replace BF := BF.drew.step hB; replace BL := BL.drew.step hB; replace BP := BP.drew.step hB; replace BQ := BQ.drew.step hB; replace HB := HB.drew.trans (hB.mono HB.drew.size))); replace Nj1 := Nj1.below hB; replace Nj2 := Nj2.below hB; replace Nj3 := Nj3.below hB; clear hB; obtain ⟨xc0, xf0, xc1, xf1, xc2, xf2, xc3, xf3, xc4, xf4, xc5, xf5⟩ := BP.cf6; have xl := BP.lt; obtain ⟨yc0, yf0, yc1, yf1, yc2, yf2, yc3, yf3, yc4, yf4, yc5, yf5⟩ := BQ.cf6; have yl := BQ.lt))
         all_goals clear BF BL PO PL
         all_goals (
           have BQ6 := BQ.set6 (g := (w.heap.size + 1 + 1)) (v0 := .bool js1) (v1 := .slice jo1 jn1 jc1) (v2 := .bool js2) (v3 := .slice jo2 jn2 jc2) (v4 := .bool js3) (v5 := .slice jo3 jn3 jc3) (by omega)
           go_wp2
           refine bodyPost_ret (v := .tuple #[.int .i64 2, .agg #[.bool js1, .slice jo1 jn1 jc1, .bool js2, .slice jo2 jn2 jc2, .bool js3, .slice jo3 jn3 jc3], .agg #[.bool ks1, .slice ko1 kn1 kc1, .bool ks2, .slice ko2 kn2 kc2, .bool ks3, .slice ko3 kn3 kc3]]) (by simp [results, Tryz.results71, go_sem, xc0, yc0, xc1, yc1, xc2, yc2, xc3, yc3, xc4, yc4, xc5, yc5]) rfl ?_
           refine ⟨?_, Or.inr (Or.inr ⟨a, b, u, v, _, _, HO.out, small_int (by omega) (by omega), small_int (by omega) (by omega), small_int (by omega) (by omega), small_int (by omega) (by omega), rfl, ⟨js1, jo1, jn1, jc1, jd1, js2, jo2, jn2, jc2, jd2, js3, jo3, jn3, jc3, jd3, rfl, ?_, ?_, ?_⟩, ks1, ko1, kn1, kc1, kd1, ks2, ko2, kn2, kc2, kd2, ks3, ko3, kn3, kc3, kd3, rfl, ?_, ?_, ?_⟩)⟩
           · repeat' (refine Below.setCell ?_ (by simp; try omega) _)
             first | exact HB | exact HB.drew
           · first | exact num_set6 (num_set6 Nj1 BP (.bool js1) (.slice jo1 jn1 jc1) (.bool js2) (.slice jo2 jn2 jc2) (.bool js3) (.slice jo3 jn3 jc3)) BQ6 (.bool ks1) (.slice ko1 kn1 kc1) (.bool ks2) (.slice ko2 kn2 kc2) (.bool ks3) (.slice ko3 kn3 kc3) | exact num_set6 (num_set6 Nj1.drew BP (.bool js1) (.slice jo1 jn1 jc1) (.bool js2) (.slice jo2 jn2 jc2) (.bool js3) (.slice jo3 jn3 jc3)) BQ6 (.bool ks1) (.slice ko1 kn1 kc1) (.bool ks2) (.slice ko2 kn2 kc2) (.bool ks3) (.slice ko3 kn3 kc3)
           · first | exact num_set6 (num_set6 Nj2 BP (.bool js1) (.slice jo1 jn1 jc1) (.bool js2) (.slice jo2 jn2 jc2) (.bool js3) (.slice jo3 jn3 jc3)) BQ6 (.bool ks1) (.slice ko1 kn1 kc1) (.bool ks2) (.slice ko2 kn2 kc2) (.bool ks3) (.slice ko3 kn3 kc3) | exact num_set6 (num_set6 Nj2.drew BP (.bool js1) (.slice jo1 jn1 jc1) (.bool js2) (.slice jo2 jn2 jc2) (.bool js3) (.slice jo3 jn3 jc3)) BQ6 (.bool ks1) (.slice ko1 kn1 kc1) (.bool ks2) (.slice ko2 kn2 kc2) (.bool ks3) (.slice ko3 kn3 kc3)
           · first | exact num_set6 (num_set6 Nj3 BP (.bool js1) (.slice jo1 jn1 jc1) (.bool js2) (.slice jo2 jn2 jc2) (.bool js3) (.slice jo3 jn3 jc3)) BQ6 (.bool ks1) (.slice ko1 kn1 kc1) (.bool ks2) (.slice ko2 kn2 kc2) (.bool ks3) (.slice ko3 kn3 kc3) | exact num_set6 (num_set6 Nj3.drew BP (.bool js1) (.slice jo1 jn1 jc1) (.bool js2) (.slice jo2 jn2 jc2) (.bool js3) (.slice jo3 jn3 jc3)) BQ6 (.bool ks1) (.slice ko1 kn1 kc1) (.bool ks2) (.slice ko2 kn2 kc2) (.bool ks3) (.slice ko3 kn3 kc3)
           · first | exact num_set6 (num_set6 Nk1 BP (.bool js1) (.slice jo1 jn1 jc1) (.bool js2) (.slice jo2 jn2 jc2) (.bool js3) (.slice jo3 jn3 jc3)) BQ6 (.bool ks1) (.slice ko1 kn1 kc1) (.bool ks2) (.slice ko2 kn2 kc2) (.bool ks3) (.slice ko3 kn3 kc3) | exact num_set6 (num_set6 Nk1.drew BP (.bool js1) (.slice jo1 jn1 jc1) (.bool js2) (.slice jo2 jn2 jc2) (.bool js3) (.slice jo3 jn3 jc3)) BQ6 (.bool ks1) (.slice ko1 kn1 kc1) (.bool ks2) (.slice ko2 kn2 kc2) (.bool ks3) (.slice ko3 kn3 kc3)
           · first | exact num_set6 (num_set6 Nk2 BP (.bool js1) (.slice jo1 jn1 jc1) (.bool js2) (.slice jo2 jn2 jc2) (.bool js3) (.slice jo3 jn3 jc3)) BQ6 (.bool ks1) (.slice ko1 kn1 kc1) (.bool ks2) (.slice ko2 kn2 kc2) (.bool ks3) (.slice ko3 kn3 kc3) | exact num_set6 (num_set6 Nk2.drew BP (.bool js1) (.slice jo1 jn1 jc1) (.bool js2) (.slice jo2 jn2 jc2) (.bool js3) (.slice jo3 jn3 jc3)) BQ6 (.bool ks1) (.slice ko1 kn1 kc1) (.bool ks2) (.slice ko2 kn2 kc2) (.bool ks3) (.slice ko3 kn3 kc3)
           · first | exact num_set6 (num_set6 Nk3 BP (.bool js1) (.slice jo1 jn1 jc1) (.bool js2) (.slice jo2 jn2 jc2) (.bool js3) (.slice jo3 jn3 jc3)) BQ6 (.bool ks1) (.slice ko1 kn1 kc1) (.bool ks2) (.slice ko2 kn2 kc2) (.bool ks3) (.slice ko3 kn3 kc3) | exact num_set6 (num_set6 Nk3.drew BP (.bool js1) (.slice jo1 jn1 jc1) (.bool js2) (.slice jo2 jn2 jc2) (.bool js3) (.slice jo3 jn3 jc3)) BQ6 (.bool ks1) (.slice ko1 kn1 kc1) (.bool ks2) (.slice ko2 kn2 kc2) (.bool ks3) (.slice ko3 kn3 kc3))
   · have h2' := Bool.eq_false_iff.2 h2
     rw [h2']
     have H2 : Hid (lessI u v c d = false) := h2'
     clear h2 h2'
     obtain ⟨sc0, sc1, sc2, sc3⟩ := BS.cs4; have sl := BS.lt; obtain ⟨tc0, tc1, tc2, tc3⟩ := BT.cs4; have tl := BT.lt; obtain ⟨fc0, ff0, fc1, ff1⟩ := BF.cf2; have fl := BF.lt; obtain ⟨lc0, lf0, lc1, lf1⟩ := BL.cf2; have ll := BL.lt
     go_wp2_with fail
     refine (l4Less_any c d a b _ rfl _).mono ?_
     rintro e a16 ⟨rfl, hB⟩
     replace BS := BS.step hB
     replace BT := BT.step hB
     replace BF := BF.step hB
     replace BL := BL.step hB
     replace BP := BP.step hB
     replace BQ := BQ.step hB
     replace HB := HB.trans (hB.mono HB.size)
     clear hB sc0 sc1 sc2 sc3 sl tc0 tc1 tc2 tc3 tl fc0 ff0 fc1 ff1 fl lc0 lf0 lc1 lf1 ll
     by_cases hA : lessI c d a b = true
     · rw [hA]
       have HO : Hid (meetW a b c d p q u v = .tuple #[.int .i64 0, .agg #[.int .u64 0, .int .u64 0, .int .u64 0, .int .u64 0, .int .u64 0, .int .u64 0, .int .u64 0, .int .u64 0, .int .u64 0, .int .u64 0, .int .u64 0, .int .u64 0], .agg #[.int .u64 0, .int .u64 0, .int .u64 0, .int .u64 0, .int .u64 0, .int .u64 0, .int .u64 0, .int .u64 0, .int .u64 0, .int .u64 0, .int .u64 0, .int .u64 0]]) := by show _ = _; rw [HW.out]; unfold alongV; rw [show (if lessI a b p q = true then p else a) = a by rw [H1.out]; rfl, show (if lessI a b p q = true then q else b) = b by rw [H1.out]; rfl, show (if lessI u v c d = true then u else c) = c by rw [H2.out]; rfl, show (if lessI u v c d = true then v else d) = d by rw [H2.out]; rfl, if_pos (Or.inr hA)]
       clear hA BS BT BF BL
       obtain ⟨xc0, xf0, xc1, xf1, xc2, xf2, xc3, xf3, xc4, xf4, xc5, xf5⟩ := BP.cf6; have xl := BP.lt; obtain ⟨yc0, yf0, yc1, yf1, yc2, yf2, yc3, yf3, yc4, yf4, yc5, yf5⟩ := BQ.cf6; have yl := BQ.lt
       go_wp2
       refine bodyPost_ret (v := .tuple #[.int .i64 0, .agg #[.bool false, .slice none 0 0, .bool false, .slice none 0 0, .bool false, .slice none 0 0], .agg #[.bool false, .slice none 0 0, .bool false, .slice none 0 0, .bool false, .slice none 0 0]]) (by simp [results, Tryz.results71, go_sem, xc0, yc0, xc1, yc1, xc2, yc2, xc3, yc3, xc4, yc4, xc5, yc5]) rfl ?_
       refine ⟨?_, Or.inl ⟨HO.out, rfl⟩⟩
       repeat' (refine Below.setCell ?_ (by simp; try omega) _)
       exact HB
     · have hA' := Bool.eq_false_iff.2 hA
       rw [hA']
       have EQ := eqSp a b c d
       by_cases hE : a = c ∧ b = d
       · have HO : Hid (meetW a b c d p q u v = .tuple #[.int .i64 1, .agg #[.int .u64 (ww3 a), .int .u64 (ww2 a), .int .u64 (ww1 a), .int .u64 (ww0 a), .int .u64 (ww3 b), .int .u64 (ww2 b), .int .u64 (ww1 b), .int .u64 (ww0 b), .int .u64 (ww3 1), .int .u64 (ww2 1), .int .u64 (ww1 1), .int .u64 (ww0 1)], .agg #[.int .u64 0, .int .u64 0, .int .u64 0, .int .u64 0, .int .u64 0, .int .u64 0, .int .u64 0, .int .u64 0, .int .u64 0, .int .u64 0, .int .u64 0, .int .u64 0]]) := by show _ = _; rw [HW.out]; unfold alongV; rw [show (if lessI a b p q = true then p else a) = a by rw [H1.out]; rfl, show (if lessI a b p q = true then q else b) = b by rw [H1.out]; rfl, show (if lessI u v c d = true then u else c) = c by rw [H2.out]; rfl, show (if lessI u v c d = true then v else d) = d by rw [H2.out]; rfl, if_neg (by rw [hA']; rintro (h | h); exact h HT.out; cases h), if_pos hE]
         rw [show (decide (a = c) && decide (b = d)) = true by rw [hE.1, hE.2]; simp] at EQ
         have PO := l3Spot_det a b (by omega) (by omega)
         clear hA hA' hE
         obtain ⟨sc0, sc1, sc2, sc3⟩ := BS.cs4; have sl := BS.lt; obtain ⟨tc0, tc1, tc2, tc3⟩ := BT.cs4; have tl := BT.lt; obtain ⟨fc0, ff0, fc1, ff1⟩ := BF.cf2; have fl := BF.lt; obtain ⟨lc0, lf0, lc1, lf1⟩ := BL.cf2; have ll := BL.lt
         go_wp2_with fail
         refine (PO _).mono ?_
         rintro e a17 ⟨js1, jo1, jn1, jc1, jd1, js2, jo2, jn2, jc2, jd2, js3, jo3, jn3, jc3, jd3, rfl, Nj1, Nj2, Nj3, hB⟩
         replace BP := BP.step hB; replace BQ := BQ.step hB; replace HB := HB.trans (hB.mono HB.size)
         clear hB sc0 sc1 sc2 sc3 sl tc0 tc1 tc2 tc3 tl fc0 ff0 fc1 ff1 fl lc0 lf0 lc1 lf1 ll BS BT BF BL PO EQ
         obtain ⟨xc0, xf0, xc1, xf1, xc2, xf2, xc3, xf3, xc4, xf4, xc5, xf5⟩ := BP.cf6; have xl := BP.lt; obtain ⟨yc0, yf0, yc1, yf1, yc2, yf2, yc3, yf3, yc4, yf4, yc5, yf5⟩ := BQ.cf6; have yl := BQ.lt
         have BQ6 := BQ.set6 (g := (w.heap.size + 1 + 1)) (v0 := .bool js1) (v1 := .slice jo1 jn1 jc1) (v2 := .bool js2) (v3 := .slice jo2 jn2 jc2) (v4 := .bool js3) (v5 := .slice jo3 jn3 jc3) (by omega)
         go_wp2
         refine bodyPost_ret (v := .tuple #[.int .i64 1, .agg #[.bool js1, .slice jo1 jn1 jc1, .bool js2, .slice jo2 jn2 jc2, .bool js3, .slice jo3 jn3 jc3], .agg #[.bool false, .slice none 0 0, .bool false, .slice none 0 0, .bool false, .slice none 0 0]]) (by simp [results, Tryz.results71, go_sem, xc0, yc0, xc1, yc1, xc2, yc2, xc3, yc3, xc4, yc4, xc5, yc5]) rfl ?_
         refine ⟨?_, Or.inr (Or.inl ⟨a, b, 1, _, HO.out, small_int (by omega) (by omega), small_int (by omega) (by omega), small_int (by omega) (by omega), rfl, js1, jo1, jn1, jc1, jd1, js2, jo2, jn2, jc2, jd2, js3, jo3, jn3, jc3, jd3, rfl, ?_, ?_, ?_⟩)⟩
         · repeat' (refine Below.setCell ?_ (by simp; try omega) _)
           exact HB
         · exact num_set6 (num_set6 Nj1 BP (.bool js1) (.slice jo1 jn1 jc1) (.bool js2) (.slice jo2 jn2 jc2) (.bool js3) (.slice jo3 jn3 jc3)) BQ6 (.bool false) (.slice none 0 0) (.bool false) (.slice none 0 0) (.bool false) (.slice none 0 0)
         · exact num_set6 (num_set6 Nj2 BP (.bool js1) (.slice jo1 jn1 jc1) (.bool js2) (.slice jo2 jn2 jc2) (.bool js3) (.slice jo3 jn3 jc3)) BQ6 (.bool false) (.slice none 0 0) (.bool false) (.slice none 0 0) (.bool false) (.slice none 0 0)
         · exact num_set6 (num_set6 Nj3 BP (.bool js1) (.slice jo1 jn1 jc1) (.bool js2) (.slice jo2 jn2 jc2) (.bool js3) (.slice jo3 jn3 jc3)) BQ6 (.bool false) (.slice none 0 0) (.bool false) (.slice none 0 0) (.bool false) (.slice none 0 0)
       · have HO : Hid (meetW a b c d p q u v = .tuple #[.int .i64 2, .agg #[.int .u64 (ww3 a), .int .u64 (ww2 a), .int .u64 (ww1 a), .int .u64 (ww0 a), .int .u64 (ww3 b), .int .u64 (ww2 b), .int .u64 (ww1 b), .int .u64 (ww0 b), .int .u64 (ww3 1), .int .u64 (ww2 1), .int .u64 (ww1 1), .int .u64 (ww0 1)], .agg #[.int .u64 (ww3 c), .int .u64 (ww2 c), .int .u64 (ww1 c), .int .u64 (ww0 c), .int .u64 (ww3 d), .int .u64 (ww2 d), .int .u64 (ww1 d), .int .u64 (ww0 d), .int .u64 (ww3 1), .int .u64 (ww2 1), .int .u64 (ww1 1), .int .u64 (ww0 1)]]) := by show _ = _; rw [HW.out]; unfold alongV; rw [show (if lessI a b p q = true then p else a) = a by rw [H1.out]; rfl, show (if lessI a b p q = true then q else b) = b by rw [H1.out]; rfl, show (if lessI u v c d = true then u else c) = c by rw [H2.out]; rfl, show (if lessI u v c d = true then v else d) = d by rw [H2.out]; rfl, if_neg (by rw [hA']; rintro (h | h); exact h HT.out; cases h), if_neg hE]
         rw [show (decide (a = c) && decide (b = d)) = false by rw [← Bool.decide_and]; exact decide_eq_false hE] at EQ
         have PO := l3Spot_det a b (by omega) (by omega)
         have PL := l3Spot_det c d (by omega) (by omega)
         clear hA hA' hE BS BT
         have tok1 : True := trivial
         obtain ⟨fc0, ff0, fc1, ff1⟩ := BF.cf2; have fl := BF.lt; obtain ⟨lc0, lf0, lc1, lf1⟩ := BL.cf2; have ll := BL.lt
         go_upto_region 16 with fail
         clear fc0 ff0 fc1 ff1 fl lc0 lf0 lc1 lf1 ll EQ
         go_region_held3 (fun w' => w'.cell? ⟨gF, 0, none⟩ = some (.int .i64 a) ∧ w'.cell? ⟨gF, 1, none⟩ = some (.int .i64 b) ∧ w'.cell? ⟨gL, 0, none⟩ = some (.int .i64 c) ∧ w'.cell? ⟨gL, 1, none⟩ = some (.int .i64 d)) ((refine al_cells ?_ ?_ <;> repeat (first | (with_reducible exact BF) | (with_reducible exact BL) | (with_reducible refine Blk.drew ?_) | (with_reducible refine Blk.set6 ?_ (by omega)))))
           (first
             | (go_at_call 58; have _t := tok1; refine (PO _).mono ?_; rintro e a18 ⟨js1, jo1, jn1, jc1, jd1, js2, jo2, jn2, jc2, jd2, js3, jo3, jn3, jc3, jd3, rfl, Nj1, Nj2, Nj3, hB⟩; (first | (replace BF := BF.step hB; replace BL := BL.step hB; replace BP := BP.step hB; replace BQ := BQ.step hB; replace HB := HB.trans (hB.mono HB.size)) | (replace BF := BF.drew.step hB; replace BL := BL.drew.step hB; replace BP := BP.drew.step hB; replace BQ := BQ.drew.step hB; replace HB := HB.drew.trans (hB.mono HB.drew.size))); clear hB; clear tok1 _t)
             | (go_at_call 58; refine (PL _).mono ?_; rintro e a19 ⟨ks1, ko1, kn1, kc1, kd1, ks2, ko2, kn2, kc2, kd2, ks3, ko3, kn3, kc3, kd3, rfl, Nk1, Nk2, Nk3, hB⟩; (first | (replace BF := BF.step hB; replace BL := BL.step hB; replace BP := BP.step hB; replace BQ := BQ.step hB; replace HB := HB.trans (hB.mono HB.size)) | (replace BF := BF.drew.step hB; replace BL := BL.drew.step hB; replace BP := BP.drew.step hB; replace BQ := BQ.drew.step hB; replace HB := HB.drew.trans (hB.mono HB.drew.size))); replace Nj1 := Nj1.below hB; replace Nj2 := Nj2.below hB; replace Nj3 := Nj3.below hB; clear hB; obtain ⟨xc0, xf0, xc1, xf1, xc2, xf2, xc3, xf3, xc4, xf4, xc5, xf5⟩ := BP.cf6; have xl := BP.lt; obtain ⟨yc0, yf0, yc1, yf1, yc2, yf2, yc3, yf3, yc4, yf4, yc5, yf5⟩ := BQ.cf6; have yl := BQ.lt))
         all_goals clear BF BL PO PL
         all_goals (
           have BQ6 := BQ.set6 (g := (w.heap.size + 1 + 1)) (v0 := .bool js1) (v1 := .slice jo1 jn1 jc1) (v2 := .bool js2) (v3 := .slice jo2 jn2 jc2) (v4 := .bool js3) (v5 := .slice jo3 jn3 jc3) (by omega)
           go_wp2
           refine bodyPost_ret (v := .tuple #[.int .i64 2, .agg #[.bool js1, .slice jo1 jn1 jc1, .bool js2, .slice jo2 jn2 jc2, .bool js3, .slice jo3 jn3 jc3], .agg #[.bool ks1, .slice ko1 kn1 kc1, .bool ks2, .slice ko2 kn2 kc2, .bool ks3, .slice ko3 kn3 kc3]]) (by simp [results, Tryz.results71, go_sem, xc0, yc0, xc1, yc1, xc2, yc2, xc3, yc3, xc4, yc4, xc5, yc5]) rfl ?_
           refine ⟨?_, Or.inr (Or.inr ⟨a, b, c, d, _, _, HO.out, small_int (by omega) (by omega), small_int (by omega) (by omega), small_int (by omega) (by omega), small_int (by omega) (by omega), rfl, ⟨js1, jo1, jn1, jc1, jd1, js2, jo2, jn2, jc2, jd2, js3, jo3, jn3, jc3, jd3, rfl, ?_, ?_, ?_⟩, ks1, ko1, kn1, kc1, kd1, ks2, ko2, kn2, kc2, kd2, ks3, ko3, kn3, kc3, kd3, rfl, ?_, ?_, ?_⟩)⟩
           · repeat' (refine Below.setCell ?_ (by simp; try omega) _)
             first | exact HB | exact HB.drew
           · first | exact num_set6 (num_set6 Nj1 BP (.bool js1) (.slice jo1 jn1 jc1) (.bool js2) (.slice jo2 jn2 jc2) (.bool js3) (.slice jo3 jn3 jc3)) BQ6 (.bool ks1) (.slice ko1 kn1 kc1) (.bool ks2) (.slice ko2 kn2 kc2) (.bool ks3) (.slice ko3 kn3 kc3) | exact num_set6 (num_set6 Nj1.drew BP (.bool js1) (.slice jo1 jn1 jc1) (.bool js2) (.slice jo2 jn2 jc2) (.bool js3) (.slice jo3 jn3 jc3)) BQ6 (.bool ks1) (.slice ko1 kn1 kc1) (.bool ks2) (.slice ko2 kn2 kc2) (.bool ks3) (.slice ko3 kn3 kc3)
           · first | exact num_set6 (num_set6 Nj2 BP (.bool js1) (.slice jo1 jn1 jc1) (.bool js2) (.slice jo2 jn2 jc2) (.bool js3) (.slice jo3 jn3 jc3)) BQ6 (.bool ks1) (.slice ko1 kn1 kc1) (.bool ks2) (.slice ko2 kn2 kc2) (.bool ks3) (.slice ko3 kn3 kc3) | exact num_set6 (num_set6 Nj2.drew BP (.bool js1) (.slice jo1 jn1 jc1) (.bool js2) (.slice jo2 jn2 jc2) (.bool js3) (.slice jo3 jn3 jc3)) BQ6 (.bool ks1) (.slice ko1 kn1 kc1) (.bool ks2) (.slice ko2 kn2 kc2) (.bool ks3) (.slice ko3 kn3 kc3)
           · first | exact num_set6 (num_set6 Nj3 BP (.bool js1) (.slice jo1 jn1 jc1) (.bool js2) (.slice jo2 jn2 jc2) (.bool js3) (.slice jo3 jn3 jc3)) BQ6 (.bool ks1) (.slice ko1 kn1 kc1) (.bool ks2) (.slice ko2 kn2 kc2) (.bool ks3) (.slice ko3 kn3 kc3) | exact num_set6 (num_set6 Nj3.drew BP (.bool js1) (.slice jo1 jn1 jc1) (.bool js2) (.slice jo2 jn2 jc2) (.bool js3) (.slice jo3 jn3 jc3)) BQ6 (.bool ks1) (.slice ko1 kn1 kc1) (.bool ks2) (.slice ko2 kn2 kc2) (.bool ks3) (.slice ko3 kn3 kc3)
           · first | exact num_set6 (num_set6 Nk1 BP (.bool js1) (.slice jo1 jn1 jc1) (.bool js2) (.slice jo2 jn2 jc2) (.bool js3) (.slice jo3 jn3 jc3)) BQ6 (.bool ks1) (.slice ko1 kn1 kc1) (.bool ks2) (.slice ko2 kn2 kc2) (.bool ks3) (.slice ko3 kn3 kc3) | exact num_set6 (num_set6 Nk1.drew BP (.bool js1) (.slice jo1 jn1 jc1) (.bool js2) (.slice jo2 jn2 jc2) (.bool js3) (.slice jo3 jn3 jc3)) BQ6 (.bool ks1) (.slice ko1 kn1 kc1) (.bool ks2) (.slice ko2 kn2 kc2) (.bool ks3) (.slice ko3 kn3 kc3)
           · first | exact num_set6 (num_set6 Nk2 BP (.bool js1) (.slice jo1 jn1 jc1) (.bool js2) (.slice jo2 jn2 jc2) (.bool js3) (.slice jo3 jn3 jc3)) BQ6 (.bool ks1) (.slice ko1 kn1 kc1) (.bool ks2) (.slice ko2 kn2 kc2) (.bool ks3) (.slice ko3 kn3 kc3) | exact num_set6 (num_set6 Nk2.drew BP (.bool js1) (.slice jo1 jn1 jc1) (.bool js2) (.slice jo2 jn2 jc2) (.bool js3) (.slice jo3 jn3 jc3)) BQ6 (.bool ks1) (.slice ko1 kn1 kc1) (.bool ks2) (.slice ko2 kn2 kc2) (.bool ks3) (.slice ko3 kn3 kc3)
           · first | exact num_set6 (num_set6 Nk3 BP (.bool js1) (.slice jo1 jn1 jc1) (.bool js2) (.slice jo2 jn2 jc2) (.bool js3) (.slice jo3 jn3 jc3)) BQ6 (.bool ks1) (.slice ko1 kn1 kc1) (.bool ks2) (.slice ko2 kn2 kc2) (.bool ks3) (.slice ko3 kn3 kc3) | exact num_set6 (num_set6 Nk3.drew BP (.bool js1) (.slice jo1 jn1 jc1) (.bool js2) (.slice jo2 jn2 jc2) (.bool js3) (.slice jo3 jn3 jc3)) BQ6 (.bool ks1) (.slice ko1 kn1 kc1) (.bool ks2) (.slice ko2 kn2 kc2) (.bool ks3) (.slice ko3 kn3 kc3))
end Go.Proofs.YtibbjjlapglndaaGreat
