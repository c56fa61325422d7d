/- Part 2 of the walks that the proof leans on. -/
import Derived.Test.YteakhlipmmfilaaGreatQy1
import Derived.Deep.RegionHeld3
import Derived.Deep.DeepCutAuto
import Derived.Deep.QuietTactic
import Derived.BigQuiet
import Derived.Deep.MidRow
import Derived.Test.YteakhlipmmfilaaGreatRows
import Derived.ProofKit
import Derived.Lib.SmallJoins
import Derived.Deep.Strs
namespace Go.Proofs.YteakhlipmmfilaaGreat
open Go.RowKit
theorem IsNum.drew {w : World} {s : Bool} {ao : Option Addr} {n cap : Nat} {ds : List Int} {z : Int} {k : Nat} (h : IsNum w s ao n cap ds z k) : IsNum w.drew s ao n cap ds z k := ⟨h.neg, h.len, h.cap, h.rd, h.nrm, h.val, h.le⟩
theorem IsNum.negated {w : World} {s : Bool} {ao : Option Addr} {n cap : Nat} {ds : List Int} {z : Int} {k : Nat} (h : IsNum w s ao n cap ds z k) (hz : z ≠ 0) : IsNum w (!s) ao n cap ds (-z) k :=
 ⟨by rw [h.neg]; by_cases h' : z < 0 <;> simp [h'] <;> omega, h.len, h.cap, h.rd, h.nrm, by rw [h.val]; omega, h.le⟩
set_option maxRecDepth 100000 in
set_option maxHeartbeats 400000 in
theorem neg_any (s : Bool) (ao : Option Addr) (n cap : Nat) (ds : List Int) (z : Int) (k : Nat) (w : World) (h : IsNum w s ao n cap ds z k) :
   Calls Tryz.prog 144 #[.agg #[.bool s, .slice ao n cap]] w (NumP k (-z) w) := by
 have h1 := h.zero
 have hB : ∀ o o', Below w.heap.size w ((w.alloc o).alloc o') := fun o o' => ((Below.refl _ _).alloc (Nat.le_refl _) o).alloc (by simp) o'
 by_cases hz : z = 0
 · subst hz
   have hn := h1.2 rfl
   subst hn
   have HH : Hid (IsNum w s ao 0 cap ds 0 k) := h
   clear h1 h
   go_enter Tryz.func144, Tryz.ntmps144
   go_wp2
   refine bodyPost_ret (v := .agg #[.bool s, .slice ao 0 cap]) (by simp [results, Tryz.results144, go_sem]) rfl ?_
   exact ⟨s, ao, 0, cap, ds, rfl, by simpa using HH.out.below (hB _ _), hB _ _⟩
 · have hn : ((n : Int) == 0) = false := beq_eq_false_iff_ne.2 (by have := fun h => hz (h1.1 h); omega)
   have HH : Hid (IsNum w (!s) ao n cap ds (-z) k) := h.negated hz
   clear h1 h
   go_enter Tryz.func144, Tryz.ntmps144
   go_wp2
   refine bodyPost_ret (v := .agg #[.bool (!s), .slice ao n cap]) (by simp [results, Tryz.results144, go_sem]) rfl ?_
   exact ⟨!s, ao, n, cap, ds, rfl, HH.out.below (hB _ _), hB _ _⟩
set_option maxRecDepth 100000 in
set_option maxHeartbeats 1000000 in
theorem sub_any (s t : Bool) (ao bo : Option Addr) (n m ca cb k : Nat) (xs ys : List Int) (x y : Int) (w : World) (hx : IsNum w s ao n ca xs x k) (hy : IsNum w t bo m cb ys y k) (hk : k ≤ 1000000) :
   Calls Tryz.prog 155 #[.agg #[.bool s, .slice ao n ca], .agg #[.bool t, .slice bo m cb]] w (NumP (k + 1) (x - y) w) := by
 have T0 := two_start w (.bool s) (.slice ao n ca) (.bool t) (.slice bo m cb)
 have nx := (hx.below T0.below).drew
 have ny := (hy.below T0.below).drew
 clear hx hy
 go_enter Tryz.func155, Tryz.ntmps155
 go_wp2
 generalize ((w.alloc (Obj.cells #[Value.bool s, Value.slice ao n ca] 88)).alloc (Obj.cells #[Value.bool t, Value.slice bo m cb] 88)).alloc (Obj.cells #[Value.bool false, Value.slice none 0 0] 88) = W at *
 go_region_held3 (fun w' => w'.cell? ⟨w.heap.size, 0, none⟩ = some (.bool s) ∧ w'.cell? ⟨w.heap.size, 1, none⟩ = some (.slice ao n ca) ∧ w'.cell? ⟨w.heap.size + 1, 0, none⟩ = some (.bool t) ∧ w'.cell? ⟨w.heap.size + 1, 1, none⟩ = some (.slice bo m cb))
   (first | exact ⟨two_keep _ _ (by omega) T2.a0, two_keep _ _ (by omega) T2.a1, two_keep _ _ (by omega) T2.b0, two_keep _ _ (by omega) T2.b1⟩ | exact ⟨T2.a0, T2.a1, T2.b0, T2.b1⟩ | exact ⟨T1.a0, T1.a1, T1.b0, T1.b1⟩ | exact ⟨T0.a0, T0.a1, T0.b0, T0.b1⟩)
   (first
     | (go_at_call 144; refine (neg_any t bo m cb ys y k _ ny).mono ?_; rintro e w1 ⟨s1, ao1, n1, c1, ds1, rfl, hN1, hB1⟩; have T1 := T0.drew.step hB1; have nx1 := nx.below hB1; clear hB1)
     | (go_at_call 92; refine (add_any s s1 ao ao1 n n1 ca c1 k xs ds1 x (-y) _ nx1 hN1 hk).mono ?_; rintro e w2 ⟨s2, ao2, n2, c2, ds2, rfl, hN2, hB2⟩; have T2 := T1.step hB2; have c0 := T2.r0; have c1 := T2.r1; have f0 := T2.f0; have f1 := T2.f1; clear hB2))
 all_goals go_wp2
 all_goals refine bodyPost_ret (v := .agg #[.bool s2, .slice ao2 n2 c2]) (by simp [results, Tryz.results155, go_sem, c0, c1]) rfl ?_
 all_goals exact num_ret' (by omega) c0 c1 hN2 T2.below
set_option maxRecDepth 100000 in
set_option maxHeartbeats 400000 in
theorem cmp_any (s t : Bool) (ao bo : Option Addr) (n m ca cb k : Nat) (xs ys : List Int) (x y : Int) (w : World) (hx : IsNum w s ao n ca xs x k) (hy : IsNum w t bo m cb ys y k) (hk : k ≤ 1000000) :
   Calls Tryz.prog 106 #[.agg #[.bool s, .slice ao n ca], .agg #[.bool t, .slice bo m cb]] w (IntP (cmpI x y) w) := by
 have hB : ∀ o o', Below w.heap.size w ((w.alloc o).alloc o') := fun o o' => ((Below.refl _ _).alloc (Nat.le_refl _) o).alloc (by simp) o'
 go_enter Tryz.func106, Tryz.ntmps106
 go_wp2_with fail
 refine (sub_any s t ao bo n m ca cb k xs ys x y _ (hx.below (hB _ _)) (hy.below (hB _ _)) hk).mono ?_
 rintro e w1 ⟨s1, ao1, n1, c1, ds1, rfl, hN1, hB1⟩
 have hB2 := (hB _ _).trans (hB1.mono (by simp; omega))
 clear hB1
 go_wp2_with fail
 refine (sign_any s1 ao1 n1 c1 ds1 _ _ _ hN1).mono ?_
 rintro e w2 ⟨rfl, hB3⟩
 have hB4 := hB2.trans (hB3.mono hB2.size)
 clear hB2 hB3 hN1
 go_wp2
 go_ret
 exact ⟨ret_int (by unfold cmpI; by_cases h1 : x < y <;> by_cases h2 : y < x <;> simp [h1, h2] <;> omega), hB4⟩
def SwP (z : Int) (w : World) (e : Ending) (w' : World) : Prop :=
 ∃ a3 a2 a1 a0, e = .returned (.agg #[.int .u64 a3, .int .u64 a2, .int .u64 a1, .int .u64 a0]) ∧ Word a3 ∧ Word a2 ∧ Word a1 ∧ Word a0 ∧ sw a3 a2 a1 a0 = z ∧ Below w.heap.size w w'
set_option maxRecDepth 100000 in
set_option maxHeartbeats 1000000 in
theorem implOf_any (n : Int) (w : World) (h0 : -9223372036854775808 ≤ n) (h1 : n ≤ 9223372036854775807) :
   Calls Tryz.prog 159 #[.int .i64 n] w (SwP n w) := by
 by_cases hn : n < 0
 · have hd1 : IntKind.u64.wrap (n / 9223372036854775808) = 18446744073709551615 := by rw [IntKind.wrap_u64]; omega
   have hd2 : IntKind.u64.wrap n = n + 18446744073709551616 := by rw [IntKind.wrap_u64]; omega
   go_enter Tryz.func159, Tryz.ntmps159
   go_wp2
   refine bodyPost_ret (v := .agg #[.int .u64 18446744073709551615, .int .u64 18446744073709551615, .int .u64 18446744073709551615, .int .u64 (n + 18446744073709551616)]) (by simp [results, Tryz.results159, go_sem]) rfl ?_
   refine ⟨_, _, _, _, rfl, ⟨by decide, by decide⟩, ⟨by decide, by decide⟩, ⟨by decide, by decide⟩, ⟨by omega, by omega⟩, ?_, (Below.refl _ _).alloc (Nat.le_refl _) _⟩
   unfold sw uw; rw [if_neg (by decide)]; omega
 · have hd1 : n / 9223372036854775808 = 0 := by omega
   go_enter Tryz.func159, Tryz.ntmps159
   go_wp2
   refine bodyPost_ret (v := .agg #[.int .u64 0, .int .u64 0, .int .u64 0, .int .u64 n]) (by simp [results, Tryz.results159, go_sem]) rfl ?_
   refine ⟨_, _, _, _, rfl, ⟨by decide, by decide⟩, ⟨by decide, by decide⟩, ⟨by decide, by decide⟩, ⟨by omega, by omega⟩, ?_, (Below.refl _ _).alloc (Nat.le_refl _) _⟩
   unfold sw uw; rw [if_pos (by decide)]; omega
structure Wd (W : World) (g : Nat) (a3 a2 a1 a0 : Int) : Prop where
 c0 : W.cell? ⟨g, 0, none⟩ = some (.int .u64 a3)
 c1 : W.cell? ⟨g, 1, none⟩ = some (.int .u64 a2)
 c2 : W.cell? ⟨g, 2, none⟩ = some (.int .u64 a1)
 c3 : W.cell? ⟨g, 3, none⟩ = some (.int .u64 a0)
 f0 : W.frozen? ⟨g, 0, none⟩ = false
 f1 : W.frozen? ⟨g, 1, none⟩ = false
 f2 : W.frozen? ⟨g, 2, none⟩ = false
 f3 : W.frozen? ⟨g, 3, none⟩ = false
 lt : g < W.heap.size
def GcdWP (x y : Int) (w : World) (e : Ending) (w' : World) : Prop := e = .returned (.int .u64 (Int.gcd x y : Int)) ∧ Below w.heap.size w w'
theorem gcd_down {x y : Int} (hx : 0 ≤ x) (hy : 0 < y) : Int.gcd y (x % y) = Int.gcd x y := by
 obtain ⟨a, rfl⟩ := Int.eq_ofNat_of_zero_le hx
 obtain ⟨b, rfl⟩ := Int.eq_ofNat_of_zero_le (Int.le_of_lt hy)
 rw [show ((a : Int) % (b : Int)) = ((a % b : Nat) : Int) from (Int.natCast_emod a b).symm, Int.gcd_natCast_natCast, Int.gcd_natCast_natCast, Nat.gcd_comm a b, Nat.gcd_rec b a, Nat.gcd_comm]
set_option maxRecDepth 100000 in
set_option maxHeartbeats 400000 in
theorem gcdW_any (x y : Int) (hx : Word x) (hy : Word y) (w : World) : Calls Tryz.prog 173 #[.int .u64 x, .int .u64 y] w (GcdWP x y w) := by
 go_enter Tryz.func173, Tryz.ntmps173
 go_wp2
 go_loopg [0, 1] y.toNat (fun k p q wr => ∃ a b : Int, p = .int .u64 a ∧ q = .int .u64 b ∧ Word a ∧ Word b ∧ b.toNat = k ∧ Int.gcd a b = Int.gcd x y ∧ Below w.heap.size w wr)
 case atStart => exact ⟨x, y, rfl, rfl, hx, hy, rfl, rfl, Below.refl _ _⟩
 case round =>
   obtain ⟨a, b, rfl, rfl, ha, hb, hk, hg, hB⟩ := hrel
   have HG : Hid (Int.gcd a b = Int.gcd x y) := hg
   clear hg
   by_cases h0 : b = 0
   · subst h0
     go_wp2
     go_ret
     refine ⟨?_, hB⟩
     rw [← HG.out]
     have := ha.1
     simp
     omega
   · have hb0 : 0 < b := by have := hb.1; omega
     have d2 : a.tmod b = a % b := Int.tmod_eq_emod_of_nonneg ha.1
     have e0 := Int.emod_nonneg a (b := b) h0
     have e1 := Int.emod_lt_of_pos a hb0
     have e2 : Word (a % b) := ⟨e0, Int.lt_trans e1 hb.2⟩
     have e3 : Hid (Int.gcd b (a % b) = Int.gcd x y) := (gcd_down ha.1 hb0).trans HG.out
     have d3 := wrap_word e2.1 e2.2
     go_wp2
     go_quiet (fail)
     go_wp2
     go_roundg (a % b).toNat
     case measure => omega
     case rel => exact ⟨b, a % b, rfl, rfl, hb, e2, rfl, e3.out, bdrew hB _⟩
theorem val_set (zs : List Int) (j : Nat) (h : j < zs.length) (u : Int) : val (zs.set j u) = val zs + pw j * (u - zs[j]) := by
 have e1 := val_split zs j h
 have e2 := val_split (zs.set j u) j (by simpa using h)
 rw [e2, e1]
 have t1 : (zs.set j u).take j = zs.take j := by rw [List.take_set_of_le (by omega)]
 have t2 : (zs.set j u).drop (j + 1) = zs.drop (j + 1) := by rw [List.drop_set_of_lt (by omega)]
 rw [t1, t2]
 simp only [List.getElem_set_self]
 grind
theorem dig_set {zs : List Int} (h : Dig zs) (j : Nat) {u : Int} (h0 : 0 ≤ u) (h1 : u < 4294967296) : Dig (zs.set j u) := by
 intro d hd
 rcases List.mem_or_eq_of_mem_set hd with h' | h'
 · exact h d h'
 · subst h'; exact ⟨h0, h1⟩
structure MuI (W wr : World) (g nm : Nat) (xs ys zs : List Int) (i m : Nat) : Prop where
 len : zs.length = nm
 dig : Dig zs
 eq : val zs = val (xs.take i) * val ys
 zero : ∀ j, i + m ≤ j → (h : j < zs.length) → zs[j] = 0
 own : wr.ownsRow g 161 1 (.slice (some ⟨g, 0, none⟩) nm nm) nm (zs.map (Value.int .u32))
 below : Below g W wr
structure MuJ (W wr : World) (g nm : Nat) (xs ys zs : List Int) (i m k : Nat) (x c : Int) : Prop where
 len : zs.length = nm
 dig : Dig zs
 eq : val zs + c * pw (i + k) = val (xs.take i) * val ys + x * (pw i * val (ys.take k))
 zero : ∀ j, i + m ≤ j → (h : j < zs.length) → zs[j] = 0
 own : wr.ownsRow g 161 1 (.slice (some ⟨g, 0, none⟩) nm nm) nm (zs.map (Value.int .u32))
 below : Below g W wr
theorem mu_in {W wr : World} {g nm : Nat} {xs ys zs : List Int} {i m : Nat} (h : MuI W wr g nm xs ys zs i m) (x : Int) : MuJ W wr g nm xs ys zs i m 0 x 0 :=
 ⟨h.len, h.dig, by simp [val, h.eq], h.zero, h.own, h.below⟩
theorem mu_cell {W wr : World} {g nm : Nat} {xs ys zs : List Int} {i m k : Nat} {x c : Int} (h : MuJ W wr g nm xs ys zs i m k x c) (j : Nat) (hj : j < zs.length) : wr.cell? ⟨g, j, none⟩ = some (.int .u32 zs[j]) ∧ wr.frozen? ⟨g, j, none⟩ = false := by
 refine ⟨?_, h.own.frozenAt j⟩
 rw [h.own.cellAt j (by rw [← h.len]; omega)]
 simp [hj]
theorem mu_step {W wr : World} {g nm : Nat} {xs ys zs : List Int} {i m k : Nat} {x c : Int} (h : MuJ W wr g nm xs ys zs i m k x c) (hk : k < ys.length) (hkm : k < m) (hj : i + k < zs.length) (t : Int) (ht : t = c + x * ys[k] + zs[i + k]) (nq : Nat) :
   MuJ W ((wr.setCell ⟨g, i + k, none⟩ (.int .u32 (t % 4294967296))).drewN nq) g nm xs ys (zs.set (i + k) (t % 4294967296)) i m (k + 1) x (t / 4294967296) := by
 obtain ⟨o1, o2⟩ := h.own.stored (i + k) (.int .u32 (t % 4294967296))
 refine ⟨by simpa using h.len, dig_set h.dig _ (by omega) (by omega), ?_, ?_, ?_, bdrew (h.below.setCell (Nat.le_refl _) _) _⟩
 · rw [val_set zs _ hj, show i + (k + 1) = (i + k) + 1 by omega, pw, val_take_succ ys k hk]
   have e := h.eq
   have e2 : t = t % 4294967296 + 4294967296 * (t / 4294967296) := by omega
   have e3 := pw_add i k
   generalize t / 4294967296 = q at *
   generalize t % 4294967296 = r at *
   generalize zs[i + k] = zk at *
   generalize ys[k] = yk at *
   generalize pw (i + k) = p at *
   subst e2
   grind
 · intro j hj1 hj2
   have hj3 : j < zs.length := by simpa using hj2
   rw [List.getElem_set_ne (by omega)]
   exact h.zero j hj1 hj3
 · have : (zs.map (Value.int .u32)).set (i + k) (.int .u32 (t % 4294967296)) = (zs.set (i + k) (t % 4294967296)).map (Value.int .u32) := by rw [List.map_set]
   rw [← this]; exact o1
theorem mu_out {W wr : World} {g nm : Nat} {xs ys zs : List Int} {i m : Nat} {c : Int} (hi : i < xs.length) (h : MuJ W wr g nm xs ys zs i m m xs[i] c) (hm : ys.length = m) (hj : i + m < zs.length) (h0 : 0 ≤ c) (h1 : c < 4294967296) :
   MuI W (wr.setCell ⟨g, i + m, none⟩ (.int .u32 c)) g nm xs ys (zs.set (i + m) c) (i + 1) m := by
 obtain ⟨o1, o2⟩ := h.own.stored (i + m) (.int .u32 c)
 refine ⟨by simpa using h.len, dig_set h.dig _ h0 h1, ?_, ?_, ?_, h.below.setCell (Nat.le_refl _) _⟩
 · rw [val_set zs _ hj, h.zero (i + m) (Nat.le_refl _) hj, val_take_succ xs i hi]
   have e := h.eq
   rw [val_take_all ys m (by omega)] at e
   generalize pw (i + m) = p at *
   grind
 · intro j hj1 hj2
   have hj3 : j < zs.length := by simpa using hj2
   rw [List.getElem_set_ne (by omega)]
   exact h.zero j (by omega) hj3
 · have : (zs.map (Value.int .u32)).set (i + m) (.int .u32 c) = (zs.set (i + m) c).map (Value.int .u32) := by rw [List.map_set]
   rw [← this]; exact o1
theorem mul_bound {x y : Int} (hx0 : 0 ≤ x) (hx1 : x < 4294967296) (hy0 : 0 ≤ y) (hy1 : y < 4294967296) : 0 ≤ x * y ∧ x * y ≤ 18446744065119617025 := by
 refine ⟨Int.mul_nonneg hx0 hy0, ?_⟩
 have h1 : x * y ≤ 4294967295 * y := Int.mul_le_mul_of_nonneg_right (by omega) hy0
 omega
theorem mul_sign {x y : Int} {s t : Bool} {xs ys : List Int} (hs : s = decide (x < 0)) (ht : t = decide (y < 0)) (hx : val xs = (x.natAbs : Int)) (hy : val ys = (y.natAbs : Int)) : (x * y ≠ 0 → (s != t) = decide (x * y < 0)) ∧ val xs * val ys = ((x * y).natAbs : Int) := by
 constructor
 · intro hz
   have hx0 : x ≠ 0 := by rintro rfl; simp at hz
   have hy0 : y ≠ 0 := by rintro rfl; simp at hz
   rw [hs, ht]
   by_cases p : x < 0 <;> by_cases q : y < 0
   · have := Int.mul_pos_of_neg_of_neg p q; simp [p, q]; omega
   · have := Int.mul_neg_of_neg_of_pos p (show 0 < y by omega); simp [p, q, this]
   · have := Int.mul_neg_of_pos_of_neg (show 0 < x by omega) q; simp [p, q, this]
   · have := Int.mul_pos (show 0 < x by omega) (show 0 < y by omega); simp [p, q]; omega
 · rw [hx, hy, Int.natAbs_mul]; simp
theorem mu_start {W w1 : World} {g nm : Nat} {xs ys : List Int} {m : Nat} (hg : g = W.heap.size) (hown : w1.ownsRow g 161 1 (.slice (some ⟨g, 0, none⟩) nm nm) nm (madeCells #[Value.int .u32 0] nm).toList) (hgrow : W.grownBy w1 none) : MuI W w1 g nm xs ys (List.replicate nm 0) 0 m := by
 subst hg
 refine ⟨by simp, fun d hd => by rw [List.eq_of_mem_replicate hd]; decide, by simp [val_zeros, val], fun j _ h => by simp, ?_, (Below.refl _ _).grown hgrow (Nat.le_refl _) (by simp)⟩
 rw [made_one] at hown
 simpa using hown
set_option maxRecDepth 100000 in
set_option maxHeartbeats 2000000 in
theorem mul_some (s t : Bool) (ao bo : Option Addr) (n m ca cb k : Nat) (xs ys : List Int) (x y : Int) (w : World) (hx : IsNum w s ao n ca xs x k) (hy : IsNum w t bo m cb ys y k) (hk : k ≤ 100000) (hx0 : x ≠ 0) (hy0 : y ≠ 0) :
   Calls Tryz.prog 93 #[.agg #[.bool s, .slice ao n ca], .agg #[.bool t, .slice bo m cb]] w (NumP (k + k) (x * y) w) := by
 obtain ⟨i0, hi, hz0, hz1, hz2⟩ := info_parts Tryz.info88
 have hn0 : ((n : Int) == 0) = false := beq_eq_false_iff_ne.2 (by intro h; exact hx0 (hx.zero.1 (by omega)))
 have hm0 : ((m : Int) == 0) = false := beq_eq_false_iff_ne.2 (by intro h; exact hy0 (hy.zero.1 (by omega)))
 have T0 := two_start w (.bool s) (.slice ao n ca) (.bool t) (.slice bo m cb)
 have HX : Hid (xs.length = n) := hx.len
 have HY : Hid (ys.length = m) := hy.len
 have HDX : Hid (Dig xs) := hx.nrm.1
 have HDY : Hid (Dig ys) := hy.nrm.1
 have hnk := hx.le
 have hmk := hy.le
 have HRX0 := hx.rd.below T0.below (Nat.le_refl _)
 have HRY0 := hy.rd.below T0.below (Nat.le_refl _)
 have HSG : Hid ((x * y ≠ 0 → (s != t) = decide (x * y < 0)) ∧ val xs * val ys = ((x * y).natAbs : Int)) := mul_sign hx.neg hy.neg hx.val hy.val
 clear hx hy
 go_enter Tryz.func93, Tryz.ntmps93
 go_upto_region 3 with fail
 generalize ((w.alloc (Obj.cells #[Value.bool s, Value.slice ao n ca] 88)).alloc (Obj.cells #[Value.bool t, Value.slice bo m cb] 88)).alloc (Obj.cells #[Value.bool false, Value.slice none 0 0] 88) = W at *
 have q0 := T0.a0; have q1 := T0.a1; have q2 := T0.b0; have q3 := T0.b1
 have HRX : Hid (Rd W ao xs) := HRX0
 have HRY : Hid (Rd W bo ys) := HRY0
 clear HRX0 HRY0
 go_wp2_with (at_make; refine wpList_make_full _ rfl _ _ 86 rfl W.heap.size 161 i0 (.int .u32 0) 1 Tryz.underlying86 hi hz0 hz1 _ _ _ _ (n + m) rfl rfl (by omega) (by omega) (by rw [hz2]; omega) (by unfold maxLen; omega) (Nat.le_refl _) ?_)
 intro w1 hown hgrow
 have HS : MuI W w1 W.heap.size (n + m) xs ys (List.replicate (n + m) 0) 0 m := mu_start rfl (by simpa using hown) hgrow
 clear hown hgrow q0 q1 q2 q3
 have hsz := T0.sz
 go_wp2
 go_loopw [6] (fun i wr => ∃ (c : Nat) (zs : List Int), c ≤ n ∧ i = .int .i64 c ∧ MuI W wr W.heap.size (n + m) xs ys zs c m) (fun i _ => n - (intOf i).toNat)
 case atStart => exact ⟨0, _, Nat.zero_le _, rfl, HS⟩
 case round =>
   obtain ⟨i, zs, hin, rfl, hI⟩ := hrel
   clear HS
   have T1 := T0.step hI.below
   have q1 := T1.a1; have q3 := T1.b1
   by_cases hi' : i < n
   · have hix : i < xs.length := by have := HX.out; omega
     obtain ⟨bx, ox, rfl, hbx, hcx0⟩ := HRX.out i hix
     obtain ⟨hx0', hx1'⟩ := dig_at HDX.out i hix
     have HJ := mu_in hI xs[i]
     clear hI
     go_wp2
     obtain ⟨wo, hwo⟩ : ∃ wo : World, wo = wr := ⟨_, rfl⟩
     subst hwo
     go_loopw [7, 8] (fun c k wr => ∃ (j : Nat) (cv : Int) (zs : List Int), j ≤ m ∧ k = .int .i64 j ∧ 0 ≤ cv ∧ cv < 4294967296 ∧ c = .int .u64 cv ∧ MuJ W wr W.heap.size (n + m) xs ys zs i m j xs[i] cv) (fun _ k _ => m - (intOf k).toNat)
     case atStart => exact ⟨0, 0, _, Nat.zero_le _, rfl, by decide, by decide, rfl, HJ⟩
     case round =>
       obtain ⟨j, cv, zs', hj, rfl, hc0, hc1, rfl, hJ⟩ := hrel
       clear HJ T1 q1 q3
       have T1 := T0.step hJ.below
       have q1 := T1.a1; have q3 := T1.b1
       have hlen := hJ.len
       by_cases hj' : j < m
       · have hjy : j < ys.length := by have := HY.out; omega
         obtain ⟨by', oy, rfl, hby, hcy0⟩ := HRY.out j hjy
         obtain ⟨hy0', hy1'⟩ := dig_at HDY.out j hjy
         have hcx := (hJ.below.cell (p := ⟨bx, ox + i, none⟩) hbx).trans hcx0
         have hcy := (hJ.below.cell (p := ⟨by', oy + j, none⟩) hby).trans hcy0
         have hij : i + j < zs'.length := by omega
         obtain ⟨hcz, hfz⟩ := mu_cell hJ (i + j) hij
         obtain ⟨hz0', hz1'⟩ := dig_at hJ.dig (i + j) hij
         obtain ⟨P, hP⟩ : ∃ P, xs[i] * ys[j] = P := ⟨_, rfl⟩
         obtain ⟨hP0, hP1⟩ := mul_bound hx0' hx1' hy0' hy1'
         rw [hP] at hP0 hP1
         have R := fun nq => mu_step hJ hjy hj' hij (cv + P + zs'[i + j]) (by rw [hP]) nq
         clear hJ hlen
         have hin' : (i : Int) < n := by omega
         have hjm' : (j : Int) < m := by omega
         have hijn : (i : Int) + j < n + m := by omega
         go_wp2
         go_quiet (fail)
         go_wp2
         go_roundw
         case rel => exact ⟨j + 1, (cv + P + zs'[i + j]) / 4294967296, _, by omega, by go_num, by omega, by omega, rfl, by first | exact R _ | exact mu_drew R⟩
         case measure => simp [intOf]; omega
       · obtain rfl : j = m := by omega
         have him : i + j < zs'.length := by omega
         obtain ⟨hcz, hfz⟩ := mu_cell hJ (i + j) him
         have R := mu_out hix hJ HY.out him hc0 hc1
         clear hJ hlen
         have hijn : (i : Int) + j < n + j := by omega
         go_wp2
         go_roundw
         case rel => exact ⟨i + 1, _, by omega, by go_num, R⟩
         case measure => simp [intOf]; omega
   · obtain rfl : i = n := by omega
     have q0 := T1.a0; have q2 := T1.b0
     have R1 := hI.dig
     have R2 := Rd.own hI.own hI.len
     have R3 := hI.len
     have HE : Hid (val zs = ((x * y).natAbs : Int)) := by show _ = _; rw [hI.eq, val_take_all xs i (by have := HX.out; omega)]; exact HSG.out.2
     clear hI
     obtain ⟨sg, hsg⟩ : ∃ b, (!(s == t)) = b := ⟨_, rfl⟩
     have HG : Hid (x * y ≠ 0 → sg = decide (x * y < 0)) := by rw [← hsg]; exact HSG.out.1
     go_wp2_with fail
     refine (trim_any sg _ _ _ zs _ R3 (Nat.le_refl _) R1 R2 (by omega)).mono ?_
     rintro e w3 ⟨neg', ao', n', cap', ds', rfl, k1, k2, k3, k4, k5, k6, k7, k8⟩
     have T2 := T1.step k8
     have HN := num_of (z := x * y) (k := k + k) k1 k2 (by omega) k4 (k5.trans HE.out) (k6.trans (by rw [HE.out])) k7 rfl HG.out
     have c0 := T2.r0; have c1 := T2.r1; have f0 := T2.f0; have f1 := T2.f1
     have HB := T2.below
     clear k1 k2 k3 k4 k5 k6 k7 k8 R1 R2 R3 T1 q0 q1 q2 q3 T2
     go_wp2
     refine bodyPost_ret (v := .agg #[.bool neg', .slice ao' n' cap']) (by simp [results, Tryz.results93, go_sem, c0, c1]) rfl ?_
     exact num_ret (by omega) c0 c1 HN HB
set_option maxRecDepth 100000 in
set_option maxHeartbeats 1000000 in
theorem mul_none (s t : Bool) (ao bo : Option Addr) (n m ca cb k : Nat) (xs ys : List Int) (x y : Int) (w : World) (hx : IsNum w s ao n ca xs x k) (hy : IsNum w t bo m cb ys y k) (h0 : x = 0 ∨ y = 0) :
   Calls Tryz.prog 93 #[.agg #[.bool s, .slice ao n ca], .agg #[.bool t, .slice bo m cb]] w (NumP (k + k) (x * y) w) := by
 have HP : ∀ o1 o2 o3, NumP (k + k) (x * y) w (.returned (.agg #[.bool false, .slice none 0 0])) (((w.alloc o1).alloc o2).alloc o3) := by
   intro o1 o2 o3
   have hz : x * y = 0 := by rcases h0 with rfl | rfl <;> simp
   rw [hz]
   exact ⟨false, none, 0, 0, [], rfl, ⟨by decide, rfl, Nat.le_refl _, Rd.nil _ _, nrm_nil, rfl, Nat.zero_le _⟩, (((Below.refl _ _).alloc (Nat.le_refl _) _).alloc (by simp) _).alloc (by simp; omega) _⟩
 by_cases hx0 : x = 0
 · have hn := hx.zero.2 hx0
   subst hn
   clear hx hy
   go_enter Tryz.func93, Tryz.ntmps93
   go_wp2
   refine bodyPost_ret (v := .agg #[.bool false, .slice none 0 0]) (by simp [results, Tryz.results93, go_sem]) rfl ?_
   exact HP _ _ _
 · have hm := hy.zero.2 (by omega)
   subst hm
   have hn0 : ((n : Int) == 0) = false := beq_eq_false_iff_ne.2 (by intro h; exact hx0 (hx.zero.1 (by omega)))
   clear hx hy
   go_enter Tryz.func93, Tryz.ntmps93
   go_wp2
   refine bodyPost_ret (v := .agg #[.bool false, .slice none 0 0]) (by simp [results, Tryz.results93, go_sem]) rfl ?_
   exact HP _ _ _
theorem mul_any (s t : Bool) (ao bo : Option Addr) (n m ca cb k : Nat) (xs ys : List Int) (x y : Int) (w : World) (hx : IsNum w s ao n ca xs x k) (hy : IsNum w t bo m cb ys y k) (hk : k ≤ 100000) :
   Calls Tryz.prog 93 #[.agg #[.bool s, .slice ao n ca], .agg #[.bool t, .slice bo m cb]] w (NumP (k + k) (x * y) w) := by
 by_cases hx0 : x = 0
 · exact mul_none s t ao bo n m ca cb k xs ys x y w hx hy (Or.inl hx0)
 · by_cases hy0 : y = 0
   · exact mul_none s t ao bo n m ca cb k xs ys x y w hx hy (Or.inr hy0)
   · exact mul_some s t ao bo n m ca cb k xs ys x y w hx hy hk hx0 hy0
theorem p2_pow (i : Nat) : pw (i / 32) * 2 ^ (i % 32) = (2 : Int) ^ i := by
 have h : ∀ m : Nat, pw m = (2 : Int) ^ (32 * m) := by
   intro m
   induction m with
   | zero => simp [pw]
   | succ m ih => rw [pw, ih, show 32 * (m + 1) = 32 * m + 32 by omega, Int.pow_add]; grind
 rw [h, ← Int.pow_add]
 congr 1
 omega
def QZ (qs : List Int) (k : Nat) : Prop := (∀ j, j < k / 32 → (h : j < qs.length) → qs[j] = 0) ∧ ∀ h : k / 32 < qs.length, qs[k / 32] % 2 ^ (k % 32) = 0
theorem ipow_pos (r : Nat) : (0 : Int) < 2 ^ r := by rw [ipow2]; exact Int.natCast_pos.2 (Nat.two_pow_pos r)
theorem mod_half {w : Int} {r : Nat} (h : w % 2 ^ (r + 1) = 0) : w % 2 ^ r = 0 := by
 have e : (2 : Int) ^ (r + 1) = 2 ^ r * 2 := by rw [Int.pow_succ]
 rw [e] at h
 exact Int.emod_eq_zero_of_dvd (Int.dvd_trans (Int.dvd_mul_right _ _) (Int.dvd_of_emod_eq_zero h))
theorem qz_digit {qs : List Int} {i : Nat} (h : QZ qs (i + 1)) (hi : i / 32 < qs.length) : qs[i / 32] % 2 ^ (i % 32 + 1) = 0 := by
 by_cases hr : i % 32 = 31
 · have := h.1 (i / 32) (by omega) hi
   rw [this]; simp
 · have h2 := h.2 (by rw [show (i + 1) / 32 = i / 32 by omega]; exact hi)
   have e1 : (i + 1) / 32 = i / 32 := by omega
   have e2 : (i + 1) % 32 = i % 32 + 1 := by omega
   simpa [e1, e2] using h2
theorem qz_down {qs : List Int} {i : Nat} (h : QZ qs (i + 1)) (hi : i / 32 < qs.length) : QZ qs i :=
 ⟨fun j hj hl => h.1 j (by omega) hl, fun _ => mod_half (qz_digit h hi)⟩
theorem qz_set {qs : List Int} {i : Nat} (h : QZ qs (i + 1)) (hi : i / 32 < qs.length) : QZ (qs.set (i / 32) (qs[i / 32] + 2 ^ (i % 32))) i := by
 refine ⟨fun j hj hl => ?_, fun hl => ?_⟩
 · rw [List.getElem_set_ne (by omega)]
   exact h.1 j (by omega) (by simpa using hl)
 · rw [List.getElem_set_self]
   have := mod_half (qz_digit h hi)
   rw [Int.add_emod, this]
   simp
theorem or_u32 (a b : Nat) (ha : a < 4294967296) (hb : b < 4294967296) : bits .or .u32 (a : Int) (b : Int) = ((a ||| b : Nat) : Int) := by
 have hx : a ||| b < 2 ^ 32 := Nat.or_lt_two_pow (by omega) (by omega)
 have h1 : (BitVec.ofInt 32 (a : Int)).toNat = a := by
   rw [BitVec.ofInt_natCast, BitVec.toNat_ofNat]; exact Nat.mod_eq_of_lt (by omega)
 have h2 : (BitVec.ofInt 32 (b : Int)).toNat = b := by
   rw [BitVec.ofInt_natCast, BitVec.toNat_ofNat]; exact Nat.mod_eq_of_lt (by omega)
 show IntKind.u32.wrap ((BitVec.ofInt 32 (a : Int) ||| BitVec.ofInt 32 (b : Int)).toNat : Int) = _
 rw [BitVec.toNat_or, h1, h2, IntKind.wrap_u32]
 omega
theorem or_bit {w : Int} {r : Nat} (hr : r < 32) (h0 : 0 ≤ w) (h1 : w < 4294967296) (hm : w % 2 ^ (r + 1) = 0) : bits .or .u32 w (2 ^ r) = w + 2 ^ r ∧ w + 2 ^ r < 4294967296 := by
 obtain ⟨a, rfl⟩ := Int.eq_ofNat_of_zero_le h0
 have e : ((2 : Int) ^ r) = ((2 ^ r : Nat) : Int) := by simp
 have e' : ((2 : Int) ^ (r + 1)) = ((2 ^ (r + 1) : Nat) : Int) := by simp
 rw [e'] at hm
 have hd : 2 ^ (r + 1) ∣ a := by
   have : ((2 ^ (r + 1) : Nat) : Int) ∣ (a : Int) := Int.dvd_of_emod_eq_zero hm
   exact Int.natCast_dvd_natCast.1 this
 obtain ⟨v, rfl⟩ := hd
 have hp : (2 : Nat) ^ r < 2 ^ (r + 1) := by rw [Nat.pow_succ]; have := Nat.two_pow_pos r; omega
 have ho := Nat.two_pow_add_eq_or_of_lt hp v
 have hlt : 2 ^ (r + 1) * v + 2 ^ r < 4294967296 := by
   have h32 : (2 : Nat) ^ 32 = 2 ^ (r + 1) * 2 ^ (31 - r) := by rw [← Nat.pow_add]; congr 1; omega
   have hv : v < 2 ^ (31 - r) := by
     apply Decidable.byContradiction
     intro hn
     have : 2 ^ (r + 1) * 2 ^ (31 - r) ≤ 2 ^ (r + 1) * v := Nat.mul_le_mul_left _ (by omega)
     omega
   have : 2 ^ (r + 1) * (v + 1) ≤ 2 ^ (r + 1) * 2 ^ (31 - r) := Nat.mul_le_mul_left _ hv
   rw [Nat.mul_add, Nat.mul_one] at this
   omega
 rw [e]
 refine ⟨?_, by omega⟩
 rw [or_u32 _ _ (by omega) (by omega), ← ho]
 omega
structure DvI (X Y : Int) (qs : List Int) (R : Int) (k N : Nat) : Prop where
 len : qs.length = N
 dig : Dig qs
 eq : X = val qs * Y + R
 r0 : 0 ≤ R
 lt : R < 2 ^ k * Y
 qz : QZ qs k
theorem dv_skip {X Y : Int} {qs : List Int} {R : Int} {i N : Nat} (h : DvI X Y qs R (i + 1) N) (hi : i / 32 < N) (hR : R < 2 ^ i * Y) : DvI X Y qs R i N :=
 ⟨h.len, h.dig, h.eq, h.r0, hR, qz_down h.qz (by rw [h.len]; exact hi)⟩
theorem dv_take {X Y : Int} {qs : List Int} {R : Int} {i N : Nat} (h : DvI X Y qs R (i + 1) N) (hi : i / 32 < qs.length) (hR : 2 ^ i * Y ≤ R) : DvI X Y (qs.set (i / 32) (qs[i / 32] + 2 ^ (i % 32))) (R - 2 ^ i * Y) i N ∧ bits .or .u32 qs[i / 32] (2 ^ (i % 32)) = qs[i / 32] + 2 ^ (i % 32) := by
 obtain ⟨w0, w1⟩ := dig_at h.dig (i / 32) hi
 obtain ⟨o1, o2⟩ := or_bit (r := i % 32) (by omega) w0 w1 (qz_digit h.qz hi)
 have hp := ipow_pos (i % 32)
 refine ⟨⟨by simpa using h.len, dig_set h.dig _ (by omega) o2, ?_, by omega, ?_, qz_set h.qz hi⟩, o1⟩
 · rw [val_set qs _ hi, show qs[i / 32] + 2 ^ (i % 32) - qs[i / 32] = (2 : Int) ^ (i % 32) by omega, p2_pow, Int.add_mul]
   have := h.eq
   omega
 · have := h.lt
   rw [Int.pow_succ] at this
   have e : (2 : Int) ^ i * 2 * Y = 2 ^ i * Y + 2 ^ i * Y := by grind
   omega
theorem dv_end {X Y : Int} {qs : List Int} {R : Int} {N : Nat} (h : DvI X Y qs R 0 N) (hY : 0 < Y) : val qs = X / Y ∧ R = X % Y := by
 have h1 := h.lt
 simp at h1
 have h2 := h.r0
 have h3 := h.eq
 have e1 : X / Y = val qs := by
   rw [h3, Int.add_comm, Int.add_mul_ediv_right _ _ (by omega), Int.ediv_eq_zero_of_lt h2 h1]
   omega
 refine ⟨e1.symm, ?_⟩
 have := Int.emod_add_mul_ediv X Y
 rw [e1] at this
 have e : Y * val qs = val qs * Y := Int.mul_comm _ _
 omega
theorem dv_start {X Y : Int} {bx bz : Nat} (hx : BitsOf X bx) (hy : BitsOf Y bz) (hY : 0 < Y) (h : bz ≤ bx) (N : Nat) : DvI X Y (List.replicate N 0) X (bx - bz + 1) N := by
 refine ⟨by simp, fun d hd => by rw [List.eq_of_mem_replicate hd]; decide, by simp [val_zeros], hx.1, ?_, ⟨fun j _ hl => by simp, fun hl => by simp⟩⟩
 have hb : bz ≠ 0 := by
   rintro rfl
   have := hy.2.1
   simp at this
   omega
 have h2 : (2 : Int) ^ (bz - 1) ≤ Y := by
   rcases hy.2.2 with h2 | h2
   · exact absurd h2 hb
   · exact h2
 have e : (2 : Int) ^ bx = 2 ^ (bx - bz + 1) * 2 ^ (bz - 1) := by rw [← Int.pow_add]; congr 1; omega
 have h3 := hx.2.1
 have h4 : (2 : Int) ^ (bx - bz + 1) * 2 ^ (bz - 1) ≤ 2 ^ (bx - bz + 1) * Y := Int.mul_le_mul_of_nonneg_left h2 (by have := ipow_pos (bx - bz + 1); omega)
 omega
theorem dv_less {X Y : Int} {bx bz : Nat} (hx : BitsOf X bx) (hy : BitsOf Y bz) (h : bx < bz) : X / Y = 0 ∧ X % Y = X ∧ X < Y := by
 have h2 : (2 : Int) ^ (bz - 1) ≤ Y := by
   rcases hy.2.2 with h2 | h2
   · omega
   · exact h2
 have h3 := ipow2_mono (show bx ≤ bz - 1 by omega)
 have h4 := hx.2.1
 have h5 : X < Y := by omega
 exact ⟨Int.ediv_eq_zero_of_lt hx.1 h5, Int.emod_eq_of_lt hx.1 h5, h5⟩
def SubAt (n : Nat) (z : Int) (w : World) (e : Ending) (w' : World) : Prop := DigsP n z w e w' ∧ ∃ cap, e = .returned (.slice (some ⟨w.heap.size, 0, none⟩) n cap)
def TrimAt (neg : Bool) (ao : Option Addr) (n : Nat) (ds : List Int) (w : World) (e : Ending) (w' : World) : Prop :=
 TrimP neg n ds w e w' ∧ ∃ s' ao' n' cap', e = .returned (.agg #[.bool s', .slice ao' n' cap']) ∧ (ao' = ao ∨ ao' = none)
set_option maxRecDepth 100000 in
set_option maxHeartbeats 400000 in
theorem subAbs_at (ao bo : Option Addr) (n m ca cb : Nat) (xs ys : List Int) (w : World) (hx : xs.length = n) (hy : ys.length = m) (dx : Dig xs) (dy : Dig ys) (rx : Rd w ao xs) (ry : Rd w bo ys) (hm : n ≤ 1000000) (_hm' : m ≤ 1000000)
   (hle : val ys ≤ val xs) :
   Calls Tryz.prog 143 #[.slice ao n ca, .slice bo m cb] w (SubAt n (val xs - val ys) w) := by
 obtain ⟨i0, hi, hz0, hz1, hz2⟩ := info_parts Tryz.info88
 have HX : Hid (xs.length = n) := hx
 have HY : Hid (ys.length = m) := hy
 have HDX : Hid (Dig xs) := dx
 have HDY : Hid (Dig ys) := dy
 have HRX : Hid (Rd w ao xs) := rx
 have HRY : Hid (Rd w bo ys) := ry
 have HLE : Hid (val ys ≤ val xs) := hle
 clear rx ry dx dy hx hy hle
 go_enter Tryz.func143, Tryz.ntmps143
 go_wp2_with (at_make; refine wpList_make_own _ rfl _ _ 86 rfl w.heap.size 161 i0 (.int .u32 0) 1 Tryz.underlying86 hi hz0 hz1 _ _ _ n rfl rfl rfl (by rw [hz2]; omega) (by unfold maxLen; omega) (Nat.le_refl _) ?_)
 intro w1 hown hgrow
 go_wp2
 go_loopw [5, 6, 7] (fun o c i wr => ∃ (k : Nat) (cv : Int) (zs : List Int), k ≤ n ∧ i = .int .i64 k ∧ 0 ≤ cv ∧ cv ≤ 1 ∧ c = .int .u64 cv ∧ o = .slice (some ⟨w.heap.size, 0, none⟩) k n ∧ SubI w wr n xs ys k cv zs) (fun _ _ i _ => n - (intOf i).toNat)
 case atStart => exact ⟨0, 0, [], Nat.zero_le _, rfl, by decide, by decide, rfl, rfl, ⟨rfl, dig_nil, by simp [val], hown, (Below.refl _ _).grown hgrow (Nat.le_refl _) (by simp)⟩⟩
 case round =>
   obtain ⟨k, cv, zs, hk, rfl, hc0, hc1, rfl, rfl, hI⟩ := hrel
   by_cases hkn : k < n
   · have hkx : k < xs.length := by have := HX.out; omega
     obtain ⟨b, off, rfl, hbl, hcx0⟩ := HRX.out k hkx
     have hcx := (hI.below.cell (p := ⟨b, off + k, none⟩) hbl).trans hcx0
     clear hcx0
     have hxd := dig_at HDX.out k hkx
     obtain ⟨hx0, hx1⟩ := hxd
     by_cases hkm : k < m
     · have hky : k < ys.length := by have := HY.out; omega
       obtain ⟨b', off', rfl, hbl', hcy0⟩ := HRY.out k hky
       have hcy := (hI.below.cell (p := ⟨b', off' + k, none⟩) hbl').trans hcy0
       clear hcy0
       obtain ⟨hy0, hy1⟩ := dig_at HDY.out k hky
       by_cases hlt : xs[k] < cv + ys[k]
       · go_wp2_with (at_builtin; refine wpList_append_fits _ rfl _ _ 86 rfl w.heap.size 161 i0 1 Tryz.underlying86 hi hz1 w.heap.size k n _ rfl (hI.own.alloc _) ⟨wr.heap.size, 0, none⟩ 1 1 [.int .u32 (xs[k] + 4294967296 - (cv + ys[k]))] rfl rfl (cell_one_new _ _ _) (one_cell _ _) (by omega) ?_)
         intro w2 hown2 hgrow2
         go_wp2
         go_roundw
         case rel => exact ⟨k + 1, 1, zs ++ [xs[k] + 4294967296 - (cv + ys[k])], by omega, by go_num, by decide, by decide, rfl, rfl, sub_step hI hc0 hc1 _ 1 (by decide) (by omega) (by omega) (by simp [List.getD, hkx, hky] <;> omega) hown2 hgrow2⟩
         case measure => simp [intOf]; omega
       · go_wp2_with (at_builtin; refine wpList_append_fits _ rfl _ _ 86 rfl w.heap.size 161 i0 1 Tryz.underlying86 hi hz1 w.heap.size k n _ rfl (hI.own.alloc _) ⟨wr.heap.size, 0, none⟩ 1 1 [.int .u32 (xs[k] - (cv + ys[k]))] rfl rfl (cell_one_new _ _ _) (one_cell _ _) (by omega) ?_)
         intro w2 hown2 hgrow2
         go_wp2
         go_roundw
         case rel => exact ⟨k + 1, 0, zs ++ [xs[k] - (cv + ys[k])], by omega, by go_num, by decide, by decide, rfl, rfl, sub_step hI hc0 hc1 _ 0 (by decide) (by omega) (by omega) (by simp [List.getD, hkx, hky] <;> omega) hown2 hgrow2⟩
         case measure => simp [intOf]; omega
     · by_cases hlt : xs[k] < cv
       · go_wp2_with (at_builtin; refine wpList_append_fits _ rfl _ _ 86 rfl w.heap.size 161 i0 1 Tryz.underlying86 hi hz1 w.heap.size k n _ rfl (hI.own.alloc _) ⟨wr.heap.size, 0, none⟩ 1 1 [.int .u32 (xs[k] + 4294967296 - cv)] rfl rfl (cell_one_new _ _ _) (one_cell _ _) (by omega) ?_)
         intro w2 hown2 hgrow2
         go_wp2
         go_roundw
         case rel => exact ⟨k + 1, 1, zs ++ [xs[k] + 4294967296 - cv], by omega, by go_num, by decide, by decide, rfl, rfl, sub_step hI hc0 hc1 _ 1 (by decide) (by omega) (by omega) (by have := HY.out; simp [List.getD, hkx, show ¬ k < ys.length by omega] <;> omega) hown2 hgrow2⟩
         case measure => simp [intOf]; omega
       · go_wp2_with (at_builtin; refine wpList_append_fits _ rfl _ _ 86 rfl w.heap.size 161 i0 1 Tryz.underlying86 hi hz1 w.heap.size k n _ rfl (hI.own.alloc _) ⟨wr.heap.size, 0, none⟩ 1 1 [.int .u32 (xs[k] - cv)] rfl rfl (cell_one_new _ _ _) (one_cell _ _) (by omega) ?_)
         intro w2 hown2 hgrow2
         go_wp2
         go_roundw
         case rel => exact ⟨k + 1, 0, zs ++ [xs[k] - cv], by omega, by go_num, by decide, by decide, rfl, rfl, sub_step hI hc0 hc1 _ 0 (by decide) (by omega) (by omega) (by have := HY.out; simp [List.getD, hkx, show ¬ k < ys.length by omega] <;> omega) hown2 hgrow2⟩
         case measure => simp [intOf]; omega
   · go_wp2
     go_ret
     obtain rfl : k = n := by omega
     exact ⟨sub_done hI hc0 hc1 HX.out HDX.out HDY.out HLE.out, _, rfl⟩
set_option maxHeartbeats 400000 in
theorem trim_at (neg : Bool) (ao : Option Addr) (n cap : Nat) (ds : List Int) (w : World) (hn : ds.length = n) (hc : n ≤ cap) (hd : Dig ds) (hr : Rd w ao ds) (hm : n ≤ 1000000000) :
   Calls Tryz.prog 140 #[.bool neg, .slice ao n cap] w (TrimAt neg ao n ds w) := by
 go_enter Tryz.func140, Tryz.ntmps140
 go_wp2
 go_loop [5] (fun i => ∃ k : Nat, k ≤ n ∧ i = .int .i64 k ∧ ∀ j, k ≤ j → (h : j < ds.length) → ds[j] = 0) (fun i => (intOf i).toNat)
 case atStart => exact ⟨n, Nat.le_refl _, rfl, fun j h1 h2 => by omega⟩
 case round =>
   obtain ⟨k, hk, rfl, hz⟩ := hrel
   have HN : Hid (ds.length = n) := hn
   have HD : Hid (Dig ds) := hd
   have HZ : Hid (∀ j, k ≤ j → (h : j < ds.length) → ds[j] = 0) := hz
   have HR : Hid (Rd w ao ds) := hr
   clear hz hr hd hn
   by_cases hk0 : 0 < k
   · obtain ⟨m, rfl⟩ : ∃ m, k = m + 1 := ⟨k - 1, by omega⟩
     have hml : m < ds.length := by have := HN.out; omega
     obtain ⟨b, off, rfl, hbl, hcell0⟩ := HR.out m hml
     have hcell := cell_alloc (o := Obj.cells #[Value.bool false, Value.slice none 0 0] 88) hbl hcell0
     clear hcell0
     go_wp2
     · go_round
       case rel =>
         have h0 : (ds[m] == 0) = true := by assumption
         exact ⟨m, by omega, by go_num, fun j h1 h2 => by
           by_cases e : j = m
           · subst e; simpa using h0
           · exact HZ.out j (by omega) h2⟩
       case measure => simp [intOf]
     · refine bodyPost_ret (v := .agg #[.bool neg, .slice (some ⟨b, off, none⟩) (m + 1) cap]) (by simp [results, Tryz.results140, go_sem]) rfl ?_
       have h0 : (ds[m] == 0) = false := by assumption
       exact ⟨trim_some neg n cap ds w _ HN.out hc HD.out HR.out m hml (by simpa using h0) HZ.out ((Below.refl _ _).alloc (Nat.le_refl _) _), _, _, _, _, rfl, Or.inl rfl⟩
   · go_wp2
     refine bodyPost_ret (v := .agg #[.bool false, .slice none 0 0]) (by simp [results, Tryz.results140, go_sem]) rfl ?_
     exact ⟨trim_none neg n ds w _ (fun j h => HZ.out j (by omega) h) ((Below.refl _ _).alloc (Nat.le_refl _) _), _, _, _, _, rfl, Or.inr rfl⟩
def DivP (n : Nat) (X Y : Int) (w : World) (e : Ending) (w' : World) : Prop :=
 ∃ (qo : Option Addr) (qn qc : Nat) (qs : List Int) (ro : Option Addr) (rn rc : Nat) (rs : List Int), e = .returned (.tuple #[.slice qo qn qc, .slice ro rn rc]) ∧
   (qs.length = qn ∧ qn ≤ qc ∧ qn ≤ n + 1 ∧ Nrm qs ∧ val qs = X / Y ∧ Rd w' qo qs) ∧ (rs.length = rn ∧ rn ≤ rc ∧ rn ≤ n ∧ Nrm rs ∧ val rs = X % Y ∧ Rd w' ro rs) ∧ Below w.heap.size w w'
theorem bits_le32 {v : Int} {b n : Nat} (h : BitsOf v b) (hv : v < pw n) : b ≤ 32 * n := by
 apply Decidable.byContradiction
 intro hn
 have hp := p2_pow (32 * n)
 rw [show 32 * n / 32 = n by omega, show 32 * n % 32 = 0 by omega] at hp
 simp only [Int.pow_zero, Int.mul_one] at hp
 rw [hp] at hv
 rcases h.2.2 with h2 | h2
 · omega
 · have := ipow2_mono (show 32 * n ≤ b - 1 by omega)
   omega
structure DvM (W wr : World) (g : Nat) (qs : List Int) (ro : Option Addr) (rn rc : Nat) (rs : List Int) (n : Nat) : Prop where
 below : Below W.heap.size W wr
 q : Blk wr g (qs.map (Value.int .u32))
 rlen : rs.length = rn
 rcap : rn ≤ rc
 rle : rn ≤ n
 rnrm : Nrm rs
 rrd : Rd wr ro rs
 rne : ∀ b off, ro = some ⟨b, off, none⟩ → rs ≠ [] → b ≠ g
theorem DvM.step {W wr wr' : World} {g : Nat} {qs : List Int} {ro : Option Addr} {rn rc : Nat} {rs : List Int} {n : Nat} (h : DvM W wr g qs ro rn rc rs n) (hB : Below wr.heap.size wr wr') : DvM W wr' g qs ro rn rc rs n :=
 ⟨h.below.trans (hB.mono h.below.size), h.q.step hB, h.rlen, h.rcap, h.rle, h.rnrm, h.rrd.below hB (Nat.le_refl _), h.rne⟩
theorem Rd.setNe {w : World} {ao : Option Addr} {ds : List Int} (h : Rd w ao ds) {p : Addr} (hp : ∀ b off, ao = some ⟨b, off, none⟩ → ds ≠ [] → b ≠ p.block) (u : Value) : Rd (w.setCell p u) ao ds := by
 intro i hi
 obtain ⟨b, off, e, hb, hc⟩ := h i hi
 refine ⟨b, off, e, by simpa [World.setCell] using hb, (World.cell?_setCell_other _ _ _ _ ?_).trans hc⟩
 intro e2
 rw [e2] at hp
 exact hp b off e (by rintro rfl; simp at hi) rfl
set_option maxRecDepth 100000 in
set_option maxHeartbeats 4000000 in
theorem divAbs_any (ao bo : Option Addr) (n m ca cb : Nat) (xs ys : List Int) (w : World) (hx : xs.length = n) (hy : ys.length = m) (nx : Nrm xs) (ny : Nrm ys) (rx : Rd w ao xs) (ry : Rd w bo ys) (hc : n ≤ ca) (hn : n ≤ 10000) (hm : m ≤ 10000) (hY : 0 < val ys) :
   Calls Tryz.prog 156 #[.slice ao n ca, .slice bo m cb] w (DivP n (val xs) (val ys) w) := by
 obtain ⟨i0, hi, hz0, hz1, hz2⟩ := info_parts Tryz.info88
 go_enter Tryz.func156, Tryz.ntmps156
 go_wp2_with fail
 refine (bits_any ao n ca xs _ hx nx rx (by omega)).mono ?_
 rintro e w1 ⟨bx, rfl, hbx, hB⟩
 replace rx := rx.below hB (Nat.le_refl _)
 replace ry := ry.below hB (Nat.le_refl _)
 have HB1 := hB
 clear hB
 go_wp2_with fail
 refine (bits_any bo m cb ys _ hy ny ry (by omega)).mono ?_
 rintro e w2 ⟨bz, rfl, hbz, hB⟩
 replace rx := rx.below hB (Nat.le_refl _)
 replace ry := ry.below hB (Nat.le_refl _)
 have HB2 : Below w.heap.size w w2 := HB1.trans (hB.mono HB1.size)
 clear hB HB1
 have l1 := bits_le32 (n := n) hbx (by rw [← hx]; exact val_lt nx.1)
 have l2 := bits_le32 (n := m) hbz (by rw [← hy]; exact val_lt ny.1)
 by_cases hlt : bx < bz
 · obtain ⟨v1, v2, v3⟩ := dv_less hbx hbz hlt
   have i1 : (bx : Int) - bz < 0 := by omega
   clear hi hz0 hz1 hz2 hbx hbz
   go_wp2
   go_ret2
   exact ⟨none, 0, 0, [], ao, n, ca, xs, rfl, ⟨rfl, by omega, by omega, nrm_nil, by rw [v1]; rfl, Rd.nil _ _⟩, ⟨hx, hc, Nat.le_refl _, nx, v2.symm, rx⟩, HB2⟩
 · have HI := dv_start hbx hbz hY (by omega) ((bx - bz) / 32 + 1)
   obtain ⟨N, hN⟩ : ∃ N, bx - bz = N := ⟨_, rfl⟩
   have eN : (bx : Int) - bz = (N : Int) := by omega
   have hN1 : N ≤ 32 * n := by omega
   rw [hN] at HI
   clear hbx hbz hN hlt l1 l2
   obtain ⟨K, hK⟩ : ∃ K, N / 32 = K := ⟨_, rfl⟩
   have eK : (N : Int) / 32 = (K : Int) := by omega
   rw [hK] at HI
   go_wp2_with (at_make; refine wpList_make_full _ rfl _ _ 86 rfl w2.heap.size 161 i0 (.int .u32 0) 1 Tryz.underlying86 hi hz0 hz1 _ _ _ _ (K + 1) rfl rfl (by omega) (by omega) (by rw [hz2]; omega) (by unfold maxLen; omega) (Nat.le_refl _) ?_)
   intro w3 hown hgrow
   have M0 : DvM w2 w3 w2.heap.size (List.replicate (K + 1) 0) ao n ca xs n := by
     rw [made_one] at hown
     refine ⟨(Below.refl _ _).grown hgrow (Nat.le_refl _) (by simp), ⟨(hown.lt _ rfl).2, fun j v hj => ?_⟩, hx, hc, Nat.le_refl _, nx, rx.below ((Below.refl _ _).grown hgrow (Nat.le_refl _) (by simp)) (Nat.le_refl _), ?_⟩
     · have hjl : j < K + 1 := by
         apply Decidable.byContradiction
         intro hn
         rw [List.getElem?_eq_none (by simp; omega)] at hj
         cases hj
       refine ⟨?_, hown.frozenAt j⟩
       rw [hown.cellAt j (by omega)]
       simpa using hj
     · rintro b off rfl hne
       obtain ⟨b', off', e, hb, _⟩ := rx 0 (List.length_pos_iff.2 hne)
       cases e
       omega
   have HBW : Below w.heap.size w w3 := HB2.trans (M0.below.mono HB2.size)
   clear hown hgrow hi hz0 hz1 hz2
   have hKn : K ≤ n := by omega
   go_wp2
   go_loopw [8, 9] (fun r i wr => ∃ (k : Nat) (ro : Option Addr) (rn rc : Nat) (rs qs : List Int), k ≤ N + 1 ∧ i = .int .i64 ((k : Int) - 1) ∧ r = .slice ro rn rc ∧ DvI (val xs) (val ys) qs (val rs) k (K + 1) ∧ DvM w2 wr w2.heap.size qs ro rn rc rs n) (fun _ i _ => (intOf i + 1).toNat)
   case atStart => exact ⟨N + 1, ao, n, ca, xs, _, Nat.le_refl _, by go_num, rfl, HI, M0⟩
   case round =>
     clear HI M0
     obtain ⟨k, ro, rn, rc, rs, qs, hk, rfl, rfl, hI, hM⟩ := hrel
     by_cases hk0 : 0 < k
     · obtain ⟨j, rfl⟩ : ∃ j, k = j + 1 := ⟨k - 1, by omega⟩
       rw [show (((j + 1 : Nat) : Int) - 1) = (j : Int) by omega]
       have ryr := ry.below hM.below (Nat.le_refl _)
       go_wp2_with fail
       refine (left_any bo m cb j ys _ hy ny.1 ryr (by omega) (by omega)).mono ?_
       rintro e w4 ⟨so, sn, sc, ss, rfl, k1, k2, k3, k4, k5, k6, hB⟩
       have hM4 := hM.step hB
       have e2 : val ss = 2 ^ j * val ys := by rw [k5, ← Int.mul_assoc, p2_pow]
       clear hM hB k5 ryr
       go_wp2_with fail
       refine (cmpAbs_any ro so rn sn rc sc rs ss _ hM4.rlen k1 hM4.rnrm k4 hM4.rrd k6 (by have := hM4.rle; omega) (by omega)).mono ?_
       rintro e w5 ⟨rfl, hB⟩
       have hM5 := hM4.step hB
       replace k6 := k6.below hB (Nat.le_refl _)
       clear hM4 hB
       by_cases hle : val rs < 2 ^ j * val ys
       · have hcm : decide (0 ≤ cmpI (val rs) (val ss)) = false := by rw [cmpI_lt (by rw [e2]; exact hle)]; decide
         have R1 := dv_skip hI (by omega) hle
         clear hI e2 k1 k2 k3 k4 k6
         generalize cmpI (val rs) (val ss) = cm at *
         go_wp2
         go_roundw
         case rel => exact ⟨j, ro, rn, rc, rs, qs, by omega, by go_num, rfl, R1, hM5⟩
         case measure => simp [intOf]
       · have hcm : 0 ≤ cmpI (val rs) (val ss) := by
           rcases Int.lt_trichotomy (val rs) (val ss) with h | h | h
           · rw [e2] at h; exact absurd h hle
           · rw [cmpI_eq h]; decide
           · rw [cmpI_gt h]; decide
         generalize cmpI (val rs) (val ss) = cm at *
         go_wp2_with fail
         refine (subAbs_at ro so rn sn rc sc rs ss _ hM5.rlen k1 hM5.rnrm.1 k4.1 hM5.rrd k6 (by have := hM5.rle; omega) (by omega) (by rw [e2]; omega)).mono ?_
         rintro e w6 ⟨⟨o6, c6, z6, rfl, d1, d2, d3, d4, d5, hB⟩, c6', he⟩
         simp only [Ending.returned.injEq, Value.slice.injEq, true_and] at he
         obtain ⟨rfl, rfl⟩ := he
         have hM6 := hM5.step hB
         have hg5 := hM5.q.lt
         clear hM5 hB k1 k2 k3 k4 k6 hcm
         go_wp2_with fail
         refine (trim_at false (some ⟨w5.heap.size, 0, none⟩) rn c6 z6 _ d1 d2 d3 d5 (by have := hM6.rle; omega)).mono ?_
         rintro e w7 ⟨⟨s7, o7, n7, c7, z7, rfl, t1, t2, t3, t4, t5, t6, t7, hB⟩, s8, o8, n8, c8, he, ho⟩
         simp only [Ending.returned.injEq, Value.agg.injEq, Array.mk.injEq, List.cons.injEq, Value.bool.injEq, Value.slice.injEq, and_true] at he
         obtain ⟨rfl, rfl, rfl, rfl⟩ := he
         have hM7 := hM6.step hB
         have hjl : j / 32 < qs.length := by rw [hI.len]; omega
         obtain ⟨R1, oq⟩ := dv_take hI hjl (by omega)
         have ev : val z7 = val rs - 2 ^ j * val ys := by rw [t5, d4, e2]
         rw [← ev] at R1
         have cq := hM7.q.c (j / 32) (v := .int .u32 qs[j / 32]) (by simp [hjl])
         have fq := hM7.q.f (j / 32) (v := .int .u32 qs[j / 32]) (by simp [hjl])
         have hNe : ∀ b off, o7 = some ⟨b, off, none⟩ → z7 ≠ [] → b ≠ w2.heap.size := by
           rintro b off e _
           rcases ho with ho | ho
           · rw [ho] at e; cases e; omega
           · rw [ho] at e; cases e
         have R2 : DvM w2 (w7.setCell ⟨w2.heap.size, j / 32, none⟩ (.int .u32 (qs[j / 32] + 2 ^ (j % 32)))) w2.heap.size (qs.set (j / 32) (qs[j / 32] + 2 ^ (j % 32))) o7 n7 c7 z7 n := by
           refine ⟨hM7.below.setCell (Nat.le_refl _) _, ?_, t1, t2, by have := hM7.rle; omega, t4, t7.setNe hNe _, hNe⟩
           have := hM7.q.setI (j / 32) (by simpa using hjl) (.int .u32 (qs[j / 32] + 2 ^ (j % 32)))
           rwa [← List.map_set] at this
         clear hM6 hM7 t1 t2 t3 t4 t5 t6 t7 d1 d2 d3 d4 d5 hB ho hNe ev hI e2
         have e3 : (j : Int) / 32 = ((j / 32 : Nat) : Int) := by omega
         have e4 : (j : Int) % 32 = ((j % 32 : Nat) : Int) := by omega
         have e5 : ((j / 32 : Nat) : Int) < (K : Int) + 1 := by omega
         have fd := field_d (.bool s7) (.slice o7 n7 c7)
         have e6 : (2 : Int) ^ (j % 32) % 4294967296 = 2 ^ (j % 32) := by
           have h31 := ipow2_mono (show j % 32 ≤ 31 by omega)
           have hp := ipow_pos (j % 32)
           have : (2 : Int) ^ 31 = 2147483648 := by decide
           omega
         generalize hjq : j / 32 = jq at *
         generalize hjr : j % 32 = jr at *
         go_wp2
         go_roundw
         case rel =>
           exact ⟨j, o7, n7, c7, z7, _, by omega, rfl, rfl, R1, R2⟩
         case measure => simp [intOf]
     · obtain rfl : k = 0 := by omega
       obtain ⟨v1, v2⟩ := dv_end hI hY
       have hq := hM.q
       have rq : Rd wr (some ⟨w2.heap.size, 0, none⟩) qs := fun i hi => ⟨w2.heap.size, 0, rfl, hq.lt, by rw [Nat.zero_add]; exact hq.c i (by simp [hi])⟩
       have hlq := hI.len
       have hdq := hI.dig
       clear hI hq
       go_wp2_with fail
       refine (trim_at false (some ⟨w2.heap.size, 0, none⟩) (K + 1) (K + 1) qs _ hlq (Nat.le_refl _) hdq rq (by omega)).mono ?_
       rintro e w7 ⟨⟨s7, o7, n7, c7, z7, rfl, t1, t2, t3, t4, t5, t6, t7, hB⟩, _⟩
       have hM7 := hM.step hB
       have HBE : Below w.heap.size w w7 := HB2.trans (hM7.below.mono HB2.size)
       clear hM hB
       have fd := field_d (.bool s7) (.slice o7 n7 c7)
       clear t6
       go_wp2
       go_ret2
       exact ⟨o7, n7, c7, z7, ro, rn, rc, rs, rfl, ⟨t1, t2, by omega, t4, by rw [t5]; exact v1, t7⟩, ⟨hM7.rlen, hM7.rcap, hM7.rle, hM7.rnrm, v2, hM7.rrd⟩, HBE⟩
def digsOf (w : World) : Value → List Int
 | .slice (some a) n _ => (List.range n).map fun i => match w.cell? ⟨a.block, a.off + i, none⟩ with | some v => intOf v | none => 0
 | _ => []
theorem digs_of {w : World} {ao : Option Addr} {n cap : Nat} {ds : List Int} (h : Rd w ao ds) (hl : ds.length = n) : digsOf w (.slice ao n cap) = ds := by
 by_cases h0 : n = 0
 · subst h0
   have : ds = [] := List.eq_nil_of_length_eq_zero hl
   subst this
   cases ao <;> simp [digsOf]
 · obtain ⟨b, off, rfl, _, _⟩ := h 0 (by omega)
   simp only [digsOf]
   apply List.ext_getElem
   · simp [hl]
   · intro i h1 h2
     obtain ⟨b', off', e, _, hc⟩ := h i h2
     cases e
     simp [hc, intOf]
structure GdI (W wr : World) (xo : Option Addr) (xn xc : Nat) (xs : List Int) (yo : Option Addr) (yn yc : Nat) (ys : List Int) (k G : Nat) : Prop where
 below : Below W.heap.size W wr
 xlen : xs.length = xn
 xcap : xn ≤ xc
 xle : xn ≤ k
 xnrm : Nrm xs
 xrd : Rd wr xo xs
 ylen : ys.length = yn
 ycap : yn ≤ yc
 yle : yn ≤ k
 ynrm : Nrm ys
 yrd : Rd wr yo ys
 gcd : Int.gcd (val xs) (val ys) = G
theorem gcd_step {x y : Int} (hx : 0 ≤ x) (hy : 0 < y) : Int.gcd y (x % y) = Int.gcd x y := by
 obtain ⟨a, rfl⟩ := Int.eq_ofNat_of_zero_le hx
 obtain ⟨b, rfl⟩ := Int.eq_ofNat_of_zero_le (show 0 ≤ y by omega)
 rw [show ((a : Int) % (b : Int)) = ((a % b : Nat) : Int) from (Int.natCast_emod a b).symm, Int.gcd_natCast_natCast, Int.gcd_natCast_natCast, Nat.gcd_comm a b, Nat.gcd_rec b a, Nat.gcd_comm]
set_option maxRecDepth 100000 in
set_option maxHeartbeats 2000000 in
theorem gcd_any (s t : Bool) (ao bo : Option Addr) (n m ca cb k : Nat) (xs ys : List Int) (x y : Int) (w : World) (hx : IsNum w s ao n ca xs x k) (hy : IsNum w t bo m cb ys y k) (hk : k ≤ 9000) :
   Calls Tryz.prog 107 #[.agg #[.bool s, .slice ao n ca], .agg #[.bool t, .slice bo m cb]] w (NumP k (Int.gcd x y : Int) w) := by
 have T0 := two_start w (.bool s) (.slice ao n ca) (.bool t) (.slice bo m cb)
 have HX := hx.below T0.below
 have HY := hy.below T0.below
 have G0 : Int.gcd (val xs) (val ys) = Int.gcd x y := by rw [hx.val, hy.val]; simp [Int.gcd]
 clear hx hy
 go_enter Tryz.func107, Tryz.ntmps107
 go_upto_region 1 with fail
 generalize ((w.alloc (Obj.cells #[Value.bool s, Value.slice ao n ca] 88)).alloc (Obj.cells #[Value.bool t, Value.slice bo m cb] 88)).alloc (Obj.cells #[Value.bool false, Value.slice none 0 0] 88) = W at *
 have q1 := T0.a1; have q3 := T0.b1
 have I0 : GdI W W ao n ca xs bo m cb ys k (Int.gcd x y) := ⟨Below.refl _ _, HX.len, HX.cap, HX.le, HX.nrm, HX.rd, HY.len, HY.cap, HY.le, HY.nrm, HY.rd, G0⟩
 clear HX HY G0
 have hsz := T0.sz
 go_wp2
 go_loopw [5, 6] (fun u v wr => ∃ (xo : Option Addr) (xn xc : Nat) (xs : List Int) (yo : Option Addr) (yn yc : Nat) (ys : List Int), u = .slice xo xn xc ∧ v = .slice yo yn yc ∧ GdI W wr xo xn xc xs yo yn yc ys k (Int.gcd x y)) (fun _ v wr => (val (digsOf wr v)).toNat)
 case atStart => exact ⟨ao, n, ca, xs, bo, m, cb, ys, rfl, rfl, I0⟩
 case round =>
   clear I0
   obtain ⟨xo, xn, xc, xs, yo, yn, yc, ys, rfl, rfl, I0⟩ := hrel
   by_cases hy0 : 0 < yn
   · have i1 : (0 : Int) < (yn : Int) := by omega
     have hyp := nrm_pos I0.ynrm (by intro e; have := I0.ylen; rw [e] at this; simp at this; omega)
     have hd := digs_of (cap := yc) I0.yrd I0.ylen
     go_wp2_with fail
     refine (divAbs_any xo yo xn yn xc yc xs ys _ I0.xlen I0.ylen I0.xnrm I0.ynrm I0.xrd I0.yrd I0.xcap (by have := I0.xle; omega) (by have := I0.yle; omega) (by omega)).mono ?_
     rintro e w4 ⟨qo, qn, qc, qs, ro, rn, rc, rs, rfl, -, ⟨r1, r2, r3, r4, r5, r6⟩, hB⟩
     have I1 : GdI W w4 yo yn yc ys ro rn rc rs k (Int.gcd x y) := ⟨I0.below.trans (hB.mono I0.below.size), I0.ylen, I0.ycap, I0.yle, I0.ynrm, I0.yrd.below hB (Nat.le_refl _), r1, r2, by have := I0.xle; omega, r4, r6, by rw [r5, gcd_step (val_nonneg I0.xnrm.1) (by omega)]; exact I0.gcd⟩
     have hlt : (val rs).toNat < (val ys).toNat := by
       have h1 := Int.emod_lt_of_pos (val xs) (show 0 < val ys by omega)
       have h2 := Int.emod_nonneg (val xs) (show val ys ≠ 0 by omega)
       rw [r5]
       omega
     have hd2 := digs_of (cap := rc) r6 r1
     clear I0 hB r1 r2 r3 r4 r5 r6
     go_wp2
     go_roundw
     case rel => exact ⟨yo, yn, yc, ys, ro, rn, rc, rs, rfl, rfl, I1⟩
     case measure => rw [hd, hd2]; exact hlt
   · obtain rfl : yn = 0 := by omega
     have hys : ys = [] := List.eq_nil_of_length_eq_zero I0.ylen
     have hG : val xs = ((Int.gcd x y : Int).natAbs : Int) := by
       rw [← I0.gcd, hys]
       have := val_nonneg I0.xnrm.1
       simp [val, Int.gcd]
       omega
     have T1 := T0.step I0.below
     have hxk := I0.xle
     clear q1 q3
     go_wp2_with fail
     refine (trim_any false xo xn xc xs _ I0.xlen I0.xcap I0.xnrm.1 I0.xrd (by omega)).mono ?_
     rintro e w3 ⟨neg', ao', n', cap', ds', rfl, k1, k2, k3, k4, k5, k6, k7, k8⟩
     have T2 := T1.step k8
     have HN := num_of (z := (Int.gcd x y : Int)) (k := k) k1 k2 (by omega) k4 (k5.trans hG) (k6.trans (by rw [hG])) k7 rfl (by intro _; simp)
     have c0 := T2.r0; have c1 := T2.r1; have f0 := T2.f0; have f1 := T2.f1
     have HB := T2.below
     clear k1 k2 k3 k4 k5 k6 k7 k8 T1 T2 I0
     go_wp2
     refine bodyPost_ret (v := .agg #[.bool neg', .slice ao' n' cap']) (by simp [results, Tryz.results107, go_sem, c0, c1]) rfl ?_
     exact num_ret (by omega) c0 c1 HN HB
theorem IsNum.set {w : World} {s : Bool} {ao : Option Addr} {n cap : Nat} {ds : List Int} {z : Int} {k : Nat} (h : IsNum w s ao n cap ds z k) {p : Addr} {v : Value} (h0 : w.cell? p = some v) (hv : ∀ i, v ≠ .int .u32 i) (u : Value) : IsNum (w.setCell p u) s ao n cap ds z k :=
 ⟨h.neg, h.len, h.cap, h.rd.set u h0 hv, h.nrm, h.val, h.le⟩
def ww0 (z : Int) : Int := z % 18446744073709551616
def ww1 (z : Int) : Int := z / 18446744073709551616 % 18446744073709551616
def ww2 (z : Int) : Int := z / 340282366920938463463374607431768211456 % 18446744073709551616
def ww3 (z : Int) : Int := z / 6277101735386680763835789423207666416102355444464034512896 % 18446744073709551616
theorem wd_of {a3 a2 a1 a0 z : Int} (h3 : Word a3) (h2 : Word a2) (h1 : Word a1) (h0 : Word a0) (h : sw a3 a2 a1 a0 = z) : a3 = ww3 z ∧ a2 = ww2 z ∧ a1 = ww1 z ∧ a0 = ww0 z := by
 unfold Word sw uw ww3 ww2 ww1 ww0 at *
 split at h <;> omega
abbrev W4 (z : Int) : Value := .agg #[.int .u64 (ww3 z), .int .u64 (ww2 z), .int .u64 (ww1 z), .int .u64 (ww0 z)]
def VP (v : Value) (w : World) (e : Ending) (w' : World) : Prop := e = .returned v ∧ Below w.heap.size w w'
theorem div_unique {x y q r : Int} (hy : y ≠ 0) (he : x = q * y + r) (h0 : 0 ≤ r) (h1 : r < (y.natAbs : Int)) : x / y = q ∧ x % y = r := by
 have hm : x % y = r := by
   rw [he, Int.add_comm, Int.add_mul_emod_self_right]
   rcases Int.lt_or_gt_of_ne hy with h | h
   · rw [← Int.emod_neg]
     exact Int.emod_eq_of_lt h0 (by omega)
   · exact Int.emod_eq_of_lt h0 (by omega)
 refine ⟨?_, hm⟩
 have e := Int.emod_add_mul_ediv x y
 rw [hm] at e
 have e2 : y * (x / y) = y * q := by rw [Int.mul_comm y q]; omega
 exact Int.eq_of_mul_eq_mul_left hy e2
theorem div_parts (x y : Int) (hy : y ≠ 0) : ∃ Q R : Int, (x.natAbs : Int) / (y.natAbs : Int) = Q ∧ (x.natAbs : Int) % (y.natAbs : Int) = R ∧ 0 ≤ Q ∧ 0 ≤ R ∧ R < (y.natAbs : Int) ∧ (x.natAbs : Int) = Q * (y.natAbs : Int) + R := by
 have hp : (0 : Int) < (y.natAbs : Int) := by omega
 refine ⟨_, _, rfl, rfl, Int.ediv_nonneg (by omega) (by omega), Int.emod_nonneg _ (by omega), Int.emod_lt_of_pos _ hp, ?_⟩
 have := Int.emod_add_mul_ediv (x.natAbs : Int) (y.natAbs : Int)
 rw [Int.mul_comm] at this
 omega
theorem div_signs {x y Q R : Int} (hy : y ≠ 0) (h0 : 0 ≤ R) (h1 : R < (y.natAbs : Int)) (he : (x.natAbs : Int) = Q * (y.natAbs : Int) + R) :
   (0 ≤ x → 0 < y → x / y = Q ∧ x % y = R) ∧ (0 ≤ x → y < 0 → x / y = -Q ∧ x % y = R) ∧ (x < 0 → R = 0 → 0 < y → x / y = -Q ∧ x % y = 0) ∧ (x < 0 → R = 0 → y < 0 → x / y = Q ∧ x % y = 0) ∧
   (x < 0 → 0 < R → 0 < y → x / y = -Q - 1 ∧ x % y = -R + y) ∧ (x < 0 → 0 < R → y < 0 → x / y = Q + 1 ∧ x % y = -R - y) := by
 refine ⟨?_, ?_, ?_, ?_, ?_, ?_⟩
 · intro hx hp
   rw [show (x.natAbs : Int) = x by omega, show (y.natAbs : Int) = y by omega] at he
   exact div_unique hy he h0 h1
 · intro hx hp
   rw [show (x.natAbs : Int) = x by omega, show (y.natAbs : Int) = -y by omega] at he
   exact div_unique hy (by rw [he, Int.neg_mul, Int.mul_neg]) h0 h1
 · intro hx hR hp
   rw [show (x.natAbs : Int) = -x by omega, show (y.natAbs : Int) = y by omega] at he
   exact div_unique hy (by rw [Int.neg_mul]; omega) (by omega) (by omega)
 · intro hx hR hp
   rw [show (x.natAbs : Int) = -x by omega, show (y.natAbs : Int) = -y by omega, Int.mul_neg] at he
   exact div_unique hy (by omega) (by omega) (by omega)
 · intro hx hR hp
   rw [show (x.natAbs : Int) = -x by omega, show (y.natAbs : Int) = y by omega] at he
   exact div_unique hy (by rw [Int.sub_mul, Int.neg_mul]; omega) (by omega) (by omega)
 · intro hx hR hp
   rw [show (x.natAbs : Int) = -x by omega, show (y.natAbs : Int) = -y by omega, Int.mul_neg] at he
   exact div_unique hy (by rw [Int.add_mul]; omega) (by omega) (by omega)
def shareZ (x d : Int) (b : Bool) : Int := if decide (x < 0) != b then -((x.natAbs : Int) / d) else (x.natAbs : Int) / d
theorem implOf_det (n : Int) (w : World) (h0 : -9223372036854775808 ≤ n) (h1 : n ≤ 9223372036854775807) : Calls Tryz.prog 159 #[.int .i64 n] w (VP (W4 n) w) := by
 refine (implOf_any n w h0 h1).mono ?_
 rintro e w' ⟨a3, a2, a1, a0, rfl, g3, g2, g1, g0, hs, hB⟩
 obtain ⟨rfl, rfl, rfl, rfl⟩ := wd_of g3 g2 g1 g0 hs
 exact ⟨rfl, hB⟩
def L3P (k : Nat) (x y z : Int) (w : World) (e : Ending) (w' : World) : Prop :=
 ∃ (s1 : Bool) (o1 : Option Addr) (n1 c1 : Nat) (d1 : List Int) (s2 : Bool) (o2 : Option Addr) (n2 c2 : Nat) (d2 : List Int) (s3 : Bool) (o3 : Option Addr) (n3 c3 : Nat) (d3 : List Int), e = .returned (.agg #[.bool s1, .slice o1 n1 c1, .bool s2, .slice o2 n2 c2, .bool s3, .slice o3 n3 c3]) ∧ IsNum w' s1 o1 n1 c1 d1 x k ∧ IsNum w' s2 o2 n2 c2 d2 y k ∧ IsNum w' s3 o3 n3 c3 d3 z k ∧ Below w.heap.size w w'
theorem IsNum.setp {w : World} {s : Bool} {ao : Option Addr} {n cap : Nat} {ds : List Int} {z : Int} {k : Nat} (h : IsNum w s ao n cap ds z k) {p : Addr} {v : Value} (u : Value) (hp : w.cell? p = some v) (hv : ∀ x, v ≠ .int .u32 x) : IsNum (w.setCell p u) s ao n cap ds z k :=
 h.set hp hv u
theorem num_set6 {w : World} {s : Bool} {ao : Option Addr} {n cap : Nat} {ds : List Int} {z : Int} {k R : Nat} (h : IsNum w s ao n cap ds z k) (B : Blk w R [.bool false, .slice none 0 0, .bool false, .slice none 0 0, .bool false, .slice none 0 0]) (v0 v1 v2 v3 v4 v5 : Value) : IsNum ((((((w.setCell ⟨R, 0, none⟩ v0).setCell ⟨R, 1, none⟩ v1).setCell ⟨R, 2, none⟩ v2).setCell ⟨R, 3, none⟩ v3).setCell ⟨R, 4, none⟩ v4).setCell ⟨R, 5, none⟩ v5) s ao n cap ds z k := by
 have h1 := h.setp v0 (B.c 0 rfl) (by intro x e; cases e)
 have B1 := B.setI 0 (by simp) v0
 have h2 := h1.setp v1 (B1.c 1 rfl) (by intro x e; cases e)
 have B2 := B1.setI 1 (by simp) v1
 have h3 := h2.setp v2 (B2.c 2 rfl) (by intro x e; cases e)
 have B3 := B2.setI 2 (by simp) v2
 have h4 := h3.setp v3 (B3.c 3 rfl) (by intro x e; cases e)
 have B4 := B3.setI 3 (by simp) v3
 have h5 := h4.setp v4 (B4.c 4 rfl) (by intro x e; cases e)
 have B5 := B4.setI 4 (by simp) v4
 have h6 := h5.setp v5 (B5.c 5 rfl) (by intro x e; cases e)
 have B6 := B5.setI 5 (by simp) v5
 exact h6
theorem l3_cells {x y : Int} {w W : World} (h : ArgsB w W [[.int .i64 x, .int .i64 y], [.bool false, .slice none 0 0, .bool false, .slice none 0 0, .bool false, .slice none 0 0]]) : (fun w' => w'.cell? ⟨w.heap.size, 0, none⟩ = some (.int .i64 x) ∧ w'.cell? ⟨w.heap.size, 1, none⟩ = some (.int .i64 y)) W := ⟨(h.b 0 rfl).c 0 rfl, (h.b 0 rfl).c 1 rfl⟩
theorem l3_cells6 {x y : Int} {w W : World} {v0 v1 v2 v3 v4 v5 : Value} (h : ArgsB w W [[.int .i64 x, .int .i64 y], [.bool false, .slice none 0 0, .bool false, .slice none 0 0, .bool false, .slice none 0 0]]) : (fun w' => w'.cell? ⟨w.heap.size, 0, none⟩ = some (.int .i64 x) ∧ w'.cell? ⟨w.heap.size, 1, none⟩ = some (.int .i64 y)) ((((((W.setCell ⟨w.heap.size + 1, 0, none⟩ v0).setCell ⟨w.heap.size + 1, 1, none⟩ v1).setCell ⟨w.heap.size + 1, 2, none⟩ v2).setCell ⟨w.heap.size + 1, 3, none⟩ v3).setCell ⟨w.heap.size + 1, 4, none⟩ v4).setCell ⟨w.heap.size + 1, 5, none⟩ v5) := by
 have a : Blk _ (w.heap.size + 0) _ := (((((((h.b 0 rfl).setO (p := ⟨w.heap.size + 1, 0, none⟩) (by show w.heap.size + 0 ≠ w.heap.size + 1; omega) v0).setO (p := ⟨w.heap.size + 1, 1, none⟩) (by show w.heap.size + 0 ≠ w.heap.size + 1; omega) v1).setO (p := ⟨w.heap.size + 1, 2, none⟩) (by show w.heap.size + 0 ≠ w.heap.size + 1; omega) v2).setO (p := ⟨w.heap.size + 1, 3, none⟩) (by show w.heap.size + 0 ≠ w.heap.size + 1; omega) v3).setO (p := ⟨w.heap.size + 1, 4, none⟩) (by show w.heap.size + 0 ≠ w.heap.size + 1; omega) v4).setO (p := ⟨w.heap.size + 1, 5, none⟩) (by show w.heap.size + 0 ≠ w.heap.size + 1; omega) v5)
 exact ⟨a.c 0 rfl, a.c 1 rfl⟩
theorem l3_start (x y : Int) (w : World) : ArgsB w ((w.alloc (.cells #[.int .i64 x, .int .i64 y] 51)).alloc (.cells #[.bool false, .slice none 0 0, .bool false, .slice none 0 0, .bool false, .slice none 0 0] 90)) [[.int .i64 x, .int .i64 y], [.bool false, .slice none 0 0, .bool false, .slice none 0 0, .bool false, .slice none 0 0]] := by
 refine ⟨((Below.refl _ _).alloc (Nat.le_refl _) _).alloc (by simp) _, fun j vs hj => ?_⟩
 match j, hj with
 | 0, hj => cases hj; exact (Blk.new w [.int .i64 x, .int .i64 y] 51 rfl).alloc _
 | 1, hj => cases hj; exact Blk.new (w.alloc (.cells #[.int .i64 x, .int .i64 y] 51)) [.bool false, .slice none 0 0, .bool false, .slice none 0 0, .bool false, .slice none 0 0] 90 (by simp)
 | j + 2, hj => simp at hj
set_option maxRecDepth 100000 in
set_option maxHeartbeats 2000000 in
theorem l3Spot_any (x y : Int) (hx0 : -9223372036854775808 ≤ x) (hx1 : x ≤ 9223372036854775807) (hy0 : -9223372036854775808 ≤ y) (hy1 : y ≤ 9223372036854775807) (w : World) :
   Calls Tryz.prog 90 #[.agg #[.int .i64 x, .int .i64 y]] w (L3P 2 x y 1 w) := by
 have T0 := l3_start x y w
 have tok1 : True := trivial
 have tok2 : True := trivial
 go_enter Tryz.func90, Tryz.ntmps90
 go_upto_region 1 with fail
 generalize ((w.alloc (.cells #[.int .i64 x, .int .i64 y] 51)).alloc (.cells #[.bool false, .slice none 0 0, .bool false, .slice none 0 0, .bool false, .slice none 0 0] 90)) = W at *
 go_region_held3 (fun w' => w'.cell? ⟨w.heap.size, 0, none⟩ = some (.int .i64 x) ∧ w'.cell? ⟨w.heap.size, 1, none⟩ = some (.int .i64 y)) (first | (with_reducible exact l3_cells T0) | (with_reducible exact l3_cells T0.drew) | (with_reducible exact l3_cells6 T0))
   (first
     | (go_at_call 91; have _t := tok1; refine (int_any x _ hx0 hx1).mono ?_; rintro e w1 ⟨s1, o1, n1, c1, d1, rfl, N1, hB⟩; (first | (have T1 := T0.step hB) | (have T1 := T0.drew.step hB)); clear T0; have T0 := T1; clear T1; clear tok1 _t hB)
     | (go_at_call 91; have _t := tok2; refine (int_any y _ hy0 hy1).mono ?_; rintro e w2 ⟨s2, o2, n2, c2, d2, rfl, N2, hB⟩; replace N1 := N1.below hB; (first | (have T1 := T0.step hB) | (have T1 := T0.drew.step hB)); clear T0; have T0 := T1; clear T1; clear tok2 _t hB)
     | (go_at_call 91; refine (int_any 1 _ (by decide) (by decide)).mono ?_; rintro e w3 ⟨s3, o3, n3, c3, d3, rfl, N3, hB⟩; replace N1 := N1.below hB; replace N2 := N2.below hB; (first | (have T1 := T0.step hB) | (have T1 := T0.drew.step hB)); clear T0; have T0 := T1; clear T1; have r0 := (T0.b 1 rfl).c 0 rfl; have f0 := (T0.b 1 rfl).f 0 rfl; have r1 := (T0.b 1 rfl).c 1 rfl; have f1 := (T0.b 1 rfl).f 1 rfl; have r2 := (T0.b 1 rfl).c 2 rfl; have f2 := (T0.b 1 rfl).f 2 rfl; have r3 := (T0.b 1 rfl).c 3 rfl; have f3 := (T0.b 1 rfl).f 3 rfl; have r4 := (T0.b 1 rfl).c 4 rfl; have f4 := (T0.b 1 rfl).f 4 rfl; have r5 := (T0.b 1 rfl).c 5 rfl; have f5 := (T0.b 1 rfl).f 5 rfl; have rlt := (T0.b 1 rfl).lt; clear hB))
 all_goals have HB := T0.below
 all_goals have M1 := num_set6 N1 (T0.b 1 rfl) (.bool s1) (.slice o1 n1 c1) (.bool s2) (.slice o2 n2 c2) (.bool s3) (.slice o3 n3 c3)
 all_goals have M2 := num_set6 N2 (T0.b 1 rfl) (.bool s1) (.slice o1 n1 c1) (.bool s2) (.slice o2 n2 c2) (.bool s3) (.slice o3 n3 c3)
 all_goals have M3 := num_set6 N3 (T0.b 1 rfl) (.bool s1) (.slice o1 n1 c1) (.bool s2) (.slice o2 n2 c2) (.bool s3) (.slice o3 n3 c3)
 all_goals clear T0 N1 N2 N3
 all_goals go_wp2
 all_goals refine bodyPost_ret (v := .agg #[.bool s1, .slice o1 n1 c1, .bool s2, .slice o2 n2 c2, .bool s3, .slice o3 n3 c3]) (by simp [results, Tryz.results90, go_sem, r0, r1, r2, r3, r4, r5]) rfl ?_
 all_goals refine ⟨s1, o1, n1, c1, d1, s2, o2, n2, c2, d2, s3, o3, n3, c3, d3, rfl, M1, M2, M3, ?_⟩
 all_goals repeat' (refine Below.setCell ?_ (by simp) _)
 all_goals exact HB
theorem ret_bool {a b : Bool} (h : b = a) : Ending.returned (.bool a) = .returned (.bool b) := by rw [h]
def small (z : Int) : Bool := decide ((z.natAbs : Int) < 1208925819614629174706176)
theorem ww_sw {z : Int} (h : told z = true) : sw (ww3 z) (ww2 z) (ww1 z) (ww0 z) = z := by
 unfold told at h
 rw [decide_eq_true_iff] at h
 unfold sw uw ww3 ww2 ww1 ww0
 split <;> omega
theorem ar1 (a : List Value) (T : TypeId) (w : World) : ArgsB w (w.alloc (.cells a.toArray T)) [a] := by
 refine ⟨(Below.refl _ _).alloc (Nat.le_refl _) _, fun j vs hj => ?_⟩
 match j, hj with
 | 0, hj => cases hj; exact Blk.new w a T rfl
 | j + 1, hj => simp at hj
theorem ArgsB.more {w W : World} {vss : List (List Value)} (h : ArgsB w W vss) (hl : W.heap.size = w.heap.size + vss.length) (b : List Value) (T : TypeId) : ArgsB w (W.alloc (.cells b.toArray T)) (vss ++ [b]) := by
 refine ⟨(h.alloc _).below, fun j vs hj => ?_⟩
 rcases Nat.lt_trichotomy j vss.length with hlt | rfl | hgt
 · rw [List.getElem?_append_left hlt] at hj
   exact (h.b j hj).alloc _
 · simp at hj
   subst hj
   exact Blk.new W b T hl.symm
 · rw [List.getElem?_eq_none (by simp; omega)] at hj
   cases hj
theorem ar2 (a b : List Value) (T U : TypeId) (w : World) : ArgsB w ((w.alloc (.cells a.toArray T)).alloc (.cells b.toArray U)) [a, b] := (ar1 a T w).more (by simp) b U
theorem ar3 (a b c : List Value) (T U V : TypeId) (w : World) : ArgsB w (((w.alloc (.cells a.toArray T)).alloc (.cells b.toArray U)).alloc (.cells c.toArray V)) [a, b, c] := (ar2 a b T U w).more (by simp) c V
theorem ar4 (a b c d : List Value) (T U V X : TypeId) (w : World) : ArgsB w ((((w.alloc (.cells a.toArray T)).alloc (.cells b.toArray U)).alloc (.cells c.toArray V)).alloc (.cells d.toArray X)) [a, b, c, d] := (ar3 a b c T U V w).more (by simp) d X
abbrev PV (x y z : Int) : Value := .agg #[.int .u64 (ww3 x), .int .u64 (ww2 x), .int .u64 (ww1 x), .int .u64 (ww0 x), .int .u64 (ww3 y), .int .u64 (ww2 y), .int .u64 (ww1 y), .int .u64 (ww0 y), .int .u64 (ww3 z), .int .u64 (ww2 z), .int .u64 (ww1 z), .int .u64 (ww0 z)]
open Go.ChangeShapes Go.WideShapes Go.ChangeAt Go.RowKit Go.Joins
theorem Tryz.own : ownKnob Tryz.prog.godebug = none := by kernel_rfl
open Go.ChangeShapes Go.WideShapes Go.ChangeAt Go.RowKit Go.Joins
abbrev WdD {H : Type} (a3 a2 a1 a0 : Int) : DataW H := .agg [.lit (.int .u64 a3), .lit (.int .u64 a2), .lit (.int .u64 a1), .lit (.int .u64 a0)]
abbrev PtD {H : Type} (x y z : Int) : DataW H := .agg [WdD (ww3 x) (ww2 x) (ww1 x) (ww0 x), WdD (ww3 y) (ww2 y) (ww1 y) (ww0 y), WdD (ww3 z) (ww2 z) (ww1 z) (ww0 z)]
theorem told_small {z : Int} (h : small z = true) : told z = true := by
 unfold small at h
 unfold told
 simp at h
 apply decide_eq_true
 omega
theorem small_int {x : Int} (h0 : -9223372036854775808 ≤ x) (h1 : x ≤ 9223372036854775807) : small x = true := by
 unfold small
 apply decide_eq_true
 omega
theorem ip_cells {x y : Int} {w W : World} (h : ArgsB w W [[.int .i64 x, .int .i64 y], [.int .u64 0, .int .u64 0, .int .u64 0, .int .u64 0, .int .u64 0, .int .u64 0, .int .u64 0, .int .u64 0, .int .u64 0, .int .u64 0, .int .u64 0, .int .u64 0]]) : (fun w' => w'.cell? ⟨w.heap.size, 0, none⟩ = some (.int .i64 x) ∧ w'.cell? ⟨w.heap.size, 1, none⟩ = some (.int .i64 y)) W := ⟨(h.b 0 rfl).c 0 rfl, (h.b 0 rfl).c 1 rfl⟩
theorem ip_cells12 {x y : Int} {w W : World} {v0 v1 v2 v3 v4 v5 v6 v7 v8 v9 v10 v11 : Value} (h : ArgsB w W [[.int .i64 x, .int .i64 y], [.int .u64 0, .int .u64 0, .int .u64 0, .int .u64 0, .int .u64 0, .int .u64 0, .int .u64 0, .int .u64 0, .int .u64 0, .int .u64 0, .int .u64 0, .int .u64 0]]) : (fun w' => w'.cell? ⟨w.heap.size, 0, none⟩ = some (.int .i64 x) ∧ w'.cell? ⟨w.heap.size, 1, none⟩ = some (.int .i64 y)) ((((((((((((W.setCell ⟨w.heap.size + 1, 0, none⟩ v0).setCell ⟨w.heap.size + 1, 1, none⟩ v1).setCell ⟨w.heap.size + 1, 2, none⟩ v2).setCell ⟨w.heap.size + 1, 3, none⟩ v3).setCell ⟨w.heap.size + 1, 4, none⟩ v4).setCell ⟨w.heap.size + 1, 5, none⟩ v5).setCell ⟨w.heap.size + 1, 6, none⟩ v6).setCell ⟨w.heap.size + 1, 7, none⟩ v7).setCell ⟨w.heap.size + 1, 8, none⟩ v8).setCell ⟨w.heap.size + 1, 9, none⟩ v9).setCell ⟨w.heap.size + 1, 10, none⟩ v10).setCell ⟨w.heap.size + 1, 11, none⟩ v11) := by
 have a : Blk _ (w.heap.size + 0) _ := (((((((((((((h.b 0 rfl).setO (p := ⟨w.heap.size + 1, 0, none⟩) (by show w.heap.size + 0 ≠ w.heap.size + 1; omega) v0).setO (p := ⟨w.heap.size + 1, 1, none⟩) (by show w.heap.size + 0 ≠ w.heap.size + 1; omega) v1).setO (p := ⟨w.heap.size + 1, 2, none⟩) (by show w.heap.size + 0 ≠ w.heap.size + 1; omega) v2).setO (p := ⟨w.heap.size + 1, 3, none⟩) (by show w.heap.size + 0 ≠ w.heap.size + 1; omega) v3).setO (p := ⟨w.heap.size + 1, 4, none⟩) (by show w.heap.size + 0 ≠ w.heap.size + 1; omega) v4).setO (p := ⟨w.heap.size + 1, 5, none⟩) (by show w.heap.size + 0 ≠ w.heap.size + 1; omega) v5).setO (p := ⟨w.heap.size + 1, 6, none⟩) (by show w.heap.size + 0 ≠ w.heap.size + 1; omega) v6).setO (p := ⟨w.heap.size + 1, 7, none⟩) (by show w.heap.size + 0 ≠ w.heap.size + 1; omega) v7).setO (p := ⟨w.heap.size + 1, 8, none⟩) (by show w.heap.size + 0 ≠ w.heap.size + 1; omega) v8).setO (p := ⟨w.heap.size + 1, 9, none⟩) (by show w.heap.size + 0 ≠ w.heap.size + 1; omega) v9).setO (p := ⟨w.heap.size + 1, 10, none⟩) (by show w.heap.size + 0 ≠ w.heap.size + 1; omega) v10).setO (p := ⟨w.heap.size + 1, 11, none⟩) (by show w.heap.size + 0 ≠ w.heap.size + 1; omega) v11)
 exact ⟨a.c 0 rfl, a.c 1 rfl⟩
theorem ip_start (x y : Int) (w : World) : ArgsB w ((w.alloc (.cells #[.int .i64 x, .int .i64 y] 51)).alloc (.cells #[.int .u64 0, .int .u64 0, .int .u64 0, .int .u64 0, .int .u64 0, .int .u64 0, .int .u64 0, .int .u64 0, .int .u64 0, .int .u64 0, .int .u64 0, .int .u64 0] 44)) [[.int .i64 x, .int .i64 y], [.int .u64 0, .int .u64 0, .int .u64 0, .int .u64 0, .int .u64 0, .int .u64 0, .int .u64 0, .int .u64 0, .int .u64 0, .int .u64 0, .int .u64 0, .int .u64 0]] := by
 refine ⟨((Below.refl _ _).alloc (Nat.le_refl _) _).alloc (by simp) _, fun j vs hj => ?_⟩
 match j, hj with
 | 0, hj => cases hj; exact (Blk.new w [.int .i64 x, .int .i64 y] 51 rfl).alloc _
 | 1, hj => cases hj; exact Blk.new (w.alloc (.cells #[.int .i64 x, .int .i64 y] 51)) [.int .u64 0, .int .u64 0, .int .u64 0, .int .u64 0, .int .u64 0, .int .u64 0, .int .u64 0, .int .u64 0, .int .u64 0, .int .u64 0, .int .u64 0, .int .u64 0] 44 (by simp)
 | j + 2, hj => simp at hj
set_option maxRecDepth 100000 in
set_option maxHeartbeats 2000000 in
theorem implPointOf_any (x y : Int) (hx0 : -9223372036854775808 ≤ x) (hx1 : x ≤ 9223372036854775807) (hy0 : -9223372036854775808 ≤ y) (hy1 : y ≤ 9223372036854775807) (w : World) :
   Calls Tryz.prog 110 #[.agg #[.int .i64 x, .int .i64 y]] w (VP (.agg #[.int .u64 (ww3 x), .int .u64 (ww2 x), .int .u64 (ww1 x), .int .u64 (ww0 x), .int .u64 (ww3 y), .int .u64 (ww2 y), .int .u64 (ww1 y), .int .u64 (ww0 y), .int .u64 (ww3 1), .int .u64 (ww2 1), .int .u64 (ww1 1), .int .u64 (ww0 1)]) w) := by
 have T0 := ip_start x y w
 have tok1 : True := trivial
 have tok2 : True := trivial
 go_enter Tryz.func110, Tryz.ntmps110
 go_upto_region 1 with fail
 generalize ((w.alloc (.cells #[.int .i64 x, .int .i64 y] 51)).alloc (.cells #[.int .u64 0, .int .u64 0, .int .u64 0, .int .u64 0, .int .u64 0, .int .u64 0, .int .u64 0, .int .u64 0, .int .u64 0, .int .u64 0, .int .u64 0, .int .u64 0] 44)) = W at *
 go_region_held3 (fun w' => w'.cell? ⟨w.heap.size, 0, none⟩ = some (.int .i64 x) ∧ w'.cell? ⟨w.heap.size, 1, none⟩ = some (.int .i64 y)) (first | (with_reducible exact ip_cells T0) | (with_reducible exact ip_cells T0.drew) | (with_reducible exact ip_cells12 T0))
   (first
     | (go_at_call 159; have _t := tok1; refine (implOf_det x _ hx0 hx1).mono ?_; rintro e w1 ⟨rfl, hB⟩; (first | (have T1 := T0.step hB) | (have T1 := T0.drew.step hB)); clear T0; have T0 := T1; clear T1; clear tok1 _t hB)
     | (go_at_call 159; have _t := tok2; refine (implOf_det y _ hy0 hy1).mono ?_; rintro e w2 ⟨rfl, hB⟩; (first | (have T1 := T0.step hB) | (have T1 := T0.drew.step hB)); clear T0; have T0 := T1; clear T1; clear tok2 _t hB)
     | (go_at_call 159; refine (implOf_det 1 _ (by decide) (by decide)).mono ?_; rintro e w3 ⟨rfl, hB⟩; (first | (have T1 := T0.step hB) | (have T1 := T0.drew.step hB)); clear T0; have T0 := T1; clear T1; have tc0 := (T0.b 1 rfl).c 0 rfl; have tf0 := (T0.b 1 rfl).f 0 rfl; have tc1 := (T0.b 1 rfl).c 1 rfl; have tf1 := (T0.b 1 rfl).f 1 rfl; have tc2 := (T0.b 1 rfl).c 2 rfl; have tf2 := (T0.b 1 rfl).f 2 rfl; have tc3 := (T0.b 1 rfl).c 3 rfl; have tf3 := (T0.b 1 rfl).f 3 rfl; have tc4 := (T0.b 1 rfl).c 4 rfl; have tf4 := (T0.b 1 rfl).f 4 rfl; have tc5 := (T0.b 1 rfl).c 5 rfl; have tf5 := (T0.b 1 rfl).f 5 rfl; have tc6 := (T0.b 1 rfl).c 6 rfl; have tf6 := (T0.b 1 rfl).f 6 rfl; have tc7 := (T0.b 1 rfl).c 7 rfl; have tf7 := (T0.b 1 rfl).f 7 rfl; have tc8 := (T0.b 1 rfl).c 8 rfl; have tf8 := (T0.b 1 rfl).f 8 rfl; have tc9 := (T0.b 1 rfl).c 9 rfl; have tf9 := (T0.b 1 rfl).f 9 rfl; have tc10 := (T0.b 1 rfl).c 10 rfl; have tf10 := (T0.b 1 rfl).f 10 rfl; have tc11 := (T0.b 1 rfl).c 11 rfl; have tf11 := (T0.b 1 rfl).f 11 rfl; have tl := (T0.b 1 rfl).lt; clear hB))
 all_goals have F : Blk (((((((((((((w3.setCell ⟨w.heap.size + 1, 0, none⟩ (.int .u64 (ww3 x))).setCell ⟨w.heap.size + 1, 1, none⟩ (.int .u64 (ww2 x))).setCell ⟨w.heap.size + 1, 2, none⟩ (.int .u64 (ww1 x))).setCell ⟨w.heap.size + 1, 3, none⟩ (.int .u64 (ww0 x))).setCell ⟨w.heap.size + 1, 4, none⟩ (.int .u64 (ww3 y))).setCell ⟨w.heap.size + 1, 5, none⟩ (.int .u64 (ww2 y))).setCell ⟨w.heap.size + 1, 6, none⟩ (.int .u64 (ww1 y))).setCell ⟨w.heap.size + 1, 7, none⟩ (.int .u64 (ww0 y))).setCell ⟨w.heap.size + 1, 8, none⟩ (.int .u64 (ww3 1))).setCell ⟨w.heap.size + 1, 9, none⟩ (.int .u64 (ww2 1))).setCell ⟨w.heap.size + 1, 10, none⟩ (.int .u64 (ww1 1))).setCell ⟨w.heap.size + 1, 11, none⟩ (.int .u64 (ww0 1)))) (w.heap.size + 1) [.int .u64 (ww3 x), .int .u64 (ww2 x), .int .u64 (ww1 x), .int .u64 (ww0 x), .int .u64 (ww3 y), .int .u64 (ww2 y), .int .u64 (ww1 y), .int .u64 (ww0 y), .int .u64 (ww3 1), .int .u64 (ww2 1), .int .u64 (ww1 1), .int .u64 (ww0 1)] := ((((((((((((((T0.b 1 rfl).setI 0 (by simp) (.int .u64 (ww3 x))).setI 1 (by simp) (.int .u64 (ww2 x))).setI 2 (by simp) (.int .u64 (ww1 x))).setI 3 (by simp) (.int .u64 (ww0 x))).setI 4 (by simp) (.int .u64 (ww3 y))).setI 5 (by simp) (.int .u64 (ww2 y))).setI 6 (by simp) (.int .u64 (ww1 y))).setI 7 (by simp) (.int .u64 (ww0 y))).setI 8 (by simp) (.int .u64 (ww3 1))).setI 9 (by simp) (.int .u64 (ww2 1))).setI 10 (by simp) (.int .u64 (ww1 1))).setI 11 (by simp) (.int .u64 (ww0 1))))
 all_goals have HBF : Below w.heap.size w (((((((((((((w3.setCell ⟨w.heap.size + 1, 0, none⟩ (.int .u64 (ww3 x))).setCell ⟨w.heap.size + 1, 1, none⟩ (.int .u64 (ww2 x))).setCell ⟨w.heap.size + 1, 2, none⟩ (.int .u64 (ww1 x))).setCell ⟨w.heap.size + 1, 3, none⟩ (.int .u64 (ww0 x))).setCell ⟨w.heap.size + 1, 4, none⟩ (.int .u64 (ww3 y))).setCell ⟨w.heap.size + 1, 5, none⟩ (.int .u64 (ww2 y))).setCell ⟨w.heap.size + 1, 6, none⟩ (.int .u64 (ww1 y))).setCell ⟨w.heap.size + 1, 7, none⟩ (.int .u64 (ww0 y))).setCell ⟨w.heap.size + 1, 8, none⟩ (.int .u64 (ww3 1))).setCell ⟨w.heap.size + 1, 9, none⟩ (.int .u64 (ww2 1))).setCell ⟨w.heap.size + 1, 10, none⟩ (.int .u64 (ww1 1))).setCell ⟨w.heap.size + 1, 11, none⟩ (.int .u64 (ww0 1)))) := (((((((((((((T0.below.setCell (p := ⟨w.heap.size + 1, 0, none⟩) (by simp) (.int .u64 (ww3 x))).setCell (p := ⟨w.heap.size + 1, 1, none⟩) (by simp) (.int .u64 (ww2 x))).setCell (p := ⟨w.heap.size + 1, 2, none⟩) (by simp) (.int .u64 (ww1 x))).setCell (p := ⟨w.heap.size + 1, 3, none⟩) (by simp) (.int .u64 (ww0 x))).setCell (p := ⟨w.heap.size + 1, 4, none⟩) (by simp) (.int .u64 (ww3 y))).setCell (p := ⟨w.heap.size + 1, 5, none⟩) (by simp) (.int .u64 (ww2 y))).setCell (p := ⟨w.heap.size + 1, 6, none⟩) (by simp) (.int .u64 (ww1 y))).setCell (p := ⟨w.heap.size + 1, 7, none⟩) (by simp) (.int .u64 (ww0 y))).setCell (p := ⟨w.heap.size + 1, 8, none⟩) (by simp) (.int .u64 (ww3 1))).setCell (p := ⟨w.heap.size + 1, 9, none⟩) (by simp) (.int .u64 (ww2 1))).setCell (p := ⟨w.heap.size + 1, 10, none⟩) (by simp) (.int .u64 (ww1 1))).setCell (p := ⟨w.heap.size + 1, 11, none⟩) (by simp) (.int .u64 (ww0 1))))
 all_goals clear T0
 all_goals go_wp2
 all_goals generalize (((((((((((((w3.setCell ⟨w.heap.size + 1, 0, none⟩ (.int .u64 (ww3 x))).setCell ⟨w.heap.size + 1, 1, none⟩ (.int .u64 (ww2 x))).setCell ⟨w.heap.size + 1, 2, none⟩ (.int .u64 (ww1 x))).setCell ⟨w.heap.size + 1, 3, none⟩ (.int .u64 (ww0 x))).setCell ⟨w.heap.size + 1, 4, none⟩ (.int .u64 (ww3 y))).setCell ⟨w.heap.size + 1, 5, none⟩ (.int .u64 (ww2 y))).setCell ⟨w.heap.size + 1, 6, none⟩ (.int .u64 (ww1 y))).setCell ⟨w.heap.size + 1, 7, none⟩ (.int .u64 (ww0 y))).setCell ⟨w.heap.size + 1, 8, none⟩ (.int .u64 (ww3 1))).setCell ⟨w.heap.size + 1, 9, none⟩ (.int .u64 (ww2 1))).setCell ⟨w.heap.size + 1, 10, none⟩ (.int .u64 (ww1 1))).setCell ⟨w.heap.size + 1, 11, none⟩ (.int .u64 (ww0 1)))) = WF at *
 all_goals (have u0 := F.c 0 rfl; have u1 := F.c 1 rfl; have u2 := F.c 2 rfl; have u3 := F.c 3 rfl; have u4 := F.c 4 rfl; have u5 := F.c 5 rfl; have u6 := F.c 6 rfl; have u7 := F.c 7 rfl; have u8 := F.c 8 rfl; have u9 := F.c 9 rfl; have u10 := F.c 10 rfl; have u11 := F.c 11 rfl)
 all_goals refine bodyPost_ret (v := .agg #[.int .u64 (ww3 x), .int .u64 (ww2 x), .int .u64 (ww1 x), .int .u64 (ww0 x), .int .u64 (ww3 y), .int .u64 (ww2 y), .int .u64 (ww1 y), .int .u64 (ww0 y), .int .u64 (ww3 1), .int .u64 (ww2 1), .int .u64 (ww1 1), .int .u64 (ww0 1)]) (by simp [results, Tryz.results110, go_sem, u0, u1, u2, u3, u4, u5, u6, u7, u8, u9, u10, u11]) rfl ?_
 all_goals exact ⟨rfl, HBF⟩
end Go.Proofs.YteakhlipmmfilaaGreat
