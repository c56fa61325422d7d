/- The walk of the model's product of two numbers. -/
import Derived.Test.YtinilehbhdpdkaaSub
import Derived.Deep.QuietTactic
import Derived.BigQuiet
import Derived.Deep.DeepCutAuto
namespace Go.Proofs.Ytinilehbhdpdkaa
open Go.RowKit
theorem val_set (zs : List Int) (j : Nat) (h : j < zs.length) (u : Int) : val (zs.set j u) = val zs + pw j * (u - zs[j]) := by
  have e1 := val_split zs j h
  have e2 := val_split (zs.set j u) j (by simpa using h)
  rw [e2, e1]
  have t1 : (zs.set j u).take j = zs.take j := by rw [List.take_set_of_le (by omega)]
  have t2 : (zs.set j u).drop (j + 1) = zs.drop (j + 1) := by rw [List.drop_set_of_lt (by omega)]
  rw [t1, t2]
  simp only [List.getElem_set_self]
  grind
theorem dig_set {zs : List Int} (h : Dig zs) (j : Nat) {u : Int} (h0 : 0 ≤ u) (h1 : u < 4294967296) : Dig (zs.set j u) := by
  intro d hd
  rcases List.mem_or_eq_of_mem_set hd with h' | h'
  · exact h d h'
  · subst h'; exact ⟨h0, h1⟩
/-- Between the rounds of the outer loop. -/
structure MuI (W wr : World) (g nm : Nat) (xs ys zs : List Int) (i m : Nat) : Prop where
  len : zs.length = nm
  dig : Dig zs
  eq : val zs = val (xs.take i) * val ys
  zero : ∀ j, i + m ≤ j → (h : j < zs.length) → zs[j] = 0
  own : wr.ownsRow g 63 1 (.slice (some ⟨g, 0, none⟩) nm nm) nm (zs.map (Value.int .u32))
  below : Below g W wr
/-- Between the rounds of the inner loop. -/
structure MuJ (W wr : World) (g nm : Nat) (xs ys zs : List Int) (i m k : Nat) (x c : Int) : Prop where
  len : zs.length = nm
  dig : Dig zs
  eq : val zs + c * pw (i + k) = val (xs.take i) * val ys + x * (pw i * val (ys.take k))
  zero : ∀ j, i + m ≤ j → (h : j < zs.length) → zs[j] = 0
  own : wr.ownsRow g 63 1 (.slice (some ⟨g, 0, none⟩) nm nm) nm (zs.map (Value.int .u32))
  below : Below g W wr
theorem mu_in {W wr : World} {g nm : Nat} {xs ys zs : List Int} {i m : Nat} (h : MuI W wr g nm xs ys zs i m) (x : Int) : MuJ W wr g nm xs ys zs i m 0 x 0 :=
  ⟨h.len, h.dig, by simp [val, h.eq], h.zero, h.own, h.below⟩
theorem mu_cell {W wr : World} {g nm : Nat} {xs ys zs : List Int} {i m k : Nat} {x c : Int} (h : MuJ W wr g nm xs ys zs i m k x c) (j : Nat) (hj : j < zs.length) : wr.cell? ⟨g, j, none⟩ = some (.int .u32 zs[j]) ∧ wr.frozen? ⟨g, j, none⟩ = false := by
  refine ⟨?_, h.own.frozenAt j⟩
  rw [h.own.cellAt j (by rw [← h.len]; omega)]
  simp [hj]
theorem mu_step {W wr : World} {g nm : Nat} {xs ys zs : List Int} {i m k : Nat} {x c : Int} (h : MuJ W wr g nm xs ys zs i m k x c) (hk : k < ys.length) (hkm : k < m) (hj : i + k < zs.length) (t : Int) (ht : t = c + x * ys[k] + zs[i + k]) (nq : Nat) :
    MuJ W ((wr.setCell ⟨g, i + k, none⟩ (.int .u32 (t % 4294967296))).drewN nq) g nm xs ys (zs.set (i + k) (t % 4294967296)) i m (k + 1) x (t / 4294967296) := by
  obtain ⟨o1, o2⟩ := h.own.stored (i + k) (.int .u32 (t % 4294967296))
  refine ⟨by simpa using h.len, dig_set h.dig _ (by omega) (by omega), ?_, ?_, ?_, bdrew (h.below.setCell (Nat.le_refl _) _) _⟩
  · rw [val_set zs _ hj, show i + (k + 1) = (i + k) + 1 by omega, pw, val_take_succ ys k hk]
    have e := h.eq
    have e2 : t = t % 4294967296 + 4294967296 * (t / 4294967296) := by omega
    have e3 := pw_add i k
    generalize t / 4294967296 = q at *
    generalize t % 4294967296 = r at *
    generalize zs[i + k] = zk at *
    generalize ys[k] = yk at *
    generalize pw (i + k) = p at *
    subst e2
    grind
  · intro j hj1 hj2
    have hj3 : j < zs.length := by simpa using hj2
    rw [List.getElem_set_ne (by omega)]
    exact h.zero j hj1 hj3
  · have : (zs.map (Value.int .u32)).set (i + k) (.int .u32 (t % 4294967296)) = (zs.set (i + k) (t % 4294967296)).map (Value.int .u32) := by rw [List.map_set]
    rw [← this]; exact o1
theorem mu_out {W wr : World} {g nm : Nat} {xs ys zs : List Int} {i m : Nat} {c : Int} (hi : i < xs.length) (h : MuJ W wr g nm xs ys zs i m m xs[i] c) (hm : ys.length = m) (hj : i + m < zs.length) (h0 : 0 ≤ c) (h1 : c < 4294967296) :
    MuI W (wr.setCell ⟨g, i + m, none⟩ (.int .u32 c)) g nm xs ys (zs.set (i + m) c) (i + 1) m := by
  obtain ⟨o1, o2⟩ := h.own.stored (i + m) (.int .u32 c)
  refine ⟨by simpa using h.len, dig_set h.dig _ h0 h1, ?_, ?_, ?_, h.below.setCell (Nat.le_refl _) _⟩
  · rw [val_set zs _ hj, h.zero (i + m) (Nat.le_refl _) hj, val_take_succ xs i hi]
    have e := h.eq
    rw [val_take_all ys m (by omega)] at e
    generalize pw (i + m) = p at *
    grind
  · intro j hj1 hj2
    have hj3 : j < zs.length := by simpa using hj2
    rw [List.getElem_set_ne (by omega)]
    exact h.zero j (by omega) hj3
  · have : (zs.map (Value.int .u32)).set (i + m) (.int .u32 c) = (zs.set (i + m) c).map (Value.int .u32) := by rw [List.map_set]
    rw [← this]; exact o1
theorem mul_bound {x y : Int} (hx0 : 0 ≤ x) (hx1 : x < 4294967296) (hy0 : 0 ≤ y) (hy1 : y < 4294967296) : 0 ≤ x * y ∧ x * y ≤ 18446744065119617025 := by
  refine ⟨Int.mul_nonneg hx0 hy0, ?_⟩
  have h1 : x * y ≤ 4294967295 * y := Int.mul_le_mul_of_nonneg_right (by omega) hy0
  omega
theorem mul_sign {x y : Int} {s t : Bool} {xs ys : List Int} (hs : s = decide (x < 0)) (ht : t = decide (y < 0)) (hx : val xs = (x.natAbs : Int)) (hy : val ys = (y.natAbs : Int)) : (x * y ≠ 0 → (s != t) = decide (x * y < 0)) ∧ val xs * val ys = ((x * y).natAbs : Int) := by
  constructor
  · intro hz
    have hx0 : x ≠ 0 := by rintro rfl; simp at hz
    have hy0 : y ≠ 0 := by rintro rfl; simp at hz
    rw [hs, ht]
    by_cases p : x < 0 <;> by_cases q : y < 0
    · have := Int.mul_pos_of_neg_of_neg p q; simp [p, q]; omega
    · have := Int.mul_neg_of_neg_of_pos p (show 0 < y by omega); simp [p, q, this]
    · have := Int.mul_neg_of_pos_of_neg (show 0 < x by omega) q; simp [p, q, this]
    · have := Int.mul_pos (show 0 < x by omega) (show 0 < y by omega); simp [p, q]; omega
  · rw [hx, hy, Int.natAbs_mul]; simp
theorem mu_start {W w1 : World} {g nm : Nat} {xs ys : List Int} {m : Nat} (hg : g = W.heap.size) (hown : w1.ownsRow g 63 1 (.slice (some ⟨g, 0, none⟩) nm nm) nm (madeCells #[Value.int .u32 0] nm).toList) (hgrow : W.grownBy w1 none) : MuI W w1 g nm xs ys (List.replicate nm 0) 0 m := by
  subst hg
  refine ⟨by simp, fun d hd => by rw [List.eq_of_mem_replicate hd]; decide, by simp [val_zeros, val], fun j _ h => by simp, ?_, (Below.refl _ _).grown hgrow (Nat.le_refl _) (by simp)⟩
  rw [made_one] at hown
  simpa using hown
set_option maxRecDepth 100000 in
set_option maxHeartbeats 2000000 in
theorem mul_some (s t : Bool) (ao bo : Option Addr) (n m ca cb k : Nat) (xs ys : List Int) (x y : Int) (w : World) (hx : IsNum w s ao n ca xs x k) (hy : IsNum w t bo m cb ys y k) (hk : k ≤ 100000) (hx0 : x ≠ 0) (hy0 : y ≠ 0) :
    Calls Try.prog 36 #[.agg #[.bool s, .slice ao n ca], .agg #[.bool t, .slice bo m cb]] w (NumP (k + k) (x * y) w) := by
  obtain ⟨i0, hi, hz0, hz1, hz2⟩ := info_parts Try.info88
  have hn0 : ((n : Int) == 0) = false := beq_eq_false_iff_ne.2 (by intro h; exact hx0 (hx.zero.1 (by omega)))
  have hm0 : ((m : Int) == 0) = false := beq_eq_false_iff_ne.2 (by intro h; exact hy0 (hy.zero.1 (by omega)))
  have T0 := two_start w (.bool s) (.slice ao n ca) (.bool t) (.slice bo m cb)
  have HX : Hid (xs.length = n) := hx.len
  have HY : Hid (ys.length = m) := hy.len
  have HDX : Hid (Dig xs) := hx.nrm.1
  have HDY : Hid (Dig ys) := hy.nrm.1
  have hnk := hx.le
  have hmk := hy.le
  have HRX0 := hx.rd.below T0.below (Nat.le_refl _)
  have HRY0 := hy.rd.below T0.below (Nat.le_refl _)
  have HSG : Hid ((x * y ≠ 0 → (s != t) = decide (x * y < 0)) ∧ val xs * val ys = ((x * y).natAbs : Int)) := mul_sign hx.neg hy.neg hx.val hy.val
  clear hx hy
  go_enter Try.func36, Try.ntmps36
  go_upto_region 3 with fail
  generalize ((w.alloc (Obj.cells #[Value.bool s, Value.slice ao n ca] 47)).alloc (Obj.cells #[Value.bool t, Value.slice bo m cb] 47)).alloc (Obj.cells #[Value.bool false, Value.slice none 0 0] 47) = W at *
  have q0 := T0.a0; have q1 := T0.a1; have q2 := T0.b0; have q3 := T0.b1
  have HRX : Hid (Rd W ao xs) := HRX0
  have HRY : Hid (Rd W bo ys) := HRY0
  clear HRX0 HRY0
  go_wp2_with (at_make; refine wpList_make_full _ rfl _ _ 45 rfl W.heap.size 63 i0 (.int .u32 0) 1 Try.underlying45 hi hz0 hz1 _ _ _ _ (n + m) rfl rfl (by omega) (by omega) (by rw [hz2]; omega) (by unfold maxLen; omega) (Nat.le_refl _) ?_)
  intro w1 hown hgrow
  have HS : MuI W w1 W.heap.size (n + m) xs ys (List.replicate (n + m) 0) 0 m := mu_start rfl (by simpa using hown) hgrow
  clear hown hgrow q0 q1 q2 q3
  have hsz := T0.sz
  go_wp2
  go_loopw [6] (fun i wr => ∃ (c : Nat) (zs : List Int), c ≤ n ∧ i = .int .i64 c ∧ MuI W wr W.heap.size (n + m) xs ys zs c m) (fun i _ => n - (intOf i).toNat)
  case atStart => exact ⟨0, _, Nat.zero_le _, rfl, HS⟩
  case round =>
    obtain ⟨i, zs, hin, rfl, hI⟩ := hrel
    clear HS
    have T1 := T0.step hI.below
    have q1 := T1.a1; have q3 := T1.b1
    by_cases hi' : i < n
    · have hix : i < xs.length := by have := HX.out; omega
      obtain ⟨bx, ox, rfl, hbx, hcx0⟩ := HRX.out i hix
      obtain ⟨hx0', hx1'⟩ := dig_at HDX.out i hix
      have HJ := mu_in hI xs[i]
      clear hI
      go_wp2
      obtain ⟨wo, hwo⟩ : ∃ wo : World, wo = wr := ⟨_, rfl⟩
      subst hwo
      go_loopw [7, 8] (fun c k wr => ∃ (j : Nat) (cv : Int) (zs : List Int), j ≤ m ∧ k = .int .i64 j ∧ 0 ≤ cv ∧ cv < 4294967296 ∧ c = .int .u64 cv ∧ MuJ W wr W.heap.size (n + m) xs ys zs i m j xs[i] cv) (fun _ k _ => m - (intOf k).toNat)
      case atStart => exact ⟨0, 0, _, Nat.zero_le _, rfl, by decide, by decide, rfl, HJ⟩
      case round =>
        obtain ⟨j, cv, zs', hj, rfl, hc0, hc1, rfl, hJ⟩ := hrel
        clear HJ T1 q1 q3
        have T1 := T0.step hJ.below
        have q1 := T1.a1; have q3 := T1.b1
        have hlen := hJ.len
        by_cases hj' : j < m
        · have hjy : j < ys.length := by have := HY.out; omega
          obtain ⟨by', oy, rfl, hby, hcy0⟩ := HRY.out j hjy
          obtain ⟨hy0', hy1'⟩ := dig_at HDY.out j hjy
          have hcx := (hJ.below.cell (p := ⟨bx, ox + i, none⟩) hbx).trans hcx0
          have hcy := (hJ.below.cell (p := ⟨by', oy + j, none⟩) hby).trans hcy0
          have hij : i + j < zs'.length := by omega
          obtain ⟨hcz, hfz⟩ := mu_cell hJ (i + j) hij
          obtain ⟨hz0', hz1'⟩ := dig_at hJ.dig (i + j) hij
          obtain ⟨P, hP⟩ : ∃ P, xs[i] * ys[j] = P := ⟨_, rfl⟩
          obtain ⟨hP0, hP1⟩ := mul_bound hx0' hx1' hy0' hy1'
          rw [hP] at hP0 hP1
          have R := fun nq => mu_step hJ hjy hj' hij (cv + P + zs'[i + j]) (by rw [hP]) nq
          clear hJ hlen
          have hin' : (i : Int) < n := by omega
          have hjm' : (j : Int) < m := by omega
          have hijn : (i : Int) + j < n + m := by omega
          go_wp2
          go_quiet (fail)
          go_wp2
          go_roundw
          case rel => exact ⟨j + 1, (cv + P + zs'[i + j]) / 4294967296, _, by omega, by go_num, by omega, by omega, rfl, by first | exact R _ | exact mu_drew R⟩
          case measure => simp [intOf]; omega
        · obtain rfl : j = m := by omega
          have him : i + j < zs'.length := by omega
          obtain ⟨hcz, hfz⟩ := mu_cell hJ (i + j) him
          have R := mu_out hix hJ HY.out him hc0 hc1
          clear hJ hlen
          have hijn : (i : Int) + j < n + j := by omega
          go_wp2
          go_roundw
          case rel => exact ⟨i + 1, _, by omega, by go_num, R⟩
          case measure => simp [intOf]; omega
    · obtain rfl : i = n := by omega
      have q0 := T1.a0; have q2 := T1.b0
      have R1 := hI.dig
      have R2 := Rd.own hI.own hI.len
      have R3 := hI.len
      have HE : Hid (val zs = ((x * y).natAbs : Int)) := by show _ = _; rw [hI.eq, val_take_all xs i (by have := HX.out; omega)]; exact HSG.out.2
      clear hI
      obtain ⟨sg, hsg⟩ : ∃ b, (!(s == t)) = b := ⟨_, rfl⟩
      have HG : Hid (x * y ≠ 0 → sg = decide (x * y < 0)) := by rw [← hsg]; exact HSG.out.1
      go_wp2_with fail
      refine (trim_any sg _ _ _ zs _ R3 (Nat.le_refl _) R1 R2 (by omega)).mono ?_
      rintro e w3 ⟨neg', ao', n', cap', ds', rfl, k1, k2, k3, k4, k5, k6, k7, k8⟩
      have T2 := T1.step k8
      have HN := num_of (z := x * y) (k := k + k) k1 k2 (by omega) k4 (k5.trans HE.out) (k6.trans (by rw [HE.out])) k7 rfl HG.out
      have c0 := T2.r0; have c1 := T2.r1; have f0 := T2.f0; have f1 := T2.f1
      have HB := T2.below
      clear k1 k2 k3 k4 k5 k6 k7 k8 R1 R2 R3 T1 q0 q1 q2 q3 T2
      go_wp2
      refine bodyPost_ret (v := .agg #[.bool neg', .slice ao' n' cap']) (by simp [results, Try.results36, go_sem, c0, c1]) rfl ?_
      exact num_ret (by omega) c0 c1 HN HB
set_option maxRecDepth 100000 in
set_option maxHeartbeats 1000000 in
theorem mul_none (s t : Bool) (ao bo : Option Addr) (n m ca cb k : Nat) (xs ys : List Int) (x y : Int) (w : World) (hx : IsNum w s ao n ca xs x k) (hy : IsNum w t bo m cb ys y k) (h0 : x = 0 ∨ y = 0) :
    Calls Try.prog 36 #[.agg #[.bool s, .slice ao n ca], .agg #[.bool t, .slice bo m cb]] w (NumP (k + k) (x * y) w) := by
  have HP : ∀ o1 o2 o3, NumP (k + k) (x * y) w (.returned (.agg #[.bool false, .slice none 0 0])) (((w.alloc o1).alloc o2).alloc o3) := by
    intro o1 o2 o3
    have hz : x * y = 0 := by rcases h0 with rfl | rfl <;> simp
    rw [hz]
    exact ⟨false, none, 0, 0, [], rfl, ⟨by decide, rfl, Nat.le_refl _, Rd.nil _ _, nrm_nil, rfl, Nat.zero_le _⟩, (((Below.refl _ _).alloc (Nat.le_refl _) _).alloc (by simp) _).alloc (by simp; omega) _⟩
  by_cases hx0 : x = 0
  · have hn := hx.zero.2 hx0
    subst hn
    clear hx hy
    go_enter Try.func36, Try.ntmps36
    go_wp2
    refine bodyPost_ret (v := .agg #[.bool false, .slice none 0 0]) (by simp [results, Try.results36, go_sem]) rfl ?_
    exact HP _ _ _
  · have hm := hy.zero.2 (by omega)
    subst hm
    have hn0 : ((n : Int) == 0) = false := beq_eq_false_iff_ne.2 (by intro h; exact hx0 (hx.zero.1 (by omega)))
    clear hx hy
    go_enter Try.func36, Try.ntmps36
    go_wp2
    refine bodyPost_ret (v := .agg #[.bool false, .slice none 0 0]) (by simp [results, Try.results36, go_sem]) rfl ?_
    exact HP _ _ _
theorem mul_any (s t : Bool) (ao bo : Option Addr) (n m ca cb k : Nat) (xs ys : List Int) (x y : Int) (w : World) (hx : IsNum w s ao n ca xs x k) (hy : IsNum w t bo m cb ys y k) (hk : k ≤ 100000) :
    Calls Try.prog 36 #[.agg #[.bool s, .slice ao n ca], .agg #[.bool t, .slice bo m cb]] w (NumP (k + k) (x * y) w) := by
  by_cases hx0 : x = 0
  · exact mul_none s t ao bo n m ca cb k xs ys x y w hx hy (Or.inl hx0)
  · by_cases hy0 : y = 0
    · exact mul_none s t ao bo n m ca cb k xs ys x y w hx hy (Or.inr hy0)
    · exact mul_some s t ao bo n m ca cb k xs ys x y w hx hy hk hx0 hy0
end Go.Proofs.Ytinilehbhdpdkaa
