/- The walk of the model's greatest common divisor. -/
import Derived.Test.YtddniklhpkagmaaDivS
namespace Go.Proofs.Ytddniklhpkagmaa
open Go.RowKit
/-- The digits that lie behind a slice. -/
def digsOf (w : World) : Value → List Int
  | .slice (some a) n _ => (List.range n).map fun i => match w.cell? ⟨a.block, a.off + i, none⟩ with | some v => intOf v | none => 0
  | _ => []
theorem digs_of {w : World} {ao : Option Addr} {n cap : Nat} {ds : List Int} (h : Rd w ao ds) (hl : ds.length = n) : digsOf w (.slice ao n cap) = ds := by
  by_cases h0 : n = 0
  · subst h0
    have : ds = [] := List.eq_nil_of_length_eq_zero hl
    subst this
    cases ao <;> simp [digsOf]
  · obtain ⟨b, off, rfl, _, _⟩ := h 0 (by omega)
    simp only [digsOf]
    apply List.ext_getElem
    · simp [hl]
    · intro i h1 h2
      obtain ⟨b', off', e, _, hc⟩ := h i h2
      cases e
      simp [hc, intOf]
structure GdI (W wr : World) (xo : Option Addr) (xn xc : Nat) (xs : List Int) (yo : Option Addr) (yn yc : Nat) (ys : List Int) (k G : Nat) : Prop where
  below : Below W.heap.size W wr
  xlen : xs.length = xn
  xcap : xn ≤ xc
  xle : xn ≤ k
  xnrm : Nrm xs
  xrd : Rd wr xo xs
  ylen : ys.length = yn
  ycap : yn ≤ yc
  yle : yn ≤ k
  ynrm : Nrm ys
  yrd : Rd wr yo ys
  gcd : Int.gcd (val xs) (val ys) = G
theorem gcd_step {x y : Int} (hx : 0 ≤ x) (hy : 0 < y) : Int.gcd y (x % y) = Int.gcd x y := by
  obtain ⟨a, rfl⟩ := Int.eq_ofNat_of_zero_le hx
  obtain ⟨b, rfl⟩ := Int.eq_ofNat_of_zero_le (show 0 ≤ y by omega)
  rw [show ((a : Int) % (b : Int)) = ((a % b : Nat) : Int) from (Int.natCast_emod a b).symm, Int.gcd_natCast_natCast, Int.gcd_natCast_natCast, Nat.gcd_comm a b, Nat.gcd_rec b a, Nat.gcd_comm]
set_option maxRecDepth 100000 in
set_option maxHeartbeats 2000000 in
theorem gcd_any (s t : Bool) (ao bo : Option Addr) (n m ca cb k : Nat) (xs ys : List Int) (x y : Int) (w : World) (hx : IsNum w s ao n ca xs x k) (hy : IsNum w t bo m cb ys y k) (hk : k ≤ 9000) :
    Calls Try.prog 62 #[.agg #[.bool s, .slice ao n ca], .agg #[.bool t, .slice bo m cb]] w (NumP k (Int.gcd x y : Int) w) := by
  have T0 := two_start w (.bool s) (.slice ao n ca) (.bool t) (.slice bo m cb)
  have HX := hx.below T0.below
  have HY := hy.below T0.below
  have G0 : Int.gcd (val xs) (val ys) = Int.gcd x y := by rw [hx.val, hy.val]; simp [Int.gcd]
  clear hx hy
  go_enter Try.func62, Try.ntmps62
  go_upto_region 1 with fail
  generalize ((w.alloc (Obj.cells #[Value.bool s, Value.slice ao n ca] 57)).alloc (Obj.cells #[Value.bool t, Value.slice bo m cb] 57)).alloc (Obj.cells #[Value.bool false, Value.slice none 0 0] 57) = W at *
  have q1 := T0.a1; have q3 := T0.b1
  have I0 : GdI W W ao n ca xs bo m cb ys k (Int.gcd x y) := ⟨Below.refl _ _, HX.len, HX.cap, HX.le, HX.nrm, HX.rd, HY.len, HY.cap, HY.le, HY.nrm, HY.rd, G0⟩
  clear HX HY G0
  have hsz := T0.sz
  go_wp2
  go_loopw [5, 6] (fun u v wr => ∃ (xo : Option Addr) (xn xc : Nat) (xs : List Int) (yo : Option Addr) (yn yc : Nat) (ys : List Int), u = .slice xo xn xc ∧ v = .slice yo yn yc ∧ GdI W wr xo xn xc xs yo yn yc ys k (Int.gcd x y)) (fun _ v wr => (val (digsOf wr v)).toNat)
  case atStart => exact ⟨ao, n, ca, xs, bo, m, cb, ys, rfl, rfl, I0⟩
  case round =>
    clear I0
    obtain ⟨xo, xn, xc, xs, yo, yn, yc, ys, rfl, rfl, I0⟩ := hrel
    by_cases hy0 : 0 < yn
    · have i1 : (0 : Int) < (yn : Int) := by omega
      have hyp := nrm_pos I0.ynrm (by intro e; have := I0.ylen; rw [e] at this; simp at this; omega)
      have hd := digs_of (cap := yc) I0.yrd I0.ylen
      go_wp2_with fail
      refine (divAbs_any xo yo xn yn xc yc xs ys _ I0.xlen I0.ylen I0.xnrm I0.ynrm I0.xrd I0.yrd I0.xcap (by have := I0.xle; omega) (by have := I0.yle; omega) (by omega)).mono ?_
      rintro e w4 ⟨qo, qn, qc, qs, ro, rn, rc, rs, rfl, -, ⟨r1, r2, r3, r4, r5, r6⟩, hB⟩
      have I1 : GdI W w4 yo yn yc ys ro rn rc rs k (Int.gcd x y) := ⟨I0.below.trans (hB.mono I0.below.size), I0.ylen, I0.ycap, I0.yle, I0.ynrm, I0.yrd.below hB (Nat.le_refl _), r1, r2, by have := I0.xle; omega, r4, r6, by rw [r5, gcd_step (val_nonneg I0.xnrm.1) (by omega)]; exact I0.gcd⟩
      have hlt : (val rs).toNat < (val ys).toNat := by
        have h1 := Int.emod_lt_of_pos (val xs) (show 0 < val ys by omega)
        have h2 := Int.emod_nonneg (val xs) (show val ys ≠ 0 by omega)
        rw [r5]
        omega
      have hd2 := digs_of (cap := rc) r6 r1
      clear I0 hB r1 r2 r3 r4 r5 r6
      go_wp2
      go_roundw
      case rel => exact ⟨yo, yn, yc, ys, ro, rn, rc, rs, rfl, rfl, I1⟩
      case measure => rw [hd, hd2]; exact hlt
    · obtain rfl : yn = 0 := by omega
      have hys : ys = [] := List.eq_nil_of_length_eq_zero I0.ylen
      have hG : val xs = ((Int.gcd x y : Int).natAbs : Int) := by
        rw [← I0.gcd, hys]
        have := val_nonneg I0.xnrm.1
        simp [val, Int.gcd]
        omega
      have T1 := T0.step I0.below
      have hxk := I0.xle
      clear q1 q3
      go_wp2_with fail
      refine (trim_any false xo xn xc xs _ I0.xlen I0.xcap I0.xnrm.1 I0.xrd (by omega)).mono ?_
      rintro e w3 ⟨neg', ao', n', cap', ds', rfl, k1, k2, k3, k4, k5, k6, k7, k8⟩
      have T2 := T1.step k8
      have HN := num_of (z := (Int.gcd x y : Int)) (k := k) k1 k2 (by omega) k4 (k5.trans hG) (k6.trans (by rw [hG])) k7 rfl (by intro _; simp)
      have c0 := T2.r0; have c1 := T2.r1; have f0 := T2.f0; have f1 := T2.f1
      have HB := T2.below
      clear k1 k2 k3 k4 k5 k6 k7 k8 T1 T2 I0
      go_wp2
      refine bodyPost_ret (v := .agg #[.bool neg', .slice ao' n' cap']) (by simp [results, Try.results62, go_sem, c0, c1]) rfl ?_
      exact num_ret (by omega) c0 c1 HN HB
end Go.Proofs.Ytddniklhpkagmaa
