/- Part 6 of the walks that the proof leans on. -/
import Derived.Test.YtnnojeggjnddpaaPart5
import Derived.Test.YtnnojeggjnddpaaPart2
import Derived.Test.YtnnojeggjnddpaaPart3
import Derived.Test.YtnnojeggjnddpaaPart4
import Derived.Deep.RegionHeld3
import Derived.Deep.DeepCutAuto
import Derived.Deep.RegionWith
import Derived.Test.YtnnojeggjnddpaaPart1
import Derived.Test.YtnnojeggjnddpaaRows
import Derived.ProofKit
import Derived.Lib.SmallJoins
/- Fractions: whether one is right. -/
namespace Go.Proofs.Ytnnojeggjnddpaa
open Go.RowKit
abbrev Rt (a3 a2 a1 a0 b3 b2 b1 b0 : Int) : Value := .agg #[.int .u64 a3, .int .u64 a2, .int .u64 a1, .int .u64 a0, .int .u64 b3, .int .u64 b2, .int .u64 b1, .int .u64 b0]
/-- Whether up / down is right. -/
def rightB (x y : Int) : Bool := decide (0 < y ∧ Int.gcd x y = 1)
set_option maxRecDepth 100000 in
set_option maxHeartbeats 2000000 in
theorem eqOne (c3 c2 c1 c0 : Int) (w : World) : (Op.equalIn 10000 26 (.agg #[.int .u64 c3, .int .u64 c2, .int .u64 c1, .int .u64 c0]) (.agg #[.int .u64 0, .int .u64 0, .int .u64 0, .int .u64 1])).run Try.prog w = .ok (c3 == 0 && c2 == 0 && c1 == 0 && c0 == 1) w := by
  have u3 := Try.underlying22
  have a3 := Try.isAgg22
  have z3 := Try.sizeOf22
  rw [show (10000 : Nat) = 9999 + 1 from rfl, Op.equalIn]
  simp only [Sem.run_bind, run_underlying Try.underlying26, Result.andThen_ok]
  go_simp
  by_cases hc3 : c3 = 0
  · subst hc3
    by_cases hc2 : c2 = 0
    · subst hc2
      by_cases hc1 : c1 = 0
      · subst hc1
        by_cases hc0 : c0 = 1
        · subst hc0
          simp
        · simp [hc0]
      · simp [hc1]
    · simp [hc2]
  · simp [hc3]
theorem one_words {c3 c2 c1 c0 : Int} (h3 : Word c3) (h2 : Word c2) (h1 : Word c1) (h0 : Word c0) {z : Int} (hz : sw c3 c2 c1 c0 = z) : (c3 == 0 && c2 == 0 && c1 == 0 && c0 == 1) = decide (z = 1) := by
  rw [Bool.eq_iff_iff]
  simp only [Bool.and_eq_true, beq_iff_eq, decide_eq_true_eq]
  constructor
  · rintro ⟨⟨⟨rfl, rfl⟩, rfl⟩, rfl⟩
    rw [← hz]; decide
  · intro h
    have e : sw 0 0 0 1 = 1 := by decide
    obtain ⟨e3, e2, e1, e0⟩ := sw_inj h3 h2 h1 h0 ⟨by decide, by decide⟩ ⟨by decide, by decide⟩ ⟨by decide, by decide⟩ ⟨by decide, by decide⟩ (hz.trans (h.trans e.symm))
    exact ⟨⟨⟨e3, e2⟩, e1⟩, e0⟩
theorem sw_one {c3 c2 c1 c0 : Int} (h3 : Word c3) (h2 : Word c2) (h1 : Word c1) (h0 : Word c0) (hz : sw c3 c2 c1 c0 = 1) : c3 = 0 ∧ c2 = 0 ∧ c1 = 0 ∧ c0 = 1 := by
  have e : sw 0 0 0 1 = 1 := by decide
  exact sw_inj h3 h2 h1 h0 ⟨by decide, by decide⟩ ⟨by decide, by decide⟩ ⟨by decide, by decide⟩ ⟨by decide, by decide⟩ (hz.trans e.symm)
theorem rt_cells {b3 b2 b1 b0 c3 c2 c1 c0 a3 a2 a1 a0 : Int} {w W : World} {gc : Nat} (X : Blk W w.heap.size [.int .u64 a3, .int .u64 a2, .int .u64 a1, .int .u64 a0, .int .u64 b3, .int .u64 b2, .int .u64 b1, .int .u64 b0]) (Y : Blk W gc [.int .u64 c3, .int .u64 c2, .int .u64 c1, .int .u64 c0]) : (fun w' => w'.cell? ⟨w.heap.size, 4, none⟩ = some (.int .u64 b3) ∧ w'.cell? ⟨w.heap.size, 5, none⟩ = some (.int .u64 b2) ∧ w'.cell? ⟨w.heap.size, 6, none⟩ = some (.int .u64 b1) ∧ w'.cell? ⟨w.heap.size, 7, none⟩ = some (.int .u64 b0) ∧ w'.cell? ⟨gc, 0, none⟩ = some (.int .u64 c3) ∧ w'.cell? ⟨gc, 1, none⟩ = some (.int .u64 c2) ∧ w'.cell? ⟨gc, 2, none⟩ = some (.int .u64 c1) ∧ w'.cell? ⟨gc, 3, none⟩ = some (.int .u64 c0)) W :=
  ⟨X.c 4 rfl, X.c 5 rfl, X.c 6 rfl, X.c 7 rfl, Y.c 0 rfl, Y.c 1 rfl, Y.c 2 rfl, Y.c 3 rfl⟩
set_option maxRecDepth 100000 in
set_option maxHeartbeats 2000000 in
theorem right_any (a3 a2 a1 a0 b3 b2 b1 b0 : Int) (h3 : Word a3) (h2 : Word a2) (h1 : Word a1) (h0 : Word a0) (k3 : Word b3) (k2 : Word b2) (k1 : Word b1) (k0 : Word b0) (w : World) : Calls Try.prog 58 #[Rt a3 a2 a1 a0 b3 b2 b1 b0] w (BoolP (rightB (sw a3 a2 a1 a0) (sw b3 b2 b1 b0)) w) := by
  have X0 := Blk.new w [.int .u64 a3, .int .u64 a2, .int .u64 a1, .int .u64 a0, .int .u64 b3, .int .u64 b2, .int .u64 b1, .int .u64 b0] 37 rfl
  have HB := (Below.refl _ w).alloc (Nat.le_refl _) (.cells #[.int .u64 a3, .int .u64 a2, .int .u64 a1, .int .u64 a0, .int .u64 b3, .int .u64 b2, .int .u64 b1, .int .u64 b0] 37)
  go_enter Try.func58, Try.ntmps58
  go_wp2_with fail
  refine (implGcd_any a3 a2 a1 a0 b3 b2 b1 b0 h3 h2 h1 h0 k3 k2 k1 k0 _).mono ?_
  rintro e w1 ⟨hB, ⟨ht, c3, c2, c1, c0, rfl, g3, g2, g1, g0, gv⟩ | ⟨ht, rfl⟩⟩
  · replace X0 := X0.step hB
    replace HB := HB.trans (hB.mono HB.size)
    have xlt := X0.lt
    go_upto_region 2 with fail
    have Y0 := Blk.new w1 [.int .u64 c3, .int .u64 c2, .int .u64 c1, .int .u64 c0] 26 rfl
    replace X0 := X0.alloc (.cells #[.int .u64 c3, .int .u64 c2, .int .u64 c1, .int .u64 c0] 26)
    replace HB := HB.alloc HB.size (.cells #[.int .u64 c3, .int .u64 c2, .int .u64 c1, .int .u64 c0] 26)
    rw [show ([.int .u64 c3, .int .u64 c2, .int .u64 c1, .int .u64 c0] : List Value).toArray = #[.int .u64 c3, .int .u64 c2, .int .u64 c1, .int .u64 c0] from rfl] at Y0
    generalize w1.alloc (.cells #[.int .u64 c3, .int .u64 c2, .int .u64 c1, .int .u64 c0] 26) = W at *
    generalize w1.heap.size = gc at *
    have EO := eqOne c3 c2 c1 c0
    rw [one_words g3 g2 g1 g0 gv] at EO
    obtain ⟨G, hG⟩ : ∃ G, decide (((Int.gcd (sw a3 a2 a1 a0) (sw b3 b2 b1 b0) : Nat) : Int) = 1) = G := ⟨_, rfl⟩
    simp only [hG] at EO
    have HG : Hid (G = decide (Int.gcd (sw a3 a2 a1 a0) (sw b3 b2 b1 b0) = 1)) := by
      show _ = _
      rw [← hG, Bool.eq_iff_iff]
      simp only [decide_eq_true_eq]
      omega
    have SG := implSign_any b3 b2 b1 b0 k3 k2 k1 k0
    have OF := fun W => implOf_any 1 W (by decide) (by decide)
    clear hB ht gv hG
    by_cases hs : 0 < sw b3 b2 b1 b0
    · rw [cmpI_gt hs] at SG
      have HR : Hid (rightB (sw a3 a2 a1 a0) (sw b3 b2 b1 b0) = G) := by
        show _ = _
        rw [HG.out]
        unfold rightB
        simp [hs]
      clear HG
      go_region_held3 (fun w' => w'.cell? ⟨w.heap.size, 4, none⟩ = some (.int .u64 b3) ∧ w'.cell? ⟨w.heap.size, 5, none⟩ = some (.int .u64 b2) ∧ w'.cell? ⟨w.heap.size, 6, none⟩ = some (.int .u64 b1) ∧ w'.cell? ⟨w.heap.size, 7, none⟩ = some (.int .u64 b0) ∧ w'.cell? ⟨gc, 0, none⟩ = some (.int .u64 c3) ∧ w'.cell? ⟨gc, 1, none⟩ = some (.int .u64 c2) ∧ w'.cell? ⟨gc, 2, none⟩ = some (.int .u64 c1) ∧ w'.cell? ⟨gc, 3, none⟩ = some (.int .u64 c0)) (first | (with_reducible exact rt_cells X0 Y0) | (with_reducible exact rt_cells X0.drew Y0.drew))
        (first
          | (go_at_call 34; refine (SG _).mono ?_; rintro e w2 ⟨rfl, hB⟩; (first | (replace X0 := X0.step hB; replace Y0 := Y0.step hB; replace HB := HB.trans (hB.mono HB.size)) | (replace X0 := X0.drew.step hB; replace Y0 := Y0.drew.step hB; replace HB := HB.drew.trans (hB.mono HB.size))); clear hB)
          | (go_at_call 95; refine (OF _).mono ?_; rintro e w3 ⟨o3, o2, o1, o0, rfl, p3, p2, p1, p0, po, hB⟩; obtain ⟨rfl, rfl, rfl, rfl⟩ := sw_one p3 p2 p1 p0 po; (first | (replace X0 := X0.step hB; replace Y0 := Y0.step hB; replace HB := HB.trans (hB.mono HB.size)) | (replace X0 := X0.drew.step hB; replace Y0 := Y0.drew.step hB; replace HB := HB.drew.trans (hB.mono HB.size))); clear hB))
      all_goals go_wp2
      all_goals go_ret
      all_goals exact ⟨by simp [HR.out], by first | exact HB | exact HB.drew⟩
    · have HR : Hid (rightB (sw a3 a2 a1 a0) (sw b3 b2 b1 b0) = false) := by
        show _ = _
        unfold rightB
        simp [hs]
      have hcs : cmpI (sw b3 b2 b1 b0) 0 = -1 ∨ cmpI (sw b3 b2 b1 b0) 0 = 0 := by
        rcases Int.lt_trichotomy (sw b3 b2 b1 b0) 0 with h | h | h
        · exact Or.inl (cmpI_lt h)
        · exact Or.inr (cmpI_eq h)
        · exact absurd h hs
      clear HG
      have hm1 : ((-1 : Int) == 1) = false := by decide
      have hm0 : ((0 : Int) == 1) = false := by decide
      rcases hcs with hc | hc
      · rw [hc] at SG
        clear hc
        have q4 := X0.c 4 rfl; have q5 := X0.c 5 rfl; have q6 := X0.c 6 rfl; have q7 := X0.c 7 rfl
        go_region_with ((go_at_call 34; refine (SG _).mono ?_; rintro e w2 ⟨rfl, hB⟩; (first | (replace HB := HB.trans (hB.mono HB.size)) | (replace HB := HB.drew.trans (hB.mono HB.size))); clear hB))
        all_goals go_wp2
        all_goals go_ret
        all_goals exact ⟨by rw [HR.out]; rfl, by first | exact HB | exact HB.drew⟩
      · rw [hc] at SG
        clear hc
        have q4 := X0.c 4 rfl; have q5 := X0.c 5 rfl; have q6 := X0.c 6 rfl; have q7 := X0.c 7 rfl
        go_region_with ((go_at_call 34; refine (SG _).mono ?_; rintro e w2 ⟨rfl, hB⟩; (first | (replace HB := HB.trans (hB.mono HB.size)) | (replace HB := HB.drew.trans (hB.mono HB.size))); clear hB))
        all_goals go_wp2
        all_goals go_ret
        all_goals exact ⟨by rw [HR.out]; rfl, by first | exact HB | exact HB.drew⟩
  · replace HB := HB.trans (hB.mono HB.size)
    have HR : Hid (rightB (sw a3 a2 a1 a0) (sw b3 b2 b1 b0) = false) := by
      show _ = _
      unfold rightB
      apply decide_eq_false
      rintro ⟨_, h⟩
      rw [h] at ht
      revert ht
      decide
    clear hB ht X0
    go_upto_region 2 with fail
    replace HB := HB.alloc HB.size (.cells #[.int .u64 0, .int .u64 0, .int .u64 0, .int .u64 0] 26)
    generalize w1.alloc (.cells #[.int .u64 0, .int .u64 0, .int .u64 0, .int .u64 0] 26) = W at *
    go_quiet (fail)
    go_wp2
    go_ret
    exact ⟨by simp [HR.out], bdrew HB _⟩
/-- Two numbers as they lie in memory, side by side. -/
def TwoNP (x y : Int) (w : World) (e : Ending) (w' : World) : Prop :=
  ∃ (s : Bool) (ao : Option Addr) (n cap : Nat) (ds : List Int) (t : Bool) (bo : Option Addr) (m c : Nat) (es : List Int), e = .returned (.agg #[.bool s, .slice ao n cap, .bool t, .slice bo m c]) ∧ IsNum w' s ao n cap ds x 8 ∧ IsNum w' t bo m c es y 8 ∧ Below w.heap.size w w'
theorem IsNum.set {w : World} {s : Bool} {ao : Option Addr} {n cap : Nat} {ds : List Int} {z : Int} {k : Nat} (h : IsNum w s ao n cap ds z k) {p : Addr} {v : Value} (h0 : w.cell? p = some v) (hv : ∀ i, v ≠ .int .u32 i) (u : Value) : IsNum (w.setCell p u) s ao n cap ds z k :=
  ⟨h.neg, h.len, h.cap, h.rd.set u h0 hv, h.nrm, h.val, h.le⟩
theorem twoN_ret {w w3 : World} {x y : Int} {s : Bool} {ao : Option Addr} {n cap : Nat} {ds : List Int} {t : Bool} {bo : Option Addr} {m c : Nat} {es : List Int} {R : Nat} (hR : w.heap.size ≤ R) (G : Blk w3 R [.bool false, .slice none 0 0, .bool false, .slice none 0 0]) (h : IsNum w3 s ao n cap ds x 8) (h' : IsNum w3 t bo m c es y 8) (hb : Below w.heap.size w w3) :
    TwoNP x y w (.returned (.agg #[.bool s, .slice ao n cap, .bool t, .slice bo m c])) ((((w3.setCell ⟨R, 0, none⟩ (.bool s)).setCell ⟨R, 1, none⟩ (.slice ao n cap)).setCell ⟨R, 2, none⟩ (.bool t)).setCell ⟨R, 3, none⟩ (.slice bo m c)) := by
  have G1 := G.setI 0 (by simp) (.bool s)
  have G2 := G1.setI 1 (by simp) (.slice ao n cap)
  have G3 := G2.setI 2 (by simp) (.bool t)
  refine ⟨s, ao, n, cap, ds, t, bo, m, c, es, rfl, ?_, ?_, (((hb.setCell hR _).setCell hR _).setCell hR _).setCell hR _⟩
  · exact (((h.set (G.c 0 rfl) (by simp) _).set (G1.c 1 rfl) (by simp) _).set (G2.c 2 rfl) (by simp) _).set (G3.c 3 rfl) (by simp) _
  · exact (((h'.set (G.c 0 rfl) (by simp) _).set (G1.c 1 rfl) (by simp) _).set (G2.c 2 rfl) (by simp) _).set (G3.c 3 rfl) (by simp) _
theorem TwoNP.drew {x y : Int} {w w' : World} {e : Ending} (h : TwoNP x y w e w') : TwoNP x y w e w'.drew := by
  obtain ⟨s, ao, n, cap, ds, t, bo, m, c, es, he, N1, N2, hB⟩ := h
  exact ⟨s, ao, n, cap, ds, t, bo, m, c, es, he, ⟨N1.neg, N1.len, N1.cap, N1.rd, N1.nrm, N1.val, N1.le⟩, ⟨N2.neg, N2.len, N2.cap, N2.rd, N2.nrm, N2.val, N2.le⟩, hB.drew⟩
theorem l2_cells {a3 a2 a1 a0 b3 b2 b1 b0 : Int} {w W : World} (X : Blk W w.heap.size [.int .u64 a3, .int .u64 a2, .int .u64 a1, .int .u64 a0, .int .u64 b3, .int .u64 b2, .int .u64 b1, .int .u64 b0]) : (fun w' => w'.cell? ⟨w.heap.size, 0, none⟩ = some (.int .u64 a3) ∧ w'.cell? ⟨w.heap.size, 1, none⟩ = some (.int .u64 a2) ∧ w'.cell? ⟨w.heap.size, 2, none⟩ = some (.int .u64 a1) ∧ w'.cell? ⟨w.heap.size, 3, none⟩ = some (.int .u64 a0) ∧ w'.cell? ⟨w.heap.size, 4, none⟩ = some (.int .u64 b3) ∧ w'.cell? ⟨w.heap.size, 5, none⟩ = some (.int .u64 b2) ∧ w'.cell? ⟨w.heap.size, 6, none⟩ = some (.int .u64 b1) ∧ w'.cell? ⟨w.heap.size, 7, none⟩ = some (.int .u64 b0)) W :=
  ⟨X.c 0 rfl, X.c 1 rfl, X.c 2 rfl, X.c 3 rfl, X.c 4 rfl, X.c 5 rfl, X.c 6 rfl, X.c 7 rfl⟩
set_option maxRecDepth 100000 in
set_option maxHeartbeats 1000000 in
theorem l2Of_any (a3 a2 a1 a0 b3 b2 b1 b0 : Int) (h3 : Word a3) (h2 : Word a2) (h1 : Word a1) (h0 : Word a0) (k3 : Word b3) (k2 : Word b2) (k1 : Word b1) (k0 : Word b0) (w : World) : Calls Try.prog 55 #[Rt a3 a2 a1 a0 b3 b2 b1 b0] w (TwoNP (sw a3 a2 a1 a0) (sw b3 b2 b1 b0) w) := by
  have X0 := (Blk.new w [.int .u64 a3, .int .u64 a2, .int .u64 a1, .int .u64 a0, .int .u64 b3, .int .u64 b2, .int .u64 b1, .int .u64 b0] 37 rfl).alloc (.cells #[.bool false, .slice none 0 0, .bool false, .slice none 0 0] 86)
  have Y0 := Blk.new (w.alloc (.cells #[.int .u64 a3, .int .u64 a2, .int .u64 a1, .int .u64 a0, .int .u64 b3, .int .u64 b2, .int .u64 b1, .int .u64 b0] 37)) [.bool false, .slice none 0 0, .bool false, .slice none 0 0] 86 (g := w.heap.size + 1) (by simp)
  have HB := ((Below.refl _ w).alloc (Nat.le_refl _) (.cells #[.int .u64 a3, .int .u64 a2, .int .u64 a1, .int .u64 a0, .int .u64 b3, .int .u64 b2, .int .u64 b1, .int .u64 b0] 37)).alloc (by simp) (.cells #[.bool false, .slice none 0 0, .bool false, .slice none 0 0] 86)
  have tok1 : True := trivial
  rw [show ([.int .u64 a3, .int .u64 a2, .int .u64 a1, .int .u64 a0, .int .u64 b3, .int .u64 b2, .int .u64 b1, .int .u64 b0] : List Value).toArray = #[.int .u64 a3, .int .u64 a2, .int .u64 a1, .int .u64 a0, .int .u64 b3, .int .u64 b2, .int .u64 b1, .int .u64 b0] from rfl] at X0
  go_enter Try.func55, Try.ntmps55
  go_wp2_with fail
  generalize (w.alloc (.cells #[.int .u64 a3, .int .u64 a2, .int .u64 a1, .int .u64 a0, .int .u64 b3, .int .u64 b2, .int .u64 b1, .int .u64 b0] 37)).alloc (.cells #[.bool false, .slice none 0 0, .bool false, .slice none 0 0] 86) = W at *
  go_region_held3 (fun w' => w'.cell? ⟨w.heap.size, 0, none⟩ = some (.int .u64 a3) ∧ w'.cell? ⟨w.heap.size, 1, none⟩ = some (.int .u64 a2) ∧ w'.cell? ⟨w.heap.size, 2, none⟩ = some (.int .u64 a1) ∧ w'.cell? ⟨w.heap.size, 3, none⟩ = some (.int .u64 a0) ∧ w'.cell? ⟨w.heap.size, 4, none⟩ = some (.int .u64 b3) ∧ w'.cell? ⟨w.heap.size, 5, none⟩ = some (.int .u64 b2) ∧ w'.cell? ⟨w.heap.size, 6, none⟩ = some (.int .u64 b1) ∧ w'.cell? ⟨w.heap.size, 7, none⟩ = some (.int .u64 b0)) (first | (with_reducible exact l2_cells X0) | (with_reducible exact l2_cells X0.drew) | (refine l2_cells ?_; repeat (first | (with_reducible exact X0) | (with_reducible exact X0.drew) | (with_reducible refine Blk.setO ?_ (by show w.heap.size ≠ w.heap.size + 1; omega) _))))
    (first
      | (go_at_call 43; have _t := tok1; refine (from_any a3 a2 a1 a0 h3 h2 h1 h0 _).mono ?_; rintro e w1 ⟨s1, ao1, n1, c1, ds1, rfl, N1, hB⟩; (first | (replace X0 := X0.step hB; replace Y0 := Y0.step hB; replace HB := HB.trans (hB.mono HB.size)) | (replace X0 := X0.drew.step hB; replace Y0 := Y0.drew.step hB; replace HB := HB.drew.trans (hB.mono HB.size))); clear tok1 _t hB)
      | (go_at_call 43; refine (from_any b3 b2 b1 b0 k3 k2 k1 k0 _).mono ?_; rintro e w2 ⟨s2, ao2, n2, c2, ds2, rfl, N2, hB⟩; (first | (replace X0 := X0.step hB; replace Y0 := Y0.step hB; replace HB := HB.trans (hB.mono HB.size); replace N1 := N1.below hB) | (replace X0 := X0.drew.step hB; replace Y0 := Y0.drew.step hB; replace HB := HB.drew.trans (hB.mono HB.size); replace N1 := N1.drew.below hB)); have o0 := Y0.c 0 rfl; have p0 := Y0.f 0 rfl; have o1 := Y0.c 1 rfl; have p1 := Y0.f 1 rfl; have o2 := Y0.c 2 rfl; have p2 := Y0.f 2 rfl; have o3 := Y0.c 3 rfl; have p3 := Y0.f 3 rfl; have olt := Y0.lt; clear hB))
  all_goals have HF : Hid (TwoNP (sw a3 a2 a1 a0) (sw b3 b2 b1 b0) w (.returned (.agg #[.bool s1, .slice ao1 n1 c1, .bool s2, .slice ao2 n2 c2])) _) := twoN_ret (R := w.heap.size + 1) (by omega) Y0 N1 N2 HB
  all_goals clear X0 Y0 N1 N2 HB
  all_goals go_wp2
  all_goals refine bodyPost_ret (v := .agg #[.bool s1, .slice ao1 n1 c1, .bool s2, .slice ao2 n2 c2]) (by simp [results, Try.results55, go_sem, o0, o1, o2, o3]) rfl ?_
  all_goals first | exact HF.out | exact HF.out.drew
end Go.Proofs.Ytnnojeggjnddpaa

/- Fractions in their order: the program's walks. -/
namespace Go.Proofs.Ytnnojeggjnddpaa
open Go.RowKit
end Go.Proofs.Ytnnojeggjnddpaa

/- The quotient and the rest of numbers with signs: the reckoning. -/
namespace Go.Proofs.Ytnnojeggjnddpaa
open Go.RowKit
end Go.Proofs.Ytnnojeggjnddpaa

/- Quotients with their signs: the reckoning, and the walks of the pieces. -/
namespace Go.Proofs.Ytnnojeggjnddpaa
open Go.RowKit
end Go.Proofs.Ytnnojeggjnddpaa

/- The program's quotient of two numbers of four words: what lies in memory around the division. -/
namespace Go.Proofs.Ytnnojeggjnddpaa
open Go.RowKit
theorem ArgsB.set8 {w W : World} {a b c d : List Value} (h : ArgsB w W [a, b, c, d]) {g : Nat} (hg : w.heap.size + 3 < g) (v0 v1 v2 v3 v4 v5 v6 v7 : Value) : ArgsB w ((((((((W.setCell ⟨g, 0, none⟩ v0).setCell ⟨g, 1, none⟩ v1).setCell ⟨g, 2, none⟩ v2).setCell ⟨g, 3, none⟩ v3).setCell ⟨g, 4, none⟩ v4).setCell ⟨g, 5, none⟩ v5).setCell ⟨g, 6, none⟩ v6).setCell ⟨g, 7, none⟩ v7) [a, b, c, d] :=
  ((((((((h.set (by exact hg) _).set (by exact hg) _).set (by exact hg) _).set (by exact hg) _).set (by exact hg) _).set (by exact hg) _).set (by exact hg) _).set (by exact hg) _)
end Go.Proofs.Ytnnojeggjnddpaa

/- Sums of numbers of eight words, and that words tell a number. -/
namespace Go.Proofs.Ytnnojeggjnddpaa
open Go.RowKit
end Go.Proofs.Ytnnojeggjnddpaa

/- The walk of the program's quotient and rest of two numbers of four words. -/
namespace Go.Proofs.Ytnnojeggjnddpaa
open Go.RowKit
end Go.Proofs.Ytnnojeggjnddpaa

/- Rows of eight values laid behind the arguments. -/
namespace Go.Proofs.Ytnnojeggjnddpaa
open Go.RowKit
end Go.Proofs.Ytnnojeggjnddpaa

/- The walk of what a long is when it is divided by a divisor of it, told as four words. -/
namespace Go.Proofs.Ytnnojeggjnddpaa
open Go.RowKit
end Go.Proofs.Ytnnojeggjnddpaa

/- A spot as a point: the walks of the model's numbers. -/
namespace Go.Proofs.Ytnnojeggjnddpaa
open Go.RowKit
end Go.Proofs.Ytnnojeggjnddpaa

/- A spot as a point: the walks of the model's point of numbers. -/
namespace Go.Proofs.Ytnnojeggjnddpaa
open Go.RowKit
end Go.Proofs.Ytnnojeggjnddpaa

/- Numbers by their own words: what is answered is known ahead. -/
namespace Go.Proofs.Ytnnojeggjnddpaa
open Go.RowKit
theorem ww_words (z : Int) : Word (ww3 z) ∧ Word (ww2 z) ∧ Word (ww1 z) ∧ Word (ww0 z) := by
  have h : ∀ x : Int, Word (x % 18446744073709551616) := fun x => ⟨Int.emod_nonneg _ (by decide), Int.emod_lt_of_pos _ (by decide)⟩
  exact ⟨h _, h _, h _, h _⟩
theorem ww_sw {z : Int} (h : told z = true) : sw (ww3 z) (ww2 z) (ww1 z) (ww0 z) = z := by
  unfold told at h
  rw [decide_eq_true_iff] at h
  unfold sw uw ww3 ww2 ww1 ww0
  split <;> omega
end Go.Proofs.Ytnnojeggjnddpaa

/- Points: the program's walks. -/
namespace Go.Proofs.Ytnnojeggjnddpaa
open Go.RowKit
theorem ArgsB.more {w W : World} {vss : List (List Value)} (h : ArgsB w W vss) (hl : W.heap.size = w.heap.size + vss.length) (b : List Value) (T : TypeId) : ArgsB w (W.alloc (.cells b.toArray T)) (vss ++ [b]) := by
  refine ⟨(h.alloc _).below, fun j vs hj => ?_⟩
  rcases Nat.lt_trichotomy j vss.length with hlt | rfl | hgt
  · rw [List.getElem?_append_left hlt] at hj
    exact (h.b j hj).alloc _
  · simp at hj
    subst hj
    exact Blk.new W b T hl.symm
  · rw [List.getElem?_eq_none (by simp; omega)] at hj
    cases hj
theorem ArgsB.left {w W : World} {us vs : List (List Value)} (h : ArgsB w W (us ++ vs)) : ArgsB w W us := by
  refine ⟨h.below, fun j xs hj => h.b j ?_⟩
  rw [List.getElem?_append_left]
  · exact hj
  · rcases Nat.lt_or_ge j us.length with h | h
    · exact h
    · rw [List.getElem?_eq_none h] at hj; cases hj
end Go.Proofs.Ytnnojeggjnddpaa

/- Points: what three numbers have in common. -/
namespace Go.Proofs.Ytnnojeggjnddpaa
open Go.RowKit
end Go.Proofs.Ytnnojeggjnddpaa

/- Points: whether one is right, by the program. -/
namespace Go.Proofs.Ytnnojeggjnddpaa
open Go.RowKit
abbrev PV (x y z : Int) : Value := .agg #[.int .u64 (ww3 x), .int .u64 (ww2 x), .int .u64 (ww1 x), .int .u64 (ww0 x), .int .u64 (ww3 y), .int .u64 (ww2 y), .int .u64 (ww1 y), .int .u64 (ww0 y), .int .u64 (ww3 z), .int .u64 (ww2 z), .int .u64 (ww1 z), .int .u64 (ww0 z)]
end Go.Proofs.Ytnnojeggjnddpaa

/- The walk of the model's quotient and rest of numbers with signs. -/
namespace Go.Proofs.Ytnnojeggjnddpaa
open Go.RowKit
theorem num_more {w : World} {s : Bool} {ao : Option Addr} {n cap : Nat} {ds : List Int} {z : Int} {k k' : Nat} (h : IsNum w s ao n cap ds z k) (hk : k ≤ k') : IsNum w s ao n cap ds z k' := ⟨h.neg, h.len, h.cap, h.rd, h.nrm, h.val, Nat.le_trans h.le hk⟩
end Go.Proofs.Ytnnojeggjnddpaa

/- A spot as a point: the walks of the model's point, told, of the program's, and of the law. -/
namespace Go.Proofs.Ytnnojeggjnddpaa
open Go.RowKit
end Go.Proofs.Ytnnojeggjnddpaa

/- Points: the model's numbers of a point, and whether it is right. -/
namespace Go.Proofs.Ytnnojeggjnddpaa
open Go.RowKit
end Go.Proofs.Ytnnojeggjnddpaa

/- Points: the model's word on whether one is right. -/
namespace Go.Proofs.Ytnnojeggjnddpaa
open Go.RowKit
end Go.Proofs.Ytnnojeggjnddpaa

/- Fractions: the model's word on whether one is right, and the law over both. -/
namespace Go.Proofs.Ytnnojeggjnddpaa
open Go.RowKit
set_option maxRecDepth 100000 in
set_option maxHeartbeats 2000000 in
theorem specRatioOk_any (a3 a2 a1 a0 b3 b2 b1 b0 : Int) (h3 : Word a3) (h2 : Word a2) (h1 : Word a1) (h0 : Word a0) (k3 : Word b3) (k2 : Word b2) (k1 : Word b1) (k0 : Word b0) (w : World) : Calls Try.prog 54 #[Rt a3 a2 a1 a0 b3 b2 b1 b0] w (BoolP (rightB (sw a3 a2 a1 a0) (sw b3 b2 b1 b0)) w) := by
  have HB := (Below.refl _ w).alloc (Nat.le_refl _) (.cells #[.int .u64 a3, .int .u64 a2, .int .u64 a1, .int .u64 a0, .int .u64 b3, .int .u64 b2, .int .u64 b1, .int .u64 b0] 37)
  go_enter Try.func54, Try.ntmps54
  go_wp2_with fail
  refine (l2Of_any a3 a2 a1 a0 b3 b2 b1 b0 h3 h2 h1 h0 k3 k2 k1 k0 _).mono ?_
  rintro e w1 ⟨s, ao, n, cap, ds, t, bo, m, c, es, rfl, N1, N2, hB⟩
  replace HB := HB.trans (hB.mono HB.size)
  clear hB h3 h2 h1 h0 k3 k2 k1 k0
  generalize sw a3 a2 a1 a0 = x at *
  generalize sw b3 b2 b1 b0 = y at *
  go_upto_region 2 with fail
  have X0 : Blk (w1.alloc (.cells #[.bool s, .slice ao n cap, .bool t, .slice bo m c] 86)) w1.heap.size [.bool s, .slice ao n cap, .bool t, .slice bo m c] := Blk.new w1 [.bool s, .slice ao n cap, .bool t, .slice bo m c] 86 rfl
  replace N1 := N1.below ((Below.refl w1.heap.size w1).alloc (Nat.le_refl _) (.cells #[.bool s, .slice ao n cap, .bool t, .slice bo m c] 86))
  replace N2 := N2.below ((Below.refl w1.heap.size w1).alloc (Nat.le_refl _) (.cells #[.bool s, .slice ao n cap, .bool t, .slice bo m c] 86))
  replace HB := HB.alloc HB.size (.cells #[.bool s, .slice ao n cap, .bool t, .slice bo m c] 86)
  generalize w1.alloc (.cells #[.bool s, .slice ao n cap, .bool t, .slice bo m c] 86) = W at *
  generalize w1.heap.size = gx at *
  by_cases hs : 0 < y
  · obtain ⟨q, hq⟩ : ∃ q, cmpI (Int.gcd x y : Int) 1 = q := ⟨_, rfl⟩
    have HR : Hid (rightB x y = (q == 0)) := by
      show _ = _
      unfold rightB
      rw [← hq, Bool.eq_iff_iff]
      simp only [decide_eq_true_eq, beq_iff_eq]
      unfold cmpI
      split
      · constructor
        · rintro ⟨_, h⟩; omega
        · intro h; exact absurd h (by decide)
      · split
        · constructor
          · rintro ⟨_, h⟩; omega
          · intro h; exact absurd h (by decide)
        · exact ⟨fun _ => rfl, fun _ => ⟨hs, by omega⟩⟩
    have x0c := X0.c 0 rfl; have x1c := X0.c 1 rfl; have x2c := X0.c 2 rfl; have x3c := X0.c 3 rfl
    go_wp2_with fail
    refine (sign_any t bo m c es _ 8 _ N2).mono ?_
    rintro e w2 ⟨rfl, hB⟩
    rw [cmpI_gt hs]
    replace X0 := X0.step hB; replace HB := HB.trans (hB.mono HB.size); replace N1 := N1.below hB; replace N2 := N2.below hB
    clear hB x0c x1c x2c x3c
    have x0c := X0.c 0 rfl; have x1c := X0.c 1 rfl; have x2c := X0.c 2 rfl; have x3c := X0.c 3 rfl
    go_wp2_with fail
    refine (gcd_any s t ao bo n m cap c 8 ds es _ _ _ N1 N2 (by omega)).mono ?_
    rintro e w3 ⟨s3, ao3, n3, c3, ds3, rfl, N3, hB⟩
    replace HB := HB.trans (hB.mono HB.size)
    clear hB N1 N2 x0c x1c x2c x3c X0
    go_wp2_with fail
    refine (int_any 1 _ (by decide) (by decide)).mono ?_
    rintro e w4 ⟨s4, ao4, n4, c4, ds4, rfl, N4, hB⟩
    replace HB := HB.trans (hB.mono HB.size); replace N3 := N3.below hB
    clear hB
    go_wp2_with fail
    refine (cmp_any s3 s4 ao3 ao4 n3 n4 c3 c4 8 ds3 ds4 _ _ _ N3 (num_more N4 (by decide)) (by omega)).mono ?_
    rintro e w5 ⟨rfl, hB⟩
    rw [hq]
    replace HB := HB.trans (hB.mono HB.size)
    clear hB N3 N4 hq
    go_wp2
    go_ret
    exact ⟨by simp [HR.out], HB⟩
  · have HR : Hid (rightB x y = false) := by
      show _ = _
      unfold rightB
      simp [hs]
    have hcs : cmpI y 0 = -1 ∨ cmpI y 0 = 0 := by
      rcases Int.lt_trichotomy y 0 with h | h | h
      · exact Or.inl (cmpI_lt h)
      · exact Or.inr (cmpI_eq h)
      · exact absurd h hs
    have x0c := X0.c 0 rfl; have x1c := X0.c 1 rfl; have x2c := X0.c 2 rfl; have x3c := X0.c 3 rfl
    go_wp2_with fail
    refine (sign_any t bo m c es _ 8 _ N2).mono ?_
    rintro e w2 ⟨rfl, hB⟩
    replace HB := HB.trans (hB.mono HB.size)
    clear hB x0c x1c x2c x3c X0 N1 N2
    rcases hcs with hc | hc
    · rw [hc]
      go_wp2
      go_ret
      exact ⟨by rw [HR.out]; rfl, HB⟩
    · rw [hc]
      go_wp2
      go_ret
      exact ⟨by rw [HR.out]; rfl, HB⟩
def RatP' (a3 a2 a1 a0 b3 b2 b1 b0 : Int) (w : World) (e : Ending) (w' : World) : Prop := e = .returned (Rt a3 a2 a1 a0 b3 b2 b1 b0) ∧ Below w.heap.size w w'
set_option maxRecDepth 100000 in
set_option maxHeartbeats 1000000 in
theorem toRatio_any (a3 a2 a1 a0 b3 b2 b1 b0 : Int) (w : World) : Calls Try.prog 19 #[Rt a3 a2 a1 a0 b3 b2 b1 b0] w (RatP' a3 a2 a1 a0 b3 b2 b1 b0 w) := by
  have X0 := ((Blk.new w [.int .u64 a3, .int .u64 a2, .int .u64 a1, .int .u64 a0, .int .u64 b3, .int .u64 b2, .int .u64 b1, .int .u64 b0] 34 rfl).alloc (.cells #[.int .u64 0, .int .u64 0, .int .u64 0, .int .u64 0, .int .u64 0, .int .u64 0, .int .u64 0, .int .u64 0] 37)).alloc (.cells #[.int .u64 0, .int .u64 0, .int .u64 0, .int .u64 0, .int .u64 0, .int .u64 0, .int .u64 0, .int .u64 0] 37)
  have R0 := (Blk.new (w.alloc (.cells #[.int .u64 a3, .int .u64 a2, .int .u64 a1, .int .u64 a0, .int .u64 b3, .int .u64 b2, .int .u64 b1, .int .u64 b0] 34)) [.int .u64 0, .int .u64 0, .int .u64 0, .int .u64 0, .int .u64 0, .int .u64 0, .int .u64 0, .int .u64 0] 37 (g := w.heap.size + 1) (by simp)).alloc (.cells #[.int .u64 0, .int .u64 0, .int .u64 0, .int .u64 0, .int .u64 0, .int .u64 0, .int .u64 0, .int .u64 0] 37)
  have O0 := Blk.new ((w.alloc (.cells #[.int .u64 a3, .int .u64 a2, .int .u64 a1, .int .u64 a0, .int .u64 b3, .int .u64 b2, .int .u64 b1, .int .u64 b0] 34)).alloc (.cells #[.int .u64 0, .int .u64 0, .int .u64 0, .int .u64 0, .int .u64 0, .int .u64 0, .int .u64 0, .int .u64 0] 37)) [.int .u64 0, .int .u64 0, .int .u64 0, .int .u64 0, .int .u64 0, .int .u64 0, .int .u64 0, .int .u64 0] 37 (g := w.heap.size + 1 + 1) (by simp)
  have HB := (((Below.refl _ w).alloc (Nat.le_refl _) (.cells #[.int .u64 a3, .int .u64 a2, .int .u64 a1, .int .u64 a0, .int .u64 b3, .int .u64 b2, .int .u64 b1, .int .u64 b0] 34)).alloc (by simp) (.cells #[.int .u64 0, .int .u64 0, .int .u64 0, .int .u64 0, .int .u64 0, .int .u64 0, .int .u64 0, .int .u64 0] 37)).alloc (by simp; omega) (.cells #[.int .u64 0, .int .u64 0, .int .u64 0, .int .u64 0, .int .u64 0, .int .u64 0, .int .u64 0, .int .u64 0] 37)
  go_enter Try.func19, Try.ntmps19
  go_wp2_with fail
  refine (toWide_any a3 a2 a1 a0 _).mono ?_
  rintro e w1 ⟨rfl, hB⟩
  replace X0 := X0.step hB; replace R0 := R0.step hB; replace O0 := O0.step hB; replace HB := HB.trans (hB.mono HB.size)
  clear hB
  have x0 := X0.c 4 rfl; have o0 := O0.c 0 rfl; have p0 := O0.f 0 rfl; have x1 := X0.c 5 rfl; have o1 := O0.c 1 rfl; have p1 := O0.f 1 rfl; have x2 := X0.c 6 rfl; have o2 := O0.c 2 rfl; have p2 := O0.f 2 rfl; have x3 := X0.c 7 rfl; have o3 := O0.c 3 rfl; have p3 := O0.f 3 rfl
  have lx := X0.lt; have lo := O0.lt
  go_wp2_with fail
  clear x0 o0 p0 x1 o1 p1 x2 o2 p2 x3 o3 p3 lx lo
  replace X0 : Blk ((((w1.setCell ⟨w.heap.size + 1 + 1, 0, none⟩ (.int .u64 a3)).setCell ⟨w.heap.size + 1 + 1, 1, none⟩ (.int .u64 a2)).setCell ⟨w.heap.size + 1 + 1, 2, none⟩ (.int .u64 a1)).setCell ⟨w.heap.size + 1 + 1, 3, none⟩ (.int .u64 a0)) w.heap.size _ := X0.set4 (by omega)
  replace R0 : Blk ((((w1.setCell ⟨w.heap.size + 1 + 1, 0, none⟩ (.int .u64 a3)).setCell ⟨w.heap.size + 1 + 1, 1, none⟩ (.int .u64 a2)).setCell ⟨w.heap.size + 1 + 1, 2, none⟩ (.int .u64 a1)).setCell ⟨w.heap.size + 1 + 1, 3, none⟩ (.int .u64 a0)) (w.heap.size + 1) _ := R0.set4 (by omega)
  replace O0 := (((O0.setI 0 (by simp) (.int .u64 a3)).setI 1 (by simp) (.int .u64 a2)).setI 2 (by simp) (.int .u64 a1)).setI 3 (by simp) (.int .u64 a0)
  replace HB : Below w.heap.size w ((((w1.setCell ⟨w.heap.size + 1 + 1, 0, none⟩ (.int .u64 a3)).setCell ⟨w.heap.size + 1 + 1, 1, none⟩ (.int .u64 a2)).setCell ⟨w.heap.size + 1 + 1, 2, none⟩ (.int .u64 a1)).setCell ⟨w.heap.size + 1 + 1, 3, none⟩ (.int .u64 a0)) := (((HB.setCell (by show w.heap.size ≤ w.heap.size + 1 + 1; omega) _).setCell (by show w.heap.size ≤ w.heap.size + 1 + 1; omega) _).setCell (by show w.heap.size ≤ w.heap.size + 1 + 1; omega) _).setCell (by show w.heap.size ≤ w.heap.size + 1 + 1; omega) _
  generalize ((((w1.setCell ⟨w.heap.size + 1 + 1, 0, none⟩ (.int .u64 a3)).setCell ⟨w.heap.size + 1 + 1, 1, none⟩ (.int .u64 a2)).setCell ⟨w.heap.size + 1 + 1, 2, none⟩ (.int .u64 a1)).setCell ⟨w.heap.size + 1 + 1, 3, none⟩ (.int .u64 a0)) = W1 at *
  simp only [List.set_cons_zero, List.set_cons_succ] at O0
  refine (toWide_any b3 b2 b1 b0 _).mono ?_
  rintro e w2 ⟨rfl, hB⟩
  replace R0 := R0.step hB; replace O0 := O0.step hB; replace HB := HB.trans (hB.mono HB.size)
  clear hB X0
  have o0 := O0.c 0 rfl; have p0 := O0.f 0 rfl; have r0 := R0.c 0 rfl; have q0 := R0.f 0 rfl; have o1 := O0.c 1 rfl; have p1 := O0.f 1 rfl; have r1 := R0.c 1 rfl; have q1 := R0.f 1 rfl; have o2 := O0.c 2 rfl; have p2 := O0.f 2 rfl; have r2 := R0.c 2 rfl; have q2 := R0.f 2 rfl; have o3 := O0.c 3 rfl; have p3 := O0.f 3 rfl; have r3 := R0.c 3 rfl; have q3 := R0.f 3 rfl; have o4 := O0.c 4 rfl; have p4 := O0.f 4 rfl; have r4 := R0.c 4 rfl; have q4 := R0.f 4 rfl; have o5 := O0.c 5 rfl; have p5 := O0.f 5 rfl; have r5 := R0.c 5 rfl; have q5 := R0.f 5 rfl; have o6 := O0.c 6 rfl; have p6 := O0.f 6 rfl; have r6 := R0.c 6 rfl; have q6 := R0.f 6 rfl; have o7 := O0.c 7 rfl; have p7 := O0.f 7 rfl; have r7 := R0.c 7 rfl; have q7 := R0.f 7 rfl
  have lr := R0.lt; have lo := O0.lt
  have hne : w.heap.size + 1 + 1 ≠ w.heap.size + 1 := by omega
  clear R0 O0
  go_wp2
  refine bodyPost_ret (v := Rt a3 a2 a1 a0 b3 b2 b1 b0) (by simp [results, Try.results19, go_sem, r0, r1, r2, r3, r4, r5, r6, r7]) rfl ?_
  refine ⟨rfl, ?_⟩
  repeat' (refine Below.setCell ?_ (by simp; try omega) _)
  exact HB
end Go.Proofs.Ytnnojeggjnddpaa

/- A number read from its text: the reckoning, of no program. -/
namespace Go.Proofs.Ytnnojeggjnddpaa
theorem tx_neg {z : Int} (h : z < 0) : txL z = 45 :: dgs z.natAbs := by unfold txL; rw [if_pos h]; rfl
theorem tx_pos {z : Int} (h : ¬ z < 0) : txL z = dgs z.natAbs := by unfold txL; rw [if_neg h]; rfl
theorem tx_len {z : Int} (h : z.natAbs < 10 ^ 77) : (txL z).length ≤ 78 := by
  have h2 := dgs_len (k := 77) (by omega) h
  by_cases hz : z < 0
  · rw [tx_neg hz, List.length_cons]; omega
  · rw [tx_pos hz]; omega
end Go.Proofs.Ytnnojeggjnddpaa

/- The texts of fractions and of points: the program's. -/
namespace Go.Proofs.Ytnnojeggjnddpaa
open Go.RowKit
abbrev QV (x y : Int) : Value := .agg #[.int .u64 (ww3 x), .int .u64 (ww2 x), .int .u64 (ww1 x), .int .u64 (ww0 x), .int .u64 (ww3 y), .int .u64 (ww2 y), .int .u64 (ww1 y), .int .u64 (ww0 y)]
/-- What stands under a number, as it is written. -/
def unL (y : Int) : List Nat := if y = 1 then [] else 47 :: txL y
def raL (x y : Int) : List Nat := txL x ++ unL y
theorem unL_one : unL 1 = [] := by unfold unL; rw [if_pos rfl]
theorem unL_not {y : Int} (h : ¬ y = 1) : unL y = 47 :: txL y := by unfold unL; rw [if_neg h]
theorem told77 {z : Int} (h : told z = true) : z.natAbs < 10 ^ 77 := by
  have := of_decide_eq_true h
  omega
theorem txS_le {z : Int} (h : told z = true) : (txS z).size ≤ 78 := by
  unfold txS
  rw [strL_size]
  exact tx_len (told77 h)
theorem unL_le {y : Int} (h : told y = true) : (strL (unL y)).size ≤ 79 := by
  rw [strL_size]
  unfold unL
  have := tx_len (told77 h)
  split
  · simp
  · rw [List.length_cons]; omega
theorem textI_det (x : Int) (hx : told x = true) (w : World) : Calls Try.prog 14 #[W4 x] w (VP (.string (txS x)) w) := by
  obtain ⟨g3, g2, g1, g0⟩ := ww_words x
  have := implText_any _ _ _ _ g3 g2 g1 g0 w
  rw [ww_sw hx] at this
  exact this
theorem one_det (w : World) : Calls Try.prog 95 #[.int .i64 1] w (VP (W4 1) w) := by
  refine (implOf_any 1 w (by decide) (by decide)).mono ?_
  rintro e w1 ⟨a3, a2, a1, a0, rfl, h3, h2, h1, h0, hz, hB⟩
  obtain ⟨rfl, rfl, rfl, rfl⟩ := wd_of h3 h2 h1 h0 hz
  exact ⟨rfl, hB⟩
theorem told_one : told 1 = true := by decide
set_option maxRecDepth 100000 in
set_option maxHeartbeats 2000000 in
theorem eqW10 (x u : Int) (hx : told x = true) (hu : told u = true) (w : World) : (Op.equalIn 10000 26 (W4 x) (W4 u)).run Try.prog w = .ok (decide (x = u)) w := by
  have E : ∀ a3 a2 a1 a0 b3 b2 b1 b0 : Int, (Op.equalIn 10000 26 (.agg #[.int .u64 a3, .int .u64 a2, .int .u64 a1, .int .u64 a0]) (.agg #[.int .u64 b3, .int .u64 b2, .int .u64 b1, .int .u64 b0])).run Try.prog w = .ok (a3 == b3 && a2 == b2 && a1 == b1 && a0 == b0) w := by
    intro a3 a2 a1 a0 b3 b2 b1 b0
    have u3 := Try.underlying22
    have a3' := Try.isAgg22
    have z3 := Try.sizeOf22
    rw [show (10000 : Nat) = 9999 + 1 from rfl, Op.equalIn]
    simp only [Sem.run_bind, run_underlying Try.underlying26, Result.andThen_ok]
    go_simp
    by_cases h3 : a3 = b3
    · subst h3
      by_cases h2 : a2 = b2
      · subst h2
        by_cases h1 : a1 = b1
        · subst h1
          by_cases h0 : a0 = b0
          · subst h0
            simp
          · simp [h0]
        · simp [h1]
      · simp [h2]
    · simp [h3]
  rw [E]
  congr 1
  rw [Bool.eq_iff_iff]
  simp only [Bool.and_eq_true, beq_iff_eq, decide_eq_true_eq]
  constructor
  · rintro ⟨⟨⟨e3, e2⟩, e1⟩, e0⟩
    rw [← ww_sw hx, ← ww_sw hu, e3, e2, e1, e0]
  · rintro rfl
    exact ⟨⟨⟨rfl, rfl⟩, rfl⟩, rfl⟩
set_option maxRecDepth 100000 in
set_option maxHeartbeats 2000000 in
theorem under_det (y : Int) (hy : told y = true) (w : World) : Calls Try.prog 59 #[W4 y] w (VP (.string (strL (unL y))) w) := by
  have C1 := one_det
  have C2 := textI_det y hy
  have E := eqW10 y 1 hy told_one
  have hsz := txS_le hy
  have X0 := Blk.new w [.int .u64 (ww3 y), .int .u64 (ww2 y), .int .u64 (ww1 y), .int .u64 (ww0 y)] 26 rfl
  have HB := (Below.refl _ w).alloc (Nat.le_refl _) (.cells #[.int .u64 (ww3 y), .int .u64 (ww2 y), .int .u64 (ww1 y), .int .u64 (ww0 y)] 26)
  rw [show ([.int .u64 (ww3 y), .int .u64 (ww2 y), .int .u64 (ww1 y), .int .u64 (ww0 y)] : List Value).toArray = #[.int .u64 (ww3 y), .int .u64 (ww2 y), .int .u64 (ww1 y), .int .u64 (ww0 y)] from rfl] at X0
  by_cases h1 : y = 1
  · rw [decide_eq_true h1] at E
    have HO : Hid (unL y = []) := by show _ = _; rw [h1]; exact unL_one
    clear h1
    go_enter Try.func59, Try.ntmps59
    go_wp2_with fail
    generalize (w.alloc (.cells #[.int .u64 (ww3 y), .int .u64 (ww2 y), .int .u64 (ww1 y), .int .u64 (ww0 y)] 26)) = W at *
    go_region_held3 (fun w' => w'.cell? ⟨w.heap.size, 0, none⟩ = some (.int .u64 (ww3 y)) ∧ w'.cell? ⟨w.heap.size, 1, none⟩ = some (.int .u64 (ww2 y)) ∧ w'.cell? ⟨w.heap.size, 2, none⟩ = some (.int .u64 (ww1 y)) ∧ w'.cell? ⟨w.heap.size, 3, none⟩ = some (.int .u64 (ww0 y))) (first | (with_reducible exact X0.cs4) | (with_reducible exact X0.drew.cs4))
      (first | (go_at_call 95; refine (C1 _).mono ?_; rintro e w1 ⟨rfl, hB⟩; (first | (replace X0 := X0.step hB; replace HB := HB.trans (hB.mono HB.size)) | (replace X0 := X0.drew.step hB; replace HB := HB.drew.trans (hB.mono HB.size))); clear hB))
    all_goals go_wp2
    all_goals go_ret
    all_goals exact ⟨by rw [HO.out]; rfl, by first | exact HB | exact HB.drew⟩
  · rw [decide_eq_false h1] at E
    have HO : Hid (unL y = 47 :: txL y) := unL_not h1
    clear h1
    go_enter Try.func59, Try.ntmps59
    go_wp2_with fail
    generalize (w.alloc (.cells #[.int .u64 (ww3 y), .int .u64 (ww2 y), .int .u64 (ww1 y), .int .u64 (ww0 y)] 26)) = W at *
    go_region_held3 (fun w' => w'.cell? ⟨w.heap.size, 0, none⟩ = some (.int .u64 (ww3 y)) ∧ w'.cell? ⟨w.heap.size, 1, none⟩ = some (.int .u64 (ww2 y)) ∧ w'.cell? ⟨w.heap.size, 2, none⟩ = some (.int .u64 (ww1 y)) ∧ w'.cell? ⟨w.heap.size, 3, none⟩ = some (.int .u64 (ww0 y))) (first | (with_reducible exact X0.cs4) | (with_reducible exact X0.drew.cs4))
      (first | (go_at_call 95; refine (C1 _).mono ?_; rintro e w1 ⟨rfl, hB⟩; (first | (replace X0 := X0.step hB; replace HB := HB.trans (hB.mono HB.size)) | (replace X0 := X0.drew.step hB; replace HB := HB.drew.trans (hB.mono HB.size))); clear hB))
    all_goals obtain ⟨c0, c1, c2, c3⟩ := X0.cs4
    all_goals go_wp2_with fail
    all_goals refine (C2 _).mono ?_
    all_goals rintro e w2 ⟨rfl, hB⟩
    all_goals have HB2 := HB.trans (Below.mono (by first | exact hB | exact hB) HB.size)
    all_goals clear hB
    all_goals go_wp2
    all_goals go_ret
    all_goals exact ⟨by rw [HO.out]; exact congrArg (fun b => Ending.returned (Value.string b)) (strL_append [47] (txL y)).symm, HB2⟩
set_option maxRecDepth 100000 in
set_option maxHeartbeats 2000000 in
theorem ratText_det (x y : Int) (hx : told x = true) (hy : told y = true) (w : World) : Calls Try.prog 20 #[QV x y] w (VP (.string (strL (if rightB x y = true then raL x y else []))) w) := by
  have C0 : ∀ w, Calls Try.prog 58 #[QV x y] w (BoolP (rightB x y) w) := by
    intro w
    obtain ⟨g3, g2, g1, g0⟩ := ww_words x
    obtain ⟨k3, k2, k1, k0⟩ := ww_words y
    have := right_any _ _ _ _ _ _ _ _ g3 g2 g1 g0 k3 k2 k1 k0 w
    rw [ww_sw hx, ww_sw hy] at this
    exact this
  have C1 := textI_det x hx
  have C2 := under_det y hy
  have hs1 := txS_le hx
  have hs2 := unL_le hy
  have q1 : ¬ (9223372036854775807 < (txS x).size + (strL (unL y)).size) := by omega
  have X0 := Blk.new w [.int .u64 (ww3 x), .int .u64 (ww2 x), .int .u64 (ww1 x), .int .u64 (ww0 x), .int .u64 (ww3 y), .int .u64 (ww2 y), .int .u64 (ww1 y), .int .u64 (ww0 y)] 37 rfl
  have HB := (Below.refl _ w).alloc (Nat.le_refl _) (.cells #[.int .u64 (ww3 x), .int .u64 (ww2 x), .int .u64 (ww1 x), .int .u64 (ww0 x), .int .u64 (ww3 y), .int .u64 (ww2 y), .int .u64 (ww1 y), .int .u64 (ww0 y)] 37)
  rw [show ([.int .u64 (ww3 x), .int .u64 (ww2 x), .int .u64 (ww1 x), .int .u64 (ww0 x), .int .u64 (ww3 y), .int .u64 (ww2 y), .int .u64 (ww1 y), .int .u64 (ww0 y)] : List Value).toArray = #[.int .u64 (ww3 x), .int .u64 (ww2 x), .int .u64 (ww1 x), .int .u64 (ww0 x), .int .u64 (ww3 y), .int .u64 (ww2 y), .int .u64 (ww1 y), .int .u64 (ww0 y)] from rfl] at X0
  cases hb : rightB x y
  · rw [hb] at C0
    rw [if_neg (by decide)]
    clear hb
    obtain ⟨c0, c1, c2, c3, c4, c5, c6, c7⟩ := X0.cs8
    go_enter Try.func20, Try.ntmps20
    go_wp2_with fail
    refine (C0 _).mono ?_
    rintro e w1 ⟨rfl, hB⟩
    have HB2 := HB.trans (hB.mono HB.size)
    clear hB
    go_wp2
    go_ret
    exact ⟨rfl, HB2⟩
  · rw [hb] at C0
    rw [if_pos rfl]
    clear hb
    obtain ⟨c0, c1, c2, c3, c4, c5, c6, c7⟩ := X0.cs8
    go_enter Try.func20, Try.ntmps20
    go_wp2_with fail
    refine (C0 _).mono ?_
    rintro e w1 ⟨rfl, hB⟩
    replace X0 := X0.step hB
    replace HB := HB.trans (hB.mono HB.size)
    clear hB C0 c0 c1 c2 c3 c4 c5 c6 c7
    go_wp2_with fail
    go_region_held3 (fun w' => w'.cell? ⟨w.heap.size, 0, none⟩ = some (.int .u64 (ww3 x)) ∧ w'.cell? ⟨w.heap.size, 1, none⟩ = some (.int .u64 (ww2 x)) ∧ w'.cell? ⟨w.heap.size, 2, none⟩ = some (.int .u64 (ww1 x)) ∧ w'.cell? ⟨w.heap.size, 3, none⟩ = some (.int .u64 (ww0 x)) ∧ w'.cell? ⟨w.heap.size, 4, none⟩ = some (.int .u64 (ww3 y)) ∧ w'.cell? ⟨w.heap.size, 5, none⟩ = some (.int .u64 (ww2 y)) ∧ w'.cell? ⟨w.heap.size, 6, none⟩ = some (.int .u64 (ww1 y)) ∧ w'.cell? ⟨w.heap.size, 7, none⟩ = some (.int .u64 (ww0 y))) (first | (with_reducible exact X0.cs8) | (with_reducible exact X0.drew.cs8))
      (first
        | (go_at_call 14; refine (C1 _).mono ?_; rintro e w2 ⟨rfl, hB⟩; (first | (replace X0 := X0.step hB; replace HB := HB.trans (hB.mono HB.size)) | (replace X0 := X0.drew.step hB; replace HB := HB.drew.trans (hB.mono HB.size))); clear hB)
        | (go_at_call 59; refine (C2 _).mono ?_; rintro e w3 ⟨rfl, hB⟩; (first | (replace X0 := X0.step hB; replace HB := HB.trans (hB.mono HB.size)) | (replace X0 := X0.drew.step hB; replace HB := HB.drew.trans (hB.mono HB.size))); clear hB))
    all_goals go_wp2
    all_goals go_ret
    all_goals exact ⟨congrArg (fun b => Ending.returned (Value.string b)) (strL_append (txL x) (unL y)).symm, by first | exact HB | exact HB.drew⟩
end Go.Proofs.Ytnnojeggjnddpaa

/- Two numbers of digits laid behind the arguments; the model's tell of a number, its value known. -/
namespace Go.Proofs.Ytnnojeggjnddpaa
open Go.RowKit
theorem IsNum.step {w w' : World} {s : Bool} {ao : Option Addr} {n cap : Nat} {ds : List Int} {z : Int} {k : Nat} (h : IsNum w s ao n cap ds z k) (hb : Below w.heap.size w w') : IsNum w' s ao n cap ds z k := h.below hb
theorem IsNum.alloc {w : World} {s : Bool} {ao : Option Addr} {n cap : Nat} {ds : List Int} {z : Int} {k : Nat} (h : IsNum w s ao n cap ds z k) (o : Obj) : IsNum (w.alloc o) s ao n cap ds z k := h.below ((Below.refl _ _).alloc (Nat.le_refl _) o)
end Go.Proofs.Ytnnojeggjnddpaa

/- The texts of fractions and of points: the model's. -/
namespace Go.Proofs.Ytnnojeggjnddpaa
open Go.RowKit
theorem cmp_one (y : Int) : (cmpI y 1 == 0) = decide (y = 1) := by
  unfold cmpI
  by_cases h : y = 1
  · subst h; rfl
  · rw [decide_eq_false h]
    split
    · rfl
    · split
      · rfl
      · omega
set_option maxRecDepth 100000 in
set_option maxHeartbeats 2000000 in
theorem specRatText_det (x y : Int) (hx : told x = true) (hy : told y = true) (w : World) : Calls Try.prog 18 #[QV x y] w (VP (.string (strL (if rightB x y = true then raL x y else []))) w) := by
  have C0 : ∀ w, Calls Try.prog 54 #[QV x y] w (BoolP (rightB x y) w) := by
    intro w
    obtain ⟨g3, g2, g1, g0⟩ := ww_words x
    obtain ⟨k3, k2, k1, k0⟩ := ww_words y
    have := specRatioOk_any _ _ _ _ _ _ _ _ g3 g2 g1 g0 k3 k2 k1 k0 w
    rw [ww_sw hx, ww_sw hy] at this
    exact this
  have CO : ∀ w, Calls Try.prog 55 #[QV x y] w (TwoNP x y w) := by
    intro w
    obtain ⟨g3, g2, g1, g0⟩ := ww_words x
    obtain ⟨k3, k2, k1, k0⟩ := ww_words y
    have := l2Of_any _ _ _ _ _ _ _ _ g3 g2 g1 g0 k3 k2 k1 k0 w
    rw [ww_sw hx, ww_sw hy] at this
    exact this
  have hs1 := txS_le hx
  have hs2 := txS_le hy
  have X0 := Blk.new w [.int .u64 (ww3 x), .int .u64 (ww2 x), .int .u64 (ww1 x), .int .u64 (ww0 x), .int .u64 (ww3 y), .int .u64 (ww2 y), .int .u64 (ww1 y), .int .u64 (ww0 y)] 37 rfl
  have HB := (Below.refl _ w).alloc (Nat.le_refl _) (.cells #[.int .u64 (ww3 x), .int .u64 (ww2 x), .int .u64 (ww1 x), .int .u64 (ww0 x), .int .u64 (ww3 y), .int .u64 (ww2 y), .int .u64 (ww1 y), .int .u64 (ww0 y)] 37)
  rw [show ([.int .u64 (ww3 x), .int .u64 (ww2 x), .int .u64 (ww1 x), .int .u64 (ww0 x), .int .u64 (ww3 y), .int .u64 (ww2 y), .int .u64 (ww1 y), .int .u64 (ww0 y)] : List Value).toArray = #[.int .u64 (ww3 x), .int .u64 (ww2 x), .int .u64 (ww1 x), .int .u64 (ww0 x), .int .u64 (ww3 y), .int .u64 (ww2 y), .int .u64 (ww1 y), .int .u64 (ww0 y)] from rfl] at X0
  cases hb : rightB x y
  · rw [hb] at C0
    rw [if_neg (by decide)]
    clear hb
    obtain ⟨c0, c1, c2, c3, c4, c5, c6, c7⟩ := X0.cs8
    go_enter Try.func18, Try.ntmps18
    go_wp2_with fail
    refine (C0 _).mono ?_
    rintro e w1 ⟨rfl, hB⟩
    have HB2 := HB.trans (hB.mono HB.size)
    clear hB
    go_wp2
    go_ret
    exact ⟨rfl, HB2⟩
  · rw [hb] at C0
    rw [if_pos rfl]
    clear hb
    obtain ⟨c0, c1, c2, c3, c4, c5, c6, c7⟩ := X0.cs8
    go_enter Try.func18, Try.ntmps18
    go_wp2_with fail
    refine (C0 _).mono ?_
    rintro e w1 ⟨rfl, hB⟩
    replace X0 := X0.step hB
    replace HB := HB.trans (hB.mono HB.size)
    clear hB C0 c0 c1 c2 c3 c4 c5 c6 c7
    obtain ⟨c0, c1, c2, c3, c4, c5, c6, c7⟩ := X0.cs8
    go_wp2_with fail
    refine (CO _).mono ?_
    rintro e w2 ⟨s1, o1, n1, k1, d1, s2, o2, n2, k2, d2, rfl, N1, N2, hB⟩
    replace HB := HB.trans (hB.mono HB.size)
    clear hB CO X0 c0 c1 c2 c3 c4 c5 c6 c7
    generalize k1 = c1 at *
    generalize k2 = c2 at *
    have X0 := Blk.new w2 [.bool s1, .slice o1 n1 c1, .bool s2, .slice o2 n2 c2] 86 rfl
    rw [show ([.bool s1, .slice o1 n1 c1, .bool s2, .slice o2 n2 c2] : List Value).toArray = #[.bool s1, .slice o1 n1 c1, .bool s2, .slice o2 n2 c2] from rfl] at X0
    replace HB := HB.alloc HB.size (.cells #[.bool s1, .slice o1 n1 c1, .bool s2, .slice o2 n2 c2] 86)
    replace N1 := N1.alloc (.cells #[.bool s1, .slice o1 n1 c1, .bool s2, .slice o2 n2 c2] 86)
    replace N2 := N2.alloc (.cells #[.bool s1, .slice o1 n1 c1, .bool s2, .slice o2 n2 c2] 86)
    go_upto_region 4 with fail
    generalize (w2.alloc (.cells #[.bool s1, .slice o1 n1 c1, .bool s2, .slice o2 n2 c2] 86)) = W at *
    generalize w2.heap.size = g at *
    go_cut [13] (fun p wx => p = .bool (decide (y = 1)) ∧ Blk wx g [.bool s1, .slice o1 n1 c1, .bool s2, .slice o2 n2 c2] ∧ Below w.heap.size w wx ∧ IsNum wx s1 o1 n1 c1 d1 x 8 ∧ IsNum wx s2 o2 n2 c2 d2 y 8)
    case first =>
      go_region_held3 (fun w' => w'.cell? ⟨g, 0, none⟩ = some (.bool s1) ∧ w'.cell? ⟨g, 1, none⟩ = some (.slice o1 n1 c1) ∧ w'.cell? ⟨g, 2, none⟩ = some (.bool s2) ∧ w'.cell? ⟨g, 3, none⟩ = some (.slice o2 n2 c2)) (first | (with_reducible exact X0.cs4) | (with_reducible exact X0.drew.cs4))
        (first
          | (go_at_call 57; refine (int_any 1 _ (by decide) (by decide)).mono ?_; rintro e w3 ⟨s5, o5, n5, c5, d5, rfl, N5, hB⟩; (first | (replace X0 := X0.step hB; replace HB := HB.trans (hB.mono HB.size); replace N1 := N1.step hB; replace N2 := N2.step hB) | (replace X0 := X0.drew.step hB; replace HB := HB.drew.trans (hB.mono HB.size); replace N1 := N1.drew.step hB; replace N2 := N2.drew.step hB)); clear hB)
          | (go_at_call 56; refine (cmp_any s2 s5 o2 o5 n2 n5 c2 c5 8 d2 d5 _ _ _ N2 (num_more N5 (by omega)) (by omega)).mono ?_; rintro e w4 ⟨rfl, hB⟩; (first | (replace X0 := X0.step hB; replace HB := HB.trans (hB.mono HB.size); replace N1 := N1.step hB; replace N2 := N2.step hB) | (replace X0 := X0.drew.step hB; replace HB := HB.drew.trans (hB.mono HB.size); replace N1 := N1.drew.step hB; replace N2 := N2.drew.step hB)); clear hB N5))
      all_goals go_wp2_with fail
      all_goals go_meet
      all_goals exact ⟨by rw [show (cmpI y 1 == 0) = decide (y = 1) from cmp_one y], X0, HB, N1, N2⟩
    case rest =>
      clear X0 HB N1 N2
      obtain ⟨hp, X0, HB, N1, N2⟩ := hcut
      subst hp
      generalize wc = W2 at *
      rename_i hk
      refine hk _ _ ?_
      clear hk
      obtain ⟨c0, c1', c2', c3⟩ := X0.cs4
      by_cases h1 : y = 1
      · have HO : Hid (raL x y = txL x) := by show _ = _; unfold raL; rw [h1, unL_one, List.append_nil]
        rw [decide_eq_true h1]
        clear h1
        go_wp2_with fail
        refine (l1Text_any s1 o1 n1 c1 d1 x 8 _ N1 (by omega)).mono ?_
        rintro e w5 ⟨rfl, hB⟩
        have HB2 := HB.trans (hB.mono HB.size)
        clear hB X0 HB N1 N2
        go_wp2
        go_ret
        exact ⟨by rw [HO.out]; rfl, HB2⟩
      · have hcat : Hid (txS x ++ ⟨#[47]⟩ ++ txS y = strL (raL x y)) := by
          show _ = _
          unfold raL
          rw [unL_not h1, strL_append, show (47 :: txL y) = [47] ++ txL y from rfl, strL_append, ← ByteArray.append_assoc]
          rfl
        have hsz1 : (txS x ++ ⟨#[47]⟩).size = (txS x).size + 1 := by rw [ByteArray.size_append]; rfl
        have r1 : ¬ (9223372036854775807 < (txS x).size + 1) := by omega
        have r2 : ¬ (9223372036854775807 < (txS x).size + 1 + (txS y).size) := by omega
        have q2 : ¬ (9223372036854775807 < (txS x ++ ⟨#[47]⟩).size + (txS y).size) := by omega
        have tok1 : True := trivial
        rw [decide_eq_false h1]
        clear h1 c0 c1' c2' c3
        go_upto_region 6 with fail
        go_region_held3 (fun w' => w'.cell? ⟨g, 0, none⟩ = some (.bool s1) ∧ w'.cell? ⟨g, 1, none⟩ = some (.slice o1 n1 c1) ∧ w'.cell? ⟨g, 2, none⟩ = some (.bool s2) ∧ w'.cell? ⟨g, 3, none⟩ = some (.slice o2 n2 c2)) (first | (with_reducible exact X0.cs4) | (with_reducible exact X0.drew.cs4))
          (first
            | (go_at_call 42; have _t := tok1; refine (l1Text_any s1 o1 n1 c1 d1 x 8 _ (by first | (with_reducible exact N1) | (with_reducible exact N1.drew)) (by omega)).mono ?_; rintro e w5 ⟨rfl, hB⟩; (first | (replace X0 := X0.step hB; replace HB := HB.trans (hB.mono HB.size); replace N1 := N1.step hB; replace N2 := N2.step hB) | (replace X0 := X0.drew.step hB; replace HB := HB.drew.trans (hB.mono HB.size); replace N1 := N1.drew.step hB; replace N2 := N2.drew.step hB)); clear hB tok1 _t)
            | (go_at_call 42; refine (l1Text_any s2 o2 n2 c2 d2 y 8 _ (by first | (with_reducible exact N2) | (with_reducible exact N2.drew)) (by omega)).mono ?_; rintro e w6 ⟨rfl, hB⟩; (first | (replace X0 := X0.step hB; replace HB := HB.trans (hB.mono HB.size); replace N1 := N1.step hB; replace N2 := N2.step hB) | (replace X0 := X0.drew.step hB; replace HB := HB.drew.trans (hB.mono HB.size); replace N1 := N1.drew.step hB; replace N2 := N2.drew.step hB)); clear hB))
        all_goals go_wp2
        all_goals go_ret
        all_goals exact ⟨by rw [← hcat.out]; rfl, by first | exact HB | exact HB.drew⟩
end Go.Proofs.Ytnnojeggjnddpaa

/- The text of a Ratio: the law over both sides. -/
namespace Go.Proofs.Ytnnojeggjnddpaa
open Go.RowKit
theorem toRat_det (x y : Int) (w : World) : Calls Try.prog 19 #[QV x y] w (VP (QV x y) w) := toRatio_any _ _ _ _ _ _ _ _ w
set_option maxRecDepth 100000 in
set_option maxHeartbeats 2000000 in
theorem lawRatioText_det (x y : Int) (hx : told x = true) (hy : told y = true) (w : World) : Calls Try.prog 5 #[QV x y] w (BoolP true w) := by
  have X0 := Blk.new w [.int .u64 (ww3 x), .int .u64 (ww2 x), .int .u64 (ww1 x), .int .u64 (ww0 x), .int .u64 (ww3 y), .int .u64 (ww2 y), .int .u64 (ww1 y), .int .u64 (ww0 y)] 34 rfl
  have HB := (Below.refl _ w).alloc (Nat.le_refl _) (.cells #[.int .u64 (ww3 x), .int .u64 (ww2 x), .int .u64 (ww1 x), .int .u64 (ww0 x), .int .u64 (ww3 y), .int .u64 (ww2 y), .int .u64 (ww1 y), .int .u64 (ww0 y)] 34)
  rw [show ([.int .u64 (ww3 x), .int .u64 (ww2 x), .int .u64 (ww1 x), .int .u64 (ww0 x), .int .u64 (ww3 y), .int .u64 (ww2 y), .int .u64 (ww1 y), .int .u64 (ww0 y)] : List Value).toArray = #[.int .u64 (ww3 x), .int .u64 (ww2 x), .int .u64 (ww1 x), .int .u64 (ww0 x), .int .u64 (ww3 y), .int .u64 (ww2 y), .int .u64 (ww1 y), .int .u64 (ww0 y)] from rfl] at X0
  have SP := specRatText_det x y hx hy
  have IM := ratText_det x y hx hy
  have TO := toRat_det x y
  generalize strL (if rightB x y = true then raL x y else []) = b at *
  go_enter Try.func5, Try.ntmps5
  go_wp2_with fail
  refine (TO _).mono ?_
  rintro e w1 ⟨rfl, hB⟩
  replace X0 := X0.step hB; replace HB := HB.trans (hB.mono HB.size)
  clear hB
  go_wp2_with fail
  refine (SP _).mono ?_
  rintro e w2 ⟨rfl, hB⟩
  replace X0 := X0.step hB; replace HB := HB.trans (hB.mono HB.size)
  clear hB
  have q0 := X0.c 0 rfl; have q1 := X0.c 1 rfl; have q2 := X0.c 2 rfl; have q3 := X0.c 3 rfl; have q4 := X0.c 4 rfl; have q5 := X0.c 5 rfl; have q6 := X0.c 6 rfl; have q7 := X0.c 7 rfl
  go_wp2_with fail
  refine (TO _).mono ?_
  rintro e w3 ⟨rfl, hB⟩
  replace HB := HB.trans (hB.mono HB.size)
  clear hB X0 q0 q1 q2 q3 q4 q5 q6 q7
  go_wp2_with fail
  refine (IM _).mono ?_
  rintro e w4 ⟨rfl, hB⟩
  replace HB := HB.trans (hB.mono HB.size)
  clear hB SP IM
  go_wp2
  go_ret
  exact ⟨rfl, HB⟩
theorem lawRatioText_any (a3 a2 a1 a0 b3 b2 b1 b0 : Int) (h3 : Word a3) (h2 : Word a2) (h1 : Word a1) (h0 : Word a0) (k3 : Word b3) (k2 : Word b2) (k1 : Word b1) (k0 : Word b0) (w : World) : Calls Try.prog 5 #[Rt a3 a2 a1 a0 b3 b2 b1 b0] w (BoolP true w) := by
  have ta : told (sw a3 a2 a1 a0) = true := decide_eq_true (sw_bound h3 h2 h1 h0)
  have tb : told (sw b3 b2 b1 b0) = true := decide_eq_true (sw_bound k3 k2 k1 k0)
  obtain ⟨e3, e2, e1, e0⟩ := wd_of h3 h2 h1 h0 rfl
  obtain ⟨f3, f2, f1, f0⟩ := wd_of k3 k2 k1 k0 rfl
  have := lawRatioText_det (sw a3 a2 a1 a0) (sw b3 b2 b1 b0) ta tb w
  unfold QV at this
  rw [← e3, ← e2, ← e1, ← e0, ← f3, ← f2, ← f1, ← f0] at this
  exact this
end Go.Proofs.Ytnnojeggjnddpaa

/- How a value of four words reads as data: opened and shut. -/
namespace Go.Proofs.Ytnnojeggjnddpaa
open Go.ChangeShapes Go.WideShapes Go.ChangeAt Go.RowKit Go.Joins
theorem Try.own : ownKnob Try.prog.godebug = none := by kernel_rfl
theorem Try.cells28 : Try.prog.cellsOf 24 = 4 := by kernel_rfl
theorem word_of_wf {x : Int} (h : (Lit.int .u64 x).wf = true) : Word x := by
  simp [Lit.wf, IntKind.min, IntKind.max, IntKind.signed, IntKind.bits] at h
  exact ⟨by omega, by omega⟩
theorem shut_wide {H : Type} {enc : TypeId × Value → H} {w : World} {base : Nat} {spare : TypeId → Bool} {held : Bool} {a3 a2 a1 a0 : Int} (w3 : (Lit.int .u64 a3).wf = true) (w2 : (Lit.int .u64 a2).wf = true) (w1 : (Lit.int .u64 a1).wf = true) (w0 : (Lit.int .u64 a0).wf = true) :
    DataW.Trod enc Try.prog w base spare held 24 (.agg #[.int .u64 a3, .int .u64 a2, .int .u64 a1, .int .u64 a0]) (.agg [.lit (.int .u64 a3), .lit (.int .u64 a2), .lit (.int .u64 a1), .lit (.int .u64 a0)]) [] :=
  shut_agg4 (y0 := (.lit (.int .u64 a3), [])) (y1 := (.lit (.int .u64 a2), [])) (y2 := (.lit (.int .u64 a1), [])) (y3 := (.lit (.int .u64 a0), [])) Try.underlying24 (by kernel_rfl) Try.cells28
    ⟨1, by simp [DataW.trod, Try.underlying22, w3]⟩ ⟨1, by simp [DataW.trod, Try.underlying22, w2]⟩ ⟨1, by simp [DataW.trod, Try.underlying22, w1]⟩ ⟨1, by simp [DataW.trod, Try.underlying22, w0]⟩
end Go.Proofs.Ytnnojeggjnddpaa

/- How a fraction of two numbers reads as data: opened and shut. -/
namespace Go.Proofs.Ytnnojeggjnddpaa
open Go.ChangeShapes Go.WideShapes Go.ChangeAt Go.RowKit Go.Joins
abbrev Wu (x : Int) : Prop := (Lit.int .u64 x).wf = true
abbrev WdD {H : Type} (a3 a2 a1 a0 : Int) : DataW H := .agg [.lit (.int .u64 a3), .lit (.int .u64 a2), .lit (.int .u64 a1), .lit (.int .u64 a0)]
theorem Try.cellsRatio : Try.prog.cellsOf 34 = 8 := by kernel_rfl
theorem array8 (T : Array Value) (h : T.size = 8) : ∃ v0 v1 v2 v3 v4 v5 v6 v7 : Value, T = #[v0, v1, v2, v3, v4, v5, v6, v7] := by
  match T, h with
  | ⟨[v0, v1, v2, v3, v4, v5, v6, v7]⟩, _ => exact ⟨v0, v1, v2, v3, v4, v5, v6, v7, rfl⟩
theorem trod_wide {H : Type} {enc : TypeId × Value → H} {w : World} {base : Nat} {spare : TypeId → Bool} {held : Bool} {n : Nat} {c0 c1 c2 c3 : Value} {y : DataW H × List MemPlace} (h : DataW.trod enc Try.prog w base spare held n 24 [c0, c1, c2, c3] = some y) :
    ∃ a3 a2 a1 a0 : Int, c0 = .int .u64 a3 ∧ c1 = .int .u64 a2 ∧ c2 = .int .u64 a1 ∧ c3 = .int .u64 a0 ∧ y = (WdD a3 a2 a1 a0, []) ∧ Wu a3 ∧ Wu a2 ∧ Wu a1 ∧ Wu a0 := by
  obtain ⟨y0, y1, y2, y3, m, hx, _, h0, h1, h2, h3⟩ := trod_struct4 Try.underlying24 h
  obtain ⟨a, e0, rfl, wa⟩ := DataW.trod_int Try.underlying22 h0
  obtain ⟨b, e1, rfl, wb⟩ := DataW.trod_int Try.underlying22 h1
  obtain ⟨c, e2, rfl, wc⟩ := DataW.trod_int Try.underlying22 h2
  obtain ⟨d, e3, rfl, wd⟩ := DataW.trod_int Try.underlying22 h3
  have k : Try.prog.cellsOf 22 = 1 := by kernel_rfl
  simp [k] at e0 e1 e2 e3
  exact ⟨a, b, c, d, e0, e1, e2, e3, hx, wa, wb, wc, wd⟩
set_option maxRecDepth 100000 in
theorem open_ratio {H : Type} {enc : TypeId × Value → H} {w : World} {b0' : Nat} {v : Value} {d : DataW H} {p : List MemPlace} (hv : Value.okWide Try.prog w .any b0' 34 v) (h : DataW.Trod enc Try.prog w 0 (fun _ => true) true 34 v d p) :
    ∃ a3 a2 a1 a0 b3 b2 b1 b0 : Int, v = .agg #[.int .u64 a3, .int .u64 a2, .int .u64 a1, .int .u64 a0, .int .u64 b3, .int .u64 b2, .int .u64 b1, .int .u64 b0] ∧ d = .agg [WdD a3 a2 a1 a0, WdD b3 b2 b1 b0] ∧ p = [] ∧ (Wu a3 ∧ Wu a2 ∧ Wu a1 ∧ Wu a0) ∧ Wu b3 ∧ Wu b2 ∧ Wu b1 ∧ Wu b0 := by
  obtain ⟨cs, rfl, hsz⟩ := okWide_struct Try.underlying34 hv
  obtain ⟨c0, c1, c2, c3, c4, c5, c6, c7, rfl⟩ := array8 cs (hsz.trans Try.cellsRatio)
  obtain ⟨fuel, hf⟩ := h
  obtain ⟨y0, y1, n, hx, _, h0, h1⟩ := trod_struct2 Try.underlying34 hf
  simp [Value.cells, Try.cells28] at h0 h1
  obtain ⟨a3, a2, a1, a0, rfl, rfl, rfl, rfl, rfl, wa⟩ := trod_wide h0
  obtain ⟨b3, b2, b1, b0, rfl, rfl, rfl, rfl, rfl, wb⟩ := trod_wide h1
  simp only [Prod.mk.injEq] at hx
  exact ⟨a3, a2, a1, a0, b3, b2, b1, b0, rfl, hx.1, by simpa using hx.2, wa, wb⟩
theorem shut_ratio {H : Type} {enc : TypeId × Value → H} {w : World} {base : Nat} {spare : TypeId → Bool} {held : Bool} {a3 a2 a1 a0 b3 b2 b1 b0 : Int} (wa : Wu a3 ∧ Wu a2 ∧ Wu a1 ∧ Wu a0) (wb : Wu b3 ∧ Wu b2 ∧ Wu b1 ∧ Wu b0) :
    DataW.Trod enc Try.prog w base spare held 34 (.agg #[.int .u64 a3, .int .u64 a2, .int .u64 a1, .int .u64 a0, .int .u64 b3, .int .u64 b2, .int .u64 b1, .int .u64 b0]) (.agg [WdD a3 a2 a1 a0, WdD b3 b2 b1 b0]) [] := by
  obtain ⟨n0, t0⟩ := shut_wide (enc := enc) (w := w) (base := base) (spare := spare) (held := held) wa.1 wa.2.1 wa.2.2.1 wa.2.2.2
  obtain ⟨n1, t1⟩ := shut_wide (enc := enc) (w := w) (base := base) (spare := spare) (held := held) wb.1 wb.2.1 wb.2.2.1 wb.2.2.2
  have ts := trod_struct2_mk (enc := enc) (w := w) (base := base) (spare := spare) (held := held) (n := max n0 n1) (cs := [.int .u64 a3, .int .u64 a2, .int .u64 a1, .int .u64 a0, .int .u64 b3, .int .u64 b2, .int .u64 b1, .int .u64 b0]) Try.underlying34 (by simp [Try.cellsRatio])
    (by simpa [Value.cells, Try.cells28] using DataW.trod_le (Nat.le_max_left n0 n1) t0) (by simpa [Value.cells, Try.cells28] using DataW.trod_le (Nat.le_max_right n0 n1) t1)
  exact ⟨_, by simpa [Value.cells] using ts⟩
end Go.Proofs.Ytnnojeggjnddpaa
