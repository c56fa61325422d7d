/- Fractions: whether one is right. -/
import Derived.Test.YtddniklhpkagmaaImplGcd
import Derived.Test.YtddniklhpkagmaaSpecGcd
import Derived.Test.YtddniklhpkagmaaBase2
namespace Go.Proofs.Ytddniklhpkagmaa
open Go.RowKit
abbrev Rt (a3 a2 a1 a0 b3 b2 b1 b0 : Int) : Value := .agg #[.int .u64 a3, .int .u64 a2, .int .u64 a1, .int .u64 a0, .int .u64 b3, .int .u64 b2, .int .u64 b1, .int .u64 b0]
/-- Whether up / down is right. -/
def rightB (x y : Int) : Bool := decide (0 < y ∧ Int.gcd x y = 1)
set_option maxRecDepth 100000 in
set_option maxHeartbeats 2000000 in
theorem eqOne (c3 c2 c1 c0 : Int) (w : World) : (Op.equalIn 10000 25 (.agg #[.int .u64 c3, .int .u64 c2, .int .u64 c1, .int .u64 c0]) (.agg #[.int .u64 0, .int .u64 0, .int .u64 0, .int .u64 1])).run Try.prog w = .ok (c3 == 0 && c2 == 0 && c1 == 0 && c0 == 1) w := by
  have u3 := Try.underlying22
  have a3 := Try.isAgg22
  have z3 := Try.sizeOf22
  rw [show (10000 : Nat) = 9999 + 1 from rfl, Op.equalIn]
  simp only [Sem.run_bind, run_underlying Try.underlying25, Result.andThen_ok]
  go_simp
  by_cases hc3 : c3 = 0
  · subst hc3
    by_cases hc2 : c2 = 0
    · subst hc2
      by_cases hc1 : c1 = 0
      · subst hc1
        by_cases hc0 : c0 = 1
        · subst hc0
          simp
        · simp [hc0]
      · simp [hc1]
    · simp [hc2]
  · simp [hc3]
theorem one_words {c3 c2 c1 c0 : Int} (h3 : Word c3) (h2 : Word c2) (h1 : Word c1) (h0 : Word c0) {z : Int} (hz : sw c3 c2 c1 c0 = z) : (c3 == 0 && c2 == 0 && c1 == 0 && c0 == 1) = decide (z = 1) := by
  rw [Bool.eq_iff_iff]
  simp only [Bool.and_eq_true, beq_iff_eq, decide_eq_true_eq]
  constructor
  · rintro ⟨⟨⟨rfl, rfl⟩, rfl⟩, rfl⟩
    rw [← hz]; decide
  · intro h
    have e : sw 0 0 0 1 = 1 := by decide
    obtain ⟨e3, e2, e1, e0⟩ := sw_inj h3 h2 h1 h0 ⟨by decide, by decide⟩ ⟨by decide, by decide⟩ ⟨by decide, by decide⟩ ⟨by decide, by decide⟩ (hz.trans (h.trans e.symm))
    exact ⟨⟨⟨e3, e2⟩, e1⟩, e0⟩
theorem sw_one {c3 c2 c1 c0 : Int} (h3 : Word c3) (h2 : Word c2) (h1 : Word c1) (h0 : Word c0) (hz : sw c3 c2 c1 c0 = 1) : c3 = 0 ∧ c2 = 0 ∧ c1 = 0 ∧ c0 = 1 := by
  have e : sw 0 0 0 1 = 1 := by decide
  exact sw_inj h3 h2 h1 h0 ⟨by decide, by decide⟩ ⟨by decide, by decide⟩ ⟨by decide, by decide⟩ ⟨by decide, by decide⟩ (hz.trans e.symm)
theorem rt_cells {b3 b2 b1 b0 c3 c2 c1 c0 a3 a2 a1 a0 : Int} {w W : World} {gc : Nat} (X : Blk W w.heap.size [.int .u64 a3, .int .u64 a2, .int .u64 a1, .int .u64 a0, .int .u64 b3, .int .u64 b2, .int .u64 b1, .int .u64 b0]) (Y : Blk W gc [.int .u64 c3, .int .u64 c2, .int .u64 c1, .int .u64 c0]) : (fun w' => w'.cell? ⟨w.heap.size, 4, none⟩ = some (.int .u64 b3) ∧ w'.cell? ⟨w.heap.size, 5, none⟩ = some (.int .u64 b2) ∧ w'.cell? ⟨w.heap.size, 6, none⟩ = some (.int .u64 b1) ∧ w'.cell? ⟨w.heap.size, 7, none⟩ = some (.int .u64 b0) ∧ w'.cell? ⟨gc, 0, none⟩ = some (.int .u64 c3) ∧ w'.cell? ⟨gc, 1, none⟩ = some (.int .u64 c2) ∧ w'.cell? ⟨gc, 2, none⟩ = some (.int .u64 c1) ∧ w'.cell? ⟨gc, 3, none⟩ = some (.int .u64 c0)) W :=
  ⟨X.c 4 rfl, X.c 5 rfl, X.c 6 rfl, X.c 7 rfl, Y.c 0 rfl, Y.c 1 rfl, Y.c 2 rfl, Y.c 3 rfl⟩
set_option maxRecDepth 100000 in
set_option maxHeartbeats 2000000 in
theorem right_any (a3 a2 a1 a0 b3 b2 b1 b0 : Int) (h3 : Word a3) (h2 : Word a2) (h1 : Word a1) (h0 : Word a0) (k3 : Word b3) (k2 : Word b2) (k1 : Word b1) (k0 : Word b0) (w : World) : Calls Try.prog 75 #[Rt a3 a2 a1 a0 b3 b2 b1 b0] w (BoolP (rightB (sw a3 a2 a1 a0) (sw b3 b2 b1 b0)) w) := by
  have X0 := Blk.new w [.int .u64 a3, .int .u64 a2, .int .u64 a1, .int .u64 a0, .int .u64 b3, .int .u64 b2, .int .u64 b1, .int .u64 b0] 41 rfl
  have HB := (Below.refl _ w).alloc (Nat.le_refl _) (.cells #[.int .u64 a3, .int .u64 a2, .int .u64 a1, .int .u64 a0, .int .u64 b3, .int .u64 b2, .int .u64 b1, .int .u64 b0] 41)
  go_enter Try.func75, Try.ntmps75
  go_wp2_with fail
  refine (implGcd_any a3 a2 a1 a0 b3 b2 b1 b0 h3 h2 h1 h0 k3 k2 k1 k0 _).mono ?_
  rintro e w1 ⟨hB, ⟨ht, c3, c2, c1, c0, rfl, g3, g2, g1, g0, gv⟩ | ⟨ht, rfl⟩⟩
  · replace X0 := X0.step hB
    replace HB := HB.trans (hB.mono HB.size)
    have xlt := X0.lt
    go_upto_region 2 with fail
    have Y0 := Blk.new w1 [.int .u64 c3, .int .u64 c2, .int .u64 c1, .int .u64 c0] 25 rfl
    replace X0 := X0.alloc (.cells #[.int .u64 c3, .int .u64 c2, .int .u64 c1, .int .u64 c0] 25)
    replace HB := HB.alloc HB.size (.cells #[.int .u64 c3, .int .u64 c2, .int .u64 c1, .int .u64 c0] 25)
    rw [show ([.int .u64 c3, .int .u64 c2, .int .u64 c1, .int .u64 c0] : List Value).toArray = #[.int .u64 c3, .int .u64 c2, .int .u64 c1, .int .u64 c0] from rfl] at Y0
    generalize w1.alloc (.cells #[.int .u64 c3, .int .u64 c2, .int .u64 c1, .int .u64 c0] 25) = W at *
    generalize w1.heap.size = gc at *
    have EO := eqOne c3 c2 c1 c0
    rw [one_words g3 g2 g1 g0 gv] at EO
    obtain ⟨G, hG⟩ : ∃ G, decide (((Int.gcd (sw a3 a2 a1 a0) (sw b3 b2 b1 b0) : Nat) : Int) = 1) = G := ⟨_, rfl⟩
    simp only [hG] at EO
    have HG : Hid (G = decide (Int.gcd (sw a3 a2 a1 a0) (sw b3 b2 b1 b0) = 1)) := by
      show _ = _
      rw [← hG, Bool.eq_iff_iff]
      simp only [decide_eq_true_eq]
      omega
    have SG := implSign_any b3 b2 b1 b0 k3 k2 k1 k0
    have OF := fun W => implOf_any 1 W (by decide) (by decide)
    clear hB ht gv hG
    by_cases hs : 0 < sw b3 b2 b1 b0
    · rw [cmpI_gt hs] at SG
      have HR : Hid (rightB (sw a3 a2 a1 a0) (sw b3 b2 b1 b0) = G) := by
        show _ = _
        rw [HG.out]
        unfold rightB
        simp [hs]
      clear HG
      go_region_held3 (fun w' => w'.cell? ⟨w.heap.size, 4, none⟩ = some (.int .u64 b3) ∧ w'.cell? ⟨w.heap.size, 5, none⟩ = some (.int .u64 b2) ∧ w'.cell? ⟨w.heap.size, 6, none⟩ = some (.int .u64 b1) ∧ w'.cell? ⟨w.heap.size, 7, none⟩ = some (.int .u64 b0) ∧ w'.cell? ⟨gc, 0, none⟩ = some (.int .u64 c3) ∧ w'.cell? ⟨gc, 1, none⟩ = some (.int .u64 c2) ∧ w'.cell? ⟨gc, 2, none⟩ = some (.int .u64 c1) ∧ w'.cell? ⟨gc, 3, none⟩ = some (.int .u64 c0)) (first | (with_reducible exact rt_cells X0 Y0) | (with_reducible exact rt_cells X0.drew Y0.drew))
        (first
          | (go_at_call 115; refine (SG _).mono ?_; rintro e w2 ⟨rfl, hB⟩; (first | (replace X0 := X0.step hB; replace Y0 := Y0.step hB; replace HB := HB.trans (hB.mono HB.size)) | (replace X0 := X0.drew.step hB; replace Y0 := Y0.drew.step hB; replace HB := HB.drew.trans (hB.mono HB.size))); clear hB)
          | (go_at_call 116; refine (OF _).mono ?_; rintro e w3 ⟨o3, o2, o1, o0, rfl, p3, p2, p1, p0, po, hB⟩; obtain ⟨rfl, rfl, rfl, rfl⟩ := sw_one p3 p2 p1 p0 po; (first | (replace X0 := X0.step hB; replace Y0 := Y0.step hB; replace HB := HB.trans (hB.mono HB.size)) | (replace X0 := X0.drew.step hB; replace Y0 := Y0.drew.step hB; replace HB := HB.drew.trans (hB.mono HB.size))); clear hB))
      all_goals go_wp2
      all_goals go_ret
      all_goals exact ⟨by simp [HR.out], by first | exact HB | exact HB.drew⟩
    · have HR : Hid (rightB (sw a3 a2 a1 a0) (sw b3 b2 b1 b0) = false) := by
        show _ = _
        unfold rightB
        simp [hs]
      have hcs : cmpI (sw b3 b2 b1 b0) 0 = -1 ∨ cmpI (sw b3 b2 b1 b0) 0 = 0 := by
        rcases Int.lt_trichotomy (sw b3 b2 b1 b0) 0 with h | h | h
        · exact Or.inl (cmpI_lt h)
        · exact Or.inr (cmpI_eq h)
        · exact absurd h hs
      clear HG
      have hm1 : ((-1 : Int) == 1) = false := by decide
      have hm0 : ((0 : Int) == 1) = false := by decide
      rcases hcs with hc | hc
      · rw [hc] at SG
        clear hc
        have q4 := X0.c 4 rfl; have q5 := X0.c 5 rfl; have q6 := X0.c 6 rfl; have q7 := X0.c 7 rfl
        go_region_with ((go_at_call 115; refine (SG _).mono ?_; rintro e w2 ⟨rfl, hB⟩; (first | (replace HB := HB.trans (hB.mono HB.size)) | (replace HB := HB.drew.trans (hB.mono HB.size))); clear hB))
        all_goals go_wp2
        all_goals go_ret
        all_goals exact ⟨by rw [HR.out]; rfl, by first | exact HB | exact HB.drew⟩
      · rw [hc] at SG
        clear hc
        have q4 := X0.c 4 rfl; have q5 := X0.c 5 rfl; have q6 := X0.c 6 rfl; have q7 := X0.c 7 rfl
        go_region_with ((go_at_call 115; refine (SG _).mono ?_; rintro e w2 ⟨rfl, hB⟩; (first | (replace HB := HB.trans (hB.mono HB.size)) | (replace HB := HB.drew.trans (hB.mono HB.size))); clear hB))
        all_goals go_wp2
        all_goals go_ret
        all_goals exact ⟨by rw [HR.out]; rfl, by first | exact HB | exact HB.drew⟩
  · replace HB := HB.trans (hB.mono HB.size)
    have HR : Hid (rightB (sw a3 a2 a1 a0) (sw b3 b2 b1 b0) = false) := by
      show _ = _
      unfold rightB
      apply decide_eq_false
      rintro ⟨_, h⟩
      rw [h] at ht
      revert ht
      decide
    clear hB ht X0
    go_upto_region 2 with fail
    replace HB := HB.alloc HB.size (.cells #[.int .u64 0, .int .u64 0, .int .u64 0, .int .u64 0] 25)
    generalize w1.alloc (.cells #[.int .u64 0, .int .u64 0, .int .u64 0, .int .u64 0] 25) = W at *
    go_quiet (fail)
    go_wp2
    go_ret
    exact ⟨by simp [HR.out], bdrew HB _⟩
/-- Two numbers as they lie in memory, side by side. -/
def TwoNP (x y : Int) (w : World) (e : Ending) (w' : World) : Prop :=
  ∃ (s : Bool) (ao : Option Addr) (n cap : Nat) (ds : List Int) (t : Bool) (bo : Option Addr) (m c : Nat) (es : List Int), e = .returned (.agg #[.bool s, .slice ao n cap, .bool t, .slice bo m c]) ∧ IsNum w' s ao n cap ds x 8 ∧ IsNum w' t bo m c es y 8 ∧ Below w.heap.size w w'
theorem IsNum.set {w : World} {s : Bool} {ao : Option Addr} {n cap : Nat} {ds : List Int} {z : Int} {k : Nat} (h : IsNum w s ao n cap ds z k) {p : Addr} {v : Value} (h0 : w.cell? p = some v) (hv : ∀ i, v ≠ .int .u32 i) (u : Value) : IsNum (w.setCell p u) s ao n cap ds z k :=
  ⟨h.neg, h.len, h.cap, h.rd.set u h0 hv, h.nrm, h.val, h.le⟩
theorem twoN_ret {w w3 : World} {x y : Int} {s : Bool} {ao : Option Addr} {n cap : Nat} {ds : List Int} {t : Bool} {bo : Option Addr} {m c : Nat} {es : List Int} {R : Nat} (hR : w.heap.size ≤ R) (G : Blk w3 R [.bool false, .slice none 0 0, .bool false, .slice none 0 0]) (h : IsNum w3 s ao n cap ds x 8) (h' : IsNum w3 t bo m c es y 8) (hb : Below w.heap.size w w3) :
    TwoNP x y w (.returned (.agg #[.bool s, .slice ao n cap, .bool t, .slice bo m c])) ((((w3.setCell ⟨R, 0, none⟩ (.bool s)).setCell ⟨R, 1, none⟩ (.slice ao n cap)).setCell ⟨R, 2, none⟩ (.bool t)).setCell ⟨R, 3, none⟩ (.slice bo m c)) := by
  have G1 := G.setI 0 (by simp) (.bool s)
  have G2 := G1.setI 1 (by simp) (.slice ao n cap)
  have G3 := G2.setI 2 (by simp) (.bool t)
  refine ⟨s, ao, n, cap, ds, t, bo, m, c, es, rfl, ?_, ?_, (((hb.setCell hR _).setCell hR _).setCell hR _).setCell hR _⟩
  · exact (((h.set (G.c 0 rfl) (by simp) _).set (G1.c 1 rfl) (by simp) _).set (G2.c 2 rfl) (by simp) _).set (G3.c 3 rfl) (by simp) _
  · exact (((h'.set (G.c 0 rfl) (by simp) _).set (G1.c 1 rfl) (by simp) _).set (G2.c 2 rfl) (by simp) _).set (G3.c 3 rfl) (by simp) _
theorem TwoNP.drew {x y : Int} {w w' : World} {e : Ending} (h : TwoNP x y w e w') : TwoNP x y w e w'.drew := by
  obtain ⟨s, ao, n, cap, ds, t, bo, m, c, es, he, N1, N2, hB⟩ := h
  exact ⟨s, ao, n, cap, ds, t, bo, m, c, es, he, ⟨N1.neg, N1.len, N1.cap, N1.rd, N1.nrm, N1.val, N1.le⟩, ⟨N2.neg, N2.len, N2.cap, N2.rd, N2.nrm, N2.val, N2.le⟩, hB.drew⟩
theorem l2_cells {a3 a2 a1 a0 b3 b2 b1 b0 : Int} {w W : World} (X : Blk W w.heap.size [.int .u64 a3, .int .u64 a2, .int .u64 a1, .int .u64 a0, .int .u64 b3, .int .u64 b2, .int .u64 b1, .int .u64 b0]) : (fun w' => w'.cell? ⟨w.heap.size, 0, none⟩ = some (.int .u64 a3) ∧ w'.cell? ⟨w.heap.size, 1, none⟩ = some (.int .u64 a2) ∧ w'.cell? ⟨w.heap.size, 2, none⟩ = some (.int .u64 a1) ∧ w'.cell? ⟨w.heap.size, 3, none⟩ = some (.int .u64 a0) ∧ w'.cell? ⟨w.heap.size, 4, none⟩ = some (.int .u64 b3) ∧ w'.cell? ⟨w.heap.size, 5, none⟩ = some (.int .u64 b2) ∧ w'.cell? ⟨w.heap.size, 6, none⟩ = some (.int .u64 b1) ∧ w'.cell? ⟨w.heap.size, 7, none⟩ = some (.int .u64 b0)) W :=
  ⟨X.c 0 rfl, X.c 1 rfl, X.c 2 rfl, X.c 3 rfl, X.c 4 rfl, X.c 5 rfl, X.c 6 rfl, X.c 7 rfl⟩
set_option maxRecDepth 100000 in
set_option maxHeartbeats 1000000 in
theorem l2Of_any (a3 a2 a1 a0 b3 b2 b1 b0 : Int) (h3 : Word a3) (h2 : Word a2) (h1 : Word a1) (h0 : Word a0) (k3 : Word b3) (k2 : Word b2) (k1 : Word b1) (k0 : Word b0) (w : World) : Calls Try.prog 71 #[Rt a3 a2 a1 a0 b3 b2 b1 b0] w (TwoNP (sw a3 a2 a1 a0) (sw b3 b2 b1 b0) w) := by
  have X0 := (Blk.new w [.int .u64 a3, .int .u64 a2, .int .u64 a1, .int .u64 a0, .int .u64 b3, .int .u64 b2, .int .u64 b1, .int .u64 b0] 41 rfl).alloc (.cells #[.bool false, .slice none 0 0, .bool false, .slice none 0 0] 88)
  have Y0 := Blk.new (w.alloc (.cells #[.int .u64 a3, .int .u64 a2, .int .u64 a1, .int .u64 a0, .int .u64 b3, .int .u64 b2, .int .u64 b1, .int .u64 b0] 41)) [.bool false, .slice none 0 0, .bool false, .slice none 0 0] 88 (g := w.heap.size + 1) (by simp)
  have HB := ((Below.refl _ w).alloc (Nat.le_refl _) (.cells #[.int .u64 a3, .int .u64 a2, .int .u64 a1, .int .u64 a0, .int .u64 b3, .int .u64 b2, .int .u64 b1, .int .u64 b0] 41)).alloc (by simp) (.cells #[.bool false, .slice none 0 0, .bool false, .slice none 0 0] 88)
  have tok1 : True := trivial
  rw [show ([.int .u64 a3, .int .u64 a2, .int .u64 a1, .int .u64 a0, .int .u64 b3, .int .u64 b2, .int .u64 b1, .int .u64 b0] : List Value).toArray = #[.int .u64 a3, .int .u64 a2, .int .u64 a1, .int .u64 a0, .int .u64 b3, .int .u64 b2, .int .u64 b1, .int .u64 b0] from rfl] at X0
  go_enter Try.func71, Try.ntmps71
  go_wp2_with fail
  generalize (w.alloc (.cells #[.int .u64 a3, .int .u64 a2, .int .u64 a1, .int .u64 a0, .int .u64 b3, .int .u64 b2, .int .u64 b1, .int .u64 b0] 41)).alloc (.cells #[.bool false, .slice none 0 0, .bool false, .slice none 0 0] 88) = W at *
  go_region_held3 (fun w' => w'.cell? ⟨w.heap.size, 0, none⟩ = some (.int .u64 a3) ∧ w'.cell? ⟨w.heap.size, 1, none⟩ = some (.int .u64 a2) ∧ w'.cell? ⟨w.heap.size, 2, none⟩ = some (.int .u64 a1) ∧ w'.cell? ⟨w.heap.size, 3, none⟩ = some (.int .u64 a0) ∧ w'.cell? ⟨w.heap.size, 4, none⟩ = some (.int .u64 b3) ∧ w'.cell? ⟨w.heap.size, 5, none⟩ = some (.int .u64 b2) ∧ w'.cell? ⟨w.heap.size, 6, none⟩ = some (.int .u64 b1) ∧ w'.cell? ⟨w.heap.size, 7, none⟩ = some (.int .u64 b0)) (first | (with_reducible exact l2_cells X0) | (with_reducible exact l2_cells X0.drew) | (refine l2_cells ?_; repeat (first | (with_reducible exact X0) | (with_reducible exact X0.drew) | (with_reducible refine Blk.setO ?_ (by show w.heap.size ≠ w.heap.size + 1; omega) _))))
    (first
      | (go_at_call 51; have _t := tok1; refine (from_any a3 a2 a1 a0 h3 h2 h1 h0 _).mono ?_; rintro e w1 ⟨s1, ao1, n1, c1, ds1, rfl, N1, hB⟩; (first | (replace X0 := X0.step hB; replace Y0 := Y0.step hB; replace HB := HB.trans (hB.mono HB.size)) | (replace X0 := X0.drew.step hB; replace Y0 := Y0.drew.step hB; replace HB := HB.drew.trans (hB.mono HB.size))); clear tok1 _t hB)
      | (go_at_call 51; refine (from_any b3 b2 b1 b0 k3 k2 k1 k0 _).mono ?_; rintro e w2 ⟨s2, ao2, n2, c2, ds2, rfl, N2, hB⟩; (first | (replace X0 := X0.step hB; replace Y0 := Y0.step hB; replace HB := HB.trans (hB.mono HB.size); replace N1 := N1.below hB) | (replace X0 := X0.drew.step hB; replace Y0 := Y0.drew.step hB; replace HB := HB.drew.trans (hB.mono HB.size); replace N1 := N1.drew.below hB)); have o0 := Y0.c 0 rfl; have p0 := Y0.f 0 rfl; have o1 := Y0.c 1 rfl; have p1 := Y0.f 1 rfl; have o2 := Y0.c 2 rfl; have p2 := Y0.f 2 rfl; have o3 := Y0.c 3 rfl; have p3 := Y0.f 3 rfl; have olt := Y0.lt; clear hB))
  all_goals have HF : Hid (TwoNP (sw a3 a2 a1 a0) (sw b3 b2 b1 b0) w (.returned (.agg #[.bool s1, .slice ao1 n1 c1, .bool s2, .slice ao2 n2 c2])) _) := twoN_ret (R := w.heap.size + 1) (by omega) Y0 N1 N2 HB
  all_goals clear X0 Y0 N1 N2 HB
  all_goals go_wp2
  all_goals refine bodyPost_ret (v := .agg #[.bool s1, .slice ao1 n1 c1, .bool s2, .slice ao2 n2 c2]) (by simp [results, Try.results71, go_sem, o0, o1, o2, o3]) rfl ?_
  all_goals first | exact HF.out | exact HF.out.drew
end Go.Proofs.Ytddniklhpkagmaa
