/- Part 14 of the walks that the proof leans on. -/
import Derived.Test.YtgeaklaocifhcaaFr4
import Derived.Test.YtgeaklaocifhcaaFr11
import Derived.Test.YtgeaklaocifhcaaFr13
import Derived.Test.YtgeaklaocifhcaaFr2
import Derived.Deep.RegionHeld3
import Derived.Deep.DeepCutAuto
import Derived.Deep.QuietTactic
import Derived.BigQuiet
import Derived.Test.YtgeaklaocifhcaaFr7
/- The walk of the program's difference of four words. -/
namespace Go.Proofs.Ytgeaklaocifhcaa
open Go.RowKit
set_option maxRecDepth 100000 in
set_option maxHeartbeats 4000000 in
theorem implSub_any (a3 a2 a1 a0 b3 b2 b1 b0 : Int) (h3 : Word a3) (h2 : Word a2) (h1 : Word a1) (h0 : Word a0) (k3 : Word b3) (k2 : Word b2) (k1 : Word b1) (k0 : Word b0) (w : World) :
    Calls Try.prog 29 #[.agg #[.int .u64 a3, .int .u64 a2, .int .u64 a1, .int .u64 a0], .agg #[.int .u64 b3, .int .u64 b2, .int .u64 b1, .int .u64 b0]] w (TellP (sw a3 a2 a1 a0 - sw b3 b2 b1 b0) w) := by
  have T0 := ((twoW_start w a3 a2 a1 a0 b3 b2 b1 b0 26).alloc (Obj.cells #[Value.int IntKind.u64 0, Value.int IntKind.u64 0, Value.int IntKind.u64 0, Value.int IntKind.u64 0] 26))
  have R0 : Wd _ (w.heap.size + 1 + 1) 0 0 0 0 := (Wd.new ((w.alloc (Obj.cells #[Value.int IntKind.u64 a3, Value.int IntKind.u64 a2, Value.int IntKind.u64 a1, Value.int IntKind.u64 a0] 26)).alloc (Obj.cells #[Value.int IntKind.u64 b3, Value.int IntKind.u64 b2, Value.int IntKind.u64 b1, Value.int IntKind.u64 b0] 26)) 0 0 0 0 26 (by simp))
  have tok1 : True := trivial
  go_enter Try.func29, Try.ntmps29
  go_upto_region 1 with fail
  generalize ((w.alloc (Obj.cells #[Value.int IntKind.u64 a3, Value.int IntKind.u64 a2, Value.int IntKind.u64 a1, Value.int IntKind.u64 a0] 26)).alloc (Obj.cells #[Value.int IntKind.u64 b3, Value.int IntKind.u64 b2, Value.int IntKind.u64 b1, Value.int IntKind.u64 b0] 26)).alloc (Obj.cells #[Value.int IntKind.u64 0, Value.int IntKind.u64 0, Value.int IntKind.u64 0, Value.int IntKind.u64 0] 26) = W at *
  go_cut [6] (fun p wx => CutP (MinusR a3 a2 a1 a0 b3 b2 b1 b0) w wx a3 a2 a1 a0 b3 b2 b1 b0 p)
  case first =>
    go_region_held3 (fun w' => w'.cell? ⟨w.heap.size, 0, none⟩ = some (.int .u64 a3) ∧ w'.cell? ⟨w.heap.size, 1, none⟩ = some (.int .u64 a2) ∧ w'.cell? ⟨w.heap.size, 2, none⟩ = some (.int .u64 a1) ∧ w'.cell? ⟨w.heap.size, 3, none⟩ = some (.int .u64 a0) ∧ w'.cell? ⟨w.heap.size + 1, 0, none⟩ = some (.int .u64 b3) ∧ w'.cell? ⟨w.heap.size + 1, 1, none⟩ = some (.int .u64 b2) ∧ w'.cell? ⟨w.heap.size + 1, 2, none⟩ = some (.int .u64 b1) ∧ w'.cell? ⟨w.heap.size + 1, 3, none⟩ = some (.int .u64 b0)) (first | (with_reducible exact cells8x T0) | (with_reducible exact cells8x T0.drew) | (with_reducible exact cells8x (T0.alloc _)) | (with_reducible exact cells8x (T0.alloc _).drew) | (with_reducible exact cells8x (T0.set (by omega) _ _ _ _)))
      (first
        | (go_at_call 40; have _t := tok1; refine (wordsOf_any a3 a2 a1 a0 _).mono ?_; rintro e w1 ⟨rfl, hB⟩; (first | (have T1 : TwoW w w1 a3 a2 a1 a0 b3 b2 b1 b0 := (by with_reducible exact T0.step hB); replace R0 := R0.step hB; try (replace G0 := G0.step hB; have z0c := G0.c0; have z1c := G0.c1; have z2c := G0.c2; have z3c := G0.c3; have z0f := G0.f0; have z1f := G0.f1; have z2f := G0.f2; have z3f := G0.f3)) | (have T1 : TwoW w w1 a3 a2 a1 a0 b3 b2 b1 b0 := (by with_reducible exact T0.drew.step hB); replace R0 := R0.drew.step hB; try (replace G0 := G0.step hB; have z0c := G0.c0; have z1c := G0.c1; have z2c := G0.c2; have z3c := G0.c3; have z0f := G0.f0; have z1f := G0.f1; have z2f := G0.f2; have z3f := G0.f3)) | (have T1 : TwoW w w1 a3 a2 a1 a0 b3 b2 b1 b0 := (by with_reducible exact (T0.alloc _).step hB); have hg := R0.lt; replace R0 := (R0.alloc _).step hB; have G0 := (Wd.new _ 0 0 0 0 _ rfl).step hB; have z0c := G0.c0; have z1c := G0.c1; have z2c := G0.c2; have z3c := G0.c3; have z0f := G0.f0; have z1f := G0.f1; have z2f := G0.f2; have z3f := G0.f3) | (have T1 : TwoW w w1 a3 a2 a1 a0 b3 b2 b1 b0 := (by with_reducible exact (T0.alloc _).drew.step hB); have hg := R0.lt; replace R0 := (R0.alloc _).drew.step hB; have G0 := (Wd.new _ 0 0 0 0 _ rfl).drew.step hB; have z0c := G0.c0; have z1c := G0.c1; have z2c := G0.c2; have z3c := G0.c3; have z0f := G0.f0; have z1f := G0.f1; have z2f := G0.f2; have z3f := G0.f3)); clear T0; have T0 := T1; clear T1; clear tok1 _t hB)
        | (go_at_call 40; refine (wordsOf_any b3 b2 b1 b0 _).mono ?_; rintro e w2 ⟨rfl, hB⟩; (first | (have T1 : TwoW w w2 a3 a2 a1 a0 b3 b2 b1 b0 := (by with_reducible exact T0.step hB); replace R0 := R0.step hB; try (replace G0 := G0.step hB; have z0c := G0.c0; have z1c := G0.c1; have z2c := G0.c2; have z3c := G0.c3; have z0f := G0.f0; have z1f := G0.f1; have z2f := G0.f2; have z3f := G0.f3)) | (have T1 : TwoW w w2 a3 a2 a1 a0 b3 b2 b1 b0 := (by with_reducible exact T0.drew.step hB); replace R0 := R0.drew.step hB; try (replace G0 := G0.step hB; have z0c := G0.c0; have z1c := G0.c1; have z2c := G0.c2; have z3c := G0.c3; have z0f := G0.f0; have z1f := G0.f1; have z2f := G0.f2; have z3f := G0.f3)) | (have T1 : TwoW w w2 a3 a2 a1 a0 b3 b2 b1 b0 := (by with_reducible exact (T0.alloc _).step hB); have hg := R0.lt; replace R0 := (R0.alloc _).step hB; have G0 := (Wd.new _ 0 0 0 0 _ rfl).step hB; have z0c := G0.c0; have z1c := G0.c1; have z2c := G0.c2; have z3c := G0.c3; have z0f := G0.f0; have z1f := G0.f1; have z2f := G0.f2; have z3f := G0.f3) | (have T1 : TwoW w w2 a3 a2 a1 a0 b3 b2 b1 b0 := (by with_reducible exact (T0.alloc _).drew.step hB); have hg := R0.lt; replace R0 := (R0.alloc _).drew.step hB; have G0 := (Wd.new _ 0 0 0 0 _ rfl).drew.step hB; have z0c := G0.c0; have z1c := G0.c1; have z2c := G0.c2; have z3c := G0.c3; have z0f := G0.f0; have z1f := G0.f1; have z2f := G0.f2; have z3f := G0.f3)); clear T0; have T0 := T1; clear T1; clear hB)
        | (go_at_call 62; refine (minus4 a0 a1 a2 a3 b0 b1 b2 b3 (words4 h0 h1 h2 h3) (words4 k0 k1 k2 k3) _).mono ?_; intro e w3 hP; obtain ⟨z3, z2, z1, z0, rfl, hrel, hB⟩ := minusR_of hP; (first | (have T1 : TwoW w w3 a3 a2 a1 a0 b3 b2 b1 b0 := (by with_reducible exact T0.step hB); replace R0 := R0.step hB; try (replace G0 := G0.step hB; have z0c := G0.c0; have z1c := G0.c1; have z2c := G0.c2; have z3c := G0.c3; have z0f := G0.f0; have z1f := G0.f1; have z2f := G0.f2; have z3f := G0.f3)) | (have T1 : TwoW w w3 a3 a2 a1 a0 b3 b2 b1 b0 := (by with_reducible exact T0.drew.step hB); replace R0 := R0.drew.step hB; try (replace G0 := G0.step hB; have z0c := G0.c0; have z1c := G0.c1; have z2c := G0.c2; have z3c := G0.c3; have z0f := G0.f0; have z1f := G0.f1; have z2f := G0.f2; have z3f := G0.f3)) | (have T1 : TwoW w w3 a3 a2 a1 a0 b3 b2 b1 b0 := (by with_reducible exact (T0.alloc _).step hB); have hg := R0.lt; replace R0 := (R0.alloc _).step hB; have G0 := (Wd.new _ 0 0 0 0 _ rfl).step hB; have z0c := G0.c0; have z1c := G0.c1; have z2c := G0.c2; have z3c := G0.c3; have z0f := G0.f0; have z1f := G0.f1; have z2f := G0.f2; have z3f := G0.f3) | (have T1 : TwoW w w3 a3 a2 a1 a0 b3 b2 b1 b0 := (by with_reducible exact (T0.alloc _).drew.step hB); have hg := R0.lt; replace R0 := (R0.alloc _).drew.step hB; have G0 := (Wd.new _ 0 0 0 0 _ rfl).drew.step hB; have z0c := G0.c0; have z1c := G0.c1; have z2c := G0.c2; have z3c := G0.c3; have z0f := G0.f0; have z1f := G0.f1; have z2f := G0.f2; have z3f := G0.f3)); clear T0; have T0 := T1; clear T1; clear hB hP)
        | (go_at_call 39; refine (wideOf_any z3 z2 z1 z0 _).mono ?_; rintro e w4 ⟨rfl, hB⟩; (first | (have T1 : TwoW w w4 a3 a2 a1 a0 b3 b2 b1 b0 := (by with_reducible exact T0.step hB); replace R0 := R0.step hB; try (replace G0 := G0.step hB; have z0c := G0.c0; have z1c := G0.c1; have z2c := G0.c2; have z3c := G0.c3; have z0f := G0.f0; have z1f := G0.f1; have z2f := G0.f2; have z3f := G0.f3)) | (have T1 : TwoW w w4 a3 a2 a1 a0 b3 b2 b1 b0 := (by with_reducible exact T0.drew.step hB); replace R0 := R0.drew.step hB; try (replace G0 := G0.step hB; have z0c := G0.c0; have z1c := G0.c1; have z2c := G0.c2; have z3c := G0.c3; have z0f := G0.f0; have z1f := G0.f1; have z2f := G0.f2; have z3f := G0.f3)) | (have T1 : TwoW w w4 a3 a2 a1 a0 b3 b2 b1 b0 := (by with_reducible exact (T0.alloc _).step hB); have hg := R0.lt; replace R0 := (R0.alloc _).step hB; have G0 := (Wd.new _ 0 0 0 0 _ rfl).step hB; have z0c := G0.c0; have z1c := G0.c1; have z2c := G0.c2; have z3c := G0.c3; have z0f := G0.f0; have z1f := G0.f1; have z2f := G0.f2; have z3f := G0.f3) | (have T1 : TwoW w w4 a3 a2 a1 a0 b3 b2 b1 b0 := (by with_reducible exact (T0.alloc _).drew.step hB); have hg := R0.lt; replace R0 := (R0.alloc _).drew.step hB; have G0 := (Wd.new _ 0 0 0 0 _ rfl).drew.step hB; have z0c := G0.c0; have z1c := G0.c1; have z2c := G0.c2; have z3c := G0.c3; have z0f := G0.f0; have z1f := G0.f1; have z2f := G0.f2; have z3f := G0.f3)); clear T0; have T0 := T1; clear T1; clear hB))
    all_goals go_wp2_with fail
    all_goals go_meet
    all_goals first | exact cut_new T0 R0 hrel | exact cut_set T0 R0 G0 (by omega) hrel | exact cut_drew (cut_new T0 R0 hrel) | exact cut_drew (cut_set T0 R0 G0 (by omega) hrel)
  case rest =>
    clear T0 R0 tok1
    obtain ⟨g, z3, z2, z1, z0, hp, T0, R0, G0, hg, l3, l2, l1, l0, c, hc0, hc1, heq⟩ := hcut
    subst hp
    have HT := minus_told h3 h2 h1 h0 k3 k2 k1 k0 l3 l2 l1 l0 hc0 hc1 heq
    obtain ⟨ba, hba⟩ : ∃ b, (a3 / 9223372036854775808 == 1) = b := ⟨_, rfl⟩
    obtain ⟨bb, hbb⟩ : ∃ b, (b3 / 9223372036854775808 == 1) = b := ⟨_, rfl⟩
    obtain ⟨bz, hbz⟩ : ∃ b, (z3 / 9223372036854775808 == 1) = b := ⟨_, rfl⟩
    rw [hba, hbb, hbz] at HT
    clear hc0 hc1 heq
    by_cases e1 : ba ≠ bb
    · have e1' : (ba == bb) = false := by simpa using e1
      by_cases e2 : bz = ba
      · rw [if_neg (by intro h; exact h.2 e2)] at HT
        have e2' : (bz == ba) = true := by simpa using e2
        have HT' : Hid _ := HT; clear HT; have HT := HT'; clear HT'
        clear e1 e2
        go_upto_region 2 with fail
        go_region_held3 (fun w' => w'.cell? ⟨w.heap.size, 0, none⟩ = some (.int .u64 a3) ∧ w'.cell? ⟨w.heap.size, 1, none⟩ = some (.int .u64 a2) ∧ w'.cell? ⟨w.heap.size, 2, none⟩ = some (.int .u64 a1) ∧ w'.cell? ⟨w.heap.size, 3, none⟩ = some (.int .u64 a0) ∧ w'.cell? ⟨w.heap.size + 1, 0, none⟩ = some (.int .u64 b3) ∧ w'.cell? ⟨w.heap.size + 1, 1, none⟩ = some (.int .u64 b2) ∧ w'.cell? ⟨w.heap.size + 1, 2, none⟩ = some (.int .u64 b1) ∧ w'.cell? ⟨w.heap.size + 1, 3, none⟩ = some (.int .u64 b0) ∧ w'.cell? ⟨g, 0, none⟩ = some (.int .u64 z3) ∧ w'.cell? ⟨g, 1, none⟩ = some (.int .u64 z2) ∧ w'.cell? ⟨g, 2, none⟩ = some (.int .u64 z1) ∧ w'.cell? ⟨g, 3, none⟩ = some (.int .u64 z0)) (first | (with_reducible exact cells12x T0 G0) | (with_reducible exact cells12x T0.drew G0.drew))
          (first
            | (go_at_call 31; refine (isBelow_any _ _ _ _ (by assumption) _ (by assumption) _).mono ?_; rintro e w1 ⟨rfl, hB⟩; (first | (have T1 : TwoW w w1 a3 a2 a1 a0 b3 b2 b1 b0 := (by with_reducible exact T0.step hB); replace R0 := R0.step hB; replace G0 := G0.step hB) | (have T1 : TwoW w w1 a3 a2 a1 a0 b3 b2 b1 b0 := (by with_reducible exact T0.drew.step hB); replace R0 := R0.drew.step hB; replace G0 := G0.drew.step hB)); clear T0; have T0 := T1; clear T1 hB))
        have r0 := R0.c0; have r1 := R0.c1; have r2 := R0.c2; have r3 := R0.c3; have f0 := R0.f0; have f1 := R0.f1; have f2 := R0.f2; have f3 := R0.f3
        have y0 := G0.c0; have y1 := G0.c1; have y2 := G0.c2; have y3 := G0.c3
        all_goals go_wp2
        all_goals refine bodyPost_ret (v := .tuple #[.agg #[.int .u64 z3, .int .u64 z2, .int .u64 z1, .int .u64 z0], .bool true]) (by simp [results, Try.results29, go_sem, r0, r1, r2, r3]) rfl ?_
        all_goals first | exact tellP_set (by omega) ⟨T0.below, Or.inl ⟨HT.out.1, z3, z2, z1, z0, rfl, l3, l2, l1, l0, HT.out.2⟩⟩ | exact tellP_drew (tellP_set (by omega) ⟨T0.below, Or.inl ⟨HT.out.1, z3, z2, z1, z0, rfl, l3, l2, l1, l0, HT.out.2⟩⟩)
      · rw [if_pos ⟨e1, e2⟩] at HT
        have e2' : (bz == ba) = false := by simpa using e2
        have HT' : Hid _ := HT; clear HT; have HT := HT'; clear HT'
        clear e1 e2
        go_upto_region 2 with fail
        go_region_held3 (fun w' => w'.cell? ⟨w.heap.size, 0, none⟩ = some (.int .u64 a3) ∧ w'.cell? ⟨w.heap.size, 1, none⟩ = some (.int .u64 a2) ∧ w'.cell? ⟨w.heap.size, 2, none⟩ = some (.int .u64 a1) ∧ w'.cell? ⟨w.heap.size, 3, none⟩ = some (.int .u64 a0) ∧ w'.cell? ⟨w.heap.size + 1, 0, none⟩ = some (.int .u64 b3) ∧ w'.cell? ⟨w.heap.size + 1, 1, none⟩ = some (.int .u64 b2) ∧ w'.cell? ⟨w.heap.size + 1, 2, none⟩ = some (.int .u64 b1) ∧ w'.cell? ⟨w.heap.size + 1, 3, none⟩ = some (.int .u64 b0) ∧ w'.cell? ⟨g, 0, none⟩ = some (.int .u64 z3) ∧ w'.cell? ⟨g, 1, none⟩ = some (.int .u64 z2) ∧ w'.cell? ⟨g, 2, none⟩ = some (.int .u64 z1) ∧ w'.cell? ⟨g, 3, none⟩ = some (.int .u64 z0)) (first | (with_reducible exact cells12x T0 G0) | (with_reducible exact cells12x T0.drew G0.drew))
          (first
            | (go_at_call 31; refine (isBelow_any _ _ _ _ (by assumption) _ (by assumption) _).mono ?_; rintro e w1 ⟨rfl, hB⟩; (first | (have T1 : TwoW w w1 a3 a2 a1 a0 b3 b2 b1 b0 := (by with_reducible exact T0.step hB); replace R0 := R0.step hB; replace G0 := G0.step hB) | (have T1 : TwoW w w1 a3 a2 a1 a0 b3 b2 b1 b0 := (by with_reducible exact T0.drew.step hB); replace R0 := R0.drew.step hB; replace G0 := G0.drew.step hB)); clear T0; have T0 := T1; clear T1 hB))
        have r0 := R0.c0; have r1 := R0.c1; have r2 := R0.c2; have r3 := R0.c3; have f0 := R0.f0; have f1 := R0.f1; have f2 := R0.f2; have f3 := R0.f3
        have y0 := G0.c0; have y1 := G0.c1; have y2 := G0.c2; have y3 := G0.c3
        go_wp2
        refine bodyPost_ret (v := .tuple #[.agg #[.int .u64 0, .int .u64 0, .int .u64 0, .int .u64 0], .bool false]) (by simp [results, Try.results29, go_sem, r0, r1, r2, r3]) rfl ?_
        first | exact tellP_set (by omega) ⟨T0.below, Or.inr ⟨HT.out, rfl⟩⟩ | exact tellP_drew (tellP_set (by omega) ⟨T0.below, Or.inr ⟨HT.out, rfl⟩⟩)
    · have e1' : (ba == bb) = true := by simpa using e1
      rw [if_neg (by intro h; exact e1 h.1)] at HT
      have HT' : Hid _ := HT; clear HT; have HT := HT'; clear HT'
      clear e1
      have p0 := T0.a.c0; have p1 := T0.a.c1; have p2 := T0.a.c2; have p3 := T0.a.c3; have q0 := T0.b.c0; have q1 := T0.b.c1; have q2 := T0.b.c2; have q3 := T0.b.c3
      go_upto_region 2 with fail
      go_region_with ((go_at_call 31; refine (isBelow_any _ _ _ _ (by assumption) _ (by assumption) _).mono ?_; rintro e w1 ⟨rfl, hB⟩; (first | (have T1 : TwoW w w1 a3 a2 a1 a0 b3 b2 b1 b0 := (by with_reducible exact T0.step hB); replace R0 := R0.step hB; replace G0 := G0.step hB) | (have T1 : TwoW w w1 a3 a2 a1 a0 b3 b2 b1 b0 := (by with_reducible exact T0.drew.step hB); replace R0 := R0.drew.step hB; replace G0 := G0.drew.step hB)); clear T0; have T0 := T1; clear T1 hB; have p0 := T0.a.c0; have p1 := T0.a.c1; have p2 := T0.a.c2; have p3 := T0.a.c3; have q0 := T0.b.c0; have q1 := T0.b.c1; have q2 := T0.b.c2; have q3 := T0.b.c3))
      all_goals (have r0 := R0.c0; have r1 := R0.c1; have r2 := R0.c2; have r3 := R0.c3; have f0 := R0.f0; have f1 := R0.f1; have f2 := R0.f2; have f3 := R0.f3; have y0 := G0.c0; have y1 := G0.c1; have y2 := G0.c2; have y3 := G0.c3)
      all_goals go_wp2
      all_goals refine bodyPost_ret (v := .tuple #[.agg #[.int .u64 z3, .int .u64 z2, .int .u64 z1, .int .u64 z0], .bool true]) (by simp [results, Try.results29, go_sem, r0, r1, r2, r3]) rfl ?_
      all_goals first | exact tellP_set (by omega) ⟨T0.below, Or.inl ⟨HT.out.1, z3, z2, z1, z0, rfl, l3, l2, l1, l0, HT.out.2⟩⟩ | exact tellP_drew (tellP_set (by omega) ⟨T0.below, Or.inl ⟨HT.out.1, z3, z2, z1, z0, rfl, l3, l2, l1, l0, HT.out.2⟩⟩)
end Go.Proofs.Ytgeaklaocifhcaa

/- The walks of the negation of four words, by the model and by the program, and of the law over both. -/
namespace Go.Proofs.Ytgeaklaocifhcaa
open Go.RowKit
theorem word0 : Word 0 := ⟨by decide, by decide⟩
set_option maxRecDepth 100000 in
set_option maxHeartbeats 1000000 in
theorem implNeg_any (a3 a2 a1 a0 : Int) (h3 : Word a3) (h2 : Word a2) (h1 : Word a1) (h0 : Word a0) (w : World) :
    Calls Try.prog 9 #[.agg #[.int .u64 a3, .int .u64 a2, .int .u64 a1, .int .u64 a0]] w (TellP (-(sw a3 a2 a1 a0)) w) := by
  have R0 : Wd ((w.alloc (Obj.cells #[Value.int IntKind.u64 a3, Value.int IntKind.u64 a2, Value.int IntKind.u64 a1, Value.int IntKind.u64 a0] 26)).alloc (Obj.cells #[Value.int IntKind.u64 0, Value.int IntKind.u64 0, Value.int IntKind.u64 0, Value.int IntKind.u64 0] 26)) (w.heap.size + 1) 0 0 0 0 := Wd.new _ 0 0 0 0 26 (by simp)
  have HB : Below w.heap.size w ((w.alloc (Obj.cells #[Value.int IntKind.u64 a3, Value.int IntKind.u64 a2, Value.int IntKind.u64 a1, Value.int IntKind.u64 a0] 26)).alloc (Obj.cells #[Value.int IntKind.u64 0, Value.int IntKind.u64 0, Value.int IntKind.u64 0, Value.int IntKind.u64 0] 26)) := ((Below.refl _ _).alloc (Nat.le_refl _) _).alloc (by simp) _
  go_enter Try.func9, Try.ntmps9
  go_wp2_with fail
  refine (implSub_any 0 0 0 0 a3 a2 a1 a0 word0 word0 word0 word0 h3 h2 h1 h0 _).mono ?_
  intro e w3 hT
  rw [show sw 0 0 0 0 - sw a3 a2 a1 a0 = -(sw a3 a2 a1 a0) by have : sw 0 0 0 0 = 0 := by decide
                                                              omega] at hT
  have hTT := tellP_from HB hT
  replace R0 := R0.step hT.1
  obtain ⟨x3, x2, x1, x0, p, rfl⟩ := tellP_shape hT
  have r0 := R0.c0; have r1 := R0.c1; have r2 := R0.c2; have r3 := R0.c3; have f0 := R0.f0; have f1 := R0.f1; have f2 := R0.f2; have f3 := R0.f3
  clear hT HB R0
  go_wp2
  refine bodyPost_ret (v := .tuple #[.agg #[.int .u64 x3, .int .u64 x2, .int .u64 x1, .int .u64 x0], .bool p]) (by simp [results, Try.results9, go_sem, r0, r1, r2, r3]) rfl ?_
  exact tellP_set (Nat.le_succ _) hTT
end Go.Proofs.Ytgeaklaocifhcaa

/- The walk of the program's sum of four words. -/
namespace Go.Proofs.Ytgeaklaocifhcaa
open Go.RowKit
set_option maxRecDepth 100000 in
set_option maxHeartbeats 4000000 in
theorem implAdd_any (a3 a2 a1 a0 b3 b2 b1 b0 : Int) (h3 : Word a3) (h2 : Word a2) (h1 : Word a1) (h0 : Word a0) (k3 : Word b3) (k2 : Word b2) (k1 : Word b1) (k0 : Word b0) (w : World) :
    Calls Try.prog 19 #[.agg #[.int .u64 a3, .int .u64 a2, .int .u64 a1, .int .u64 a0], .agg #[.int .u64 b3, .int .u64 b2, .int .u64 b1, .int .u64 b0]] w (TellP (sw a3 a2 a1 a0 + sw b3 b2 b1 b0) w) := by
  have T0 := ((twoW_start w a3 a2 a1 a0 b3 b2 b1 b0 26).alloc (Obj.cells #[Value.int IntKind.u64 0, Value.int IntKind.u64 0, Value.int IntKind.u64 0, Value.int IntKind.u64 0] 26))
  have R0 : Wd _ (w.heap.size + 1 + 1) 0 0 0 0 := (Wd.new ((w.alloc (Obj.cells #[Value.int IntKind.u64 a3, Value.int IntKind.u64 a2, Value.int IntKind.u64 a1, Value.int IntKind.u64 a0] 26)).alloc (Obj.cells #[Value.int IntKind.u64 b3, Value.int IntKind.u64 b2, Value.int IntKind.u64 b1, Value.int IntKind.u64 b0] 26)) 0 0 0 0 26 (by simp))
  have tok1 : True := trivial
  go_enter Try.func19, Try.ntmps19
  go_upto_region 1 with fail
  generalize ((w.alloc (Obj.cells #[Value.int IntKind.u64 a3, Value.int IntKind.u64 a2, Value.int IntKind.u64 a1, Value.int IntKind.u64 a0] 26)).alloc (Obj.cells #[Value.int IntKind.u64 b3, Value.int IntKind.u64 b2, Value.int IntKind.u64 b1, Value.int IntKind.u64 b0] 26)).alloc (Obj.cells #[Value.int IntKind.u64 0, Value.int IntKind.u64 0, Value.int IntKind.u64 0, Value.int IntKind.u64 0] 26) = W at *
  go_cut [6] (fun p wx => CutP (PlusR a3 a2 a1 a0 b3 b2 b1 b0) w wx a3 a2 a1 a0 b3 b2 b1 b0 p)
  case first =>
    go_region_held3 (fun w' => w'.cell? ⟨w.heap.size, 0, none⟩ = some (.int .u64 a3) ∧ w'.cell? ⟨w.heap.size, 1, none⟩ = some (.int .u64 a2) ∧ w'.cell? ⟨w.heap.size, 2, none⟩ = some (.int .u64 a1) ∧ w'.cell? ⟨w.heap.size, 3, none⟩ = some (.int .u64 a0) ∧ w'.cell? ⟨w.heap.size + 1, 0, none⟩ = some (.int .u64 b3) ∧ w'.cell? ⟨w.heap.size + 1, 1, none⟩ = some (.int .u64 b2) ∧ w'.cell? ⟨w.heap.size + 1, 2, none⟩ = some (.int .u64 b1) ∧ w'.cell? ⟨w.heap.size + 1, 3, none⟩ = some (.int .u64 b0)) (first | (with_reducible exact cells8x T0) | (with_reducible exact cells8x T0.drew) | (with_reducible exact cells8x (T0.alloc _)) | (with_reducible exact cells8x (T0.alloc _).drew) | (with_reducible exact cells8x (T0.set (by omega) _ _ _ _)))
      (first
        | (go_at_call 40; have _t := tok1; refine (wordsOf_any a3 a2 a1 a0 _).mono ?_; rintro e w1 ⟨rfl, hB⟩; (first | (have T1 : TwoW w w1 a3 a2 a1 a0 b3 b2 b1 b0 := (by with_reducible exact T0.step hB); replace R0 := R0.step hB; try (replace G0 := G0.step hB; have z0c := G0.c0; have z1c := G0.c1; have z2c := G0.c2; have z3c := G0.c3; have z0f := G0.f0; have z1f := G0.f1; have z2f := G0.f2; have z3f := G0.f3)) | (have T1 : TwoW w w1 a3 a2 a1 a0 b3 b2 b1 b0 := (by with_reducible exact T0.drew.step hB); replace R0 := R0.drew.step hB; try (replace G0 := G0.step hB; have z0c := G0.c0; have z1c := G0.c1; have z2c := G0.c2; have z3c := G0.c3; have z0f := G0.f0; have z1f := G0.f1; have z2f := G0.f2; have z3f := G0.f3)) | (have T1 : TwoW w w1 a3 a2 a1 a0 b3 b2 b1 b0 := (by with_reducible exact (T0.alloc _).step hB); have hg := R0.lt; replace R0 := (R0.alloc _).step hB; have G0 := (Wd.new _ 0 0 0 0 _ rfl).step hB; have z0c := G0.c0; have z1c := G0.c1; have z2c := G0.c2; have z3c := G0.c3; have z0f := G0.f0; have z1f := G0.f1; have z2f := G0.f2; have z3f := G0.f3) | (have T1 : TwoW w w1 a3 a2 a1 a0 b3 b2 b1 b0 := (by with_reducible exact (T0.alloc _).drew.step hB); have hg := R0.lt; replace R0 := (R0.alloc _).drew.step hB; have G0 := (Wd.new _ 0 0 0 0 _ rfl).drew.step hB; have z0c := G0.c0; have z1c := G0.c1; have z2c := G0.c2; have z3c := G0.c3; have z0f := G0.f0; have z1f := G0.f1; have z2f := G0.f2; have z3f := G0.f3)); clear T0; have T0 := T1; clear T1; clear tok1 _t hB)
        | (go_at_call 40; refine (wordsOf_any b3 b2 b1 b0 _).mono ?_; rintro e w2 ⟨rfl, hB⟩; (first | (have T1 : TwoW w w2 a3 a2 a1 a0 b3 b2 b1 b0 := (by with_reducible exact T0.step hB); replace R0 := R0.step hB; try (replace G0 := G0.step hB; have z0c := G0.c0; have z1c := G0.c1; have z2c := G0.c2; have z3c := G0.c3; have z0f := G0.f0; have z1f := G0.f1; have z2f := G0.f2; have z3f := G0.f3)) | (have T1 : TwoW w w2 a3 a2 a1 a0 b3 b2 b1 b0 := (by with_reducible exact T0.drew.step hB); replace R0 := R0.drew.step hB; try (replace G0 := G0.step hB; have z0c := G0.c0; have z1c := G0.c1; have z2c := G0.c2; have z3c := G0.c3; have z0f := G0.f0; have z1f := G0.f1; have z2f := G0.f2; have z3f := G0.f3)) | (have T1 : TwoW w w2 a3 a2 a1 a0 b3 b2 b1 b0 := (by with_reducible exact (T0.alloc _).step hB); have hg := R0.lt; replace R0 := (R0.alloc _).step hB; have G0 := (Wd.new _ 0 0 0 0 _ rfl).step hB; have z0c := G0.c0; have z1c := G0.c1; have z2c := G0.c2; have z3c := G0.c3; have z0f := G0.f0; have z1f := G0.f1; have z2f := G0.f2; have z3f := G0.f3) | (have T1 : TwoW w w2 a3 a2 a1 a0 b3 b2 b1 b0 := (by with_reducible exact (T0.alloc _).drew.step hB); have hg := R0.lt; replace R0 := (R0.alloc _).drew.step hB; have G0 := (Wd.new _ 0 0 0 0 _ rfl).drew.step hB; have z0c := G0.c0; have z1c := G0.c1; have z2c := G0.c2; have z3c := G0.c3; have z0f := G0.f0; have z1f := G0.f1; have z2f := G0.f2; have z3f := G0.f3)); clear T0; have T0 := T1; clear T1; clear hB)
        | (go_at_call 41; refine (plus4 a0 a1 a2 a3 b0 b1 b2 b3 (words4 h0 h1 h2 h3) (words4 k0 k1 k2 k3) _).mono ?_; intro e w3 hP; obtain ⟨z3, z2, z1, z0, rfl, hrel, hB⟩ := plusR_of hP; (first | (have T1 : TwoW w w3 a3 a2 a1 a0 b3 b2 b1 b0 := (by with_reducible exact T0.step hB); replace R0 := R0.step hB; try (replace G0 := G0.step hB; have z0c := G0.c0; have z1c := G0.c1; have z2c := G0.c2; have z3c := G0.c3; have z0f := G0.f0; have z1f := G0.f1; have z2f := G0.f2; have z3f := G0.f3)) | (have T1 : TwoW w w3 a3 a2 a1 a0 b3 b2 b1 b0 := (by with_reducible exact T0.drew.step hB); replace R0 := R0.drew.step hB; try (replace G0 := G0.step hB; have z0c := G0.c0; have z1c := G0.c1; have z2c := G0.c2; have z3c := G0.c3; have z0f := G0.f0; have z1f := G0.f1; have z2f := G0.f2; have z3f := G0.f3)) | (have T1 : TwoW w w3 a3 a2 a1 a0 b3 b2 b1 b0 := (by with_reducible exact (T0.alloc _).step hB); have hg := R0.lt; replace R0 := (R0.alloc _).step hB; have G0 := (Wd.new _ 0 0 0 0 _ rfl).step hB; have z0c := G0.c0; have z1c := G0.c1; have z2c := G0.c2; have z3c := G0.c3; have z0f := G0.f0; have z1f := G0.f1; have z2f := G0.f2; have z3f := G0.f3) | (have T1 : TwoW w w3 a3 a2 a1 a0 b3 b2 b1 b0 := (by with_reducible exact (T0.alloc _).drew.step hB); have hg := R0.lt; replace R0 := (R0.alloc _).drew.step hB; have G0 := (Wd.new _ 0 0 0 0 _ rfl).drew.step hB; have z0c := G0.c0; have z1c := G0.c1; have z2c := G0.c2; have z3c := G0.c3; have z0f := G0.f0; have z1f := G0.f1; have z2f := G0.f2; have z3f := G0.f3)); clear T0; have T0 := T1; clear T1; clear hB hP)
        | (go_at_call 39; refine (wideOf_any z3 z2 z1 z0 _).mono ?_; rintro e w4 ⟨rfl, hB⟩; (first | (have T1 : TwoW w w4 a3 a2 a1 a0 b3 b2 b1 b0 := (by with_reducible exact T0.step hB); replace R0 := R0.step hB; try (replace G0 := G0.step hB; have z0c := G0.c0; have z1c := G0.c1; have z2c := G0.c2; have z3c := G0.c3; have z0f := G0.f0; have z1f := G0.f1; have z2f := G0.f2; have z3f := G0.f3)) | (have T1 : TwoW w w4 a3 a2 a1 a0 b3 b2 b1 b0 := (by with_reducible exact T0.drew.step hB); replace R0 := R0.drew.step hB; try (replace G0 := G0.step hB; have z0c := G0.c0; have z1c := G0.c1; have z2c := G0.c2; have z3c := G0.c3; have z0f := G0.f0; have z1f := G0.f1; have z2f := G0.f2; have z3f := G0.f3)) | (have T1 : TwoW w w4 a3 a2 a1 a0 b3 b2 b1 b0 := (by with_reducible exact (T0.alloc _).step hB); have hg := R0.lt; replace R0 := (R0.alloc _).step hB; have G0 := (Wd.new _ 0 0 0 0 _ rfl).step hB; have z0c := G0.c0; have z1c := G0.c1; have z2c := G0.c2; have z3c := G0.c3; have z0f := G0.f0; have z1f := G0.f1; have z2f := G0.f2; have z3f := G0.f3) | (have T1 : TwoW w w4 a3 a2 a1 a0 b3 b2 b1 b0 := (by with_reducible exact (T0.alloc _).drew.step hB); have hg := R0.lt; replace R0 := (R0.alloc _).drew.step hB; have G0 := (Wd.new _ 0 0 0 0 _ rfl).drew.step hB; have z0c := G0.c0; have z1c := G0.c1; have z2c := G0.c2; have z3c := G0.c3; have z0f := G0.f0; have z1f := G0.f1; have z2f := G0.f2; have z3f := G0.f3)); clear T0; have T0 := T1; clear T1; clear hB))
    all_goals go_wp2_with fail
    all_goals go_meet
    all_goals first | exact cut_new T0 R0 hrel | exact cut_set T0 R0 G0 (by omega) hrel | exact cut_drew (cut_new T0 R0 hrel) | exact cut_drew (cut_set T0 R0 G0 (by omega) hrel)
  case rest =>
    clear T0 R0 tok1
    obtain ⟨g, z3, z2, z1, z0, hp, T0, R0, G0, hg, l3, l2, l1, l0, c, hc0, hc1, heq⟩ := hcut
    subst hp
    have HT := plus_told h3 h2 h1 h0 k3 k2 k1 k0 l3 l2 l1 l0 hc0 hc1 heq
    obtain ⟨ba, hba⟩ : ∃ b, (a3 / 9223372036854775808 == 1) = b := ⟨_, rfl⟩
    obtain ⟨bb, hbb⟩ : ∃ b, (b3 / 9223372036854775808 == 1) = b := ⟨_, rfl⟩
    obtain ⟨bz, hbz⟩ : ∃ b, (z3 / 9223372036854775808 == 1) = b := ⟨_, rfl⟩
    rw [hba, hbb, hbz] at HT
    clear hc0 hc1 heq
    by_cases e1 : ba = bb
    · have e1' : (ba == bb) = true := by simpa using e1
      by_cases e2 : bz = ba
      · rw [if_neg (by intro h; exact h.2 e2)] at HT
        have e2' : (bz == ba) = true := by simpa using e2
        have HT' : Hid _ := HT; clear HT; have HT := HT'; clear HT'
        clear e1 e2
        go_upto_region 2 with fail
        go_region_held3 (fun w' => w'.cell? ⟨w.heap.size, 0, none⟩ = some (.int .u64 a3) ∧ w'.cell? ⟨w.heap.size, 1, none⟩ = some (.int .u64 a2) ∧ w'.cell? ⟨w.heap.size, 2, none⟩ = some (.int .u64 a1) ∧ w'.cell? ⟨w.heap.size, 3, none⟩ = some (.int .u64 a0) ∧ w'.cell? ⟨w.heap.size + 1, 0, none⟩ = some (.int .u64 b3) ∧ w'.cell? ⟨w.heap.size + 1, 1, none⟩ = some (.int .u64 b2) ∧ w'.cell? ⟨w.heap.size + 1, 2, none⟩ = some (.int .u64 b1) ∧ w'.cell? ⟨w.heap.size + 1, 3, none⟩ = some (.int .u64 b0) ∧ w'.cell? ⟨g, 0, none⟩ = some (.int .u64 z3) ∧ w'.cell? ⟨g, 1, none⟩ = some (.int .u64 z2) ∧ w'.cell? ⟨g, 2, none⟩ = some (.int .u64 z1) ∧ w'.cell? ⟨g, 3, none⟩ = some (.int .u64 z0)) (first | (with_reducible exact cells12x T0 G0) | (with_reducible exact cells12x T0.drew G0.drew))
          (first
            | (go_at_call 31; refine (isBelow_any _ _ _ _ (by assumption) _ (by assumption) _).mono ?_; rintro e w1 ⟨rfl, hB⟩; (first | (have T1 : TwoW w w1 a3 a2 a1 a0 b3 b2 b1 b0 := (by with_reducible exact T0.step hB); replace R0 := R0.step hB; replace G0 := G0.step hB) | (have T1 : TwoW w w1 a3 a2 a1 a0 b3 b2 b1 b0 := (by with_reducible exact T0.drew.step hB); replace R0 := R0.drew.step hB; replace G0 := G0.drew.step hB)); clear T0; have T0 := T1; clear T1 hB))
        have r0 := R0.c0; have r1 := R0.c1; have r2 := R0.c2; have r3 := R0.c3; have f0 := R0.f0; have f1 := R0.f1; have f2 := R0.f2; have f3 := R0.f3
        have y0 := G0.c0; have y1 := G0.c1; have y2 := G0.c2; have y3 := G0.c3
        all_goals go_wp2
        all_goals refine bodyPost_ret (v := .tuple #[.agg #[.int .u64 z3, .int .u64 z2, .int .u64 z1, .int .u64 z0], .bool true]) (by simp [results, Try.results19, go_sem, r0, r1, r2, r3]) rfl ?_
        all_goals first | exact tellP_set (by omega) ⟨T0.below, Or.inl ⟨HT.out.1, z3, z2, z1, z0, rfl, l3, l2, l1, l0, HT.out.2⟩⟩ | exact tellP_drew (tellP_set (by omega) ⟨T0.below, Or.inl ⟨HT.out.1, z3, z2, z1, z0, rfl, l3, l2, l1, l0, HT.out.2⟩⟩)
      · rw [if_pos ⟨e1, e2⟩] at HT
        have e2' : (bz == ba) = false := by simpa using e2
        have HT' : Hid _ := HT; clear HT; have HT := HT'; clear HT'
        clear e1 e2
        go_upto_region 2 with fail
        go_region_held3 (fun w' => w'.cell? ⟨w.heap.size, 0, none⟩ = some (.int .u64 a3) ∧ w'.cell? ⟨w.heap.size, 1, none⟩ = some (.int .u64 a2) ∧ w'.cell? ⟨w.heap.size, 2, none⟩ = some (.int .u64 a1) ∧ w'.cell? ⟨w.heap.size, 3, none⟩ = some (.int .u64 a0) ∧ w'.cell? ⟨w.heap.size + 1, 0, none⟩ = some (.int .u64 b3) ∧ w'.cell? ⟨w.heap.size + 1, 1, none⟩ = some (.int .u64 b2) ∧ w'.cell? ⟨w.heap.size + 1, 2, none⟩ = some (.int .u64 b1) ∧ w'.cell? ⟨w.heap.size + 1, 3, none⟩ = some (.int .u64 b0) ∧ w'.cell? ⟨g, 0, none⟩ = some (.int .u64 z3) ∧ w'.cell? ⟨g, 1, none⟩ = some (.int .u64 z2) ∧ w'.cell? ⟨g, 2, none⟩ = some (.int .u64 z1) ∧ w'.cell? ⟨g, 3, none⟩ = some (.int .u64 z0)) (first | (with_reducible exact cells12x T0 G0) | (with_reducible exact cells12x T0.drew G0.drew))
          (first
            | (go_at_call 31; refine (isBelow_any _ _ _ _ (by assumption) _ (by assumption) _).mono ?_; rintro e w1 ⟨rfl, hB⟩; (first | (have T1 : TwoW w w1 a3 a2 a1 a0 b3 b2 b1 b0 := (by with_reducible exact T0.step hB); replace R0 := R0.step hB; replace G0 := G0.step hB) | (have T1 : TwoW w w1 a3 a2 a1 a0 b3 b2 b1 b0 := (by with_reducible exact T0.drew.step hB); replace R0 := R0.drew.step hB; replace G0 := G0.drew.step hB)); clear T0; have T0 := T1; clear T1 hB))
        have r0 := R0.c0; have r1 := R0.c1; have r2 := R0.c2; have r3 := R0.c3; have f0 := R0.f0; have f1 := R0.f1; have f2 := R0.f2; have f3 := R0.f3
        have y0 := G0.c0; have y1 := G0.c1; have y2 := G0.c2; have y3 := G0.c3
        go_wp2
        refine bodyPost_ret (v := .tuple #[.agg #[.int .u64 0, .int .u64 0, .int .u64 0, .int .u64 0], .bool false]) (by simp [results, Try.results19, go_sem, r0, r1, r2, r3]) rfl ?_
        first | exact tellP_set (by omega) ⟨T0.below, Or.inr ⟨HT.out, rfl⟩⟩ | exact tellP_drew (tellP_set (by omega) ⟨T0.below, Or.inr ⟨HT.out, rfl⟩⟩)
    · have e1' : (ba == bb) = false := by simpa using e1
      rw [if_neg (by intro h; exact e1 h.1)] at HT
      have HT' : Hid _ := HT; clear HT; have HT := HT'; clear HT'
      clear e1
      have p0 := T0.a.c0; have p1 := T0.a.c1; have p2 := T0.a.c2; have p3 := T0.a.c3; have q0 := T0.b.c0; have q1 := T0.b.c1; have q2 := T0.b.c2; have q3 := T0.b.c3
      go_upto_region 2 with fail
      go_region_with ((go_at_call 31; refine (isBelow_any _ _ _ _ (by assumption) _ (by assumption) _).mono ?_; rintro e w1 ⟨rfl, hB⟩; (first | (have T1 : TwoW w w1 a3 a2 a1 a0 b3 b2 b1 b0 := (by with_reducible exact T0.step hB); replace R0 := R0.step hB; replace G0 := G0.step hB) | (have T1 : TwoW w w1 a3 a2 a1 a0 b3 b2 b1 b0 := (by with_reducible exact T0.drew.step hB); replace R0 := R0.drew.step hB; replace G0 := G0.drew.step hB)); clear T0; have T0 := T1; clear T1 hB; have p0 := T0.a.c0; have p1 := T0.a.c1; have p2 := T0.a.c2; have p3 := T0.a.c3; have q0 := T0.b.c0; have q1 := T0.b.c1; have q2 := T0.b.c2; have q3 := T0.b.c3))
      all_goals (have r0 := R0.c0; have r1 := R0.c1; have r2 := R0.c2; have r3 := R0.c3; have f0 := R0.f0; have f1 := R0.f1; have f2 := R0.f2; have f3 := R0.f3; have y0 := G0.c0; have y1 := G0.c1; have y2 := G0.c2; have y3 := G0.c3)
      all_goals go_wp2
      all_goals refine bodyPost_ret (v := .tuple #[.agg #[.int .u64 z3, .int .u64 z2, .int .u64 z1, .int .u64 z0], .bool true]) (by simp [results, Try.results19, go_sem, r0, r1, r2, r3]) rfl ?_
      all_goals first | exact tellP_set (by omega) ⟨T0.below, Or.inl ⟨HT.out.1, z3, z2, z1, z0, rfl, l3, l2, l1, l0, HT.out.2⟩⟩ | exact tellP_drew (tellP_set (by omega) ⟨T0.below, Or.inl ⟨HT.out.1, z3, z2, z1, z0, rfl, l3, l2, l1, l0, HT.out.2⟩⟩)
end Go.Proofs.Ytgeaklaocifhcaa

/- Fractions by their own numbers: what is asked of the program and of the model. -/
namespace Go.Proofs.Ytgeaklaocifhcaa
open Go.RowKit
theorem eqWd4 (a3 a2 a1 a0 b3 b2 b1 b0 : Int) (w : World) : (Op.equalIn 9999 26 (.agg #[.int .u64 a3, .int .u64 a2, .int .u64 a1, .int .u64 a0]) (.agg #[.int .u64 b3, .int .u64 b2, .int .u64 b1, .int .u64 b0])).run Try.prog w = .ok (a3 == b3 && a2 == b2 && a1 == b1 && a0 == b0) w := by
  have u3 := Try.underlying24
  have a3' := Try.isAgg24
  have z3 := Try.sizeOf24
  rw [show (9999 : Nat) = 9998 + 1 from rfl, Op.equalIn]
  simp only [Sem.run_bind, run_underlying Try.underlying26, Result.andThen_ok]
  go_simp
  by_cases h3 : a3 = b3
  · subst h3
    by_cases h2 : a2 = b2
    · subst h2
      by_cases h1 : a1 = b1
      · subst h1
        by_cases h0 : a0 = b0
        · subst h0
          simp
        · simp [h0]
      · simp [h1]
    · simp [h2]
  · simp [h3]
theorem eqWdW (x u : Int) (hx : told x = true) (hu : told u = true) (w : World) : (Op.equalIn 9999 26 (W4 x) (W4 u)).run Try.prog w = .ok (decide (x = u)) w := by
  rw [eqWd4]
  congr 1
  rw [Bool.eq_iff_iff]
  simp only [Bool.and_eq_true, beq_iff_eq, decide_eq_true_eq]
  constructor
  · rintro ⟨⟨⟨e3, e2⟩, e1⟩, e0⟩
    rw [← ww_sw hx, ← ww_sw hu, e3, e2, e1, e0]
  · rintro rfl
    exact ⟨⟨⟨rfl, rfl⟩, rfl⟩, rfl⟩
set_option maxRecDepth 100000 in
set_option maxHeartbeats 2000000 in
theorem eqRZ (n d m e : Int) (hn : told n = true) (hd : told d = true) (hm : told m = true) (he : told e = true) (w : World) : (Op.equalIn 10000 28 (RZ n d) (RZ m e)).run Try.prog w = .ok (decide (n = m) && decide (d = e)) w := by
  have E1 := eqWdW n m hn hm
  have E2 := eqWdW d e hd he
  have u3 := Try.underlying26
  have a3 := Try.isAgg26
  have z3 := Try.sizeOf26
  rw [show (10000 : Nat) = 9999 + 1 from rfl, Op.equalIn]
  simp only [Sem.run_bind, run_underlying Try.underlying28, Result.andThen_ok]
  go_simp
  by_cases h1 : n = m
  · by_cases h2 : d = e
    · simp [h1, h2]
    · simp [h1, h2]
  · simp [h1]
theorem addZ_det (n d m e : Int) (hn : told n = true) (hd : told d = true) (hm : told m = true) (he : told e = true) (w : World) : Calls Try.prog 7 #[RZ n d, RZ m e] w (VP (rat2V n d m e (n * e + m * d) (d * e)) w) := by
  obtain ⟨a3, a2, a1, a0⟩ := ww_words n
  obtain ⟨b3, b2, b1, b0⟩ := ww_words d
  obtain ⟨c3, c2, c1, c0⟩ := ww_words m
  obtain ⟨d3, d2, d1, d0⟩ := ww_words e
  have h := implRatioAdd_any (ww3 n) (ww2 n) (ww1 n) (ww0 n) (ww3 d) (ww2 d) (ww1 d) (ww0 d) (ww3 m) (ww2 m) (ww1 m) (ww0 m) (ww3 e) (ww2 e) (ww1 e) (ww0 e) a3 a2 a1 a0 b3 b2 b1 b0 c3 c2 c1 c0 d3 d2 d1 d0 w
  rw [ww_sw hn, ww_sw hd, ww_sw hm, ww_sw he] at h
  exact h
theorem addS_det (n d m e : Int) (hn : told n = true) (hd : told d = true) (hm : told m = true) (he : told e = true) (w : World) : Calls Try.prog 8 #[RZ n d, RZ m e] w (VP (rat2V n d m e (n * e + m * d) (d * e)) w) := by
  obtain ⟨a3, a2, a1, a0⟩ := ww_words n
  obtain ⟨b3, b2, b1, b0⟩ := ww_words d
  obtain ⟨c3, c2, c1, c0⟩ := ww_words m
  obtain ⟨d3, d2, d1, d0⟩ := ww_words e
  have h := specRatioAdd_any (ww3 n) (ww2 n) (ww1 n) (ww0 n) (ww3 d) (ww2 d) (ww1 d) (ww0 d) (ww3 m) (ww2 m) (ww1 m) (ww0 m) (ww3 e) (ww2 e) (ww1 e) (ww0 e) a3 a2 a1 a0 b3 b2 b1 b0 c3 c2 c1 c0 d3 d2 d1 d0 w
  rw [ww_sw hn, ww_sw hd, ww_sw hm, ww_sw he] at h
  exact h
theorem mulZ_det (n d m e : Int) (hn : told n = true) (hd : told d = true) (hm : told m = true) (he : told e = true) (w : World) : Calls Try.prog 10 #[RZ n d, RZ m e] w (VP (rat2V n d m e (n * m) (d * e)) w) := by
  obtain ⟨a3, a2, a1, a0⟩ := ww_words n
  obtain ⟨b3, b2, b1, b0⟩ := ww_words d
  obtain ⟨c3, c2, c1, c0⟩ := ww_words m
  obtain ⟨d3, d2, d1, d0⟩ := ww_words e
  have h := implRatioMul_any (ww3 n) (ww2 n) (ww1 n) (ww0 n) (ww3 d) (ww2 d) (ww1 d) (ww0 d) (ww3 m) (ww2 m) (ww1 m) (ww0 m) (ww3 e) (ww2 e) (ww1 e) (ww0 e) a3 a2 a1 a0 b3 b2 b1 b0 c3 c2 c1 c0 d3 d2 d1 d0 w
  rw [ww_sw hn, ww_sw hd, ww_sw hm, ww_sw he] at h
  exact h
theorem divZ_det (n d m e : Int) (hn : told n = true) (hd : told d = true) (hm : told m = true) (he : told e = true) (w : World) : Calls Try.prog 12 #[RZ n d, RZ m e] w (VP (rat2V n d m e (n * e) (m * d)) w) := by
  obtain ⟨a3, a2, a1, a0⟩ := ww_words n
  obtain ⟨b3, b2, b1, b0⟩ := ww_words d
  obtain ⟨c3, c2, c1, c0⟩ := ww_words m
  obtain ⟨d3, d2, d1, d0⟩ := ww_words e
  have h := implRatioDiv_any (ww3 n) (ww2 n) (ww1 n) (ww0 n) (ww3 d) (ww2 d) (ww1 d) (ww0 d) (ww3 m) (ww2 m) (ww1 m) (ww0 m) (ww3 e) (ww2 e) (ww1 e) (ww0 e) a3 a2 a1 a0 b3 b2 b1 b0 c3 c2 c1 c0 d3 d2 d1 d0 w
  rw [ww_sw hn, ww_sw hd, ww_sw hm, ww_sw he] at h
  exact h
theorem okZ_det (n d : Int) (hn : told n = true) (hd : told d = true) (w : World) : Calls Try.prog 13 #[RZ n d] w (VP (.bool (rightB n d)) w) := by
  obtain ⟨a3, a2, a1, a0⟩ := ww_words n
  obtain ⟨b3, b2, b1, b0⟩ := ww_words d
  have h := implRatioOk_any (ww3 n) (ww2 n) (ww1 n) (ww0 n) (ww3 d) (ww2 d) (ww1 d) (ww0 d) a3 a2 a1 a0 b3 b2 b1 b0 w
  rw [ww_sw hn, ww_sw hd] at h
  exact h
theorem cmpZ_det (n d m e : Int) (hn : told n = true) (hd : told d = true) (hm : told m = true) (he : told e = true) (w : World) : Calls Try.prog 15 #[RZ n d, RZ m e] w (VP (.tuple #[.int .i64 (ratCmp n d m e).1, .bool (ratCmp n d m e).2]) w) := by
  obtain ⟨a3, a2, a1, a0⟩ := ww_words n
  obtain ⟨b3, b2, b1, b0⟩ := ww_words d
  obtain ⟨c3, c2, c1, c0⟩ := ww_words m
  obtain ⟨d3, d2, d1, d0⟩ := ww_words e
  have h := implRatioCmp_any (ww3 n) (ww2 n) (ww1 n) (ww0 n) (ww3 d) (ww2 d) (ww1 d) (ww0 d) (ww3 m) (ww2 m) (ww1 m) (ww0 m) (ww3 e) (ww2 e) (ww1 e) (ww0 e) a3 a2 a1 a0 b3 b2 b1 b0 c3 c2 c1 c0 d3 d2 d1 d0 w
  rw [ww_sw hn, ww_sw hd, ww_sw hm, ww_sw he] at h
  exact h
theorem cmpS_det (n d m e : Int) (hn : told n = true) (hd : told d = true) (hm : told m = true) (he : told e = true) (w : World) : Calls Try.prog 16 #[RZ n d, RZ m e] w (VP (.tuple #[.int .i64 (ratCmp n d m e).1, .bool (ratCmp n d m e).2]) w) := by
  obtain ⟨a3, a2, a1, a0⟩ := ww_words n
  obtain ⟨b3, b2, b1, b0⟩ := ww_words d
  obtain ⟨c3, c2, c1, c0⟩ := ww_words m
  obtain ⟨d3, d2, d1, d0⟩ := ww_words e
  have h := specRatioCmp_any (ww3 n) (ww2 n) (ww1 n) (ww0 n) (ww3 d) (ww2 d) (ww1 d) (ww0 d) (ww3 m) (ww2 m) (ww1 m) (ww0 m) (ww3 e) (ww2 e) (ww1 e) (ww0 e) a3 a2 a1 a0 b3 b2 b1 b0 c3 c2 c1 c0 d3 d2 d1 d0 w
  rw [ww_sw hn, ww_sw hd, ww_sw hm, ww_sw he] at h
  exact h
theorem floorZ_det (n d : Int) (hn : told n = true) (hd : told d = true) (w : World) : Calls Try.prog 18 #[RZ n d] w (VP (floorV n d) w) := by
  obtain ⟨a3, a2, a1, a0⟩ := ww_words n
  obtain ⟨b3, b2, b1, b0⟩ := ww_words d
  have h := implRatioFloor_any (ww3 n) (ww2 n) (ww1 n) (ww0 n) (ww3 d) (ww2 d) (ww1 d) (ww0 d) a3 a2 a1 a0 b3 b2 b1 b0 w
  rw [ww_sw hn, ww_sw hd] at h
  exact h
theorem negZ_det (n : Int) (hn : told n = true) (w : World) : Calls Try.prog 9 #[W4 n] w (VP (tellV (-n)) w) := by
  obtain ⟨a3, a2, a1, a0⟩ := ww_words n
  refine (implNeg_any (ww3 n) (ww2 n) (ww1 n) (ww0 n) a3 a2 a1 a0 w).mono ?_
  intro e w' h
  rw [ww_sw hn] at h
  exact tellP_VP h
theorem plusZ_det (n m : Int) (hn : told n = true) (hm : told m = true) (w : World) : Calls Try.prog 19 #[W4 n, W4 m] w (VP (tellV (n + m)) w) := by
  obtain ⟨a3, a2, a1, a0⟩ := ww_words n
  obtain ⟨b3, b2, b1, b0⟩ := ww_words m
  refine (implAdd_any (ww3 n) (ww2 n) (ww1 n) (ww0 n) (ww3 m) (ww2 m) (ww1 m) (ww0 m) a3 a2 a1 a0 b3 b2 b1 b0 w).mono ?_
  intro e w' h
  rw [ww_sw hn, ww_sw hm] at h
  exact tellP_VP h
/-- What is told, by its own words. -/
theorem tell_ex (z : Int) : ∃ m t, tellV z = .tuple #[W4 m, .bool t] ∧ told m = true ∧ (t = true → m = z) := by
  unfold tellV
  by_cases h : told z = true
  · rw [if_pos h]; exact ⟨z, true, rfl, h, fun _ => rfl⟩
  · rw [if_neg h]; exact ⟨0, false, rfl, by decide, fun h => by cases h⟩
end Go.Proofs.Ytgeaklaocifhcaa

/- Numbers drawn from a code: what the walks of the reader share, and its small ones. -/
namespace Go.Proofs.Ytgeaklaocifhcaa
open Go.RowKit
/-- No other block has turned than g. -/
structure Kept (g : Nat) (w w' : World) : Prop where
  os : w'.os = w.os
  tape : w'.tape = w.tape
  output : w'.output = w.output
  size : w.heap.size ≤ w'.heap.size
  block : ∀ k, k < w.heap.size → k ≠ g → w'.heap[k]? = w.heap[k]?
  other : ∀ j, j ≠ 1 → g < w.heap.size → w'.cell? ⟨g, j, none⟩ = w.cell? ⟨g, j, none⟩
theorem Kept.refl (g : Nat) (w : World) : Kept g w w := ⟨rfl, rfl, rfl, Nat.le_refl _, fun _ _ _ => rfl, fun _ _ _ => rfl⟩
theorem Kept.trans {g : Nat} {a b c : World} (h : Kept g a b) (k : Kept g b c) : Kept g a c :=
  ⟨k.os.trans h.os, k.tape.trans h.tape, k.output.trans h.output, Nat.le_trans h.size k.size, fun i hi hg => (k.block i (Nat.lt_of_lt_of_le hi h.size) hg).trans (h.block i hi hg), fun j hj hl => (k.other j hj (Nat.lt_of_lt_of_le hl h.size)).trans (h.other j hj hl)⟩
theorem Kept.of {g : Nat} {a b : World} (h : Below a.heap.size a b) : Kept g a b := ⟨h.os, h.tape, h.output, h.size, fun i hi _ => h.block i hi, fun j _ hl => h.cell (p := ⟨g, j, none⟩) hl⟩
theorem Kept.drew {g : Nat} {a b : World} (h : Kept g a b) : Kept g a b.drew := ⟨h.os, h.tape, h.output, h.size, h.block, h.other⟩
theorem Kept.drewN {g : Nat} {a b : World} (h : Kept g a b) (n : Nat) : Kept g a (b.drewN n) := ⟨h.os, h.tape, h.output, h.size, h.block, h.other⟩
theorem Kept.set {g : Nat} {a b : World} (h : Kept g a b) (u : Value) : Kept g a (b.setCell ⟨g, 1, none⟩ u) :=
  ⟨h.os, h.tape, h.output, by simpa [World.setCell] using h.size, fun k hk hg => (Below.heap_setCell _ _ _ _ hg).trans (h.block k hk hg), fun j hj hl => (World.cell?_setCell_other _ _ _ _ (by intro e; simp only [Addr.mk.injEq] at e; omega)).trans (h.other j hj hl)⟩
theorem Kept.alloc {g : Nat} {a b : World} (h : Kept g a b) (o : Obj) : Kept g a (b.alloc o) := h.trans (Kept.of ((Below.refl _ _).alloc (Nat.le_refl _) o))
theorem Kept.below {g B : Nat} {a b : World} (h : Kept g a b) (hB : B ≤ g) (hB' : B ≤ a.heap.size) : Below B a b := ⟨h.os, h.tape, h.output, h.size, fun k hk => h.block k (by omega) (by omega)⟩
theorem Blk.kept {W W' : World} {g h : Nat} {vs : List Value} (H : Blk W h vs) (k : Kept g W W') (hne : h ≠ g) : Blk W' h vs := by
  have e := k.block h H.lt hne
  refine ⟨Nat.lt_of_lt_of_le H.lt k.size, fun i v hi => ⟨?_, ?_⟩⟩
  · exact (World.cell?_of_block (w := W) e).trans (H.c i hi)
  · exact (World.frozen?_of_block (w := W) e).trans (H.f i hi)
/-- The reader lies in the block g, and what it reads lies ahead of it. -/
structure Rdr (w : World) (g : Nat) (ao : Option Addr) (n cap : Nat) (cs : List Int) : Prop where
  blk : ∃ p : Nat, p ≤ n ∧ Blk w g [.slice ao n cap, .int .i64 p]
  bytes : ∀ i, (h : i < cs.length) → ∃ b off, ao = some ⟨b, off, none⟩ ∧ b < g ∧ w.cell? ⟨b, off + i, none⟩ = some (.int .u8 cs[i])
  len : cs.length = n
  small : n ≤ 1048576
  byte : ∀ c ∈ cs, 0 ≤ c ∧ c < 256
theorem Rdr.lt {w : World} {g : Nat} {ao : Option Addr} {n cap : Nat} {cs : List Int} (h : Rdr w g ao n cap cs) : g < w.heap.size := by
  obtain ⟨p, _, B⟩ := h.blk
  exact B.lt
theorem Rdr.step {w w' : World} {g : Nat} {ao : Option Addr} {n cap : Nat} {cs : List Int} (h : Rdr w g ao n cap cs) (hB : Below w.heap.size w w') : Rdr w' g ao n cap cs := by
  obtain ⟨p, hp, B⟩ := h.blk
  refine ⟨⟨p, hp, B.step hB⟩, fun i hi => ?_, h.len, h.small, h.byte⟩
  obtain ⟨b, off, e, hb, hc⟩ := h.bytes i hi
  exact ⟨b, off, e, hb, (hB.cell (p := ⟨b, off + i, none⟩) (show b < w.heap.size by have := B.lt; omega)).trans hc⟩
theorem Rdr.alloc {w : World} {g : Nat} {ao : Option Addr} {n cap : Nat} {cs : List Int} (h : Rdr w g ao n cap cs) (o : Obj) : Rdr (w.alloc o) g ao n cap cs := h.step ((Below.refl _ _).alloc (Nat.le_refl _) o)
theorem Rdr.drew {w : World} {g : Nat} {ao : Option Addr} {n cap : Nat} {cs : List Int} (h : Rdr w g ao n cap cs) : Rdr w.drew g ao n cap cs := ⟨h.blk, h.bytes, h.len, h.small, h.byte⟩
theorem Rdr.drewN {w : World} {g : Nat} {ao : Option Addr} {n cap : Nat} {cs : List Int} (h : Rdr w g ao n cap cs) (k : Nat) : Rdr (w.drewN k) g ao n cap cs := ⟨h.blk, h.bytes, h.len, h.small, h.byte⟩
theorem Rdr.put {w : World} {g : Nat} {ao : Option Addr} {n cap : Nat} {cs : List Int} (h : Rdr w g ao n cap cs) (p : Nat) (hp : p ≤ n) : Rdr (w.setCell ⟨g, 1, none⟩ (.int .i64 p)) g ao n cap cs := by
  obtain ⟨q, hq, B⟩ := h.blk
  refine ⟨⟨p, hp, B.setI 1 (by simp) _⟩, fun i hi => ?_, h.len, h.small, h.byte⟩
  obtain ⟨b, off, e, hb, hc⟩ := h.bytes i hi
  exact ⟨b, off, e, hb, (World.cell?_setCell_other _ _ _ _ (by intro e; simp only [Addr.mk.injEq] at e; omega)).trans hc⟩
/-- What a call of the reader's leaves. -/
def RdP (g : Nat) (ao : Option Addr) (n cap : Nat) (cs : List Int) (Q : Value → Prop) (w : World) (e : Ending) (w' : World) : Prop := ∃ v, e = .returned v ∧ Q v ∧ Rdr w' g ao n cap cs ∧ Kept g w w'
def IsIn (a b : Int) (v : Value) : Prop := ∃ x : Int, v = .int .i64 x ∧ a ≤ x ∧ x < b
set_option maxRecDepth 100000 in
set_option maxHeartbeats 1000000 in
theorem next_any (g : Nat) (ao : Option Addr) (n cap : Nat) (cs : List Int) (w : World) (h : Rdr w g ao n cap cs) :
    Calls Try.prog 85 #[.pointer (some ⟨g, 0, none⟩)] w (RdP g ao n cap cs (IsIn 0 256) w) := by
  obtain ⟨p, hp, B⟩ := h.blk
  have b0 := B.c 0 rfl; have b1 := B.c 1 rfl; have f1 := B.f 1 rfl; have bl := B.lt
  by_cases hq : p < n
  · have hpl : p < cs.length := by rw [h.len]; exact hq
    obtain ⟨b, off, rfl, hb, hc⟩ := h.bytes p hpl
    obtain ⟨y0, y1⟩ := h.byte _ (List.getElem_mem hpl)
    have R := fun k => (h.drewN k).put (p + 1) (by omega)
    have hs := h.small
    generalize cs[p] = y at *
    have hne : g ≠ b := by omega
    have i1 : (p : Int) < n := by omega
    clear h B
    go_enter Try.func85, Try.ntmps85
    go_wp2
    go_quiet (fail)
    go_wp2
    go_quiet (fail)
    go_wp2
    go_ret
    exact ⟨_, rfl, ⟨y, rfl, y0, y1⟩, (R _).drewN _, (((Kept.refl _ _).drewN _).set _).drewN _⟩
  · obtain rfl : p = n := by omega
    have hs := h.small
    go_enter Try.func85, Try.ntmps85
    go_wp2
    go_quiet (fail)
    go_wp2
    go_ret
    exact ⟨_, rfl, ⟨0, rfl, by decide, by decide⟩, h.drewN _, (Kept.refl _ _).drewN _⟩
set_option maxRecDepth 100000 in
set_option maxHeartbeats 1000000 in
theorem below_any (m : Int) (h2 : 2 ≤ m) (h256 : m ≤ 256) (g : Nat) (ao : Option Addr) (n cap : Nat) (cs : List Int) (w : World) (h : Rdr w g ao n cap cs) :
    Calls Try.prog 63 #[.pointer (some ⟨g, 0, none⟩), .int .i64 m] w (RdP g ao n cap cs (IsIn 0 m) w) := by
  go_enter Try.func63, Try.ntmps63
  go_wp2_with fail
  all_goals first | (exfalso; omega) | skip
  refine (next_any g ao n cap cs _ h).mono ?_
  rintro e w1 ⟨_, rfl, ⟨x, rfl, x0, x1⟩, R, K⟩
  have hm : m ≠ 0 := by omega
  go_wp2
  go_ret
  exact ⟨_, rfl, ⟨x % m, rfl, Int.emod_nonneg _ hm, Int.emod_lt_of_pos _ (by omega)⟩, R, K⟩
theorem or_word {a b : Int} (ha : Word a) (hb : Word b) : Word (bits .or .u64 a b) := by
  obtain ⟨a0, a1⟩ := ha
  obtain ⟨b0, b1⟩ := hb
  obtain ⟨a, rfl⟩ := Int.eq_ofNat_of_zero_le a0
  obtain ⟨b, rfl⟩ := Int.eq_ofNat_of_zero_le b0
  rw [bits_or_u64_nat a b (by omega) (by omega)]
  have := Nat.or_lt_two_pow (n := 64) (x := a) (y := b) (by omega) (by omega)
  exact ⟨by omega, by omega⟩
def IsWord (v : Value) : Prop := ∃ x : Int, v = .int .u64 x ∧ Word x
def IsBool (v : Value) : Prop := ∃ b, v = .bool b
set_option maxRecDepth 100000 in
set_option maxHeartbeats 1000000 in
theorem once_any (m : Int) (h2 : 2 ≤ m) (h256 : m ≤ 256) (g : Nat) (ao : Option Addr) (n cap : Nat) (cs : List Int) (w : World) (h : Rdr w g ao n cap cs) :
    Calls Try.prog 33 #[.pointer (some ⟨g, 0, none⟩), .int .i64 m] w (RdP g ao n cap cs IsBool w) := by
  go_enter Try.func33, Try.ntmps33
  go_wp2_with fail
  refine (below_any m h2 h256 g ao n cap cs _ h).mono ?_
  rintro e w1 ⟨_, rfl, ⟨x, rfl, x0, x1⟩, R, K⟩
  go_wp2
  go_ret
  exact ⟨_, rfl, ⟨_, rfl⟩, R, K⟩
set_option maxRecDepth 100000 in
set_option maxHeartbeats 1000000 in
theorem word_any (g : Nat) (ao : Option Addr) (n cap : Nat) (cs : List Int) (w : World) (h : Rdr w g ao n cap cs) :
    Calls Try.prog 72 #[.pointer (some ⟨g, 0, none⟩)] w (RdP g ao n cap cs IsWord w) := by
  go_enter Try.func72, Try.ntmps72
  go_wp2
  go_loopw [3, 4] (fun o i wr => ∃ (k : Nat) (x : Int), k ≤ 8 ∧ i = .int .i64 k ∧ o = .int .u64 x ∧ Word x ∧ Rdr wr g ao n cap cs ∧ Kept g w wr) (fun _ i _ => 8 - (intOf i).toNat)
  case atStart => exact ⟨0, 0, by omega, rfl, rfl, ⟨by decide, by decide⟩, h, Kept.refl _ _⟩
  case round =>
    clear h
    obtain ⟨k, x, hk, rfl, rfl, hx, R, K⟩ := hrel
    by_cases hk8 : k < 8
    · have i1 : (k : Int) < 8 := by omega
      go_wp2_with fail
      refine (next_any g ao n cap cs _ R).mono ?_
      rintro e w1 ⟨_, rfl, ⟨y, rfl, y0, y1⟩, R1, K1⟩
      replace K := K.trans K1
      clear R K1
      have hy : IntKind.u64.wrap y = y := by rw [IntKind.wrap_u64]; omega
      have OW := or_word (a := IntKind.u64.wrap (x * 256)) (b := y) (by rw [IntKind.wrap_u64]; exact ⟨by omega, by omega⟩) ⟨y0, by omega⟩
      clear hx
      go_wp2
      go_roundw
      case rel => exact ⟨k + 1, _, by omega, by go_num, rfl, OW, R1, K⟩
      case measure => simp [intOf]; omega
    · obtain rfl : k = 8 := by omega
      go_wp2
      go_ret
      exact ⟨_, rfl, ⟨x, rfl, hx⟩, R, K⟩
theorem Rd.kept {w w' : World} {g : Nat} {ao bo : Option Addr} {n cap : Nat} {cs ds : List Int} (h : Rd w bo ds) (R : Rdr w g ao n cap cs) (K : Kept g w w') : Rd w' bo ds := by
  intro i hi
  obtain ⟨b, off, e, hb, hc⟩ := h i hi
  refine ⟨b, off, e, Nat.lt_of_lt_of_le hb K.size, ?_⟩
  by_cases hg : b = g
  · subst hg
    by_cases h1 : off + i = 1
    · exfalso
      obtain ⟨p, _, B⟩ := R.blk
      have := B.c 1 rfl
      rw [h1, this] at hc
      cases hc
    · exact (K.other _ h1 hb).trans hc
  · exact (World.cell?_of_block (w := w) (K.block b hb hg)).trans hc
theorem IsNum.kept {w w' : World} {g : Nat} {ao bo : Option Addr} {n cap m c : Nat} {cs ds : List Int} {s : Bool} {z : Int} {k : Nat} (h : IsNum w s bo m c ds z k) (R : Rdr w g ao n cap cs) (K : Kept g w w') : IsNum w' s bo m c ds z k :=
  ⟨h.neg, h.len, h.cap, h.rd.kept R K, h.nrm, h.val, h.le⟩
set_option maxRecDepth 100000 in
set_option maxHeartbeats 1000000 in
theorem near_any (g : Nat) (ao : Option Addr) (n cap : Nat) (cs : List Int) (w : World) (h : Rdr w g ao n cap cs) :
    Calls Try.prog 45 #[.pointer (some ⟨g, 0, none⟩), .int .i64 (-60), .int .i64 60] w (RdP g ao n cap cs (IsIn (-60) 61) w) := by
  go_enter Try.func45, Try.ntmps45
  go_wp2_with fail
  refine (below_any 8 (by decide) (by decide) g ao n cap cs _ h).mono ?_
  rintro e w1 ⟨_, rfl, ⟨x, rfl, x0, x1⟩, R, K⟩
  clear h
  by_cases h0 : x = 0
  · subst h0
    go_wp2
    go_ret
    exact ⟨_, rfl, ⟨_, rfl, by decide, by decide⟩, R, K⟩
  · by_cases h1 : x = 1
    · subst h1
      go_wp2
      go_ret
      exact ⟨_, rfl, ⟨_, rfl, by decide, by decide⟩, R, K⟩
    · have e0 : (x == 0) = false := by simpa using h0
      have e1 : (x == 1) = false := by simpa using h1
      go_wp2_with fail
      refine (word_any g ao n cap cs _ R).mono ?_
      rintro e w2 ⟨_, rfl, ⟨y, rfl, y0, y1⟩, R2, K2⟩
      replace K := K.trans K2
      clear R K2
      have hw : IntKind.u64.wrap 121 = 121 := by rw [IntKind.wrap_u64]; decide
      go_wp2
      go_ret
      exact ⟨_, rfl, ⟨_, rfl, by omega, by omega⟩, R2, K⟩
end Go.Proofs.Ytgeaklaocifhcaa

/- Numbers of four words drawn from a code: the walk. -/
namespace Go.Proofs.Ytgeaklaocifhcaa
open Go.RowKit
theorem Rdr.setN {w : World} {g : Nat} {ao : Option Addr} {n cap : Nat} {cs : List Int} (h : Rdr w g ao n cap cs) {p : Addr} (hp : g < p.block) (u : Value) : Rdr (w.setCell p u) g ao n cap cs := by
  obtain ⟨q, hq, B⟩ := h.blk
  refine ⟨⟨q, hq, B.setO (by omega) u⟩, fun i hi => ?_, h.len, h.small, h.byte⟩
  obtain ⟨b, off, e, hb, hc⟩ := h.bytes i hi
  exact ⟨b, off, e, hb, (World.cell?_setCell_other _ _ _ _ (by intro e; rw [e] at hp; simp at hp; omega)).trans hc⟩
theorem Kept.setN {g : Nat} {a b : World} (h : Kept g a b) {p : Addr} (hp : a.heap.size ≤ p.block) (hg : g ≠ p.block) (u : Value) : Kept g a (b.setCell p u) :=
  ⟨h.os, h.tape, h.output, by simpa [World.setCell] using h.size, fun k hk hne => (Below.heap_setCell _ _ _ _ (by omega)).trans (h.block k hk hne), fun j hj hl => (World.cell?_setCell_other _ _ _ _ (by intro e; rw [e] at hg; exact hg rfl)).trans (h.other j hj hl)⟩
def IsWide (v : Value) : Prop := ∃ a3 a2 a1 a0 : Int, v = .agg #[.int .u64 a3, .int .u64 a2, .int .u64 a1, .int .u64 a0] ∧ Word a3 ∧ Word a2 ∧ Word a1 ∧ Word a0
theorem wide_done {w W : World} {g : Nat} {ao : Option Addr} {n cap : Nat} {cs : List Int} {a3 a2 a1 a0 : Int} (hg : g < w.heap.size) (R : Rdr W g ao n cap cs) (K : Kept g w W) (h3 : Word a3) (h2 : Word a2) (h1 : Word a1) (h0 : Word a0) {v0 v1 v2 v3 : Value} :
    RdP g ao n cap cs IsWide w (.returned (.agg #[.int .u64 a3, .int .u64 a2, .int .u64 a1, .int .u64 a0])) ((((W.setCell ⟨w.heap.size, 0, none⟩ v0).setCell ⟨w.heap.size, 1, none⟩ v1).setCell ⟨w.heap.size, 2, none⟩ v2).setCell ⟨w.heap.size, 3, none⟩ v3) :=
  ⟨_, rfl, ⟨a3, a2, a1, a0, rfl, h3, h2, h1, h0⟩, (((R.setN hg _).setN hg _).setN hg _).setN hg _, (((K.setN (Nat.le_refl _) (by show g ≠ w.heap.size; omega) _).setN (Nat.le_refl _) (by show g ≠ w.heap.size; omega) _).setN (Nat.le_refl _) (by show g ≠ w.heap.size; omega) _).setN (Nat.le_refl _) (by show g ≠ w.heap.size; omega) _⟩
theorem wide_done2 {w W : World} {g : Nat} {ao : Option Addr} {n cap : Nat} {cs : List Int} {a3 a2 a1 a0 : Int} (hg : g < w.heap.size) (R : Rdr W g ao n cap cs) (K : Kept g w W) (h3 : Word a3) (h2 : Word a2) (h1 : Word a1) (h0 : Word a0) {v0 v1 v2 v3 : Value} {o : Obj} :
    RdP g ao n cap cs IsWide w (.returned (.agg #[.int .u64 a3, .int .u64 a2, .int .u64 a1, .int .u64 a0])) (((((W.setCell ⟨w.heap.size, 0, none⟩ v0).setCell ⟨w.heap.size, 1, none⟩ v1).setCell ⟨w.heap.size, 2, none⟩ v2).setCell ⟨w.heap.size, 3, none⟩ v3).alloc o) := by
  obtain ⟨v, e, q, R', K'⟩ := wide_done (v0 := v0) (v1 := v1) (v2 := v2) (v3 := v3) hg R K h3 h2 h1 h0
  exact ⟨v, e, q, R'.alloc o, K'.alloc o⟩
theorem pick7 {W : World} {G : Nat} (h : Blk W G [.int .i64 0, .int .i64 1, .int .i64 (-1), .int .i64 2, .int .i64 10, .int .i64 (-9223372036854775808), .int .i64 9223372036854775807]) (k : Nat) (hk : k < 7) : ∃ v : Int, W.cell? ⟨G, k, none⟩ = some (.int .i64 v) ∧ -9223372036854775808 ≤ v ∧ v ≤ 9223372036854775807 := by
  rcases (by omega : k = 0 ∨ k = 1 ∨ k = 2 ∨ k = 3 ∨ k = 4 ∨ k = 5 ∨ k = 6) with rfl | rfl | rfl | rfl | rfl | rfl | rfl
  · exact ⟨_, h.c 0 rfl, by decide, by decide⟩
  · exact ⟨_, h.c 1 rfl, by decide, by decide⟩
  · exact ⟨_, h.c 2 rfl, by decide, by decide⟩
  · exact ⟨_, h.c 3 rfl, by decide, by decide⟩
  · exact ⟨_, h.c 4 rfl, by decide, by decide⟩
  · exact ⟨_, h.c 5 rfl, by decide, by decide⟩
  · exact ⟨_, h.c 6 rfl, by decide, by decide⟩
theorem word_div {p : Int} (h : Word p) (k : Nat) : Word (p / 2 ^ k) := by
  have h1 : (0 : Int) ≤ 2 ^ k := by rw [ipow2]; exact Int.natCast_nonneg _
  refine ⟨Int.ediv_nonneg h.1 h1, ?_⟩
  have := Int.ediv_le_self (b := 2 ^ k) h.1
  have := h.2
  omega
theorem tell_words {z : Int} {w w' : World} {e : Ending} (h : TellP z w e w') : ∃ a3 a2 a1 a0 b, e = .returned (.tuple #[.agg #[.int .u64 a3, .int .u64 a2, .int .u64 a1, .int .u64 a0], .bool b]) ∧ Word a3 ∧ Word a2 ∧ Word a1 ∧ Word a0 ∧ Below w.heap.size w w' := by
  obtain ⟨hB, ⟨_, a3, a2, a1, a0, rfl, g3, g2, g1, g0, _⟩ | ⟨_, rfl⟩⟩ := h
  · exact ⟨a3, a2, a1, a0, true, rfl, g3, g2, g1, g0, hB⟩
  · exact ⟨0, 0, 0, 0, false, rfl, ⟨by decide, by decide⟩, ⟨by decide, by decide⟩, ⟨by decide, by decide⟩, ⟨by decide, by decide⟩, hB⟩
set_option maxRecDepth 100000 in
set_option maxHeartbeats 4000000 in
theorem wide_any (g : Nat) (ao : Option Addr) (n cap : Nat) (cs : List Int) (w : World) (h : Rdr w g ao n cap cs) :
    Calls Try.prog 42 #[.pointer (some ⟨g, 0, none⟩)] w (RdP g ao n cap cs IsWide w) := by
  have hg := h.lt
  have hne : w.heap.size ≠ g := by omega
  have B := Blk.new w [.int .u64 0, .int .u64 0, .int .u64 0, .int .u64 0] 26 rfl
  have R := h.alloc (.cells #[.int .u64 0, .int .u64 0, .int .u64 0, .int .u64 0] 26)
  have K := (Kept.refl g w).alloc (.cells #[.int .u64 0, .int .u64 0, .int .u64 0, .int .u64 0] 26)
  clear h
  go_enter Try.func42, Try.ntmps42
  go_wp2_with fail
  refine (below_any 9 (by decide) (by decide) g ao n cap cs _ R).mono ?_
  rintro e w1 ⟨_, rfl, ⟨x, rfl, x0, x1⟩, R1, K1⟩
  replace B := B.kept K1 hne
  replace K := K.trans K1
  clear R K1
  have R := R1
  clear R1
  rcases (by omega : x = 0 ∨ x = 1 ∨ x = 2 ∨ x = 3 ∨ x = 4 ∨ x = 5 ∨ (x = 6 ∨ x = 7 ∨ x = 8)) with rfl | rfl | rfl | rfl | rfl | rfl | hx
  · have G := Blk.new w1 [.int .i64 0, .int .i64 1, .int .i64 (-1), .int .i64 2, .int .i64 10, .int .i64 (-9223372036854775808), .int .i64 9223372036854775807] 2 rfl
    have hG : w1.heap.size ≠ g := by have := R.lt; omega
    replace B := B.alloc (.cells #[.int .i64 0, .int .i64 1, .int .i64 (-1), .int .i64 2, .int .i64 10, .int .i64 (-9223372036854775808), .int .i64 9223372036854775807] 2)
    replace R := R.alloc (.cells #[.int .i64 0, .int .i64 1, .int .i64 (-1), .int .i64 2, .int .i64 10, .int .i64 (-9223372036854775808), .int .i64 9223372036854775807] 2)
    replace K := K.alloc (.cells #[.int .i64 0, .int .i64 1, .int .i64 (-1), .int .i64 2, .int .i64 10, .int .i64 (-9223372036854775808), .int .i64 9223372036854775807] 2)
    go_wp2_with fail
    refine (below_any 7 (by decide) (by decide) g ao n cap cs _ R).mono ?_
    rintro e w2 ⟨_, rfl, ⟨y, rfl, y0, y1⟩, R1, K1⟩
    replace B := B.kept K1 hne
    replace G := G.kept K1 hG
    replace K := K.trans K1
    clear R K1
    have R := R1
    clear R1
    obtain ⟨k, rfl⟩ := Int.eq_ofNat_of_zero_le y0
    obtain ⟨v, hv, v0, v1⟩ := pick7 G k (by omega)
    have k7 : (k : Int) < 7 := y1
    go_wp2_with fail
    refine (specOf_any v _ v0 v1).mono ?_
    rintro e w3 ⟨a3, a2, a1, a0, rfl, g3, g2, g1, g0, -, hB⟩
    replace B := B.step hB
    replace K := K.trans (Kept.of hB)
    replace R := R.step hB
    clear hB
    clear hv G
    have z0 := B.c 0 rfl; have y0 := B.f 0 rfl; have z1 := B.c 1 rfl; have y1 := B.f 1 rfl; have z2 := B.c 2 rfl; have y2 := B.f 2 rfl; have z3 := B.c 3 rfl; have y3 := B.f 3 rfl; have zl := B.lt
    go_wp2
    refine bodyPost_ret (v := .agg #[.int .u64 a3, .int .u64 a2, .int .u64 a1, .int .u64 a0]) (by simp [results, Try.results42, go_sem, z0, z1, z2, z3]) rfl ?_
    exact wide_done hg R K g3 g2 g1 g0
  · have G := Blk.new w1 [.int .u64 9223372036854775808, .int .u64 0, .int .u64 0, .int .u64 0, .int .u64 9223372036854775807, .int .u64 18446744073709551615, .int .u64 18446744073709551615, .int .u64 18446744073709551615, .int .u64 9223372036854775808, .int .u64 0, .int .u64 0, .int .u64 1, .int .u64 4611686018427387904, .int .u64 0, .int .u64 0, .int .u64 0, .int .u64 0, .int .u64 1, .int .u64 0, .int .u64 0, .int .u64 0, .int .u64 0, .int .u64 1, .int .u64 0] 26 rfl
    have hG : w1.heap.size ≠ g := by have := R.lt; omega
    replace B := B.alloc (.cells #[.int .u64 9223372036854775808, .int .u64 0, .int .u64 0, .int .u64 0, .int .u64 9223372036854775807, .int .u64 18446744073709551615, .int .u64 18446744073709551615, .int .u64 18446744073709551615, .int .u64 9223372036854775808, .int .u64 0, .int .u64 0, .int .u64 1, .int .u64 4611686018427387904, .int .u64 0, .int .u64 0, .int .u64 0, .int .u64 0, .int .u64 1, .int .u64 0, .int .u64 0, .int .u64 0, .int .u64 0, .int .u64 1, .int .u64 0] 26)
    replace R := R.alloc (.cells #[.int .u64 9223372036854775808, .int .u64 0, .int .u64 0, .int .u64 0, .int .u64 9223372036854775807, .int .u64 18446744073709551615, .int .u64 18446744073709551615, .int .u64 18446744073709551615, .int .u64 9223372036854775808, .int .u64 0, .int .u64 0, .int .u64 1, .int .u64 4611686018427387904, .int .u64 0, .int .u64 0, .int .u64 0, .int .u64 0, .int .u64 1, .int .u64 0, .int .u64 0, .int .u64 0, .int .u64 0, .int .u64 1, .int .u64 0] 26)
    replace K := K.alloc (.cells #[.int .u64 9223372036854775808, .int .u64 0, .int .u64 0, .int .u64 0, .int .u64 9223372036854775807, .int .u64 18446744073709551615, .int .u64 18446744073709551615, .int .u64 18446744073709551615, .int .u64 9223372036854775808, .int .u64 0, .int .u64 0, .int .u64 1, .int .u64 4611686018427387904, .int .u64 0, .int .u64 0, .int .u64 0, .int .u64 0, .int .u64 1, .int .u64 0, .int .u64 0, .int .u64 0, .int .u64 0, .int .u64 1, .int .u64 0] 26)
    go_wp2_with fail
    refine (below_any 6 (by decide) (by decide) g ao n cap cs _ R).mono ?_
    rintro e w2 ⟨_, rfl, ⟨y, rfl, q0, q1⟩, R1, K1⟩
    replace B := B.kept K1 hne
    replace G := G.kept K1 hG
    replace K := K.trans K1
    clear R K1
    have R := R1
    clear R1
    have z0 := B.c 0 rfl; have y0 := B.f 0 rfl; have z1 := B.c 1 rfl; have y1 := B.f 1 rfl; have z2 := B.c 2 rfl; have y2 := B.f 2 rfl; have z3 := B.c 3 rfl; have y3 := B.f 3 rfl; have zl := B.lt
    have gl := G.lt
    rcases (by omega : y = 0 ∨ y = 1 ∨ y = 2 ∨ y = 3 ∨ y = 4 ∨ y = 5) with rfl | rfl | rfl | rfl | rfl | rfl
    · have c0 := G.c 0 rfl; have c1 := G.c 1 rfl; have c2 := G.c 2 rfl; have c3 := G.c 3 rfl
      clear G
      go_wp2
      refine bodyPost_ret (v := .agg #[.int .u64 9223372036854775808, .int .u64 0, .int .u64 0, .int .u64 0]) (by simp [results, Try.results42, go_sem, z0, z1, z2, z3]) rfl ?_
      exact wide_done hg R K ⟨by decide, by decide⟩ ⟨by decide, by decide⟩ ⟨by decide, by decide⟩ ⟨by decide, by decide⟩
    · have c0 := G.c 4 rfl; have c1 := G.c 5 rfl; have c2 := G.c 6 rfl; have c3 := G.c 7 rfl
      clear G
      go_wp2
      refine bodyPost_ret (v := .agg #[.int .u64 9223372036854775807, .int .u64 18446744073709551615, .int .u64 18446744073709551615, .int .u64 18446744073709551615]) (by simp [results, Try.results42, go_sem, z0, z1, z2, z3]) rfl ?_
      exact wide_done hg R K ⟨by decide, by decide⟩ ⟨by decide, by decide⟩ ⟨by decide, by decide⟩ ⟨by decide, by decide⟩
    · have c0 := G.c 8 rfl; have c1 := G.c 9 rfl; have c2 := G.c 10 rfl; have c3 := G.c 11 rfl
      clear G
      go_wp2
      refine bodyPost_ret (v := .agg #[.int .u64 9223372036854775808, .int .u64 0, .int .u64 0, .int .u64 1]) (by simp [results, Try.results42, go_sem, z0, z1, z2, z3]) rfl ?_
      exact wide_done hg R K ⟨by decide, by decide⟩ ⟨by decide, by decide⟩ ⟨by decide, by decide⟩ ⟨by decide, by decide⟩
    · have c0 := G.c 12 rfl; have c1 := G.c 13 rfl; have c2 := G.c 14 rfl; have c3 := G.c 15 rfl
      clear G
      go_wp2
      refine bodyPost_ret (v := .agg #[.int .u64 4611686018427387904, .int .u64 0, .int .u64 0, .int .u64 0]) (by simp [results, Try.results42, go_sem, z0, z1, z2, z3]) rfl ?_
      exact wide_done hg R K ⟨by decide, by decide⟩ ⟨by decide, by decide⟩ ⟨by decide, by decide⟩ ⟨by decide, by decide⟩
    · have c0 := G.c 16 rfl; have c1 := G.c 17 rfl; have c2 := G.c 18 rfl; have c3 := G.c 19 rfl
      clear G
      go_wp2
      refine bodyPost_ret (v := .agg #[.int .u64 0, .int .u64 1, .int .u64 0, .int .u64 0]) (by simp [results, Try.results42, go_sem, z0, z1, z2, z3]) rfl ?_
      exact wide_done hg R K ⟨by decide, by decide⟩ ⟨by decide, by decide⟩ ⟨by decide, by decide⟩ ⟨by decide, by decide⟩
    · have c0 := G.c 20 rfl; have c1 := G.c 21 rfl; have c2 := G.c 22 rfl; have c3 := G.c 23 rfl
      clear G
      go_wp2
      refine bodyPost_ret (v := .agg #[.int .u64 0, .int .u64 0, .int .u64 1, .int .u64 0]) (by simp [results, Try.results42, go_sem, z0, z1, z2, z3]) rfl ?_
      exact wide_done hg R K ⟨by decide, by decide⟩ ⟨by decide, by decide⟩ ⟨by decide, by decide⟩ ⟨by decide, by decide⟩
  · go_wp2_with fail
    refine (once_any 2 (by decide) (by decide) g ao n cap cs _ R).mono ?_
    rintro e w2 ⟨_, rfl, ⟨b, rfl⟩, R1, K1⟩
    replace B := B.kept K1 hne
    replace K := K.trans K1
    clear R K1
    have R := R1
    clear R1
    have L := Rd.lit w2 (cs := #[.int .u32 1]) (e := 102) (zs := [1]) rfl rfl (by simp [maxLen])
    replace B := B.alloc (.cells #[.int .u32 1] 102)
    replace R := R.alloc (.cells #[.int .u32 1] 102)
    replace K := K.alloc (.cells #[.int .u32 1] 102)
    go_wp2_with fail
    refine (below_any 255 (by decide) (by decide) g ao n cap cs _ R).mono ?_
    rintro e w3 ⟨_, rfl, ⟨y, rfl, y0, y1⟩, R1, K1⟩
    replace B := B.kept K1 hne
    replace L := L.kept R K1
    replace K := K.trans K1
    clear R K1
    have R := R1
    clear R1
    obtain ⟨k, rfl⟩ := Int.eq_ofNat_of_zero_le y0
    go_wp2_with fail
    refine (left_any _ 1 1 k [1] _ rfl (dig_cons.2 ⟨by omega, dig_nil⟩) L (by omega) (by omega)).mono ?_
    rintro e w4 ⟨o1, n1, c1, zs1, rfl, k1, k2, k3, k4, k5, k6, hB⟩
    replace B := B.step hB
    replace K := K.trans (Kept.of hB)
    replace R := R.step hB
    clear hB L
    go_wp2_with fail
    refine (trim_any b o1 n1 c1 zs1 _ k1 k2 k4.1 k6 (by omega)).mono ?_
    rintro e w5 ⟨s2, o2, n2, c2, d2, rfl, l1, l2, l3, l4, l5, l6, l7, hB⟩
    have hv0 := val_nonneg k4.1
    have N : IsNum w5 s2 o2 n2 c2 d2 (if b then -val zs1 else val zs1) 1000 := num_of l1 l2 (by omega) l4 l5 l6 l7 (by cases b <;> simp <;> omega) (by intro hz; cases b <;> simp at hz ⊢ <;> omega)
    replace B := B.step hB
    replace K := K.trans (Kept.of hB)
    replace R := R.step hB
    clear hB k1 k2 k3 k4 k5 k6 l1 l2 l3 l4 l5 l6 l7 hv0
    go_wp2_with fail
    refine (toW_any s2 o2 n2 c2 d2 _ 1000 _ N (by omega)).mono ?_
    intro e w7 hT
    obtain ⟨a3, a2, a1, a0, b', rfl, g3, g2, g1, g0, hB⟩ := tell_words hT
    replace B := B.step hB
    replace K := K.trans (Kept.of hB)
    replace R := R.step hB
    clear hB hT N
    have z0 := B.c 0 rfl; have y0 := B.f 0 rfl; have z1 := B.c 1 rfl; have y1 := B.f 1 rfl; have z2 := B.c 2 rfl; have y2 := B.f 2 rfl; have z3 := B.c 3 rfl; have y3 := B.f 3 rfl; have zl := B.lt
    go_wp2
    refine bodyPost_ret (v := .agg #[.int .u64 a3, .int .u64 a2, .int .u64 a1, .int .u64 a0]) (by simp [results, Try.results42, go_sem, World.cell?_alloc_past, z0, z1, z2, z3, zl]) rfl ?_
    exact wide_done2 hg R K g3 g2 g1 g0
  · go_wp2_with fail
    refine (word_any g ao n cap cs _ R).mono ?_
    rintro e w2 ⟨_, rfl, ⟨a3, rfl, g3⟩, R1, K1⟩
    replace B := B.kept K1 hne
    replace K := K.trans K1
    clear R K1
    have R := R1
    clear R1
    go_wp2_with fail
    refine (word_any g ao n cap cs _ R).mono ?_
    rintro e w3 ⟨_, rfl, ⟨a2, rfl, g2⟩, R1, K1⟩
    replace B := B.kept K1 hne
    replace K := K.trans K1
    clear R K1
    have R := R1
    clear R1
    go_wp2_with fail
    refine (word_any g ao n cap cs _ R).mono ?_
    rintro e w4 ⟨_, rfl, ⟨a1, rfl, g1⟩, R1, K1⟩
    replace B := B.kept K1 hne
    replace K := K.trans K1
    clear R K1
    have R := R1
    clear R1
    go_wp2_with fail
    refine (word_any g ao n cap cs _ R).mono ?_
    rintro e w5 ⟨_, rfl, ⟨a0, rfl, g0⟩, R1, K1⟩
    replace B := B.kept K1 hne
    replace K := K.trans K1
    clear R K1
    have R := R1
    clear R1
    have z0 := B.c 0 rfl; have y0 := B.f 0 rfl; have z1 := B.c 1 rfl; have y1 := B.f 1 rfl; have z2 := B.c 2 rfl; have y2 := B.f 2 rfl; have z3 := B.c 3 rfl; have y3 := B.f 3 rfl; have zl := B.lt
    go_wp2
    refine bodyPost_ret (v := .agg #[.int .u64 a3, .int .u64 a2, .int .u64 a1, .int .u64 a0]) (by simp [results, Try.results42, go_sem, z0, z1, z2, z3]) rfl ?_
    exact wide_done hg R K g3 g2 g1 g0
  · go_wp2_with fail
    refine (word_any g ao n cap cs _ R).mono ?_
    rintro e w2 ⟨_, rfl, ⟨p, rfl, p0, p1⟩, R1, K1⟩
    replace B := B.kept K1 hne
    replace K := K.trans K1
    clear R K1
    have R := R1
    clear R1
    go_wp2_with fail
    refine (below_any 64 (by decide) (by decide) g ao n cap cs _ R).mono ?_
    rintro e w3 ⟨_, rfl, ⟨y, rfl, y0, y1⟩, R1, K1⟩
    replace B := B.kept K1 hne
    replace K := K.trans K1
    clear R K1
    have R := R1
    clear R1
    obtain ⟨k, rfl⟩ := Int.eq_ofNat_of_zero_le y0
    have hk : IntKind.u64.wrap (k : Int) = (k : Int) := by rw [IntKind.wrap_u64]; omega
    go_wp2_with fail
    refine (word_any g ao n cap cs _ R).mono ?_
    rintro e w4 ⟨_, rfl, ⟨a0, rfl, g0⟩, R1, K1⟩
    replace B := B.kept K1 hne
    replace K := K.trans K1
    clear R K1
    have R := R1
    clear R1
    have z0 := B.c 0 rfl; have y0 := B.f 0 rfl; have z1 := B.c 1 rfl; have y1 := B.f 1 rfl; have z2 := B.c 2 rfl; have y2 := B.f 2 rfl; have z3 := B.c 3 rfl; have y3 := B.f 3 rfl; have zl := B.lt
    go_wp2
    refine bodyPost_ret (v := .agg #[.int .u64 0, .int .u64 0, .int .u64 (p / 2 ^ k), .int .u64 a0]) (by simp [results, Try.results42, go_sem, z0, z1, z2, z3]) rfl ?_
    exact wide_done hg R K ⟨by decide, by decide⟩ ⟨by decide, by decide⟩ (word_div ⟨p0, p1⟩ k) g0
  · go_wp2_with fail
    refine (word_any g ao n cap cs _ R).mono ?_
    rintro e w2 ⟨_, rfl, ⟨p, rfl, p0, p1⟩, R1, K1⟩
    replace B := B.kept K1 hne
    replace K := K.trans K1
    clear R K1
    have R := R1
    clear R1
    go_wp2_with fail
    refine (int_any (wrap64 p) _ (by unfold wrap64; omega) (by unfold wrap64; omega)).mono ?_
    rintro e w3 ⟨s1, o1, n1, c1, d1, rfl, N1, hB⟩
    replace B := B.step hB
    replace K := K.trans (Kept.of hB)
    replace R := R.step hB
    clear hB
    go_wp2_with fail
    refine (word_any g ao n cap cs _ R).mono ?_
    rintro e w4 ⟨_, rfl, ⟨q, rfl, q0, q1⟩, R1, K1⟩
    replace B := B.kept K1 hne
    replace N1 := N1.kept R K1
    replace K := K.trans K1
    clear R K1
    have R := R1
    clear R1
    go_wp2_with fail
    refine (int_any (wrap64 q) _ (by unfold wrap64; omega) (by unfold wrap64; omega)).mono ?_
    rintro e w5 ⟨s2, o2, n2, c2, d2, rfl, N2, hB⟩
    replace B := B.step hB
    replace N1 := N1.below hB
    replace K := K.trans (Kept.of hB)
    replace R := R.step hB
    clear hB
    go_wp2_with fail
    refine (mul_any s1 s2 o1 o2 n1 n2 c1 c2 2 d1 d2 _ _ _ N1 N2 (by omega)).mono ?_
    rintro e w6 ⟨s3, o3, n3, c3, d3, rfl, N3, hB⟩
    replace B := B.step hB
    replace K := K.trans (Kept.of hB)
    replace R := R.step hB
    clear hB
    go_wp2_with fail
    refine (toW_any s3 o3 n3 c3 d3 _ (2 + 2) _ N3 (by omega)).mono ?_
    intro e w7 hT
    obtain ⟨a3, a2, a1, a0, b, rfl, g3, g2, g1, g0, hB⟩ := tell_words hT
    replace B := B.step hB
    replace K := K.trans (Kept.of hB)
    replace R := R.step hB
    clear hB hT N1 N2 N3
    have z0 := B.c 0 rfl; have y0 := B.f 0 rfl; have z1 := B.c 1 rfl; have y1 := B.f 1 rfl; have z2 := B.c 2 rfl; have y2 := B.f 2 rfl; have z3 := B.c 3 rfl; have y3 := B.f 3 rfl; have zl := B.lt
    go_wp2
    refine bodyPost_ret (v := .agg #[.int .u64 a3, .int .u64 a2, .int .u64 a1, .int .u64 a0]) (by simp [results, Try.results42, go_sem, World.cell?_alloc_past, z0, z1, z2, z3, zl]) rfl ?_
    exact wide_done2 hg R K g3 g2 g1 g0
  · have e0 : (x == 0) = false := by rw [beq_eq_false_iff_ne]; omega
    have e1 : (x == 1) = false := by rw [beq_eq_false_iff_ne]; omega
    have e2 : (x == 2) = false := by rw [beq_eq_false_iff_ne]; omega
    have e3 : (x == 3) = false := by rw [beq_eq_false_iff_ne]; omega
    have e4 : (x == 4) = false := by rw [beq_eq_false_iff_ne]; omega
    have e5 : (x == 5) = false := by rw [beq_eq_false_iff_ne]; omega
    clear hx
    go_wp2_with fail
    refine (near_any g ao n cap cs _ R).mono ?_
    rintro e w2 ⟨_, rfl, ⟨y, rfl, y0, y1⟩, R1, K1⟩
    replace B := B.kept K1 hne
    replace K := K.trans K1
    clear R K1
    have R := R1
    clear R1
    go_wp2_with fail
    refine (specOf_any y _ (by omega) (by omega)).mono ?_
    rintro e w3 ⟨a3, a2, a1, a0, rfl, g3, g2, g1, g0, -, hB⟩
    replace B := B.step hB
    replace K := K.trans (Kept.of hB)
    replace R := R.step hB
    clear hB
    have z0 := B.c 0 rfl; have y0 := B.f 0 rfl; have z1 := B.c 1 rfl; have y1 := B.f 1 rfl; have z2 := B.c 2 rfl; have y2 := B.f 2 rfl; have z3 := B.c 3 rfl; have y3 := B.f 3 rfl; have zl := B.lt
    go_wp2
    refine bodyPost_ret (v := .agg #[.int .u64 a3, .int .u64 a2, .int .u64 a1, .int .u64 a0]) (by simp [results, Try.results42, go_sem, z0, z1, z2, z3]) rfl ?_
    exact wide_done hg R K g3 g2 g1 g0
end Go.Proofs.Ytgeaklaocifhcaa

/- Two numbers drawn from a code: the walks. -/
namespace Go.Proofs.Ytgeaklaocifhcaa
open Go.RowKit
/-- The code as it lies: so many bytes. -/
structure Code (w : World) (ao : Option Addr) (n : Nat) (cs : List Int) : Prop where
  bytes : ∀ i, (h : i < cs.length) → ∃ b off, ao = some ⟨b, off, none⟩ ∧ b < w.heap.size ∧ w.cell? ⟨b, off + i, none⟩ = some (.int .u8 cs[i])
  len : cs.length = n
  small : n ≤ 1048576
  byte : ∀ c ∈ cs, 0 ≤ c ∧ c < 256
theorem Code.below {w w' : World} {ao : Option Addr} {n : Nat} {cs : List Int} (h : Code w ao n cs) (hB : Below w.heap.size w w') : Code w' ao n cs := by
  refine ⟨fun i hi => ?_, h.len, h.small, h.byte⟩
  obtain ⟨b, off, e, hb, hc⟩ := h.bytes i hi
  exact ⟨b, off, e, Nat.lt_of_lt_of_le hb hB.size, (hB.cell (p := ⟨b, off + i, none⟩) hb).trans hc⟩
def OpenP (ao : Option Addr) (n cap : Nat) (cs : List Int) (w : World) (e : Ending) (w' : World) : Prop := ∃ G, e = .returned (.pointer (some ⟨G, 0, none⟩)) ∧ w.heap.size ≤ G ∧ Rdr w' G ao n cap cs ∧ Below w.heap.size w w'
theorem open_any (ao : Option Addr) (n cap : Nat) (cs : List Int) (w : World) (h : Code w ao n cs) :
    Calls Try.prog 20 #[.slice ao n cap] w (OpenP ao n cap cs w) := by
  go_enter Try.func20, Try.ntmps20
  go_wp2
  go_ret
  refine ⟨w.heap.size, rfl, Nat.le_refl _, ⟨⟨0, Nat.zero_le _, Blk.new w [.slice ao n cap, .int .i64 0] 75 rfl⟩, fun i hi => ?_, h.len, h.small, h.byte⟩, (Below.refl _ _).alloc (Nat.le_refl _) _⟩
  obtain ⟨b, off, e, hb, hc⟩ := h.bytes i hi
  exact ⟨b, off, e, hb, cell_alloc hb hc⟩
end Go.Proofs.Ytgeaklaocifhcaa
