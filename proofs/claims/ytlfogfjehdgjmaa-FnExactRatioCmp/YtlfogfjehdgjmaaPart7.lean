/- Part 7 of the walks that the proof leans on. -/
import Derived.Test.YtlfogfjehdgjmaaPart6
import Derived.Test.YtlfogfjehdgjmaaPart3
import Derived.Deep.DeepCutAuto
import Derived.Test.YtlfogfjehdgjmaaPart1
import Derived.Test.YtlfogfjehdgjmaaRows
import Derived.ProofKit
import Derived.Lib.SmallJoins
/- Fractions in their order: the model's walks. -/
namespace Go.Proofs.Ytlfogfjehdgjmaa
open Go.RowKit
theorem lc_cells {s1 s2 s3 s4 : Bool} {o1 o2 o3 o4 : Option Addr} {n1 n2 n3 n4 c1 c2 c3 c4 : Nat} {w W : World} (h : ArgsB w W [[.bool s1, .slice o1 n1 c1, .bool s2, .slice o2 n2 c2], [.bool s3, .slice o3 n3 c3, .bool s4, .slice o4 n4 c4]]) : (fun w' => w'.cell? ⟨w.heap.size, 0, none⟩ = some (.bool s1) ∧ w'.cell? ⟨w.heap.size, 1, none⟩ = some (.slice o1 n1 c1) ∧ w'.cell? ⟨w.heap.size, 2, none⟩ = some (.bool s2) ∧ w'.cell? ⟨w.heap.size, 3, none⟩ = some (.slice o2 n2 c2) ∧ w'.cell? ⟨w.heap.size + 1, 0, none⟩ = some (.bool s3) ∧ w'.cell? ⟨w.heap.size + 1, 1, none⟩ = some (.slice o3 n3 c3) ∧ w'.cell? ⟨w.heap.size + 1, 2, none⟩ = some (.bool s4) ∧ w'.cell? ⟨w.heap.size + 1, 3, none⟩ = some (.slice o4 n4 c4)) W :=
  ⟨(h.b 0 rfl).c 0 rfl, (h.b 0 rfl).c 1 rfl, (h.b 0 rfl).c 2 rfl, (h.b 0 rfl).c 3 rfl, (h.b 1 rfl).c 0 rfl, (h.b 1 rfl).c 1 rfl, (h.b 1 rfl).c 2 rfl, (h.b 1 rfl).c 3 rfl⟩
set_option maxRecDepth 100000 in
set_option maxHeartbeats 2000000 in
theorem l2Cmp_any (s1 : Bool) (o1 : Option Addr) (n1 c1 : Nat) (ds1 : List Int) (s2 : Bool) (o2 : Option Addr) (n2 c2 : Nat) (ds2 : List Int) (s3 : Bool) (o3 : Option Addr) (n3 c3 : Nat) (ds3 : List Int) (s4 : Bool) (o4 : Option Addr) (n4 c4 : Nat) (ds4 : List Int) (x y u v : Int) (w : World) (N1 : IsNum w s1 o1 n1 c1 ds1 x 8) (N2 : IsNum w s2 o2 n2 c2 ds2 y 8) (N3 : IsNum w s3 o3 n3 c3 ds3 u 8) (N4 : IsNum w s4 o4 n4 c4 ds4 v 8) :
    Calls Try.prog 51 #[.agg #[.bool s1, .slice o1 n1 c1, .bool s2, .slice o2 n2 c2], .agg #[.bool s3, .slice o3 n3 c3, .bool s4, .slice o4 n4 c4]] w (IntP (cmpI (x * v) (u * y)) w) := by
  have T0 : ArgsB w ((w.alloc (.cells #[.bool s1, .slice o1 n1 c1, .bool s2, .slice o2 n2 c2] 80)).alloc (.cells #[.bool s3, .slice o3 n3 c3, .bool s4, .slice o4 n4 c4] 80)) [[.bool s1, .slice o1 n1 c1, .bool s2, .slice o2 n2 c2], [.bool s3, .slice o3 n3 c3, .bool s4, .slice o4 n4 c4]] := by
    refine ⟨((Below.refl _ _).alloc (Nat.le_refl _) _).alloc (by simp) _, fun j vs hj => ?_⟩
    match j, hj with
    | 0, hj => cases hj; exact (Blk.new w [.bool s1, .slice o1 n1 c1, .bool s2, .slice o2 n2 c2] 80 rfl).alloc _
    | 1, hj => cases hj; exact Blk.new (w.alloc (.cells #[.bool s1, .slice o1 n1 c1, .bool s2, .slice o2 n2 c2] 80)) [.bool s3, .slice o3 n3 c3, .bool s4, .slice o4 n4 c4] 80 (by simp)
    | j + 2, hj => simp at hj
  replace N1 := N1.below T0.below
  replace N2 := N2.below T0.below
  replace N3 := N3.below T0.below
  replace N4 := N4.below T0.below
  replace N1 := N1.drew
  replace N2 := N2.drew
  replace N3 := N3.drew
  replace N4 := N4.drew
  replace T0 := T0.drew
  have tok1 : True := trivial
  go_enter Try.func51, Try.ntmps51
  go_wp2_with fail
  generalize ((w.alloc (.cells #[.bool s1, .slice o1 n1 c1, .bool s2, .slice o2 n2 c2] 80)).alloc (.cells #[.bool s3, .slice o3 n3 c3, .bool s4, .slice o4 n4 c4] 80)) = W at *
  go_region_held3 (fun w' => w'.cell? ⟨w.heap.size, 0, none⟩ = some (.bool s1) ∧ w'.cell? ⟨w.heap.size, 1, none⟩ = some (.slice o1 n1 c1) ∧ w'.cell? ⟨w.heap.size, 2, none⟩ = some (.bool s2) ∧ w'.cell? ⟨w.heap.size, 3, none⟩ = some (.slice o2 n2 c2) ∧ w'.cell? ⟨w.heap.size + 1, 0, none⟩ = some (.bool s3) ∧ w'.cell? ⟨w.heap.size + 1, 1, none⟩ = some (.slice o3 n3 c3) ∧ w'.cell? ⟨w.heap.size + 1, 2, none⟩ = some (.bool s4) ∧ w'.cell? ⟨w.heap.size + 1, 3, none⟩ = some (.slice o4 n4 c4)) (first | (with_reducible exact lc_cells T0) | (with_reducible exact lc_cells T0.drew))
    (first
      | (go_at_call 88; have _t := tok1; refine (mul_any s1 s4 o1 o4 n1 n4 c1 c4 8 ds1 ds4 _ _ _ N1 N4 (by omega)).mono ?_; rintro e w1 ⟨s5, o5, n5, c5, ds5, rfl, N5, hB⟩; (first | (have T1 : ArgsB w w1 [[.bool s1, .slice o1 n1 c1, .bool s2, .slice o2 n2 c2], [.bool s3, .slice o3 n3 c3, .bool s4, .slice o4 n4 c4]] := (by with_reducible exact T0.step hB); replace N2 := N2.below hB; replace N3 := N3.below hB) | (have T1 : ArgsB w w1 [[.bool s1, .slice o1 n1 c1, .bool s2, .slice o2 n2 c2], [.bool s3, .slice o3 n3 c3, .bool s4, .slice o4 n4 c4]] := (by with_reducible exact T0.drew.step hB); replace N2 := N2.drew.below hB; replace N3 := N3.drew.below hB)); clear T0; have T0 := T1; clear T1; clear hB tok1 _t N1 N4)
      | (go_at_call 88; refine (mul_any s3 s2 o3 o2 n3 n2 c3 c2 8 ds3 ds2 _ _ _ N3 N2 (by omega)).mono ?_; rintro e w2 ⟨s6, o6, n6, c6, ds6, rfl, N6, hB⟩; (first | (have T1 : ArgsB w w2 [[.bool s1, .slice o1 n1 c1, .bool s2, .slice o2 n2 c2], [.bool s3, .slice o3 n3 c3, .bool s4, .slice o4 n4 c4]] := (by with_reducible exact T0.step hB); replace N5 := N5.below hB) | (have T1 : ArgsB w w2 [[.bool s1, .slice o1 n1 c1, .bool s2, .slice o2 n2 c2], [.bool s3, .slice o3 n3 c3, .bool s4, .slice o4 n4 c4]] := (by with_reducible exact T0.drew.step hB); replace N5 := N5.drew.below hB)); clear T0; have T0 := T1; clear T1; clear hB N2 N3)
      | (go_at_call 85; refine (cmp_any s5 s6 o5 o6 n5 n6 c5 c6 (8 + 8) ds5 ds6 _ _ _ N5 N6 (by omega)).mono ?_; rintro e w3 ⟨rfl, hB⟩; (first | (have T1 : ArgsB w w3 [[.bool s1, .slice o1 n1 c1, .bool s2, .slice o2 n2 c2], [.bool s3, .slice o3 n3 c3, .bool s4, .slice o4 n4 c4]] := (by with_reducible exact T0.step hB)) | (have T1 : ArgsB w w3 [[.bool s1, .slice o1 n1 c1, .bool s2, .slice o2 n2 c2], [.bool s3, .slice o3 n3 c3, .bool s4, .slice o4 n4 c4]] := (by with_reducible exact T0.drew.step hB))); clear T0; have T0 := T1; clear T1; clear hB N5 N6))
  all_goals have HB := T0.below
  all_goals clear T0
  all_goals go_wp2
  all_goals go_ret
  all_goals exact ⟨by simp, by first | exact HB | exact HB.drew⟩
set_option maxRecDepth 100000 in
set_option maxHeartbeats 2000000 in
theorem specRatioCmp_any (a3 a2 a1 a0 b3 b2 b1 b0 c3 c2 c1 c0 d3 d2 d1 d0 : Int) (ha3 : Word a3) (ha2 : Word a2) (ha1 : Word a1) (ha0 : Word a0) (hb3 : Word b3) (hb2 : Word b2) (hb1 : Word b1) (hb0 : Word b0) (hc3 : Word c3) (hc2 : Word c2) (hc1 : Word c1) (hc0 : Word c0) (hd3 : Word d3) (hd2 : Word d2) (hd1 : Word d1) (hd0 : Word d0) (w : World) : Calls Try.prog 19 #[Rt a3 a2 a1 a0 b3 b2 b1 b0, Rt c3 c2 c1 c0 d3 d2 d1 d0] w (IntB (ratCmp (sw a3 a2 a1 a0) (sw b3 b2 b1 b0) (sw c3 c2 c1 c0) (sw d3 d2 d1 d0)) w) := by
  have T0 := rc_args a3 a2 a1 a0 b3 b2 b1 b0 c3 c2 c1 c0 d3 d2 d1 d0 38 w
  have RA := specRatioOk_any a3 a2 a1 a0 b3 b2 b1 b0 ha3 ha2 ha1 ha0 hb3 hb2 hb1 hb0
  have RB := specRatioOk_any c3 c2 c1 c0 d3 d2 d1 d0 hc3 hc2 hc1 hc0 hd3 hd2 hd1 hd0
  have O1 := l2Of_any a3 a2 a1 a0 b3 b2 b1 b0 ha3 ha2 ha1 ha0 hb3 hb2 hb1 hb0
  have O2 := l2Of_any c3 c2 c1 c0 d3 d2 d1 d0 hc3 hc2 hc1 hc0 hd3 hd2 hd1 hd0
  clear ha3 ha2 ha1 ha0 hb3 hb2 hb1 hb0 hc3 hc2 hc1 hc0 hd3 hd2 hd1 hd0
  generalize sw a3 a2 a1 a0 = x at *
  generalize sw b3 b2 b1 b0 = y at *
  generalize sw c3 c2 c1 c0 = u at *
  generalize sw d3 d2 d1 d0 = v at *
  obtain ⟨ra, hra⟩ : ∃ b, rightB x y = b := ⟨_, rfl⟩
  obtain ⟨rb, hrb⟩ : ∃ b, rightB u v = b := ⟨_, rfl⟩
  rw [hra] at RA
  rw [hrb] at RB
  have tok1 : True := trivial
  go_enter Try.func19, Try.ntmps19
  go_wp2_with fail
  generalize ((w.alloc (.cells #[.int .u64 a3, .int .u64 a2, .int .u64 a1, .int .u64 a0, .int .u64 b3, .int .u64 b2, .int .u64 b1, .int .u64 b0] 38)).alloc (.cells #[.int .u64 c3, .int .u64 c2, .int .u64 c1, .int .u64 c0, .int .u64 d3, .int .u64 d2, .int .u64 d1, .int .u64 d0] 38)) = W at *
  refine (RA _).mono ?_
  rintro e w1 ⟨rfl, hB⟩
  replace T0 := T0.step hB
  clear hB RA
  cases ra
  · have HR : Hid (ratCmp x y u v = (0, false)) := ratCmp_no1 hra
    have HB := T0.below
    clear T0 RB O1 O2
    go_wp2
    go_ret2
    exact ⟨by rw [HR.out]; simp, HB⟩
  · have x0 := (T0.b 0 rfl).c 0 rfl; have y0 := (T0.b 1 rfl).c 0 rfl; have x1 := (T0.b 0 rfl).c 1 rfl; have y1 := (T0.b 1 rfl).c 1 rfl; have x2 := (T0.b 0 rfl).c 2 rfl; have y2 := (T0.b 1 rfl).c 2 rfl; have x3 := (T0.b 0 rfl).c 3 rfl; have y3 := (T0.b 1 rfl).c 3 rfl; have x4 := (T0.b 0 rfl).c 4 rfl; have y4 := (T0.b 1 rfl).c 4 rfl; have x5 := (T0.b 0 rfl).c 5 rfl; have y5 := (T0.b 1 rfl).c 5 rfl; have x6 := (T0.b 0 rfl).c 6 rfl; have y6 := (T0.b 1 rfl).c 6 rfl; have x7 := (T0.b 0 rfl).c 7 rfl; have y7 := (T0.b 1 rfl).c 7 rfl
    go_wp2_with fail
    refine (RB _).mono ?_
    rintro e w2 ⟨rfl, hB⟩
    replace T0 := T0.step hB
    clear hB RB x0 y0 x1 y1 x2 y2 x3 y3 x4 y4 x5 y5 x6 y6 x7 y7
    cases rb
    · have HR : Hid (ratCmp x y u v = (0, false)) := ratCmp_no2 hrb
      have HB := T0.below
      clear T0 O1 O2
      go_wp2
      go_ret2
      exact ⟨by rw [HR.out]; simp, HB⟩
    · have HR : Hid (ratCmp x y u v = (cmpI (x * v) (u * y), true)) := ratCmp_yes hra hrb
      clear hra hrb
      go_upto_region 3 with fail
      go_region_held3 (fun w' => w'.cell? ⟨w.heap.size, 0, none⟩ = some (.int .u64 a3) ∧ w'.cell? ⟨w.heap.size, 1, none⟩ = some (.int .u64 a2) ∧ w'.cell? ⟨w.heap.size, 2, none⟩ = some (.int .u64 a1) ∧ w'.cell? ⟨w.heap.size, 3, none⟩ = some (.int .u64 a0) ∧ w'.cell? ⟨w.heap.size, 4, none⟩ = some (.int .u64 b3) ∧ w'.cell? ⟨w.heap.size, 5, none⟩ = some (.int .u64 b2) ∧ w'.cell? ⟨w.heap.size, 6, none⟩ = some (.int .u64 b1) ∧ w'.cell? ⟨w.heap.size, 7, none⟩ = some (.int .u64 b0) ∧ w'.cell? ⟨w.heap.size + 1, 0, none⟩ = some (.int .u64 c3) ∧ w'.cell? ⟨w.heap.size + 1, 1, none⟩ = some (.int .u64 c2) ∧ w'.cell? ⟨w.heap.size + 1, 2, none⟩ = some (.int .u64 c1) ∧ w'.cell? ⟨w.heap.size + 1, 3, none⟩ = some (.int .u64 c0) ∧ w'.cell? ⟨w.heap.size + 1, 4, none⟩ = some (.int .u64 d3) ∧ w'.cell? ⟨w.heap.size + 1, 5, none⟩ = some (.int .u64 d2) ∧ w'.cell? ⟨w.heap.size + 1, 6, none⟩ = some (.int .u64 d1) ∧ w'.cell? ⟨w.heap.size + 1, 7, none⟩ = some (.int .u64 d0)) (first | (with_reducible exact rc_cells T0) | (with_reducible exact rc_cells T0.drew))
        (first
          | (go_at_call 52; have _t := tok1; refine (O1 _).mono ?_; rintro e w3 ⟨s1, o1, n1, e1, ds1, s2, o2, n2, e2, ds2, rfl, N1, N2, hB⟩; (first | (have T1 : ArgsB w w3 [[.int .u64 a3, .int .u64 a2, .int .u64 a1, .int .u64 a0, .int .u64 b3, .int .u64 b2, .int .u64 b1, .int .u64 b0], [.int .u64 c3, .int .u64 c2, .int .u64 c1, .int .u64 c0, .int .u64 d3, .int .u64 d2, .int .u64 d1, .int .u64 d0]] := (by with_reducible exact T0.step hB)) | (have T1 : ArgsB w w3 [[.int .u64 a3, .int .u64 a2, .int .u64 a1, .int .u64 a0, .int .u64 b3, .int .u64 b2, .int .u64 b1, .int .u64 b0], [.int .u64 c3, .int .u64 c2, .int .u64 c1, .int .u64 c0, .int .u64 d3, .int .u64 d2, .int .u64 d1, .int .u64 d0]] := (by with_reducible exact T0.drew.step hB))); clear T0; have T0 := T1; clear T1; clear hB tok1 _t)
          | (go_at_call 52; refine (O2 _).mono ?_; rintro e w4 ⟨s3, o3, n3, e3, ds3, s4, o4, n4, e4, ds4, rfl, N3, N4, hB⟩; (first | (have T1 : ArgsB w w4 [[.int .u64 a3, .int .u64 a2, .int .u64 a1, .int .u64 a0, .int .u64 b3, .int .u64 b2, .int .u64 b1, .int .u64 b0], [.int .u64 c3, .int .u64 c2, .int .u64 c1, .int .u64 c0, .int .u64 d3, .int .u64 d2, .int .u64 d1, .int .u64 d0]] := (by with_reducible exact T0.step hB); replace N1 := N1.below hB; replace N2 := N2.below hB) | (have T1 : ArgsB w w4 [[.int .u64 a3, .int .u64 a2, .int .u64 a1, .int .u64 a0, .int .u64 b3, .int .u64 b2, .int .u64 b1, .int .u64 b0], [.int .u64 c3, .int .u64 c2, .int .u64 c1, .int .u64 c0, .int .u64 d3, .int .u64 d2, .int .u64 d1, .int .u64 d0]] := (by with_reducible exact T0.drew.step hB); replace N1 := N1.drew.below hB; replace N2 := N2.drew.below hB)); clear T0; have T0 := T1; clear T1; clear hB)
          | (go_at_call 51; refine (l2Cmp_any s1 o1 n1 e1 ds1 s2 o2 n2 e2 ds2 s3 o3 n3 e3 ds3 s4 o4 n4 e4 ds4 x y u v _ N1 N2 N3 N4).mono ?_; rintro e w5 ⟨rfl, hB⟩; (first | (have T1 : ArgsB w w5 [[.int .u64 a3, .int .u64 a2, .int .u64 a1, .int .u64 a0, .int .u64 b3, .int .u64 b2, .int .u64 b1, .int .u64 b0], [.int .u64 c3, .int .u64 c2, .int .u64 c1, .int .u64 c0, .int .u64 d3, .int .u64 d2, .int .u64 d1, .int .u64 d0]] := (by with_reducible exact T0.step hB)) | (have T1 : ArgsB w w5 [[.int .u64 a3, .int .u64 a2, .int .u64 a1, .int .u64 a0, .int .u64 b3, .int .u64 b2, .int .u64 b1, .int .u64 b0], [.int .u64 c3, .int .u64 c2, .int .u64 c1, .int .u64 c0, .int .u64 d3, .int .u64 d2, .int .u64 d1, .int .u64 d0]] := (by with_reducible exact T0.drew.step hB))); clear T0; have T0 := T1; clear T1; clear hB N1 N2 N3 N4))
      all_goals have HB := T0.below
      all_goals clear T0
      all_goals go_wp2
      all_goals go_ret2
      all_goals exact ⟨by rw [HR.out]; simp, by first | exact HB | exact HB.drew⟩
end Go.Proofs.Ytlfogfjehdgjmaa

/- The law on the order of two fractions. -/
namespace Go.Proofs.Ytlfogfjehdgjmaa
open Go.RowKit
set_option maxRecDepth 100000 in
set_option maxHeartbeats 2000000 in
theorem lawRatioCmp_any (a3 a2 a1 a0 b3 b2 b1 b0 c3 c2 c1 c0 d3 d2 d1 d0 : Int) (ha3 : Word a3) (ha2 : Word a2) (ha1 : Word a1) (ha0 : Word a0) (hb3 : Word b3) (hb2 : Word b2) (hb1 : Word b1) (hb0 : Word b0) (hc3 : Word c3) (hc2 : Word c2) (hc1 : Word c1) (hc0 : Word c0) (hd3 : Word d3) (hd2 : Word d2) (hd1 : Word d1) (hd0 : Word d0) (w : World) : Calls Try.prog 4 #[Rt a3 a2 a1 a0 b3 b2 b1 b0, Rt c3 c2 c1 c0 d3 d2 d1 d0] w (BoolP true w) := by
  have T0 := rc_args a3 a2 a1 a0 b3 b2 b1 b0 c3 c2 c1 c0 d3 d2 d1 d0 33 w
  have SP := specRatioCmp_any a3 a2 a1 a0 b3 b2 b1 b0 c3 c2 c1 c0 d3 d2 d1 d0 ha3 ha2 ha1 ha0 hb3 hb2 hb1 hb0 hc3 hc2 hc1 hc0 hd3 hd2 hd1 hd0
  have IM := implRatioCmp_any a3 a2 a1 a0 b3 b2 b1 b0 c3 c2 c1 c0 d3 d2 d1 d0 ha3 ha2 ha1 ha0 hb3 hb2 hb1 hb0 hc3 hc2 hc1 hc0 hd3 hd2 hd1 hd0
  obtain ⟨z, hz⟩ : ∃ z, ratCmp (sw a3 a2 a1 a0) (sw b3 b2 b1 b0) (sw c3 c2 c1 c0) (sw d3 d2 d1 d0) = z := ⟨_, rfl⟩
  rw [hz] at SP IM
  obtain ⟨z1, z2⟩ := z
  clear hz ha3 ha2 ha1 ha0 hb3 hb2 hb1 hb0 hc3 hc2 hc1 hc0 hd3 hd2 hd1 hd0
  have tok1 : True := trivial
  have tok2 : True := trivial
  go_enter Try.func4, Try.ntmps4
  go_upto_region 1 with fail
  generalize ((w.alloc (.cells #[.int .u64 a3, .int .u64 a2, .int .u64 a1, .int .u64 a0, .int .u64 b3, .int .u64 b2, .int .u64 b1, .int .u64 b0] 33)).alloc (.cells #[.int .u64 c3, .int .u64 c2, .int .u64 c1, .int .u64 c0, .int .u64 d3, .int .u64 d2, .int .u64 d1, .int .u64 d0] 33)) = W at *
  go_cut [5, 6] (fun p q wx => p = .int .i64 z1 ∧ q = .bool z2 ∧ ArgsB w wx [[.int .u64 a3, .int .u64 a2, .int .u64 a1, .int .u64 a0, .int .u64 b3, .int .u64 b2, .int .u64 b1, .int .u64 b0], [.int .u64 c3, .int .u64 c2, .int .u64 c1, .int .u64 c0, .int .u64 d3, .int .u64 d2, .int .u64 d1, .int .u64 d0]])
  case first =>
    go_region_held3 (fun w' => w'.cell? ⟨w.heap.size, 0, none⟩ = some (.int .u64 a3) ∧ w'.cell? ⟨w.heap.size, 1, none⟩ = some (.int .u64 a2) ∧ w'.cell? ⟨w.heap.size, 2, none⟩ = some (.int .u64 a1) ∧ w'.cell? ⟨w.heap.size, 3, none⟩ = some (.int .u64 a0) ∧ w'.cell? ⟨w.heap.size, 4, none⟩ = some (.int .u64 b3) ∧ w'.cell? ⟨w.heap.size, 5, none⟩ = some (.int .u64 b2) ∧ w'.cell? ⟨w.heap.size, 6, none⟩ = some (.int .u64 b1) ∧ w'.cell? ⟨w.heap.size, 7, none⟩ = some (.int .u64 b0) ∧ w'.cell? ⟨w.heap.size + 1, 0, none⟩ = some (.int .u64 c3) ∧ w'.cell? ⟨w.heap.size + 1, 1, none⟩ = some (.int .u64 c2) ∧ w'.cell? ⟨w.heap.size + 1, 2, none⟩ = some (.int .u64 c1) ∧ w'.cell? ⟨w.heap.size + 1, 3, none⟩ = some (.int .u64 c0) ∧ w'.cell? ⟨w.heap.size + 1, 4, none⟩ = some (.int .u64 d3) ∧ w'.cell? ⟨w.heap.size + 1, 5, none⟩ = some (.int .u64 d2) ∧ w'.cell? ⟨w.heap.size + 1, 6, none⟩ = some (.int .u64 d1) ∧ w'.cell? ⟨w.heap.size + 1, 7, none⟩ = some (.int .u64 d0)) (first | (with_reducible exact rc_cells T0) | (with_reducible exact rc_cells T0.drew))
      (first
        | (go_at_call 20; have _t := tok1; refine (toRatio_any a3 a2 a1 a0 b3 b2 b1 b0 _).mono ?_; rintro e w1 ⟨rfl, hB⟩; (first | (have T1 : ArgsB w w1 [[.int .u64 a3, .int .u64 a2, .int .u64 a1, .int .u64 a0, .int .u64 b3, .int .u64 b2, .int .u64 b1, .int .u64 b0], [.int .u64 c3, .int .u64 c2, .int .u64 c1, .int .u64 c0, .int .u64 d3, .int .u64 d2, .int .u64 d1, .int .u64 d0]] := (by with_reducible exact T0.step hB)) | (have T1 : ArgsB w w1 [[.int .u64 a3, .int .u64 a2, .int .u64 a1, .int .u64 a0, .int .u64 b3, .int .u64 b2, .int .u64 b1, .int .u64 b0], [.int .u64 c3, .int .u64 c2, .int .u64 c1, .int .u64 c0, .int .u64 d3, .int .u64 d2, .int .u64 d1, .int .u64 d0]] := (by with_reducible exact T0.drew.step hB))); clear T0; have T0 := T1; clear T1; clear hB tok1 _t)
        | (go_at_call 20; refine (toRatio_any c3 c2 c1 c0 d3 d2 d1 d0 _).mono ?_; rintro e w2 ⟨rfl, hB⟩; (first | (have T1 : ArgsB w w2 [[.int .u64 a3, .int .u64 a2, .int .u64 a1, .int .u64 a0, .int .u64 b3, .int .u64 b2, .int .u64 b1, .int .u64 b0], [.int .u64 c3, .int .u64 c2, .int .u64 c1, .int .u64 c0, .int .u64 d3, .int .u64 d2, .int .u64 d1, .int .u64 d0]] := (by with_reducible exact T0.step hB)) | (have T1 : ArgsB w w2 [[.int .u64 a3, .int .u64 a2, .int .u64 a1, .int .u64 a0, .int .u64 b3, .int .u64 b2, .int .u64 b1, .int .u64 b0], [.int .u64 c3, .int .u64 c2, .int .u64 c1, .int .u64 c0, .int .u64 d3, .int .u64 d2, .int .u64 d1, .int .u64 d0]] := (by with_reducible exact T0.drew.step hB))); clear T0; have T0 := T1; clear T1; clear hB)
        | (go_at_call 19; refine (SP _).mono ?_; rintro e w3 ⟨rfl, hB⟩; (first | (have T1 : ArgsB w w3 [[.int .u64 a3, .int .u64 a2, .int .u64 a1, .int .u64 a0, .int .u64 b3, .int .u64 b2, .int .u64 b1, .int .u64 b0], [.int .u64 c3, .int .u64 c2, .int .u64 c1, .int .u64 c0, .int .u64 d3, .int .u64 d2, .int .u64 d1, .int .u64 d0]] := (by with_reducible exact T0.step hB)) | (have T1 : ArgsB w w3 [[.int .u64 a3, .int .u64 a2, .int .u64 a1, .int .u64 a0, .int .u64 b3, .int .u64 b2, .int .u64 b1, .int .u64 b0], [.int .u64 c3, .int .u64 c2, .int .u64 c1, .int .u64 c0, .int .u64 d3, .int .u64 d2, .int .u64 d1, .int .u64 d0]] := (by with_reducible exact T0.drew.step hB))); clear T0; have T0 := T1; clear T1; clear hB))
    all_goals go_wp2_with fail
    all_goals go_meet
    all_goals first | exact ⟨rfl, rfl, T0⟩ | exact ⟨rfl, rfl, T0.drew⟩
  case rest =>
    clear T0 tok1 SP
    obtain ⟨rfl, rfl, T0⟩ := hcut
    go_upto_region 2 with fail
    go_cut [7, 8] (fun p q wx => p = .int .i64 z1 ∧ q = .bool z2 ∧ ArgsB w wx [[.int .u64 a3, .int .u64 a2, .int .u64 a1, .int .u64 a0, .int .u64 b3, .int .u64 b2, .int .u64 b1, .int .u64 b0], [.int .u64 c3, .int .u64 c2, .int .u64 c1, .int .u64 c0, .int .u64 d3, .int .u64 d2, .int .u64 d1, .int .u64 d0]])
    case first =>
      go_region_held3 (fun w' => w'.cell? ⟨w.heap.size, 0, none⟩ = some (.int .u64 a3) ∧ w'.cell? ⟨w.heap.size, 1, none⟩ = some (.int .u64 a2) ∧ w'.cell? ⟨w.heap.size, 2, none⟩ = some (.int .u64 a1) ∧ w'.cell? ⟨w.heap.size, 3, none⟩ = some (.int .u64 a0) ∧ w'.cell? ⟨w.heap.size, 4, none⟩ = some (.int .u64 b3) ∧ w'.cell? ⟨w.heap.size, 5, none⟩ = some (.int .u64 b2) ∧ w'.cell? ⟨w.heap.size, 6, none⟩ = some (.int .u64 b1) ∧ w'.cell? ⟨w.heap.size, 7, none⟩ = some (.int .u64 b0) ∧ w'.cell? ⟨w.heap.size + 1, 0, none⟩ = some (.int .u64 c3) ∧ w'.cell? ⟨w.heap.size + 1, 1, none⟩ = some (.int .u64 c2) ∧ w'.cell? ⟨w.heap.size + 1, 2, none⟩ = some (.int .u64 c1) ∧ w'.cell? ⟨w.heap.size + 1, 3, none⟩ = some (.int .u64 c0) ∧ w'.cell? ⟨w.heap.size + 1, 4, none⟩ = some (.int .u64 d3) ∧ w'.cell? ⟨w.heap.size + 1, 5, none⟩ = some (.int .u64 d2) ∧ w'.cell? ⟨w.heap.size + 1, 6, none⟩ = some (.int .u64 d1) ∧ w'.cell? ⟨w.heap.size + 1, 7, none⟩ = some (.int .u64 d0)) (first | (with_reducible exact rc_cells T0) | (with_reducible exact rc_cells T0.drew))
        (first
          | (go_at_call 20; have _t := tok2; refine (toRatio_any a3 a2 a1 a0 b3 b2 b1 b0 _).mono ?_; rintro e w1 ⟨rfl, hB⟩; (first | (have T1 : ArgsB w w1 [[.int .u64 a3, .int .u64 a2, .int .u64 a1, .int .u64 a0, .int .u64 b3, .int .u64 b2, .int .u64 b1, .int .u64 b0], [.int .u64 c3, .int .u64 c2, .int .u64 c1, .int .u64 c0, .int .u64 d3, .int .u64 d2, .int .u64 d1, .int .u64 d0]] := (by with_reducible exact T0.step hB)) | (have T1 : ArgsB w w1 [[.int .u64 a3, .int .u64 a2, .int .u64 a1, .int .u64 a0, .int .u64 b3, .int .u64 b2, .int .u64 b1, .int .u64 b0], [.int .u64 c3, .int .u64 c2, .int .u64 c1, .int .u64 c0, .int .u64 d3, .int .u64 d2, .int .u64 d1, .int .u64 d0]] := (by with_reducible exact T0.drew.step hB))); clear T0; have T0 := T1; clear T1; clear hB tok2 _t)
          | (go_at_call 20; refine (toRatio_any c3 c2 c1 c0 d3 d2 d1 d0 _).mono ?_; rintro e w2 ⟨rfl, hB⟩; (first | (have T1 : ArgsB w w2 [[.int .u64 a3, .int .u64 a2, .int .u64 a1, .int .u64 a0, .int .u64 b3, .int .u64 b2, .int .u64 b1, .int .u64 b0], [.int .u64 c3, .int .u64 c2, .int .u64 c1, .int .u64 c0, .int .u64 d3, .int .u64 d2, .int .u64 d1, .int .u64 d0]] := (by with_reducible exact T0.step hB)) | (have T1 : ArgsB w w2 [[.int .u64 a3, .int .u64 a2, .int .u64 a1, .int .u64 a0, .int .u64 b3, .int .u64 b2, .int .u64 b1, .int .u64 b0], [.int .u64 c3, .int .u64 c2, .int .u64 c1, .int .u64 c0, .int .u64 d3, .int .u64 d2, .int .u64 d1, .int .u64 d0]] := (by with_reducible exact T0.drew.step hB))); clear T0; have T0 := T1; clear T1; clear hB)
          | (go_at_call 21; refine (IM _).mono ?_; rintro e w3 ⟨rfl, hB⟩; (first | (have T1 : ArgsB w w3 [[.int .u64 a3, .int .u64 a2, .int .u64 a1, .int .u64 a0, .int .u64 b3, .int .u64 b2, .int .u64 b1, .int .u64 b0], [.int .u64 c3, .int .u64 c2, .int .u64 c1, .int .u64 c0, .int .u64 d3, .int .u64 d2, .int .u64 d1, .int .u64 d0]] := (by with_reducible exact T0.step hB)) | (have T1 : ArgsB w w3 [[.int .u64 a3, .int .u64 a2, .int .u64 a1, .int .u64 a0, .int .u64 b3, .int .u64 b2, .int .u64 b1, .int .u64 b0], [.int .u64 c3, .int .u64 c2, .int .u64 c1, .int .u64 c0, .int .u64 d3, .int .u64 d2, .int .u64 d1, .int .u64 d0]] := (by with_reducible exact T0.drew.step hB))); clear T0; have T0 := T1; clear T1; clear hB))
      all_goals go_wp2_with fail
      all_goals go_meet
      all_goals first | exact ⟨rfl, rfl, T0⟩ | exact ⟨rfl, rfl, T0.drew⟩
    case rest =>
      clear T0 tok2 IM
      obtain ⟨rfl, rfl, T0⟩ := hcut
      have HB := T0.below
      clear T0
      go_wp2
      all_goals go_ret
      all_goals exact ⟨rfl, HB⟩
end Go.Proofs.Ytlfogfjehdgjmaa

/- How a value of four words reads as data: opened and shut. -/
namespace Go.Proofs.Ytlfogfjehdgjmaa
open Go.ChangeShapes Go.WideShapes Go.ChangeAt Go.RowKit Go.Joins
theorem Try.own : ownKnob Try.prog.godebug = none := by kernel_rfl
theorem Try.cells28 : Try.prog.cellsOf 31 = 4 := by kernel_rfl
theorem word_of_wf {x : Int} (h : (Lit.int .u64 x).wf = true) : Word x := by
  simp [Lit.wf, IntKind.min, IntKind.max, IntKind.signed, IntKind.bits] at h
  exact ⟨by omega, by omega⟩
theorem shut_wide {H : Type} {enc : TypeId × Value → H} {w : World} {base : Nat} {spare : TypeId → Bool} {held : Bool} {a3 a2 a1 a0 : Int} (w3 : (Lit.int .u64 a3).wf = true) (w2 : (Lit.int .u64 a2).wf = true) (w1 : (Lit.int .u64 a1).wf = true) (w0 : (Lit.int .u64 a0).wf = true) :
    DataW.Trod enc Try.prog w base spare held 31 (.agg #[.int .u64 a3, .int .u64 a2, .int .u64 a1, .int .u64 a0]) (.agg [.lit (.int .u64 a3), .lit (.int .u64 a2), .lit (.int .u64 a1), .lit (.int .u64 a0)]) [] :=
  shut_agg4 (y0 := (.lit (.int .u64 a3), [])) (y1 := (.lit (.int .u64 a2), [])) (y2 := (.lit (.int .u64 a1), [])) (y3 := (.lit (.int .u64 a0), [])) Try.underlying31 (by kernel_rfl) Try.cells28
    ⟨1, by simp [DataW.trod, Try.underlying29, w3]⟩ ⟨1, by simp [DataW.trod, Try.underlying29, w2]⟩ ⟨1, by simp [DataW.trod, Try.underlying29, w1]⟩ ⟨1, by simp [DataW.trod, Try.underlying29, w0]⟩
end Go.Proofs.Ytlfogfjehdgjmaa

/- How a fraction of two numbers reads as data: opened and shut. -/
namespace Go.Proofs.Ytlfogfjehdgjmaa
open Go.ChangeShapes Go.WideShapes Go.ChangeAt Go.RowKit Go.Joins
abbrev Wu (x : Int) : Prop := (Lit.int .u64 x).wf = true
abbrev WdD {H : Type} (a3 a2 a1 a0 : Int) : DataW H := .agg [.lit (.int .u64 a3), .lit (.int .u64 a2), .lit (.int .u64 a1), .lit (.int .u64 a0)]
theorem Try.cellsRatio : Try.prog.cellsOf 33 = 8 := by kernel_rfl
theorem array8 (T : Array Value) (h : T.size = 8) : ∃ v0 v1 v2 v3 v4 v5 v6 v7 : Value, T = #[v0, v1, v2, v3, v4, v5, v6, v7] := by
  match T, h with
  | ⟨[v0, v1, v2, v3, v4, v5, v6, v7]⟩, _ => exact ⟨v0, v1, v2, v3, v4, v5, v6, v7, rfl⟩
theorem trod_wide {H : Type} {enc : TypeId × Value → H} {w : World} {base : Nat} {spare : TypeId → Bool} {held : Bool} {n : Nat} {c0 c1 c2 c3 : Value} {y : DataW H × List MemPlace} (h : DataW.trod enc Try.prog w base spare held n 31 [c0, c1, c2, c3] = some y) :
    ∃ a3 a2 a1 a0 : Int, c0 = .int .u64 a3 ∧ c1 = .int .u64 a2 ∧ c2 = .int .u64 a1 ∧ c3 = .int .u64 a0 ∧ y = (WdD a3 a2 a1 a0, []) ∧ Wu a3 ∧ Wu a2 ∧ Wu a1 ∧ Wu a0 := by
  obtain ⟨y0, y1, y2, y3, m, hx, _, h0, h1, h2, h3⟩ := trod_struct4 Try.underlying31 h
  obtain ⟨a, e0, rfl, wa⟩ := DataW.trod_int Try.underlying29 h0
  obtain ⟨b, e1, rfl, wb⟩ := DataW.trod_int Try.underlying29 h1
  obtain ⟨c, e2, rfl, wc⟩ := DataW.trod_int Try.underlying29 h2
  obtain ⟨d, e3, rfl, wd⟩ := DataW.trod_int Try.underlying29 h3
  have k : Try.prog.cellsOf 29 = 1 := by kernel_rfl
  simp [k] at e0 e1 e2 e3
  exact ⟨a, b, c, d, e0, e1, e2, e3, hx, wa, wb, wc, wd⟩
set_option maxRecDepth 100000 in
theorem open_ratio {H : Type} {enc : TypeId × Value → H} {w : World} {b0' : Nat} {v : Value} {d : DataW H} {p : List MemPlace} (hv : Value.okWide Try.prog w .any b0' 33 v) (h : DataW.Trod enc Try.prog w 0 (fun _ => true) true 33 v d p) :
    ∃ a3 a2 a1 a0 b3 b2 b1 b0 : Int, v = .agg #[.int .u64 a3, .int .u64 a2, .int .u64 a1, .int .u64 a0, .int .u64 b3, .int .u64 b2, .int .u64 b1, .int .u64 b0] ∧ d = .agg [WdD a3 a2 a1 a0, WdD b3 b2 b1 b0] ∧ p = [] ∧ (Wu a3 ∧ Wu a2 ∧ Wu a1 ∧ Wu a0) ∧ Wu b3 ∧ Wu b2 ∧ Wu b1 ∧ Wu b0 := by
  obtain ⟨cs, rfl, hsz⟩ := okWide_struct Try.underlying33 hv
  obtain ⟨c0, c1, c2, c3, c4, c5, c6, c7, rfl⟩ := array8 cs (hsz.trans Try.cellsRatio)
  obtain ⟨fuel, hf⟩ := h
  obtain ⟨y0, y1, n, hx, _, h0, h1⟩ := trod_struct2 Try.underlying33 hf
  simp [Value.cells, Try.cells28] at h0 h1
  obtain ⟨a3, a2, a1, a0, rfl, rfl, rfl, rfl, rfl, wa⟩ := trod_wide h0
  obtain ⟨b3, b2, b1, b0, rfl, rfl, rfl, rfl, rfl, wb⟩ := trod_wide h1
  simp only [Prod.mk.injEq] at hx
  exact ⟨a3, a2, a1, a0, b3, b2, b1, b0, rfl, hx.1, by simpa using hx.2, wa, wb⟩
theorem shut_ratio {H : Type} {enc : TypeId × Value → H} {w : World} {base : Nat} {spare : TypeId → Bool} {held : Bool} {a3 a2 a1 a0 b3 b2 b1 b0 : Int} (wa : Wu a3 ∧ Wu a2 ∧ Wu a1 ∧ Wu a0) (wb : Wu b3 ∧ Wu b2 ∧ Wu b1 ∧ Wu b0) :
    DataW.Trod enc Try.prog w base spare held 33 (.agg #[.int .u64 a3, .int .u64 a2, .int .u64 a1, .int .u64 a0, .int .u64 b3, .int .u64 b2, .int .u64 b1, .int .u64 b0]) (.agg [WdD a3 a2 a1 a0, WdD b3 b2 b1 b0]) [] := by
  obtain ⟨n0, t0⟩ := shut_wide (enc := enc) (w := w) (base := base) (spare := spare) (held := held) wa.1 wa.2.1 wa.2.2.1 wa.2.2.2
  obtain ⟨n1, t1⟩ := shut_wide (enc := enc) (w := w) (base := base) (spare := spare) (held := held) wb.1 wb.2.1 wb.2.2.1 wb.2.2.2
  have ts := trod_struct2_mk (enc := enc) (w := w) (base := base) (spare := spare) (held := held) (n := max n0 n1) (cs := [.int .u64 a3, .int .u64 a2, .int .u64 a1, .int .u64 a0, .int .u64 b3, .int .u64 b2, .int .u64 b1, .int .u64 b0]) Try.underlying33 (by simp [Try.cellsRatio])
    (by simpa [Value.cells, Try.cells28] using DataW.trod_le (Nat.le_max_left n0 n1) t0) (by simpa [Value.cells, Try.cells28] using DataW.trod_le (Nat.le_max_right n0 n1) t1)
  exact ⟨_, by simpa [Value.cells] using ts⟩
end Go.Proofs.Ytlfogfjehdgjmaa
