/- Part 8 of the walks that the proof leans on. -/
import Derived.Test.YtnnojeggjnddpaaPart7
import Derived.Test.YtnnojeggjnddpaaPart6
import Derived.Test.YtnnojeggjnddpaaPart2
import Derived.Test.YtnnojeggjnddpaaPart1
import Derived.Test.YtnnojeggjnddpaaRows
import Derived.ProofKit
import Derived.Lib.SmallJoins
import Derived.Deep.Strs
/- A spot as a point: the walks of the model's point, told, of the program's, and of the law. -/
namespace Go.Proofs.Ytnnojeggjnddpaa
open Go.RowKit
theorem told_small {z : Int} (h : small z = true) : told z = true := by
  unfold small at h
  unfold told
  simp at h
  apply decide_eq_true
  omega
set_option maxRecDepth 100000 in
set_option maxHeartbeats 2000000 in
theorem l3Point_small (s1 : Bool) (o1 : Option Addr) (n1 c1 : Nat) (d1 : List Int) (s2 : Bool) (o2 : Option Addr) (n2 c2 : Nat) (d2 : List Int) (s3 : Bool) (o3 : Option Addr) (n3 c3 : Nat) (d3 : List Int) (x y z : Int) (k : Nat) (hk : k ≤ 100000) (h1 : small x = true) (h2 : small y = true) (h3 : small z = true) (w : World) (N1 : IsNum w s1 o1 n1 c1 d1 x k) (N2 : IsNum w s2 o2 n2 c2 d2 y k) (N3 : IsNum w s3 o3 n3 c3 d3 z k) :
    Calls Try.prog 119 #[.agg #[.bool s1, .slice o1 n1 c1, .bool s2, .slice o2 n2 c2, .bool s3, .slice o3 n3 c3]] w (VP (.tuple #[.agg #[.int .u64 (ww3 x), .int .u64 (ww2 x), .int .u64 (ww1 x), .int .u64 (ww0 x), .int .u64 (ww3 y), .int .u64 (ww2 y), .int .u64 (ww1 y), .int .u64 (ww0 y), .int .u64 (ww3 z), .int .u64 (ww2 z), .int .u64 (ww1 z), .int .u64 (ww0 z)], .bool true]) w) := by
  have B0 := (Blk.new w [.bool s1, .slice o1 n1 c1, .bool s2, .slice o2 n2 c2, .bool s3, .slice o3 n3 c3] 95 rfl).alloc (.cells #[.int .u64 0, .int .u64 0, .int .u64 0, .int .u64 0, .int .u64 0, .int .u64 0, .int .u64 0, .int .u64 0, .int .u64 0, .int .u64 0, .int .u64 0, .int .u64 0] 47)
  have B1 := Blk.new (w.alloc (.cells #[.bool s1, .slice o1 n1 c1, .bool s2, .slice o2 n2 c2, .bool s3, .slice o3 n3 c3] 95)) [.int .u64 0, .int .u64 0, .int .u64 0, .int .u64 0, .int .u64 0, .int .u64 0, .int .u64 0, .int .u64 0, .int .u64 0, .int .u64 0, .int .u64 0, .int .u64 0] 47 (g := w.heap.size + 1) (by simp)
  have HB0 : Below w.heap.size w ((w.alloc (.cells #[.bool s1, .slice o1 n1 c1, .bool s2, .slice o2 n2 c2, .bool s3, .slice o3 n3 c3] 95)).alloc (.cells #[.int .u64 0, .int .u64 0, .int .u64 0, .int .u64 0, .int .u64 0, .int .u64 0, .int .u64 0, .int .u64 0, .int .u64 0, .int .u64 0, .int .u64 0, .int .u64 0] 47)) := ((Below.refl _ _).alloc (Nat.le_refl _) _).alloc (by simp) _
  replace N1 := N1.below HB0
  replace N2 := N2.below HB0
  replace N3 := N3.below HB0
  go_enter Try.func119, Try.ntmps119
  go_wp2_with fail
  refine (l3Small_any s1 o1 n1 c1 d1 s2 o2 n2 c2 d2 s3 o3 n3 c3 d3 x y z k hk _ N1 N2 N3).mono ?_
  rintro e w0 ⟨rfl, hB⟩
  replace B0 := B0.step hB; replace B1 := B1.step hB
  replace N1 := N1.below hB; replace N2 := N2.below hB; replace N3 := N3.below hB
  replace HB0 : Below w.heap.size w w0 := HB0.trans (hB.mono HB0.size)
  rw [h1, h2, h3]
  clear hB
  have e0 := B0.c 0 rfl; have e1 := B0.c 1 rfl; have e2 := B0.c 2 rfl; have e3 := B0.c 3 rfl; have e4 := B0.c 4 rfl; have e5 := B0.c 5 rfl; have elt := B0.lt
  go_wp2_with fail
  refine (toWp_det s1 o1 n1 c1 d1 x k _ N1 (by omega) (told_small h1)).mono ?_
  rintro e w1 ⟨rfl, hB⟩
  replace B0 := B0.step hB; replace B1 := B1.step hB
  replace N2 := N2.below hB
  replace N3 := N3.below hB
  have HB1 : Below w.heap.size w w1 := HB0.trans (hB.mono HB0.size)
  clear hB
  clear e0 e1 e2 e3 e4 e5 elt
  have e0 := B0.c 0 rfl; have e1 := B0.c 1 rfl; have e2 := B0.c 2 rfl; have e3 := B0.c 3 rfl; have e4 := B0.c 4 rfl; have e5 := B0.c 5 rfl; have elt := B0.lt
  have D1 := Blk.new w1 [.int .u64 (ww3 x), .int .u64 (ww2 x), .int .u64 (ww1 x), .int .u64 (ww0 x)] 26 rfl
  replace B0 := B0.alloc (.cells #[.int .u64 (ww3 x), .int .u64 (ww2 x), .int .u64 (ww1 x), .int .u64 (ww0 x)] 26)
  replace B1 := B1.alloc (.cells #[.int .u64 (ww3 x), .int .u64 (ww2 x), .int .u64 (ww1 x), .int .u64 (ww0 x)] 26)
  replace N2 := N2.below ((Below.refl _ _).alloc (Nat.le_refl _) (.cells #[.int .u64 (ww3 x), .int .u64 (ww2 x), .int .u64 (ww1 x), .int .u64 (ww0 x)] 26))
  replace N3 := N3.below ((Below.refl _ _).alloc (Nat.le_refl _) (.cells #[.int .u64 (ww3 x), .int .u64 (ww2 x), .int .u64 (ww1 x), .int .u64 (ww0 x)] 26))
  replace HB1 := HB1.alloc HB1.size (.cells #[.int .u64 (ww3 x), .int .u64 (ww2 x), .int .u64 (ww1 x), .int .u64 (ww0 x)] 26)
  go_wp2_with fail
  refine (toWp_det s2 o2 n2 c2 d2 y k _ N2 (by omega) (told_small h2)).mono ?_
  rintro e w2 ⟨rfl, hB⟩
  replace B0 := B0.step hB; replace B1 := B1.step hB
  replace D1 := D1.step hB
  replace N3 := N3.below hB
  have HB2 : Below w.heap.size w w2 := HB1.trans (hB.mono HB1.size)
  clear hB
  clear e0 e1 e2 e3 e4 e5 elt
  have e0 := B0.c 0 rfl; have e1 := B0.c 1 rfl; have e2 := B0.c 2 rfl; have e3 := B0.c 3 rfl; have e4 := B0.c 4 rfl; have e5 := B0.c 5 rfl; have elt := B0.lt
  have D2 := Blk.new w2 [.int .u64 (ww3 y), .int .u64 (ww2 y), .int .u64 (ww1 y), .int .u64 (ww0 y)] 26 rfl
  replace B0 := B0.alloc (.cells #[.int .u64 (ww3 y), .int .u64 (ww2 y), .int .u64 (ww1 y), .int .u64 (ww0 y)] 26)
  replace B1 := B1.alloc (.cells #[.int .u64 (ww3 y), .int .u64 (ww2 y), .int .u64 (ww1 y), .int .u64 (ww0 y)] 26)
  replace D1 := D1.alloc (.cells #[.int .u64 (ww3 y), .int .u64 (ww2 y), .int .u64 (ww1 y), .int .u64 (ww0 y)] 26)
  replace N3 := N3.below ((Below.refl _ _).alloc (Nat.le_refl _) (.cells #[.int .u64 (ww3 y), .int .u64 (ww2 y), .int .u64 (ww1 y), .int .u64 (ww0 y)] 26))
  replace HB2 := HB2.alloc HB2.size (.cells #[.int .u64 (ww3 y), .int .u64 (ww2 y), .int .u64 (ww1 y), .int .u64 (ww0 y)] 26)
  go_wp2_with fail
  refine (toWp_det s3 o3 n3 c3 d3 z k _ N3 (by omega) (told_small h3)).mono ?_
  rintro e w3 ⟨rfl, hB⟩
  replace B0 := B0.step hB; replace B1 := B1.step hB
  replace D1 := D1.step hB
  replace D2 := D2.step hB
  have HB3 : Below w.heap.size w w3 := HB2.trans (hB.mono HB2.size)
  clear hB
  clear e0 e1 e2 e3 e4 e5 elt
  have p0 := D1.c 0 rfl; have p1 := D1.c 1 rfl; have p2 := D1.c 2 rfl; have p3 := D1.c 3 rfl; have pl := D1.lt; have q0 := D2.c 0 rfl; have q1 := D2.c 1 rfl; have q2 := D2.c 2 rfl; have q3 := D2.c 3 rfl; have ql := D2.lt; have tc0 := B1.c 0 rfl; have tf0 := B1.f 0 rfl; have tc1 := B1.c 1 rfl; have tf1 := B1.f 1 rfl; have tc2 := B1.c 2 rfl; have tf2 := B1.f 2 rfl; have tc3 := B1.c 3 rfl; have tf3 := B1.f 3 rfl; have tc4 := B1.c 4 rfl; have tf4 := B1.f 4 rfl; have tc5 := B1.c 5 rfl; have tf5 := B1.f 5 rfl; have tc6 := B1.c 6 rfl; have tf6 := B1.f 6 rfl; have tc7 := B1.c 7 rfl; have tf7 := B1.f 7 rfl; have tc8 := B1.c 8 rfl; have tf8 := B1.f 8 rfl; have tc9 := B1.c 9 rfl; have tf9 := B1.f 9 rfl; have tc10 := B1.c 10 rfl; have tf10 := B1.f 10 rfl; have tc11 := B1.c 11 rfl; have tf11 := B1.f 11 rfl; have tl := B1.lt
  have F : Blk (((((((((((((w3.setCell ⟨w.heap.size + 1, 0, none⟩ (.int .u64 (ww3 x))).setCell ⟨w.heap.size + 1, 1, none⟩ (.int .u64 (ww2 x))).setCell ⟨w.heap.size + 1, 2, none⟩ (.int .u64 (ww1 x))).setCell ⟨w.heap.size + 1, 3, none⟩ (.int .u64 (ww0 x))).setCell ⟨w.heap.size + 1, 4, none⟩ (.int .u64 (ww3 y))).setCell ⟨w.heap.size + 1, 5, none⟩ (.int .u64 (ww2 y))).setCell ⟨w.heap.size + 1, 6, none⟩ (.int .u64 (ww1 y))).setCell ⟨w.heap.size + 1, 7, none⟩ (.int .u64 (ww0 y))).setCell ⟨w.heap.size + 1, 8, none⟩ (.int .u64 (ww3 z))).setCell ⟨w.heap.size + 1, 9, none⟩ (.int .u64 (ww2 z))).setCell ⟨w.heap.size + 1, 10, none⟩ (.int .u64 (ww1 z))).setCell ⟨w.heap.size + 1, 11, none⟩ (.int .u64 (ww0 z))).alloc (.cells #[.int .u64 (ww3 z), .int .u64 (ww2 z), .int .u64 (ww1 z), .int .u64 (ww0 z)] 26)) (w.heap.size + 1) [.int .u64 (ww3 x), .int .u64 (ww2 x), .int .u64 (ww1 x), .int .u64 (ww0 x), .int .u64 (ww3 y), .int .u64 (ww2 y), .int .u64 (ww1 y), .int .u64 (ww0 y), .int .u64 (ww3 z), .int .u64 (ww2 z), .int .u64 (ww1 z), .int .u64 (ww0 z)] := ((((((((((((((B1.setI 0 (by simp) (.int .u64 (ww3 x))).setI 1 (by simp) (.int .u64 (ww2 x))).setI 2 (by simp) (.int .u64 (ww1 x))).setI 3 (by simp) (.int .u64 (ww0 x))).setI 4 (by simp) (.int .u64 (ww3 y))).setI 5 (by simp) (.int .u64 (ww2 y))).setI 6 (by simp) (.int .u64 (ww1 y))).setI 7 (by simp) (.int .u64 (ww0 y))).setI 8 (by simp) (.int .u64 (ww3 z))).setI 9 (by simp) (.int .u64 (ww2 z))).setI 10 (by simp) (.int .u64 (ww1 z))).setI 11 (by simp) (.int .u64 (ww0 z)))).alloc _)
  have HBF : Below w.heap.size w (((((((((((((w3.setCell ⟨w.heap.size + 1, 0, none⟩ (.int .u64 (ww3 x))).setCell ⟨w.heap.size + 1, 1, none⟩ (.int .u64 (ww2 x))).setCell ⟨w.heap.size + 1, 2, none⟩ (.int .u64 (ww1 x))).setCell ⟨w.heap.size + 1, 3, none⟩ (.int .u64 (ww0 x))).setCell ⟨w.heap.size + 1, 4, none⟩ (.int .u64 (ww3 y))).setCell ⟨w.heap.size + 1, 5, none⟩ (.int .u64 (ww2 y))).setCell ⟨w.heap.size + 1, 6, none⟩ (.int .u64 (ww1 y))).setCell ⟨w.heap.size + 1, 7, none⟩ (.int .u64 (ww0 y))).setCell ⟨w.heap.size + 1, 8, none⟩ (.int .u64 (ww3 z))).setCell ⟨w.heap.size + 1, 9, none⟩ (.int .u64 (ww2 z))).setCell ⟨w.heap.size + 1, 10, none⟩ (.int .u64 (ww1 z))).setCell ⟨w.heap.size + 1, 11, none⟩ (.int .u64 (ww0 z))).alloc (.cells #[.int .u64 (ww3 z), .int .u64 (ww2 z), .int .u64 (ww1 z), .int .u64 (ww0 z)] 26)) := (by refine Below.alloc ?_ (by have := HB3.size; simpa [World.setCell] using this) _; exact ((((((((((((HB3.setCell (p := ⟨w.heap.size + 1, 0, none⟩) (by simp) (.int .u64 (ww3 x))).setCell (p := ⟨w.heap.size + 1, 1, none⟩) (by simp) (.int .u64 (ww2 x))).setCell (p := ⟨w.heap.size + 1, 2, none⟩) (by simp) (.int .u64 (ww1 x))).setCell (p := ⟨w.heap.size + 1, 3, none⟩) (by simp) (.int .u64 (ww0 x))).setCell (p := ⟨w.heap.size + 1, 4, none⟩) (by simp) (.int .u64 (ww3 y))).setCell (p := ⟨w.heap.size + 1, 5, none⟩) (by simp) (.int .u64 (ww2 y))).setCell (p := ⟨w.heap.size + 1, 6, none⟩) (by simp) (.int .u64 (ww1 y))).setCell (p := ⟨w.heap.size + 1, 7, none⟩) (by simp) (.int .u64 (ww0 y))).setCell (p := ⟨w.heap.size + 1, 8, none⟩) (by simp) (.int .u64 (ww3 z))).setCell (p := ⟨w.heap.size + 1, 9, none⟩) (by simp) (.int .u64 (ww2 z))).setCell (p := ⟨w.heap.size + 1, 10, none⟩) (by simp) (.int .u64 (ww1 z))).setCell (p := ⟨w.heap.size + 1, 11, none⟩) (by simp) (.int .u64 (ww0 z))))
  clear B0 B1 D1 D2
  go_wp2
  generalize (((((((((((((w3.setCell ⟨w.heap.size + 1, 0, none⟩ (.int .u64 (ww3 x))).setCell ⟨w.heap.size + 1, 1, none⟩ (.int .u64 (ww2 x))).setCell ⟨w.heap.size + 1, 2, none⟩ (.int .u64 (ww1 x))).setCell ⟨w.heap.size + 1, 3, none⟩ (.int .u64 (ww0 x))).setCell ⟨w.heap.size + 1, 4, none⟩ (.int .u64 (ww3 y))).setCell ⟨w.heap.size + 1, 5, none⟩ (.int .u64 (ww2 y))).setCell ⟨w.heap.size + 1, 6, none⟩ (.int .u64 (ww1 y))).setCell ⟨w.heap.size + 1, 7, none⟩ (.int .u64 (ww0 y))).setCell ⟨w.heap.size + 1, 8, none⟩ (.int .u64 (ww3 z))).setCell ⟨w.heap.size + 1, 9, none⟩ (.int .u64 (ww2 z))).setCell ⟨w.heap.size + 1, 10, none⟩ (.int .u64 (ww1 z))).setCell ⟨w.heap.size + 1, 11, none⟩ (.int .u64 (ww0 z))).alloc (.cells #[.int .u64 (ww3 z), .int .u64 (ww2 z), .int .u64 (ww1 z), .int .u64 (ww0 z)] 26)) = WF at *
  have u0 := F.c 0 rfl; have u1 := F.c 1 rfl; have u2 := F.c 2 rfl; have u3 := F.c 3 rfl; have u4 := F.c 4 rfl; have u5 := F.c 5 rfl; have u6 := F.c 6 rfl; have u7 := F.c 7 rfl; have u8 := F.c 8 rfl; have u9 := F.c 9 rfl; have u10 := F.c 10 rfl; have u11 := F.c 11 rfl
  refine bodyPost_ret (v := .tuple #[.agg #[.int .u64 (ww3 x), .int .u64 (ww2 x), .int .u64 (ww1 x), .int .u64 (ww0 x), .int .u64 (ww3 y), .int .u64 (ww2 y), .int .u64 (ww1 y), .int .u64 (ww0 y), .int .u64 (ww3 z), .int .u64 (ww2 z), .int .u64 (ww1 z), .int .u64 (ww0 z)], .bool true]) (by simp [results, Try.results119, go_sem, u0, u1, u2, u3, u4, u5, u6, u7, u8, u9, u10, u11]) rfl ?_
  exact ⟨rfl, HBF⟩
end Go.Proofs.Ytnnojeggjnddpaa

/- Points: the model's numbers of a point, and whether it is right. -/
namespace Go.Proofs.Ytnnojeggjnddpaa
open Go.RowKit
theorem from_det (x : Int) (hx : told x = true) (w : World) : Calls Try.prog 43 #[W4 x] w (NumP 8 x w) := by
  obtain ⟨p3, p2, p1, p0⟩ := ww_words x
  have h := from_any (ww3 x) (ww2 x) (ww1 x) (ww0 x) p3 p2 p1 p0 w
  rw [ww_sw hx] at h
  exact h
theorem ArgsB.set6g {w W : World} {vss : List (List Value)} (h : ArgsB w W vss) {g : Nat} (hg : w.heap.size + vss.length ≤ g) (v0 v1 v2 v3 v4 v5 : Value) : ArgsB w ((((((W.setCell ⟨g, 0, none⟩ v0).setCell ⟨g, 1, none⟩ v1).setCell ⟨g, 2, none⟩ v2).setCell ⟨g, 3, none⟩ v3).setCell ⟨g, 4, none⟩ v4).setCell ⟨g, 5, none⟩ v5) vss := (((((h.set (by exact hg) _).set (by exact hg) _).set (by exact hg) _).set (by exact hg) _).set (by exact hg) _).set (by exact hg) _
theorem l3o_cells {x y z : Int} {w W : World} (T0 : ArgsB w W [[.int .u64 (ww3 x), .int .u64 (ww2 x), .int .u64 (ww1 x), .int .u64 (ww0 x), .int .u64 (ww3 y), .int .u64 (ww2 y), .int .u64 (ww1 y), .int .u64 (ww0 y), .int .u64 (ww3 z), .int .u64 (ww2 z), .int .u64 (ww1 z), .int .u64 (ww0 z)]]) : (fun w' => w'.cell? ⟨w.heap.size, 0, none⟩ = some (.int .u64 (ww3 x)) ∧ w'.cell? ⟨w.heap.size, 1, none⟩ = some (.int .u64 (ww2 x)) ∧ w'.cell? ⟨w.heap.size, 2, none⟩ = some (.int .u64 (ww1 x)) ∧ w'.cell? ⟨w.heap.size, 3, none⟩ = some (.int .u64 (ww0 x)) ∧ w'.cell? ⟨w.heap.size, 4, none⟩ = some (.int .u64 (ww3 y)) ∧ w'.cell? ⟨w.heap.size, 5, none⟩ = some (.int .u64 (ww2 y)) ∧ w'.cell? ⟨w.heap.size, 6, none⟩ = some (.int .u64 (ww1 y)) ∧ w'.cell? ⟨w.heap.size, 7, none⟩ = some (.int .u64 (ww0 y)) ∧ w'.cell? ⟨w.heap.size, 8, none⟩ = some (.int .u64 (ww3 z)) ∧ w'.cell? ⟨w.heap.size, 9, none⟩ = some (.int .u64 (ww2 z)) ∧ w'.cell? ⟨w.heap.size, 10, none⟩ = some (.int .u64 (ww1 z)) ∧ w'.cell? ⟨w.heap.size, 11, none⟩ = some (.int .u64 (ww0 z))) W := ⟨(T0.b 0 rfl).c 0 rfl, (T0.b 0 rfl).c 1 rfl, (T0.b 0 rfl).c 2 rfl, (T0.b 0 rfl).c 3 rfl, (T0.b 0 rfl).c 4 rfl, (T0.b 0 rfl).c 5 rfl, (T0.b 0 rfl).c 6 rfl, (T0.b 0 rfl).c 7 rfl, (T0.b 0 rfl).c 8 rfl, (T0.b 0 rfl).c 9 rfl, (T0.b 0 rfl).c 10 rfl, (T0.b 0 rfl).c 11 rfl⟩
set_option maxRecDepth 100000 in
set_option maxHeartbeats 2000000 in
theorem l3Of_det (x y z : Int) (hx : told x = true) (hy : told y = true) (hz : told z = true) (w : World) : Calls Try.prog 63 #[PV x y z] w (L3P 8 x y z w) := by
  have T5 : ArgsB w ((w.alloc (.cells #[.int .u64 (ww3 x), .int .u64 (ww2 x), .int .u64 (ww1 x), .int .u64 (ww0 x), .int .u64 (ww3 y), .int .u64 (ww2 y), .int .u64 (ww1 y), .int .u64 (ww0 y), .int .u64 (ww3 z), .int .u64 (ww2 z), .int .u64 (ww1 z), .int .u64 (ww0 z)] 47)).alloc (.cells #[.bool false, .slice none 0 0, .bool false, .slice none 0 0, .bool false, .slice none 0 0] 95)) [[.int .u64 (ww3 x), .int .u64 (ww2 x), .int .u64 (ww1 x), .int .u64 (ww0 x), .int .u64 (ww3 y), .int .u64 (ww2 y), .int .u64 (ww1 y), .int .u64 (ww0 y), .int .u64 (ww3 z), .int .u64 (ww2 z), .int .u64 (ww1 z), .int .u64 (ww0 z)], [.bool false, .slice none 0 0, .bool false, .slice none 0 0, .bool false, .slice none 0 0]] := ar2 _ _ _ _ w
  have R0 := T5.b 1 rfl
  have T0 : ArgsB w _ [[.int .u64 (ww3 x), .int .u64 (ww2 x), .int .u64 (ww1 x), .int .u64 (ww0 x), .int .u64 (ww3 y), .int .u64 (ww2 y), .int .u64 (ww1 y), .int .u64 (ww0 y), .int .u64 (ww3 z), .int .u64 (ww2 z), .int .u64 (ww1 z), .int .u64 (ww0 z)]] := T5.left (vs := [[.bool false, .slice none 0 0, .bool false, .slice none 0 0, .bool false, .slice none 0 0]])
  clear T5
  have F1 := from_det x hx
  have F2 := from_det y hy
  have F3 := from_det z hz
  clear hx hy hz
  have tok1 : True := trivial
  have tok2 : True := trivial
  go_enter Try.func63, Try.ntmps63
  go_upto_region 1 with fail
  generalize ((w.alloc (.cells #[.int .u64 (ww3 x), .int .u64 (ww2 x), .int .u64 (ww1 x), .int .u64 (ww0 x), .int .u64 (ww3 y), .int .u64 (ww2 y), .int .u64 (ww1 y), .int .u64 (ww0 y), .int .u64 (ww3 z), .int .u64 (ww2 z), .int .u64 (ww1 z), .int .u64 (ww0 z)] 47)).alloc (.cells #[.bool false, .slice none 0 0, .bool false, .slice none 0 0, .bool false, .slice none 0 0] 95)) = W at *
  go_region_held3 (fun w' => w'.cell? ⟨w.heap.size, 0, none⟩ = some (.int .u64 (ww3 x)) ∧ w'.cell? ⟨w.heap.size, 1, none⟩ = some (.int .u64 (ww2 x)) ∧ w'.cell? ⟨w.heap.size, 2, none⟩ = some (.int .u64 (ww1 x)) ∧ w'.cell? ⟨w.heap.size, 3, none⟩ = some (.int .u64 (ww0 x)) ∧ w'.cell? ⟨w.heap.size, 4, none⟩ = some (.int .u64 (ww3 y)) ∧ w'.cell? ⟨w.heap.size, 5, none⟩ = some (.int .u64 (ww2 y)) ∧ w'.cell? ⟨w.heap.size, 6, none⟩ = some (.int .u64 (ww1 y)) ∧ w'.cell? ⟨w.heap.size, 7, none⟩ = some (.int .u64 (ww0 y)) ∧ w'.cell? ⟨w.heap.size, 8, none⟩ = some (.int .u64 (ww3 z)) ∧ w'.cell? ⟨w.heap.size, 9, none⟩ = some (.int .u64 (ww2 z)) ∧ w'.cell? ⟨w.heap.size, 10, none⟩ = some (.int .u64 (ww1 z)) ∧ w'.cell? ⟨w.heap.size, 11, none⟩ = some (.int .u64 (ww0 z))) ((refine l3o_cells ?_ <;> repeat (first | (with_reducible exact T0) | (with_reducible refine ArgsB.drew ?_) | (with_reducible refine ArgsB.set6g ?_ (by simp; try omega) _ _ _ _ _ _))))
    (first
      | (go_at_call 43; have _t := tok1; refine (F1 _).mono ?_; rintro e w1 ⟨s1, o1, n1, c1, d1, rfl, N1, hB⟩; (first | (have T1 : ArgsB w w1 [[.int .u64 (ww3 x), .int .u64 (ww2 x), .int .u64 (ww1 x), .int .u64 (ww0 x), .int .u64 (ww3 y), .int .u64 (ww2 y), .int .u64 (ww1 y), .int .u64 (ww0 y), .int .u64 (ww3 z), .int .u64 (ww2 z), .int .u64 (ww1 z), .int .u64 (ww0 z)]] := (by with_reducible exact T0.step hB); have tltw1 := (T0.b 0 rfl).lt; have lR0w1 := R0.lt; replace R0 := R0.step hB; skip) | (have T1 : ArgsB w w1 [[.int .u64 (ww3 x), .int .u64 (ww2 x), .int .u64 (ww1 x), .int .u64 (ww0 x), .int .u64 (ww3 y), .int .u64 (ww2 y), .int .u64 (ww1 y), .int .u64 (ww0 y), .int .u64 (ww3 z), .int .u64 (ww2 z), .int .u64 (ww1 z), .int .u64 (ww0 z)]] := (by with_reducible exact T0.drew.step hB); have tltw1 := (T0.b 0 rfl).lt; have lR0w1 := R0.lt; replace R0 := R0.drew.step hB; skip)); clear T0; have T0 := T1; clear T1; clear hB tok1 _t)
      | (go_at_call 43; have _t := tok2; refine (F2 _).mono ?_; rintro e w2 ⟨s2, o2, n2, c2, d2, rfl, N2, hB⟩; (first | (replace N1 := N1.below hB; skip) | (replace N1 := N1.drew.below hB; skip)); (first | (have T1 : ArgsB w w2 [[.int .u64 (ww3 x), .int .u64 (ww2 x), .int .u64 (ww1 x), .int .u64 (ww0 x), .int .u64 (ww3 y), .int .u64 (ww2 y), .int .u64 (ww1 y), .int .u64 (ww0 y), .int .u64 (ww3 z), .int .u64 (ww2 z), .int .u64 (ww1 z), .int .u64 (ww0 z)]] := (by with_reducible exact T0.step hB); have tltw2 := (T0.b 0 rfl).lt; have lR0w2 := R0.lt; replace R0 := R0.step hB; skip) | (have T1 : ArgsB w w2 [[.int .u64 (ww3 x), .int .u64 (ww2 x), .int .u64 (ww1 x), .int .u64 (ww0 x), .int .u64 (ww3 y), .int .u64 (ww2 y), .int .u64 (ww1 y), .int .u64 (ww0 y), .int .u64 (ww3 z), .int .u64 (ww2 z), .int .u64 (ww1 z), .int .u64 (ww0 z)]] := (by with_reducible exact T0.drew.step hB); have tltw2 := (T0.b 0 rfl).lt; have lR0w2 := R0.lt; replace R0 := R0.drew.step hB; skip)); clear T0; have T0 := T1; clear T1; clear hB tok2 _t)
      | (go_at_call 43; refine (F3 _).mono ?_; rintro e w3 ⟨s3, o3, n3, c3, d3, rfl, N3, hB⟩; (first | (replace N1 := N1.below hB; replace N2 := N2.below hB; skip) | (replace N1 := N1.drew.below hB; replace N2 := N2.drew.below hB; skip)); (first | (have T1 : ArgsB w w3 [[.int .u64 (ww3 x), .int .u64 (ww2 x), .int .u64 (ww1 x), .int .u64 (ww0 x), .int .u64 (ww3 y), .int .u64 (ww2 y), .int .u64 (ww1 y), .int .u64 (ww0 y), .int .u64 (ww3 z), .int .u64 (ww2 z), .int .u64 (ww1 z), .int .u64 (ww0 z)]] := (by with_reducible exact T0.step hB); have tltw3 := (T0.b 0 rfl).lt; have lR0w3 := R0.lt; replace R0 := R0.step hB; skip) | (have T1 : ArgsB w w3 [[.int .u64 (ww3 x), .int .u64 (ww2 x), .int .u64 (ww1 x), .int .u64 (ww0 x), .int .u64 (ww3 y), .int .u64 (ww2 y), .int .u64 (ww1 y), .int .u64 (ww0 y), .int .u64 (ww3 z), .int .u64 (ww2 z), .int .u64 (ww1 z), .int .u64 (ww0 z)]] := (by with_reducible exact T0.drew.step hB); have tltw3 := (T0.b 0 rfl).lt; have lR0w3 := R0.lt; replace R0 := R0.drew.step hB; skip)); clear T0; have T0 := T1; clear T1; clear hB; have rc0 := R0.c 0 rfl; have rf0 := R0.f 0 rfl; have rc1 := R0.c 1 rfl; have rf1 := R0.f 1 rfl; have rc2 := R0.c 2 rfl; have rf2 := R0.f 2 rfl; have rc3 := R0.c 3 rfl; have rf3 := R0.f 3 rfl; have rc4 := R0.c 4 rfl; have rf4 := R0.f 4 rfl; have rc5 := R0.c 5 rfl; have rf5 := R0.f 5 rfl; have rl := R0.lt))
  all_goals have HB := T0.below
  all_goals have M1 := num_set6 N1 R0 (.bool s1) (.slice o1 n1 c1) (.bool s2) (.slice o2 n2 c2) (.bool s3) (.slice o3 n3 c3)
  all_goals have M2 := num_set6 N2 R0 (.bool s1) (.slice o1 n1 c1) (.bool s2) (.slice o2 n2 c2) (.bool s3) (.slice o3 n3 c3)
  all_goals have M3 := num_set6 N3 R0 (.bool s1) (.slice o1 n1 c1) (.bool s2) (.slice o2 n2 c2) (.bool s3) (.slice o3 n3 c3)
  all_goals clear T0 R0 N1 N2 N3 F1 F2 F3
  all_goals go_wp2
  all_goals refine bodyPost_ret (v := .agg #[.bool s1, .slice o1 n1 c1, .bool s2, .slice o2 n2 c2, .bool s3, .slice o3 n3 c3]) (by simp [results, Try.results63, go_sem, rc0, rc1, rc2, rc3, rc4, rc5]) rfl ?_
  all_goals refine ⟨s1, o1, n1, c1, d1, s2, o2, n2, c2, d2, s3, o3, n3, c3, d3, rfl, by first | exact M1 | exact M1.drew, by first | exact M2 | exact M2.drew, by first | exact M3 | exact M3.drew, ?_⟩
  all_goals repeat' (refine Below.setCell ?_ (by simp; try omega) _)
  all_goals first | exact HB | exact HB.drew
end Go.Proofs.Ytnnojeggjnddpaa

/- Points: the model's word on whether one is right. -/
namespace Go.Proofs.Ytnnojeggjnddpaa
open Go.RowKit
theorem l3_cells0 {s1 s2 s3 : Bool} {o1 o2 o3 : Option Addr} {n1 n2 n3 c1 c2 c3 : Nat} {W : World} {gx : Nat} (X0 : Blk W gx [.bool s1, .slice o1 n1 c1, .bool s2, .slice o2 n2 c2, .bool s3, .slice o3 n3 c3]) : (fun w' => w'.cell? ⟨gx, 0, none⟩ = some (.bool s1) ∧ w'.cell? ⟨gx, 1, none⟩ = some (.slice o1 n1 c1) ∧ w'.cell? ⟨gx, 2, none⟩ = some (.bool s2) ∧ w'.cell? ⟨gx, 3, none⟩ = some (.slice o2 n2 c2) ∧ w'.cell? ⟨gx, 4, none⟩ = some (.bool s3) ∧ w'.cell? ⟨gx, 5, none⟩ = some (.slice o3 n3 c3)) W := ⟨X0.c 0 rfl, X0.c 1 rfl, X0.c 2 rfl, X0.c 3 rfl, X0.c 4 rfl, X0.c 5 rfl⟩
set_option maxRecDepth 100000 in
set_option maxHeartbeats 8000000 in
theorem specPointOk_det (x y z : Int) (hx : told x = true) (hy : told y = true) (hz : told z = true) (w : World) : Calls Try.prog 62 #[PV x y z] w (VP (.bool (ptB x y z)) w) := by
  have HB := (Below.refl _ w).alloc (Nat.le_refl _) (.cells #[.int .u64 (ww3 x), .int .u64 (ww2 x), .int .u64 (ww1 x), .int .u64 (ww0 x), .int .u64 (ww3 y), .int .u64 (ww2 y), .int .u64 (ww1 y), .int .u64 (ww0 y), .int .u64 (ww3 z), .int .u64 (ww2 z), .int .u64 (ww1 z), .int .u64 (ww0 z)] 47)
  have OF := l3Of_det x y z hx hy hz
  clear hx hy hz
  go_enter Try.func62, Try.ntmps62
  go_wp2_with fail
  refine (OF _).mono ?_
  rintro e w1 ⟨s1, o1, n1, c1, d1, s2, o2, n2, c2, d2, s3, o3, n3, c3, d3, rfl, N1, N2, N3, hB⟩
  replace HB := HB.trans (hB.mono HB.size)
  clear hB OF
  go_upto_region 2 with fail
  have X0 : Blk (w1.alloc (.cells #[.bool s1, .slice o1 n1 c1, .bool s2, .slice o2 n2 c2, .bool s3, .slice o3 n3 c3] 95)) w1.heap.size [.bool s1, .slice o1 n1 c1, .bool s2, .slice o2 n2 c2, .bool s3, .slice o3 n3 c3] := Blk.new w1 _ _ rfl
  have hb0 := (Below.refl w1.heap.size w1).alloc (Nat.le_refl _) (.cells #[.bool s1, .slice o1 n1 c1, .bool s2, .slice o2 n2 c2, .bool s3, .slice o3 n3 c3] 95)
  replace N1 := N1.below hb0
  replace N2 := N2.below hb0
  replace N3 := N3.below hb0
  replace HB := HB.alloc HB.size (.cells #[.bool s1, .slice o1 n1 c1, .bool s2, .slice o2 n2 c2, .bool s3, .slice o3 n3 c3] 95)
  clear hb0
  generalize w1.alloc (.cells #[.bool s1, .slice o1 n1 c1, .bool s2, .slice o2 n2 c2, .bool s3, .slice o3 n3 c3] 95) = W at *
  generalize w1.heap.size = gx at *
  replace N1 := N1.drew
  replace N2 := N2.drew
  replace N3 := N3.drew
  by_cases hs : 0 < z
  · by_cases h1 : (small x && small y && small z) = true
    · have HR : Hid (ptB x y z = (cmpI (Int.gcd (Int.gcd x y) z : Int) 1 == 0)) := by
        show _ = _
        unfold ptB
        rw [h1, Bool.eq_iff_iff]
        simp only [hs, decide_true, Bool.true_and, decide_eq_true_eq, beq_iff_eq]
        unfold cmpI
        split
        · constructor
          · intro h; omega
          · intro h; exact absurd h (by decide)
        · split
          · constructor
            · intro h; omega
            · intro h; exact absurd h (by decide)
          · exact ⟨fun _ => rfl, fun _ => by omega⟩
      obtain ⟨q, hq⟩ : ∃ q, cmpI (Int.gcd (Int.gcd x y) z : Int) 1 = q := ⟨_, rfl⟩
      rw [hq] at HR
      have tok1 : True := trivial
      go_region_held3 (fun w' => w'.cell? ⟨gx, 0, none⟩ = some (.bool s1) ∧ w'.cell? ⟨gx, 1, none⟩ = some (.slice o1 n1 c1) ∧ w'.cell? ⟨gx, 2, none⟩ = some (.bool s2) ∧ w'.cell? ⟨gx, 3, none⟩ = some (.slice o2 n2 c2) ∧ w'.cell? ⟨gx, 4, none⟩ = some (.bool s3) ∧ w'.cell? ⟨gx, 5, none⟩ = some (.slice o3 n3 c3)) (first | (with_reducible exact l3_cells0 X0) | (with_reducible exact l3_cells0 X0.drew))
        (first
          | (go_at_call 91; refine (sign_any s3 o3 n3 c3 d3 _ 8 _ N3).mono ?_; rintro e w2 ⟨rfl, hB⟩; rw [cmpI_gt hs]; (first | (replace X0 := X0.step hB; replace HB := HB.trans (hB.mono HB.size)) | (replace X0 := X0.drew.step hB; replace HB := HB.drew.trans (hB.mono HB.size))); replace N1 := N1.below hB; replace N2 := N2.below hB; replace N3 := N3.below hB; clear hB)
          | (go_at_call 96; refine (l3Small_any s1 o1 n1 c1 d1 s2 o2 n2 c2 d2 s3 o3 n3 c3 d3 x y z 8 (by omega) _ N1 N2 N3).mono ?_; rintro e w3 ⟨rfl, hB⟩; rw [h1]; (first | (replace X0 := X0.step hB; replace HB := HB.trans (hB.mono HB.size)) | (replace X0 := X0.drew.step hB; replace HB := HB.drew.trans (hB.mono HB.size))); replace N1 := N1.below hB; replace N2 := N2.below hB; replace N3 := N3.below hB; clear hB)
          | (go_at_call 92; have _t := tok1; refine (gcd_any s1 s2 o1 o2 n1 n2 c1 c2 8 d1 d2 _ _ _ N1 N2 (by omega)).mono ?_; rintro e w4 ⟨s4, o4, n4, c4, d4, rfl, N4, hB⟩; (first | (replace X0 := X0.step hB; replace HB := HB.trans (hB.mono HB.size)) | (replace X0 := X0.drew.step hB; replace HB := HB.drew.trans (hB.mono HB.size))); replace N3 := N3.below hB; clear hB; clear tok1 _t N1 N2)
          | (go_at_call 92; refine (gcd_any s4 s3 o4 o3 n4 n3 c4 c3 8 d4 d3 _ _ _ N4 N3 (by omega)).mono ?_; rintro e w5 ⟨s5, o5, n5, c5, d5, rfl, N5, hB⟩; (first | (replace X0 := X0.step hB; replace HB := HB.trans (hB.mono HB.size)) | (replace X0 := X0.drew.step hB; replace HB := HB.drew.trans (hB.mono HB.size))); clear hB; clear N3 N4)
          | (go_at_call 57; refine (int_any 1 _ (by decide) (by decide)).mono ?_; rintro e w6 ⟨s6, o6, n6, c6, d6, rfl, N6, hB⟩; (first | (replace X0 := X0.step hB; replace HB := HB.trans (hB.mono HB.size)) | (replace X0 := X0.drew.step hB; replace HB := HB.drew.trans (hB.mono HB.size))); replace N5 := N5.below hB; clear hB)
          | (go_at_call 56; refine (cmp_any s5 s6 o5 o6 n5 n6 c5 c6 8 d5 d6 _ _ _ N5 (num_more N6 (by decide)) (by omega)).mono ?_; rintro e w7 ⟨rfl, hB⟩; rw [hq]; (first | (replace X0 := X0.step hB; replace HB := HB.trans (hB.mono HB.size)) | (replace X0 := X0.drew.step hB; replace HB := HB.drew.trans (hB.mono HB.size))); clear hB))
      all_goals clear hq hs h1 X0
      all_goals go_wp2
      all_goals go_ret
      all_goals exact ⟨by rw [HR.out]; simp, by first | exact HB | exact HB.drew⟩
    · replace h1 := Bool.eq_false_iff.2 h1
      have HR : Hid (ptB x y z = false) := by show _ = _; unfold ptB; rw [h1]; simp
      have q0 := X0.c 0 rfl; have q1 := X0.c 1 rfl; have q2 := X0.c 2 rfl; have q3 := X0.c 3 rfl; have q4 := X0.c 4 rfl; have q5 := X0.c 5 rfl
      refine wp_region_any (by kernel_rfl) ?_
      try (change wpAny _ _ _ _ _ _ _ (World.drew _))
      refine wpAny_ready (rs := [0]) (by kernel_rfl) (by simp) ?_
      refine AllReady.cons rfl (fun K hK => ?_) AllReady.nil
      go_simp
      refine hK _ _ ?_
      clear hK K
      refine wpAny_ready (rs := [1]) (by kernel_rfl) (by simp) ?_
      refine AllReady.cons rfl (fun K hK => ?_) AllReady.nil
      go_simp
      refine hK _ _ ?_
      clear hK K
      refine wpAny_ready (rs := [2]) (by kernel_rfl) (by simp) ?_
      refine AllReady.cons rfl (fun K hK => ?_) AllReady.nil
      go_simp
      go_wp2_with (go_at_call 91; refine (sign_any s3 o3 n3 c3 d3 _ 8 _ N3).mono ?_; rintro e w2 ⟨rfl, hB⟩; rw [cmpI_gt hs]; (first | (replace X0 := X0.step hB; replace HB := HB.trans (hB.mono HB.size)) | (replace X0 := X0.drew.step hB; replace HB := HB.drew.trans (hB.mono HB.size))); replace N1 := N1.below hB; replace N2 := N2.below hB; replace N3 := N3.below hB; clear hB; clear q0 q1 q2 q3 q4 q5; have q0 := X0.c 0 rfl; have q1 := X0.c 1 rfl; have q2 := X0.c 2 rfl; have q3 := X0.c 3 rfl; have q4 := X0.c 4 rfl; have q5 := X0.c 5 rfl)
      (try (refine hK _ _ ?_; clear hK K))
      refine wpAny_ready (rs := [3]) (by kernel_rfl) (by simp) ?_
      refine AllReady.cons rfl (fun K hK => ?_) AllReady.nil
      go_simp
      refine hK _ _ ?_
      clear hK K
      refine wpAny_ready (rs := [4]) (by kernel_rfl) (by simp) ?_
      refine AllReady.cons rfl (fun K hK => ?_) AllReady.nil
      go_simp
      refine hK _ _ ?_
      clear hK K
      refine wpAny_ready (rs := [5]) (by kernel_rfl) (by simp) ?_
      refine AllReady.cons rfl (fun K hK => ?_) AllReady.nil
      go_simp
      refine hK _ _ ?_
      clear hK K
      refine wpAny_ready (rs := [6]) (by kernel_rfl) (by simp) ?_
      refine AllReady.cons rfl (fun K hK => ?_) AllReady.nil
      go_simp
      go_wp2_with (go_at_call 96; refine (l3Small_any s1 o1 n1 c1 d1 s2 o2 n2 c2 d2 s3 o3 n3 c3 d3 x y z 8 (by omega) _ N1 N2 N3).mono ?_; rintro e w3 ⟨rfl, hB⟩; rw [h1]; (first | (replace X0 := X0.step hB; replace HB := HB.trans (hB.mono HB.size)) | (replace X0 := X0.drew.step hB; replace HB := HB.drew.trans (hB.mono HB.size))); clear hB; clear q0 q1 q2 q3 q4 q5 X0 N1 N2 N3)
      (try (refine hK _ _ ?_; clear hK K))
      refine wpAny_ready (rs := [7]) (by kernel_rfl) (by simp) ?_
      refine AllReady.cons rfl (fun K hK => ?_) AllReady.nil
      go_simp
      refine hK _ _ ?_
      clear hK K
      refine wpAny_ready (rs := [8]) (by kernel_rfl) (by simp) ?_
      refine AllReady.cons rfl (fun K hK => ?_) AllReady.nil
      go_simp
      refine hK _ _ ?_
      clear hK K
      refine wpAny_take (i := 9) (v := undef) rfl (by kernel_rfl) (by kernel_rfl) (by kernel_rfl) (fun _ _ _ h => h) (Or.inr ⟨by kernel_rfl, rfl⟩) ?_
      refine wpAny_take (i := 10) (v := undef) rfl (by kernel_rfl) (by kernel_rfl) (by kernel_rfl) (fun _ _ _ h => h) (Or.inr ⟨by kernel_rfl, rfl⟩) ?_
      refine wpAny_take (i := 11) (v := undef) rfl (by kernel_rfl) (by kernel_rfl) (by kernel_rfl) (fun _ _ _ h => h) (Or.inr ⟨by kernel_rfl, rfl⟩) ?_
      refine wpAny_take (i := 12) (v := undef) rfl (by kernel_rfl) (by kernel_rfl) (by kernel_rfl) (fun _ _ _ h => h) (Or.inr ⟨by kernel_rfl, rfl⟩) ?_
      refine wpAny_take (i := 13) (v := undef) rfl (by kernel_rfl) (by kernel_rfl) (by kernel_rfl) (fun _ _ _ h => h) (Or.inr ⟨by kernel_rfl, rfl⟩) ?_
      refine wpAny_take (i := 14) (v := undef) rfl (by kernel_rfl) (by kernel_rfl) (by kernel_rfl) (fun _ _ _ h => h) (Or.inr ⟨by kernel_rfl, rfl⟩) ?_
      refine wpAny_take (i := 15) (v := undef) rfl (by kernel_rfl) (by kernel_rfl) (by kernel_rfl) (fun _ _ _ h => h) (Or.inr ⟨by kernel_rfl, rfl⟩) ?_
      refine wpAny_take (i := 16) (v := undef) rfl (by kernel_rfl) (by kernel_rfl) (by kernel_rfl) (fun _ _ _ h => h) (Or.inr ⟨by kernel_rfl, rfl⟩) ?_
      refine wpAny_take (i := 17) (v := undef) rfl (by kernel_rfl) (by kernel_rfl) (by kernel_rfl) (fun _ _ _ h => h) (Or.inr ⟨by kernel_rfl, rfl⟩) ?_
      refine wpAny_take (i := 18) (v := undef) rfl (by kernel_rfl) (by kernel_rfl) (by kernel_rfl) (fun _ _ _ h => h) (Or.inr ⟨by kernel_rfl, rfl⟩) ?_
      refine wpAny_take (i := 19) (v := undef) rfl (by kernel_rfl) (by kernel_rfl) (by kernel_rfl) (fun _ _ _ h => h) (Or.inr ⟨by kernel_rfl, rfl⟩) ?_
      refine wpAny_ready (rs := [20]) (by kernel_rfl) (by simp) ?_
      refine AllReady.cons rfl (fun K hK => ?_) AllReady.nil
      go_simp
      refine hK _ _ ?_
      clear hK K
      refine wpAny_ready (rs := [21]) (by kernel_rfl) (by simp) ?_
      refine AllReady.cons rfl (fun K hK => ?_) AllReady.nil
      go_simp
      refine hK _ _ ?_
      clear hK K
      refine wpAny_done (by kernel_rfl) ?_ _
      go_wp2
      go_ret
      exact ⟨by rw [HR.out]; rfl, by first | exact HB | exact HB.drew⟩
  · have HR : Hid (ptB x y z = false) := by show _ = _; unfold ptB; simp [hs]
    have hcs : cmpI z 0 = -1 ∨ cmpI z 0 = 0 := by
      rcases Int.lt_trichotomy z 0 with h | h | h
      · exact Or.inl (cmpI_lt h)
      · exact Or.inr (cmpI_eq h)
      · exact absurd h hs
    have q0 := X0.c 0 rfl; have q1 := X0.c 1 rfl; have q2 := X0.c 2 rfl; have q3 := X0.c 3 rfl; have q4 := X0.c 4 rfl; have q5 := X0.c 5 rfl
    obtain ⟨q, hq⟩ : ∃ q, cmpI z 0 = q := ⟨_, rfl⟩
    rw [hq] at hcs
    have hd1 : decide (0 < q) = false := by rcases hcs with rfl | rfl <;> rfl
    clear hcs hs
    refine wp_region_any (by kernel_rfl) ?_
    try (change wpAny _ _ _ _ _ _ _ (World.drew _))
    refine wpAny_ready (rs := [0]) (by kernel_rfl) (by simp) ?_
    refine AllReady.cons rfl (fun K hK => ?_) AllReady.nil
    go_simp
    refine hK _ _ ?_
    clear hK K
    refine wpAny_ready (rs := [1]) (by kernel_rfl) (by simp) ?_
    refine AllReady.cons rfl (fun K hK => ?_) AllReady.nil
    go_simp
    refine hK _ _ ?_
    clear hK K
    refine wpAny_ready (rs := [2]) (by kernel_rfl) (by simp) ?_
    refine AllReady.cons rfl (fun K hK => ?_) AllReady.nil
    go_simp
    go_wp2_with (go_at_call 91; refine (sign_any s3 o3 n3 c3 d3 _ 8 _ N3).mono ?_; rintro e w2 ⟨rfl, hB⟩; rw [hq]; (first | (replace X0 := X0.step hB; replace HB := HB.trans (hB.mono HB.size)) | (replace X0 := X0.drew.step hB; replace HB := HB.drew.trans (hB.mono HB.size))); clear hB; clear q0 q1 q2 q3 q4 q5 X0 N1 N2 N3)
    (try (refine hK _ _ ?_; clear hK K))
    refine wpAny_ready (rs := [3]) (by kernel_rfl) (by simp) ?_
    refine AllReady.cons rfl (fun K hK => ?_) AllReady.nil
    go_simp
    refine hK _ _ ?_
    clear hK K
    refine wpAny_ready (rs := [4]) (by kernel_rfl) (by simp) ?_
    refine AllReady.cons rfl (fun K hK => ?_) AllReady.nil
    go_simp
    refine hK _ _ ?_
    clear hK K
    refine wpAny_take (i := 5) (v := undef) rfl (by kernel_rfl) (by kernel_rfl) (by kernel_rfl) (fun _ _ _ h => h) (Or.inr ⟨by kernel_rfl, rfl⟩) ?_
    refine wpAny_take (i := 6) (v := undef) rfl (by kernel_rfl) (by kernel_rfl) (by kernel_rfl) (fun _ _ _ h => h) (Or.inr ⟨by kernel_rfl, rfl⟩) ?_
    refine wpAny_ready (rs := [7]) (by kernel_rfl) (by simp) ?_
    refine AllReady.cons rfl (fun K hK => ?_) AllReady.nil
    go_simp
    refine hK _ _ ?_
    clear hK K
    refine wpAny_ready (rs := [8]) (by kernel_rfl) (by simp) ?_
    refine AllReady.cons rfl (fun K hK => ?_) AllReady.nil
    go_simp
    refine hK _ _ ?_
    clear hK K
    refine wpAny_take (i := 9) (v := undef) rfl (by kernel_rfl) (by kernel_rfl) (by kernel_rfl) (fun _ _ _ h => h) (Or.inr ⟨by kernel_rfl, rfl⟩) ?_
    refine wpAny_take (i := 10) (v := undef) rfl (by kernel_rfl) (by kernel_rfl) (by kernel_rfl) (fun _ _ _ h => h) (Or.inr ⟨by kernel_rfl, rfl⟩) ?_
    refine wpAny_take (i := 11) (v := undef) rfl (by kernel_rfl) (by kernel_rfl) (by kernel_rfl) (fun _ _ _ h => h) (Or.inr ⟨by kernel_rfl, rfl⟩) ?_
    refine wpAny_take (i := 12) (v := undef) rfl (by kernel_rfl) (by kernel_rfl) (by kernel_rfl) (fun _ _ _ h => h) (Or.inr ⟨by kernel_rfl, rfl⟩) ?_
    refine wpAny_take (i := 13) (v := undef) rfl (by kernel_rfl) (by kernel_rfl) (by kernel_rfl) (fun _ _ _ h => h) (Or.inr ⟨by kernel_rfl, rfl⟩) ?_
    refine wpAny_take (i := 14) (v := undef) rfl (by kernel_rfl) (by kernel_rfl) (by kernel_rfl) (fun _ _ _ h => h) (Or.inr ⟨by kernel_rfl, rfl⟩) ?_
    refine wpAny_take (i := 15) (v := undef) rfl (by kernel_rfl) (by kernel_rfl) (by kernel_rfl) (fun _ _ _ h => h) (Or.inr ⟨by kernel_rfl, rfl⟩) ?_
    refine wpAny_take (i := 16) (v := undef) rfl (by kernel_rfl) (by kernel_rfl) (by kernel_rfl) (fun _ _ _ h => h) (Or.inr ⟨by kernel_rfl, rfl⟩) ?_
    refine wpAny_take (i := 17) (v := undef) rfl (by kernel_rfl) (by kernel_rfl) (by kernel_rfl) (fun _ _ _ h => h) (Or.inr ⟨by kernel_rfl, rfl⟩) ?_
    refine wpAny_take (i := 18) (v := undef) rfl (by kernel_rfl) (by kernel_rfl) (by kernel_rfl) (fun _ _ _ h => h) (Or.inr ⟨by kernel_rfl, rfl⟩) ?_
    refine wpAny_take (i := 19) (v := undef) rfl (by kernel_rfl) (by kernel_rfl) (by kernel_rfl) (fun _ _ _ h => h) (Or.inr ⟨by kernel_rfl, rfl⟩) ?_
    refine wpAny_ready (rs := [20]) (by kernel_rfl) (by simp) ?_
    refine AllReady.cons rfl (fun K hK => ?_) AllReady.nil
    go_simp
    refine hK _ _ ?_
    clear hK K
    refine wpAny_ready (rs := [21]) (by kernel_rfl) (by simp) ?_
    refine AllReady.cons rfl (fun K hK => ?_) AllReady.nil
    go_simp
    refine hK _ _ ?_
    clear hK K
    refine wpAny_done (by kernel_rfl) ?_ _
    go_wp2
    go_ret
    exact ⟨by rw [HR.out]; rfl, by first | exact HB | exact HB.drew⟩
end Go.Proofs.Ytnnojeggjnddpaa

/- Points in their order: the program's walks. -/
namespace Go.Proofs.Ytnnojeggjnddpaa
open Go.RowKit
set_option maxRecDepth 100000 in
set_option maxHeartbeats 2000000 in
theorem eqW4 (a3 a2 a1 a0 b3 b2 b1 b0 : Int) (w : World) : (Op.equalIn 9999 26 (.agg #[.int .u64 a3, .int .u64 a2, .int .u64 a1, .int .u64 a0]) (.agg #[.int .u64 b3, .int .u64 b2, .int .u64 b1, .int .u64 b0])).run Try.prog w = .ok (a3 == b3 && a2 == b2 && a1 == b1 && a0 == b0) w := by
  have u3 := Try.underlying22
  have a3' := Try.isAgg22
  have z3 := Try.sizeOf22
  rw [show (9999 : Nat) = 9998 + 1 from rfl, Op.equalIn]
  simp only [Sem.run_bind, run_underlying Try.underlying26, Result.andThen_ok]
  go_simp
  by_cases h3 : a3 = b3
  · subst h3
    by_cases h2 : a2 = b2
    · subst h2
      by_cases h1 : a1 = b1
      · subst h1
        by_cases h0 : a0 = b0
        · subst h0
          simp
        · simp [h0]
      · simp [h1]
    · simp [h2]
  · simp [h3]
theorem eqWW (x u : Int) (hx : told x = true) (hu : told u = true) (w : World) : (Op.equalIn 9999 26 (W4 x) (W4 u)).run Try.prog w = .ok (decide (x = u)) w := by
  rw [eqW4]
  congr 1
  rw [Bool.eq_iff_iff]
  simp only [Bool.and_eq_true, beq_iff_eq, decide_eq_true_eq]
  constructor
  · rintro ⟨⟨⟨e3, e2⟩, e1⟩, e0⟩
    rw [← ww_sw hx, ← ww_sw hu, e3, e2, e1, e0]
  · rintro rfl
    exact ⟨⟨⟨rfl, rfl⟩, rfl⟩, rfl⟩
set_option maxRecDepth 100000 in
set_option maxHeartbeats 2000000 in
theorem eqPV (x y z u v t : Int) (hx : told x = true) (hy : told y = true) (hz : told z = true) (hu : told u = true) (hv : told v = true) (ht : told t = true) (w : World) : (Op.equalIn 10000 47 (PV x y z) (PV u v t)).run Try.prog w = .ok (decide (x = u) && decide (y = v) && decide (z = t)) w := by
  have E1 := eqWW x u hx hu
  have E2 := eqWW y v hy hv
  have E3 := eqWW z t hz ht
  have u3 := Try.underlying26
  have a3 := Try.isAgg26
  have z3 := Try.sizeOf26
  rw [show (10000 : Nat) = 9999 + 1 from rfl, Op.equalIn]
  simp only [Sem.run_bind, run_underlying Try.underlying47, Result.andThen_ok]
  go_simp
  by_cases h1 : x = u
  · by_cases h2 : y = v
    · by_cases h3 : z = t
      · simp [h1, h2, h3]
      · simp [h1, h2, h3]
    · simp [h1, h2]
  · simp [h1]
end Go.Proofs.Ytnnojeggjnddpaa

/- Points in their order: the program's walks. -/
namespace Go.Proofs.Ytnnojeggjnddpaa
open Go.RowKit
end Go.Proofs.Ytnnojeggjnddpaa

/- Points in their order and their turns: the model's walks. -/
namespace Go.Proofs.Ytnnojeggjnddpaa
open Go.RowKit
end Go.Proofs.Ytnnojeggjnddpaa

/- The turn of three points: the model's walk. -/
namespace Go.Proofs.Ytnnojeggjnddpaa
open Go.RowKit
theorem IsNum.set2 {w : World} {s : Bool} {ao : Option Addr} {n cap : Nat} {ds : List Int} {z : Int} {k g : Nat} (h : IsNum w s ao n cap ds z k) {b0 : Bool} {o0 : Option Addr} {n0 c0 : Nat} (G : Blk w g [.bool b0, .slice o0 n0 c0]) (v0 v1 : Value) : IsNum ((w.setCell ⟨g, 0, none⟩ v0).setCell ⟨g, 1, none⟩ v1) s ao n cap ds z k := by
  have h1 := h.setp v0 (G.c 0 rfl) (by intro x e; cases e)
  exact h1.setp v1 ((G.setI 0 (by simp) v0).c 1 rfl) (by intro x e; cases e)
theorem ArgsB.set2g {w W : World} {vss : List (List Value)} (h : ArgsB w W vss) {g : Nat} (hg : w.heap.size + vss.length ≤ g) (v0 v1 : Value) : ArgsB w ((W.setCell ⟨g, 0, none⟩ v0).setCell ⟨g, 1, none⟩ v1) vss := (h.set (by exact hg) _).set (by exact hg) _
/-- A number that was reckoned and laid in a block of its own. -/
def CutN (w wx : World) (vss : List (List Value)) (z : Int) (k B : Nat) (p : Value) : Prop :=
  ∃ g s o n c d, p = .pointer (some ⟨g, 0, none⟩) ∧ B ≤ g ∧ Blk wx g [.bool s, .slice o n c] ∧ IsNum wx s o n c d z k ∧ ArgsB w wx vss
theorem cutN_new {w X : World} {vss : List (List Value)} {s : Bool} {o : Option Addr} {n c : Nat} {d : List Int} {z : Int} {k B : Nat} {T : TypeId} (h : ArgsB w X vss) (N : IsNum X s o n c d z k) (hl : B ≤ X.heap.size) : CutN w (X.alloc (.cells #[.bool s, .slice o n c] T)) vss z k B (.pointer (some ⟨X.heap.size, 0, none⟩)) :=
  ⟨_, s, o, n, c, d, rfl, hl, Blk.new X [.bool s, .slice o n c] T rfl, N.alloc _, h.alloc _⟩
theorem cutN_set {w X : World} {vss : List (List Value)} {s : Bool} {o : Option Addr} {n c : Nat} {d : List Int} {z : Int} {k B g : Nat} (h : ArgsB w X vss) (N : IsNum X s o n c d z k) (G : Blk X g [.bool false, .slice none 0 0]) (hl : B ≤ g) (hg : w.heap.size + vss.length ≤ g) : CutN w ((X.setCell ⟨g, 0, none⟩ (.bool s)).setCell ⟨g, 1, none⟩ (.slice o n c)) vss z k B (.pointer (some ⟨g, 0, none⟩)) :=
  ⟨g, s, o, n, c, d, rfl, hl, (G.setI 0 (by simp) (.bool s)).setI 1 (by simp) (.slice o n c), N.set2 G _ _, h.set2g hg _ _⟩
end Go.Proofs.Ytnnojeggjnddpaa

/- The walk of the model's point in lowest terms. -/
namespace Go.Proofs.Ytnnojeggjnddpaa
open Go.RowKit
theorem share_quot {v V g z : Int} (hV : V = if z < 0 then -v else v) (hg : 0 < g) (hd : g ∣ v) : V / g = shareZ v g (decide (z < 0)) := by
  obtain ⟨a, rfl⟩ := hd
  have hd : ∀ z : Int, (g * z) / g = z := fun z => Int.mul_ediv_cancel_left z (by omega)
  have hn : (((g * a).natAbs : Nat) : Int) / g = (a.natAbs : Int) := by
    rw [Int.natAbs_mul, Int.natCast_mul, Int.natAbs_of_nonneg (by omega)]
    exact hd _
  have hs : g * a < 0 ↔ a < 0 := by
    constructor
    · intro h
      apply Decidable.byContradiction
      intro h'
      have := Int.mul_nonneg (a := g) (b := a) (by omega) (by omega)
      omega
    · intro h
      exact Int.mul_neg_of_pos_of_neg hg h
  unfold shareZ
  rw [hn, hV]
  simp only [hs]
  by_cases h2 : z < 0
  · rw [if_pos h2, ← Int.mul_neg, hd]
    by_cases h1 : a < 0 <;> simp [h1, h2] <;> omega
  · rw [if_neg h2, hd]
    by_cases h1 : a < 0 <;> simp [h1, h2] <;> omega
theorem low3 {x y z X Y Z : Int} (hX : X = if z < 0 then -x else x) (hY : Y = if z < 0 then -y else y) (hZ : Z = if z < 0 then -z else z) (hz : z ≠ 0) : X / (Int.gcd (Int.gcd x y : Int) z : Int) = shareZ x (Int.gcd (Int.gcd x y : Int) z : Int) (decide (z < 0)) ∧ Y / (Int.gcd (Int.gcd x y : Int) z : Int) = shareZ y (Int.gcd (Int.gcd x y : Int) z : Int) (decide (z < 0)) ∧ Z / (Int.gcd (Int.gcd x y : Int) z : Int) = shareZ z (Int.gcd (Int.gcd x y : Int) z : Int) (decide (z < 0)) ∧ (Int.gcd (Int.gcd X Y : Int) Z : Int) = (Int.gcd (Int.gcd x y : Int) z : Int) ∧ 0 < (Int.gcd (Int.gcd x y : Int) z : Int) := by
  have g0 : 0 < Int.gcd (Int.gcd x y : Int) z := Int.gcd_pos_of_ne_zero_right _ hz
  have hgp : 0 < (Int.gcd (Int.gcd x y : Int) z : Int) := by omega
  have dxy : (Int.gcd (Int.gcd x y : Int) z : Int) ∣ (Int.gcd x y : Int) := Int.gcd_dvd_left _ _
  refine ⟨share_quot hX hgp (Int.dvd_trans dxy (Int.gcd_dvd_left _ _)), share_quot hY hgp (Int.dvd_trans dxy (Int.gcd_dvd_right _ _)), share_quot hZ hgp (Int.gcd_dvd_right _ _), ?_, hgp⟩
  rw [hX, hY, hZ]
  split
  · simp [Int.gcd]
  · rfl
/-- The three numbers as they lie in the arguments' places. -/
def CutT3 (w wx : World) (x y z : Int) (k : Nat) : Prop :=
  ∃ (s1 : Bool) (o1 : Option Addr) (n1 c1 : Nat) (d1 : List Int) (s2 : Bool) (o2 : Option Addr) (n2 c2 : Nat) (d2 : List Int) (s3 : Bool) (o3 : Option Addr) (n3 c3 : Nat) (d3 : List Int), ArgsB w wx [[.bool s1, .slice o1 n1 c1], [.bool s2, .slice o2 n2 c2], [.bool s3, .slice o3 n3 c3], [.bool false, .slice none 0 0, .bool false, .slice none 0 0, .bool false, .slice none 0 0]] ∧ IsNum wx s1 o1 n1 c1 d1 x k ∧ IsNum wx s2 o2 n2 c2 d2 y k ∧ IsNum wx s3 o3 n3 c3 d3 z k
theorem CutT3.drew {w W : World} {x y z : Int} {k : Nat} (h : CutT3 w W x y z k) : CutT3 w W.drew x y z k := by
  obtain ⟨s1, o1, n1, c1, d1, s2, o2, n2, c2, d2, s3, o3, n3, c3, d3, A, N1, N2, N3⟩ := h
  exact ⟨s1, o1, n1, c1, d1, s2, o2, n2, c2, d2, s3, o3, n3, c3, d3, A.drew, N1.drew, N2.drew, N3.drew⟩
theorem ArgsB.w0 {w W : World} {a0 a1 u0 u1 : Value} {b c r : List Value} (h : ArgsB w W [[a0, a1], b, c, r]) : ArgsB w ((W.setCell ⟨w.heap.size, 0, none⟩ u0).setCell ⟨w.heap.size, 1, none⟩ u1) [[u0, u1], b, c, r] := by
  refine ⟨(h.1.setCell (by simp) _).setCell (by simp) _, fun j vs hj => ?_⟩
  match j, hj with
  | 0, hj => cases hj; exact Blk.stored2 (h.b 0 rfl) _ _
  | 1, hj => cases hj; exact Blk.set2 (h.b 1 rfl) (by omega)
  | 2, hj => cases hj; exact Blk.set2 (h.b 2 rfl) (by omega)
  | 3, hj => cases hj; exact Blk.set2 (h.b 3 rfl) (by omega)
  | j + 4, hj => simp at hj
theorem ArgsB.w1 {w W : World} {a0 a1 u0 u1 : Value} {b c r : List Value} (h : ArgsB w W [b, [a0, a1], c, r]) : ArgsB w ((W.setCell ⟨w.heap.size + 1, 0, none⟩ u0).setCell ⟨w.heap.size + 1, 1, none⟩ u1) [b, [u0, u1], c, r] := by
  refine ⟨(h.1.setCell (by simp) _).setCell (by simp) _, fun j vs hj => ?_⟩
  match j, hj with
  | 0, hj => cases hj; exact Blk.set2 (h.b 0 rfl) (by omega)
  | 1, hj => cases hj; exact Blk.stored2 (h.b 1 rfl) _ _
  | 2, hj => cases hj; exact Blk.set2 (h.b 2 rfl) (by omega)
  | 3, hj => cases hj; exact Blk.set2 (h.b 3 rfl) (by omega)
  | j + 4, hj => simp at hj
theorem ArgsB.w2 {w W : World} {a0 a1 u0 u1 : Value} {b c r : List Value} (h : ArgsB w W [b, c, [a0, a1], r]) : ArgsB w ((W.setCell ⟨w.heap.size + 1 + 1, 0, none⟩ u0).setCell ⟨w.heap.size + 1 + 1, 1, none⟩ u1) [b, c, [u0, u1], r] := by
  refine ⟨(h.1.setCell (by simp; omega) _).setCell (by simp; omega) _, fun j vs hj => ?_⟩
  match j, hj with
  | 0, hj => cases hj; exact Blk.set2 (h.b 0 rfl) (by omega)
  | 1, hj => cases hj; exact Blk.set2 (h.b 1 rfl) (by omega)
  | 2, hj => cases hj; exact Blk.stored2 (h.b 2 rfl) _ _
  | 3, hj => cases hj; exact Blk.set2 (h.b 3 rfl) (by omega)
  | j + 4, hj => simp at hj
theorem cutT3_up {w W : World} {x y z : Int} {k : Nat} {p q r : Bool} {po qo ro : Option Addr} {p1 p2 q1 q2 r1 r2 : Nat} {s1 : Bool} {o1 : Option Addr} {n1 c1 : Nat} {d1 : List Int} {s2 : Bool} {o2 : Option Addr} {n2 c2 : Nat} {d2 : List Int} {s3 : Bool} {o3 : Option Addr} {n3 c3 : Nat} {d3 : List Int} (h : ArgsB w W [[.bool p, .slice po p1 p2], [.bool q, .slice qo q1 q2], [.bool r, .slice ro r1 r2], [.bool false, .slice none 0 0, .bool false, .slice none 0 0, .bool false, .slice none 0 0]]) (N1 : IsNum W s1 o1 n1 c1 d1 x k) (N2 : IsNum W s2 o2 n2 c2 d2 y k) (N3 : IsNum W s3 o3 n3 c3 d3 z k) :
    CutT3 w ((((((W.setCell ⟨w.heap.size, 0, none⟩ (.bool s1)).setCell ⟨w.heap.size, 1, none⟩ (.slice o1 n1 c1)).setCell ⟨w.heap.size + 1, 0, none⟩ (.bool s2)).setCell ⟨w.heap.size + 1, 1, none⟩ (.slice o2 n2 c2)).setCell ⟨w.heap.size + 1 + 1, 0, none⟩ (.bool s3)).setCell ⟨w.heap.size + 1 + 1, 1, none⟩ (.slice o3 n3 c3)) x y z k := by
  have A0 : Blk W w.heap.size _ := h.b 0 rfl
  have A1 : Blk ((W.setCell ⟨w.heap.size, 0, none⟩ (.bool s1)).setCell ⟨w.heap.size, 1, none⟩ (.slice o1 n1 c1)) (w.heap.size + 1) _ := (h.w0 (u0 := .bool s1) (u1 := .slice o1 n1 c1)).b 1 rfl
  have A2 : Blk ((((W.setCell ⟨w.heap.size, 0, none⟩ (.bool s1)).setCell ⟨w.heap.size, 1, none⟩ (.slice o1 n1 c1)).setCell ⟨w.heap.size + 1, 0, none⟩ (.bool s2)).setCell ⟨w.heap.size + 1, 1, none⟩ (.slice o2 n2 c2)) (w.heap.size + 1 + 1) _ := (h.w0 (u0 := .bool s1) (u1 := .slice o1 n1 c1)).w1.b 2 rfl
  exact ⟨s1, o1, n1, c1, d1, s2, o2, n2, c2, d2, s3, o3, n3, c3, d3, h.w0.w1.w2, num_put (num_put (num_put N1 A0 _ _) A1 _ _) A2 _ _, num_put (num_put (num_put N2 A0 _ _) A1 _ _) A2 _ _, num_put (num_put (num_put N3 A0 _ _) A1 _ _) A2 _ _⟩
theorem m3_cells {s4 : Bool} {o4 : Option Addr} {n4 c4 : Nat} {s5 : Bool} {o5 : Option Addr} {n5 c5 : Nat} {s6 : Bool} {o6 : Option Addr} {n6 c6 : Nat} {w W : World} (h : ArgsB w W [[.bool s4, .slice o4 n4 c4], [.bool s5, .slice o5 n5 c5], [.bool s6, .slice o6 n6 c6], [.bool false, .slice none 0 0, .bool false, .slice none 0 0, .bool false, .slice none 0 0]]) : (fun w' => w'.cell? ⟨w.heap.size, 0, none⟩ = some (.bool s4) ∧ w'.cell? ⟨w.heap.size, 1, none⟩ = some (.slice o4 n4 c4) ∧ w'.cell? ⟨w.heap.size + 1, 0, none⟩ = some (.bool s5) ∧ w'.cell? ⟨w.heap.size + 1, 1, none⟩ = some (.slice o5 n5 c5) ∧ w'.cell? ⟨w.heap.size + 2, 0, none⟩ = some (.bool s6) ∧ w'.cell? ⟨w.heap.size + 2, 1, none⟩ = some (.slice o6 n6 c6)) W := ⟨(h.b 0 rfl).c 0 rfl, (h.b 0 rfl).c 1 rfl, (h.b 1 rfl).c 0 rfl, (h.b 1 rfl).c 1 rfl, (h.b 2 rfl).c 0 rfl, (h.b 2 rfl).c 1 rfl⟩
set_option maxRecDepth 100000 in
set_option maxHeartbeats 8000000 in
theorem l3Make_any (s1 : Bool) (o1 : Option Addr) (n1 c1 : Nat) (d1 : List Int) (s2 : Bool) (o2 : Option Addr) (n2 c2 : Nat) (d2 : List Int) (s3 : Bool) (o3 : Option Addr) (n3 c3 : Nat) (d3 : List Int) (x y z : Int) (k : Nat) (hk : 2 ≤ k) (hk2 : k ≤ 8000) (w : World) (N1 : IsNum w s1 o1 n1 c1 d1 x k) (N2 : IsNum w s2 o2 n2 c2 d2 y k) (N3 : IsNum w s3 o3 n3 c3 d3 z k) (hz : z ≠ 0) :
    Calls Try.prog 120 #[.agg #[.bool s1, .slice o1 n1 c1], .agg #[.bool s2, .slice o2 n2 c2], .agg #[.bool s3, .slice o3 n3 c3]] w (L3P (k + 3) (shareZ x (Int.gcd (Int.gcd x y : Int) z : Int) (decide (z < 0))) (shareZ y (Int.gcd (Int.gcd x y : Int) z : Int) (decide (z < 0))) (shareZ z (Int.gcd (Int.gcd x y : Int) z : Int) (decide (z < 0))) w) := by
  have T0 : ArgsB w ((((w.alloc (.cells #[.bool s1, .slice o1 n1 c1] 66)).alloc (.cells #[.bool s2, .slice o2 n2 c2] 66)).alloc (.cells #[.bool s3, .slice o3 n3 c3] 66)).alloc (.cells #[.bool false, .slice none 0 0, .bool false, .slice none 0 0, .bool false, .slice none 0 0] 95)) [[.bool s1, .slice o1 n1 c1], [.bool s2, .slice o2 n2 c2], [.bool s3, .slice o3 n3 c3], [.bool false, .slice none 0 0, .bool false, .slice none 0 0, .bool false, .slice none 0 0]] := ar4 _ _ _ _ _ _ _ _ w
  replace N1 := N1.step T0.below
  replace N2 := N2.step T0.below
  replace N3 := N3.step T0.below
  obtain ⟨X, hX⟩ : ∃ X, X = if z < 0 then -x else x := ⟨_, rfl⟩
  obtain ⟨Y, hY⟩ : ∃ Y, Y = if z < 0 then -y else y := ⟨_, rfl⟩
  obtain ⟨Z, hZ⟩ : ∃ Z, Z = if z < 0 then -z else z := ⟨_, rfl⟩
  obtain ⟨e1, e2, e3, e4, e5⟩ := low3 hX hY hZ hz
  go_enter Try.func120, Try.ntmps120
  go_upto_region 1 with fail
  generalize ((((w.alloc (.cells #[.bool s1, .slice o1 n1 c1] 66)).alloc (.cells #[.bool s2, .slice o2 n2 c2] 66)).alloc (.cells #[.bool s3, .slice o3 n3 c3] 66)).alloc (.cells #[.bool false, .slice none 0 0, .bool false, .slice none 0 0, .bool false, .slice none 0 0] 95)) = W at *
  go_cut [9] (fun p wx => p = .bool (decide (z < 0)) ∧ wx = W)
  case first =>
    have HN : Hid (s3 = decide (z < 0)) := N3.neg
    have aB : Blk _ (w.heap.size) _ := T0.b 0 rfl; obtain ⟨a0c, a0f, a1c, a1f⟩ := aB.cf2; have alt := aB.lt; clear aB; have bB : Blk _ (w.heap.size + 1) _ := T0.b 1 rfl; obtain ⟨b0c, b0f, b1c, b1f⟩ := bB.cf2; have blt := bB.lt; clear bB; have eB : Blk _ (w.heap.size + 1 + 1) _ := T0.b 2 rfl; obtain ⟨e0c, e0f, e1c, e1f⟩ := eB.cf2; have elt := eB.lt; clear eB
    go_wp2_with fail
    go_meet
    case rel => exact ⟨by rw [HN.out], rfl⟩
  case rest =>
   obtain ⟨rfl, rfl⟩ := hcut
   rename_i hk'
   refine hk' _ _ ?_
   go_cut [] (fun wx => CutT3 w wx X Y Z k)
   case first =>
    by_cases hn : z < 0
    · obtain rfl : s3 = true := by rw [N3.neg]; simpa using hn
      rw [if_pos hn] at hX hY hZ
      rw [decide_eq_true hn]
      have aB : Blk _ (w.heap.size) _ := T0.b 0 rfl; obtain ⟨a0c, a0f, a1c, a1f⟩ := aB.cf2; have alt := aB.lt; clear aB; have bB : Blk _ (w.heap.size + 1) _ := T0.b 1 rfl; obtain ⟨b0c, b0f, b1c, b1f⟩ := bB.cf2; have blt := bB.lt; clear bB; have eB : Blk _ (w.heap.size + 1 + 1) _ := T0.b 2 rfl; obtain ⟨e0c, e0f, e1c, e1f⟩ := eB.cf2; have elt := eB.lt; clear eB
      have tok1 : True := trivial
      have tok2 : True := trivial
      replace T0 := T0.drew; replace N1 := N1.drew; replace N2 := N2.drew; replace N3 := N3.drew
      go_wp2_with fail
      go_region_with ((first
        | (go_at_call 83; have _t := tok1; refine (neg_any s1 o1 n1 c1 d1 x k _ N1).mono ?_; rintro e w1 ⟨s4, o4, n4, c4, d4, rfl, N4, hB⟩; replace T0 := T0.step hB; replace N2 := N2.step hB; replace N3 := N3.step hB; clear hB tok1 _t a0c a0f a1c a1f alt b0c b0f b1c b1f blt e0c e0f e1c e1f elt; have aB : Blk _ (w.heap.size) _ := T0.b 0 rfl; obtain ⟨a0c, a0f, a1c, a1f⟩ := aB.cf2; have alt := aB.lt; clear aB; have bB : Blk _ (w.heap.size + 1) _ := T0.b 1 rfl; obtain ⟨b0c, b0f, b1c, b1f⟩ := bB.cf2; have blt := bB.lt; clear bB; have eB : Blk _ (w.heap.size + 1 + 1) _ := T0.b 2 rfl; obtain ⟨e0c, e0f, e1c, e1f⟩ := eB.cf2; have elt := eB.lt; clear eB)
        | (go_at_call 83; have _t := tok2; refine (neg_any s2 o2 n2 c2 d2 y k _ N2).mono ?_; rintro e w2 ⟨s5, o5, n5, c5, d5, rfl, N5, hB⟩; replace T0 := T0.step hB; replace N4 := N4.step hB; replace N3 := N3.step hB; clear hB tok2 _t a0c a0f a1c a1f alt b0c b0f b1c b1f blt e0c e0f e1c e1f elt; have aB : Blk _ (w.heap.size) _ := T0.b 0 rfl; obtain ⟨a0c, a0f, a1c, a1f⟩ := aB.cf2; have alt := aB.lt; clear aB; have bB : Blk _ (w.heap.size + 1) _ := T0.b 1 rfl; obtain ⟨b0c, b0f, b1c, b1f⟩ := bB.cf2; have blt := bB.lt; clear bB; have eB : Blk _ (w.heap.size + 1 + 1) _ := T0.b 2 rfl; obtain ⟨e0c, e0f, e1c, e1f⟩ := eB.cf2; have elt := eB.lt; clear eB)
        | (go_at_call 83; refine (neg_any true o3 n3 c3 d3 z k _ N3).mono ?_; rintro e w3 ⟨s6, o6, n6, c6, d6, rfl, N6, hB⟩; replace T0 := T0.step hB; replace N4 := N4.step hB; replace N5 := N5.step hB; clear hB a0c a0f a1c a1f alt b0c b0f b1c b1f blt e0c e0f e1c e1f elt; have aB : Blk _ (w.heap.size) _ := T0.b 0 rfl; obtain ⟨a0c, a0f, a1c, a1f⟩ := aB.cf2; have alt := aB.lt; clear aB; have bB : Blk _ (w.heap.size + 1) _ := T0.b 1 rfl; obtain ⟨b0c, b0f, b1c, b1f⟩ := bB.cf2; have blt := bB.lt; clear bB; have eB : Blk _ (w.heap.size + 1 + 1) _ := T0.b 2 rfl; obtain ⟨e0c, e0f, e1c, e1f⟩ := eB.cf2; have elt := eB.lt; clear eB)))
      all_goals go_wp2_with fail
      all_goals go_meet
      all_goals rw [← hX] at N4
      all_goals rw [← hY] at N5
      all_goals rw [← hZ] at N6
      all_goals first | exact cutT3_up T0 N4 N5 N6 | exact (cutT3_up T0 N4 N5 N6).drew
    · obtain rfl : s3 = false := by rw [N3.neg]; simpa using hn
      rw [if_neg hn] at hX hY hZ
      rw [decide_eq_false hn]
      subst hX hY hZ
      have aB : Blk _ (w.heap.size) _ := T0.b 0 rfl; obtain ⟨a0c, a0f, a1c, a1f⟩ := aB.cf2; have alt := aB.lt; clear aB; have bB : Blk _ (w.heap.size + 1) _ := T0.b 1 rfl; obtain ⟨b0c, b0f, b1c, b1f⟩ := bB.cf2; have blt := bB.lt; clear bB; have eB : Blk _ (w.heap.size + 1 + 1) _ := T0.b 2 rfl; obtain ⟨e0c, e0f, e1c, e1f⟩ := eB.cf2; have elt := eB.lt; clear eB
      go_wp2_with fail
      go_meet
      case rel => exact ⟨s1, o1, n1, c1, d1, s2, o2, n2, c2, d2, false, o3, n3, c3, d3, T0, N1, N2, N3⟩
   case rest =>
    clear T0 N1 N2 N3 hk'
    obtain ⟨s4, o4, n4, c4, d4, s5, o5, n5, c5, d5, s6, o6, n6, c6, d6, T0, N1, N2, N3⟩ := hcut
    have tok1 : True := trivial
    have hl0 := (T0.b 3 rfl).lt
    go_upto_region 3 with fail
    go_cut [7] (fun p wx => CutN w wx [[.bool s4, .slice o4 n4 c4], [.bool s5, .slice o5 n5 c5], [.bool s6, .slice o6 n6 c6], [.bool false, .slice none 0 0, .bool false, .slice none 0 0, .bool false, .slice none 0 0]] (Int.gcd (Int.gcd x y : Int) z : Int) k (w.heap.size + 4) p ∧ IsNum wx s4 o4 n4 c4 d4 X k ∧ IsNum wx s5 o5 n5 c5 d5 Y k ∧ IsNum wx s6 o6 n6 c6 d6 Z k)
    case first =>
      go_region_held3 (fun w' => w'.cell? ⟨w.heap.size, 0, none⟩ = some (.bool s4) ∧ w'.cell? ⟨w.heap.size, 1, none⟩ = some (.slice o4 n4 c4) ∧ w'.cell? ⟨w.heap.size + 1, 0, none⟩ = some (.bool s5) ∧ w'.cell? ⟨w.heap.size + 1, 1, none⟩ = some (.slice o5 n5 c5) ∧ w'.cell? ⟨w.heap.size + 2, 0, none⟩ = some (.bool s6) ∧ w'.cell? ⟨w.heap.size + 2, 1, none⟩ = some (.slice o6 n6 c6)) ((refine m3_cells ?_ <;> repeat (first | (with_reducible exact T0) | (with_reducible refine ArgsB.drew ?_) | (with_reducible refine ArgsB.alloc ?_ _) | (with_reducible refine ArgsB.set2g ?_ (by simp; omega) _ _))))
        (first
          | (go_at_call 92; have _t := tok1; refine (gcd_any s4 s5 o4 o5 n4 n5 c4 c5 k d4 d5 _ _ _ (by first | (with_reducible exact N1) | (with_reducible exact N1.drew) | (with_reducible exact N1.alloc _) | (with_reducible exact (N1.alloc _).drew)) (by first | (with_reducible exact N2) | (with_reducible exact N2.drew) | (with_reducible exact N2.alloc _) | (with_reducible exact (N2.alloc _).drew)) (by omega)).mono ?_; rintro e k1 ⟨s7, o7, n7, c7, d7, rfl, N7, hB⟩; (first | (have T1 : ArgsB w k1 _ := (by with_reducible exact T0.step hB); have tltk1 := (T0.b 3 rfl).lt; replace N1 := N1.below hB; replace N2 := N2.below hB; replace N3 := N3.below hB; (try (replace G0 := G0.step hB; obtain ⟨j0c, j0f, j1c, j1f⟩ := G0.cf2; have jlt := G0.lt))) | (have T1 : ArgsB w k1 _ := (by with_reducible exact T0.drew.step hB); have tltk1 := (T0.b 3 rfl).lt; replace N1 := N1.drew.below hB; replace N2 := N2.drew.below hB; replace N3 := N3.drew.below hB; (try (replace G0 := G0.drew.step hB; obtain ⟨j0c, j0f, j1c, j1f⟩ := G0.cf2; have jlt := G0.lt))) | (have T1 : ArgsB w k1 _ := (by with_reducible exact (T0.alloc _).step hB); have tltk1 := (T0.b 3 rfl).lt; replace N1 := (N1.alloc _).below hB; replace N2 := (N2.alloc _).below hB; replace N3 := (N3.alloc _).below hB; (have G0 := (Blk.new _ [.bool false, .slice none 0 0] _ rfl).step hB; obtain ⟨j0c, j0f, j1c, j1f⟩ := G0.cf2; have jlt := G0.lt)) | (have T1 : ArgsB w k1 _ := (by with_reducible exact (T0.alloc _).drew.step hB); have tltk1 := (T0.b 3 rfl).lt; replace N1 := (N1.alloc _).drew.below hB; replace N2 := (N2.alloc _).drew.below hB; replace N3 := (N3.alloc _).drew.below hB; (have G0 := (Blk.new _ [.bool false, .slice none 0 0] _ rfl).drew.step hB; obtain ⟨j0c, j0f, j1c, j1f⟩ := G0.cf2; have jlt := G0.lt))); clear T0; have T0 := T1; clear T1; clear hB tok1 _t)
          | (go_at_call 92; refine (gcd_any s7 s6 o7 o6 n7 n6 c7 c6 k d7 d6 _ _ _ (by first | (with_reducible exact N7) | (with_reducible exact N7.drew) | (with_reducible exact N7.alloc _) | (with_reducible exact (N7.alloc _).drew)) (by first | (with_reducible exact N3) | (with_reducible exact N3.drew) | (with_reducible exact N3.alloc _) | (with_reducible exact (N3.alloc _).drew)) (by omega)).mono ?_; rintro e k2 ⟨s8, o8, n8, c8, d8, rfl, N8, hB⟩; (first | (have T1 : ArgsB w k2 _ := (by with_reducible exact T0.step hB); have tltk2 := (T0.b 3 rfl).lt; replace N1 := N1.below hB; replace N2 := N2.below hB; replace N3 := N3.below hB; (try (replace G0 := G0.step hB; obtain ⟨j0c, j0f, j1c, j1f⟩ := G0.cf2; have jlt := G0.lt))) | (have T1 : ArgsB w k2 _ := (by with_reducible exact T0.drew.step hB); have tltk2 := (T0.b 3 rfl).lt; replace N1 := N1.drew.below hB; replace N2 := N2.drew.below hB; replace N3 := N3.drew.below hB; (try (replace G0 := G0.drew.step hB; obtain ⟨j0c, j0f, j1c, j1f⟩ := G0.cf2; have jlt := G0.lt))) | (have T1 : ArgsB w k2 _ := (by with_reducible exact (T0.alloc _).step hB); have tltk2 := (T0.b 3 rfl).lt; replace N1 := (N1.alloc _).below hB; replace N2 := (N2.alloc _).below hB; replace N3 := (N3.alloc _).below hB; (have G0 := (Blk.new _ [.bool false, .slice none 0 0] _ rfl).step hB; obtain ⟨j0c, j0f, j1c, j1f⟩ := G0.cf2; have jlt := G0.lt)) | (have T1 : ArgsB w k2 _ := (by with_reducible exact (T0.alloc _).drew.step hB); have tltk2 := (T0.b 3 rfl).lt; replace N1 := (N1.alloc _).drew.below hB; replace N2 := (N2.alloc _).drew.below hB; replace N3 := (N3.alloc _).drew.below hB; (have G0 := (Blk.new _ [.bool false, .slice none 0 0] _ rfl).drew.step hB; obtain ⟨j0c, j0f, j1c, j1f⟩ := G0.cf2; have jlt := G0.lt))); clear T0; have T0 := T1; clear T1; clear hB; rw [e4] at N8))
      all_goals go_wp2_with fail
      all_goals go_meet
      all_goals have hl := (T0.b 3 rfl).lt
      all_goals first | (with_reducible exact ⟨cutN_new T0 N8 (by omega), N1.alloc _, N2.alloc _, N3.alloc _⟩) | (with_reducible exact ⟨cutN_set T0 N8 G0 (by omega) (by simp; omega), N1.set2 G0 _ _, N2.set2 G0 _ _, N3.set2 G0 _ _⟩)
    case rest =>
     clear T0 N1 N2 N3 hl0 tok1
     obtain ⟨⟨gb, s7, o7, n7, c7, d7, hp, hgb, GB, N7, T0⟩, N1, N2, N3⟩ := hcut
     subst hp
     go_upto_region 4 with fail
     obtain ⟨q, hq⟩ : ∃ q, cmpI (Int.gcd (Int.gcd x y : Int) z : Int) 1 = q := ⟨_, rfl⟩
     go_cut [24] (fun p wx => p = .bool (!(q == 0)) ∧ ArgsB w wx [[.bool s4, .slice o4 n4 c4], [.bool s5, .slice o5 n5 c5], [.bool s6, .slice o6 n6 c6], [.bool false, .slice none 0 0, .bool false, .slice none 0 0, .bool false, .slice none 0 0]] ∧ Blk wx gb [.bool s7, .slice o7 n7 c7] ∧ IsNum wx s4 o4 n4 c4 d4 X k ∧ IsNum wx s5 o5 n5 c5 d5 Y k ∧ IsNum wx s6 o6 n6 c6 d6 Z k ∧ IsNum wx s7 o7 n7 c7 d7 (Int.gcd (Int.gcd x y : Int) z : Int) k)
     case first =>
       replace N7 := N7.drew; replace N1 := N1.drew; replace N2 := N2.drew; replace N3 := N3.drew; replace T0 := T0.drew
       go_region_held3 (fun w' => w'.cell? ⟨gb, 0, none⟩ = some (.bool s7) ∧ w'.cell? ⟨gb, 1, none⟩ = some (.slice o7 n7 c7)) ((refine mk_cells ?_ <;> repeat (first | (with_reducible exact GB) | (with_reducible refine Blk.drew ?_))))
         (first
           | (go_at_call 57; refine (int_any 1 _ (by decide) (by decide)).mono ?_; rintro e w4 ⟨s9, o9, n9, c9, d9, rfl, N9, hB⟩; replace GB := GB.drew.step hB; replace T0 := T0.step hB; replace N1 := N1.step hB; replace N2 := N2.step hB; replace N3 := N3.step hB; replace N7 := N7.step hB; clear hB)
           | (go_at_call 56; refine (cmp_any s7 s9 o7 o9 n7 n9 c7 c9 k d7 d9 _ _ _ N7 (num_more N9 hk) (by omega)).mono ?_; rintro e w5 ⟨rfl, hB⟩; rw [hq]; replace GB := GB.step hB; replace T0 := T0.step hB; replace N1 := N1.step hB; replace N2 := N2.step hB; replace N3 := N3.step hB; replace N7 := N7.step hB; clear hB))
       all_goals go_wp2_with fail
       all_goals go_meet
       all_goals exact ⟨rfl, T0, GB, N1, N2, N3, N7⟩
     case rest =>
       clear T0 N1 N2 N3 N7 GB
       obtain ⟨rfl, T0, GB, N1, N2, N3, N7⟩ := hcut
       rename_i hk'
       refine hk' _ _ ?_
       have hlb := GB.lt
       go_cut [] (fun wx => CutT3 w wx (shareZ x (Int.gcd (Int.gcd x y : Int) z : Int) (decide (z < 0))) (shareZ y (Int.gcd (Int.gcd x y : Int) z : Int) (decide (z < 0))) (shareZ z (Int.gcd (Int.gcd x y : Int) z : Int) (decide (z < 0))) (k + 3))
       case first =>
         by_cases h1 : (Int.gcd (Int.gcd x y : Int) z : Int) = 1
         · obtain rfl : q = 0 := by rw [← hq, h1]; decide
           have f1 : X = shareZ x (Int.gcd (Int.gcd x y : Int) z : Int) (decide (z < 0)) := by rw [← e1, h1, Int.ediv_one]
           have f2 : Y = shareZ y (Int.gcd (Int.gcd x y : Int) z : Int) (decide (z < 0)) := by rw [← e2, h1, Int.ediv_one]
           have f3 : Z = shareZ z (Int.gcd (Int.gcd x y : Int) z : Int) (decide (z < 0)) := by rw [← e3, h1, Int.ediv_one]
           rw [f1] at N1
           rw [f2] at N2
           rw [f3] at N3
           go_wp2_with fail
           go_meet
           case rel => exact ⟨s4, o4, n4, c4, d4, s5, o5, n5, c5, d5, s6, o6, n6, c6, d6, T0, num_more N1 (by omega), num_more N2 (by omega), num_more N3 (by omega)⟩
         · have hq1 : (!(q == 0)) = true := by
             have h3 : q ≠ 0 := by
               rw [← hq, cmpI_gt (by omega)]
               decide
             simp [h3]
           rw [hq1]
           have aB : Blk _ (w.heap.size) _ := T0.b 0 rfl; obtain ⟨a0c, a0f, a1c, a1f⟩ := aB.cf2; have alt := aB.lt; clear aB; have bB : Blk _ (w.heap.size + 1) _ := T0.b 1 rfl; obtain ⟨b0c, b0f, b1c, b1f⟩ := bB.cf2; have blt := bB.lt; clear bB; have eB : Blk _ (w.heap.size + 1 + 1) _ := T0.b 2 rfl; obtain ⟨e0c, e0f, e1c, e1f⟩ := eB.cf2; have elt := eB.lt; clear eB
           obtain ⟨g0c, g1c⟩ := GB.cs2
           go_wp2_with fail
           refine (div_any s4 s7 o4 o7 n4 n7 c4 c7 k d4 d7 _ _ _ N1 N7 (by omega) (by omega)).mono ?_
           rintro e u0 ⟨s10, o10, n10, c10, d10, sr0, or0, nr0, cr0, dr0, rfl, M0, -, hB⟩
           rw [e1] at M0
           replace T0 := T0.step hB; replace GB := GB.step hB; replace N7 := N7.step hB; replace N2 := N2.step hB; replace N3 := N3.step hB
           clear hB g0c g1c N1 a0c a0f a1c a1f alt b0c b0f b1c b1f blt e0c e0f e1c e1f elt
           have aB : Blk _ (w.heap.size) _ := T0.b 0 rfl; obtain ⟨a0c, a0f, a1c, a1f⟩ := aB.cf2; have alt := aB.lt; clear aB; have bB : Blk _ (w.heap.size + 1) _ := T0.b 1 rfl; obtain ⟨b0c, b0f, b1c, b1f⟩ := bB.cf2; have blt := bB.lt; clear bB; have eB : Blk _ (w.heap.size + 1 + 1) _ := T0.b 2 rfl; obtain ⟨e0c, e0f, e1c, e1f⟩ := eB.cf2; have elt := eB.lt; clear eB
           go_upto_region 6 with fail
           clear a0c a0f a1c a1f alt b0c b0f b1c b1f blt e0c e0f e1c e1f elt
           have RB : Blk u0 (w.heap.size) _ := T0.b 0 rfl
           replace M0 := num_put M0 RB (.bool s10) (.slice o10 n10 c10)
           replace N2 := num_put N2 RB (.bool s10) (.slice o10 n10 c10)
           replace N3 := num_put N3 RB (.bool s10) (.slice o10 n10 c10)
           replace N7 := num_put N7 RB (.bool s10) (.slice o10 n10 c10)
           replace GB := GB.set2 (g := w.heap.size) (v0 := .bool s10) (v1 := .slice o10 n10 c10) (by omega)
           replace T0 := T0.w0 (u0 := .bool s10) (u1 := .slice o10 n10 c10)
           clear RB
           generalize ((u0.setCell ⟨w.heap.size, 0, none⟩ (.bool s10)).setCell ⟨w.heap.size, 1, none⟩ (.slice o10 n10 c10)) = U0 at *

           have aB : Blk _ (w.heap.size) _ := T0.b 0 rfl; obtain ⟨a0c, a0f, a1c, a1f⟩ := aB.cf2; have alt := aB.lt; clear aB; have bB : Blk _ (w.heap.size + 1) _ := T0.b 1 rfl; obtain ⟨b0c, b0f, b1c, b1f⟩ := bB.cf2; have blt := bB.lt; clear bB; have eB : Blk _ (w.heap.size + 1 + 1) _ := T0.b 2 rfl; obtain ⟨e0c, e0f, e1c, e1f⟩ := eB.cf2; have elt := eB.lt; clear eB
           obtain ⟨g0c, g1c⟩ := GB.cs2
           go_wp2_with fail
           refine (div_any s5 s7 o5 o7 n5 n7 c5 c7 k d5 d7 _ _ _ N2 N7 (by omega) (by omega)).mono ?_
           rintro e u1 ⟨s11, o11, n11, c11, d11, sr1, or1, nr1, cr1, dr1, rfl, M1, -, hB⟩
           rw [e2] at M1
           replace T0 := T0.step hB; replace GB := GB.step hB; replace N7 := N7.step hB; replace M0 := M0.step hB; replace N3 := N3.step hB
           clear hB g0c g1c N2 a0c a0f a1c a1f alt b0c b0f b1c b1f blt e0c e0f e1c e1f elt
           have aB : Blk _ (w.heap.size) _ := T0.b 0 rfl; obtain ⟨a0c, a0f, a1c, a1f⟩ := aB.cf2; have alt := aB.lt; clear aB; have bB : Blk _ (w.heap.size + 1) _ := T0.b 1 rfl; obtain ⟨b0c, b0f, b1c, b1f⟩ := bB.cf2; have blt := bB.lt; clear bB; have eB : Blk _ (w.heap.size + 1 + 1) _ := T0.b 2 rfl; obtain ⟨e0c, e0f, e1c, e1f⟩ := eB.cf2; have elt := eB.lt; clear eB
           go_upto_region 7 with fail
           clear a0c a0f a1c a1f alt b0c b0f b1c b1f blt e0c e0f e1c e1f elt
           have RB : Blk u1 (w.heap.size + 1) _ := T0.b 1 rfl
           replace M0 := num_put M0 RB (.bool s11) (.slice o11 n11 c11)
           replace M1 := num_put M1 RB (.bool s11) (.slice o11 n11 c11)
           replace N3 := num_put N3 RB (.bool s11) (.slice o11 n11 c11)
           replace N7 := num_put N7 RB (.bool s11) (.slice o11 n11 c11)
           replace GB := GB.set2 (g := w.heap.size + 1) (v0 := .bool s11) (v1 := .slice o11 n11 c11) (by omega)
           replace T0 := T0.w1 (u0 := .bool s11) (u1 := .slice o11 n11 c11)
           clear RB
           generalize ((u1.setCell ⟨w.heap.size + 1, 0, none⟩ (.bool s11)).setCell ⟨w.heap.size + 1, 1, none⟩ (.slice o11 n11 c11)) = U1 at *

           have aB : Blk _ (w.heap.size) _ := T0.b 0 rfl; obtain ⟨a0c, a0f, a1c, a1f⟩ := aB.cf2; have alt := aB.lt; clear aB; have bB : Blk _ (w.heap.size + 1) _ := T0.b 1 rfl; obtain ⟨b0c, b0f, b1c, b1f⟩ := bB.cf2; have blt := bB.lt; clear bB; have eB : Blk _ (w.heap.size + 1 + 1) _ := T0.b 2 rfl; obtain ⟨e0c, e0f, e1c, e1f⟩ := eB.cf2; have elt := eB.lt; clear eB
           obtain ⟨g0c, g1c⟩ := GB.cs2
           go_wp2_with fail
           refine (div_any s6 s7 o6 o7 n6 n7 c6 c7 k d6 d7 _ _ _ N3 N7 (by omega) (by omega)).mono ?_
           rintro e u2 ⟨s12, o12, n12, c12, d12, sr2, or2, nr2, cr2, dr2, rfl, M2, -, hB⟩
           rw [e3] at M2
           replace T0 := T0.step hB; replace GB := GB.step hB; replace N7 := N7.step hB; replace M0 := M0.step hB; replace M1 := M1.step hB
           clear hB g0c g1c N3 a0c a0f a1c a1f alt b0c b0f b1c b1f blt e0c e0f e1c e1f elt
           have aB : Blk _ (w.heap.size) _ := T0.b 0 rfl; obtain ⟨a0c, a0f, a1c, a1f⟩ := aB.cf2; have alt := aB.lt; clear aB; have bB : Blk _ (w.heap.size + 1) _ := T0.b 1 rfl; obtain ⟨b0c, b0f, b1c, b1f⟩ := bB.cf2; have blt := bB.lt; clear bB; have eB : Blk _ (w.heap.size + 1 + 1) _ := T0.b 2 rfl; obtain ⟨e0c, e0f, e1c, e1f⟩ := eB.cf2; have elt := eB.lt; clear eB

           clear a0c a0f a1c a1f alt b0c b0f b1c b1f blt e0c e0f e1c e1f elt
           have RB : Blk u2 (w.heap.size + 1 + 1) _ := T0.b 2 rfl
           obtain ⟨r0c, r0f, r1c, r1f⟩ := RB.cf2; have rlt := RB.lt
           have M3 := num_put M0 RB (.bool s12) (.slice o12 n12 c12)
           have M4 := num_put M1 RB (.bool s12) (.slice o12 n12 c12)
           have M5 := num_put M2 RB (.bool s12) (.slice o12 n12 c12)
           have T1 := T0.w2 (u0 := .bool s12) (u1 := .slice o12 n12 c12)
           clear M0 M1 M2 T0 RB GB N7
           go_wp2_with fail
           go_meet
           case rel => exact ⟨s10, o10, n10, c10, d10, s11, o11, n11, c11, d11, s12, o12, n12, c12, d12, T1, M3, M4, M5⟩
       case rest =>
         clear T0 N1 N2 N3 N7 GB hk' hlb
         obtain ⟨s10, o10, n10, c10, d10, s11, o11, n11, c11, d11, s12, o12, n12, c12, d12, T0, N1, N2, N3⟩ := hcut
         have aB : Blk _ (w.heap.size) _ := T0.b 0 rfl; obtain ⟨a0c, a0f, a1c, a1f⟩ := aB.cf2; have alt := aB.lt; clear aB; have bB : Blk _ (w.heap.size + 1) _ := T0.b 1 rfl; obtain ⟨b0c, b0f, b1c, b1f⟩ := bB.cf2; have blt := bB.lt; clear bB; have eB : Blk _ (w.heap.size + 1 + 1) _ := T0.b 2 rfl; obtain ⟨e0c, e0f, e1c, e1f⟩ := eB.cf2; have elt := eB.lt; clear eB
         have R0 : Blk _ (w.heap.size + 1 + 1 + 1) _ := T0.b 3 rfl
         obtain ⟨r0c, r0f, r1c, r1f, r2c, r2f, r3c, r3f, r4c, r4f, r5c, r5f⟩ := R0.cf6
         have rlt := R0.lt
         have HB := T0.below
         have M1 := num_set6 N1 R0 (.bool s10) (.slice o10 n10 c10) (.bool s11) (.slice o11 n11 c11) (.bool s12) (.slice o12 n12 c12)
         have M2 := num_set6 N2 R0 (.bool s10) (.slice o10 n10 c10) (.bool s11) (.slice o11 n11 c11) (.bool s12) (.slice o12 n12 c12)
         have M3 := num_set6 N3 R0 (.bool s10) (.slice o10 n10 c10) (.bool s11) (.slice o11 n11 c11) (.bool s12) (.slice o12 n12 c12)
         clear T0 N1 N2 N3 R0
         go_wp2
         refine bodyPost_ret (v := .agg #[.bool s10, .slice o10 n10 c10, .bool s11, .slice o11 n11 c11, .bool s12, .slice o12 n12 c12]) (by simp [results, Try.results120, go_sem, r0c, r1c, r2c, r3c, r4c, r5c]) rfl ?_
         refine ⟨s10, o10, n10, c10, d10, s11, o11, n11, c11, d11, s12, o12, n12, c12, d12, rfl, M1, M2, M3, ?_⟩
         repeat' (refine Below.setCell ?_ (by simp; try omega) _)
         exact HB
end Go.Proofs.Ytnnojeggjnddpaa

/- How a value of four words reads as data: opened and shut. -/
namespace Go.Proofs.Ytnnojeggjnddpaa
open Go.ChangeShapes Go.WideShapes Go.ChangeAt Go.RowKit Go.Joins
theorem Try.own : ownKnob Try.prog.godebug = none := by kernel_rfl
end Go.Proofs.Ytnnojeggjnddpaa

/- Points: the law's own copy of one, and how one reads as data. -/
namespace Go.Proofs.Ytnnojeggjnddpaa
open Go.ChangeShapes Go.WideShapes Go.ChangeAt Go.RowKit Go.Joins
end Go.Proofs.Ytnnojeggjnddpaa

/- A spot as a point: the walks of the model's point, of the program's, and of the law. -/
namespace Go.Proofs.Ytnnojeggjnddpaa
open Go.RowKit
theorem small_int {x : Int} (h0 : -9223372036854775808 ≤ x) (h1 : x ≤ 9223372036854775807) : small x = true := by
  unfold small
  apply decide_eq_true
  omega
set_option maxRecDepth 100000 in
set_option maxHeartbeats 2000000 in
theorem specPointOf_any (x y : Int) (hx0 : -9223372036854775808 ≤ x) (hx1 : x ≤ 9223372036854775807) (hy0 : -9223372036854775808 ≤ y) (hy1 : y ≤ 9223372036854775807) (w : World) :
    Calls Try.prog 107 #[.agg #[.int .i64 x, .int .i64 y]] w (VP (.agg #[.int .u64 (ww3 x), .int .u64 (ww2 x), .int .u64 (ww1 x), .int .u64 (ww0 x), .int .u64 (ww3 y), .int .u64 (ww2 y), .int .u64 (ww1 y), .int .u64 (ww0 y), .int .u64 (ww3 1), .int .u64 (ww2 1), .int .u64 (ww1 1), .int .u64 (ww0 1)]) w) := by
  have B1 := Blk.new (w.alloc (.cells #[.int .i64 x, .int .i64 y] 141)) [.int .u64 0, .int .u64 0, .int .u64 0, .int .u64 0, .int .u64 0, .int .u64 0, .int .u64 0, .int .u64 0, .int .u64 0, .int .u64 0, .int .u64 0, .int .u64 0] 47 (g := w.heap.size + 1) (by simp)
  have HB0 : Below w.heap.size w ((w.alloc (.cells #[.int .i64 x, .int .i64 y] 141)).alloc (.cells #[.int .u64 0, .int .u64 0, .int .u64 0, .int .u64 0, .int .u64 0, .int .u64 0, .int .u64 0, .int .u64 0, .int .u64 0, .int .u64 0, .int .u64 0, .int .u64 0] 47)) := ((Below.refl _ _).alloc (Nat.le_refl _) _).alloc (by simp) _
  go_enter Try.func107, Try.ntmps107
  go_wp2_with fail
  refine (l3Spot_any x y hx0 hx1 hy0 hy1 _).mono ?_
  rintro e w1 ⟨s1, o1, n1, c1, d1, s2, o2, n2, c2, d2, s3, o3, n3, c3, d3, rfl, N1, N2, N3, hB⟩
  replace B1 := B1.step hB
  have HB1 : Below w.heap.size w w1 := HB0.trans (hB.mono HB0.size)
  clear hB HB0
  go_wp2_with fail
  refine (l3Point_small s1 o1 n1 c1 d1 s2 o2 n2 c2 d2 s3 o3 n3 c3 d3 x y 1 2 (by omega) (small_int hx0 hx1) (small_int hy0 hy1) (by decide) _ N1 N2 N3).mono ?_
  rintro e w2 ⟨rfl, hB⟩
  replace B1 := B1.step hB
  have HB2 : Below w.heap.size w w2 := HB1.trans (hB.mono HB1.size)
  clear hB HB1 N1 N2 N3
  have F : Blk (((((((((((((w2.setCell ⟨w.heap.size + 1, 0, none⟩ (.int .u64 (ww3 x))).setCell ⟨w.heap.size + 1, 1, none⟩ (.int .u64 (ww2 x))).setCell ⟨w.heap.size + 1, 2, none⟩ (.int .u64 (ww1 x))).setCell ⟨w.heap.size + 1, 3, none⟩ (.int .u64 (ww0 x))).setCell ⟨w.heap.size + 1, 4, none⟩ (.int .u64 (ww3 y))).setCell ⟨w.heap.size + 1, 5, none⟩ (.int .u64 (ww2 y))).setCell ⟨w.heap.size + 1, 6, none⟩ (.int .u64 (ww1 y))).setCell ⟨w.heap.size + 1, 7, none⟩ (.int .u64 (ww0 y))).setCell ⟨w.heap.size + 1, 8, none⟩ (.int .u64 (ww3 1))).setCell ⟨w.heap.size + 1, 9, none⟩ (.int .u64 (ww2 1))).setCell ⟨w.heap.size + 1, 10, none⟩ (.int .u64 (ww1 1))).setCell ⟨w.heap.size + 1, 11, none⟩ (.int .u64 (ww0 1))).alloc (.cells #[.int .u64 (ww3 x), .int .u64 (ww2 x), .int .u64 (ww1 x), .int .u64 (ww0 x), .int .u64 (ww3 y), .int .u64 (ww2 y), .int .u64 (ww1 y), .int .u64 (ww0 y), .int .u64 (ww3 1), .int .u64 (ww2 1), .int .u64 (ww1 1), .int .u64 (ww0 1)] 47)) (w.heap.size + 1) [.int .u64 (ww3 x), .int .u64 (ww2 x), .int .u64 (ww1 x), .int .u64 (ww0 x), .int .u64 (ww3 y), .int .u64 (ww2 y), .int .u64 (ww1 y), .int .u64 (ww0 y), .int .u64 (ww3 1), .int .u64 (ww2 1), .int .u64 (ww1 1), .int .u64 (ww0 1)] := ((((((((((((((B1.setI 0 (by simp) (.int .u64 (ww3 x))).setI 1 (by simp) (.int .u64 (ww2 x))).setI 2 (by simp) (.int .u64 (ww1 x))).setI 3 (by simp) (.int .u64 (ww0 x))).setI 4 (by simp) (.int .u64 (ww3 y))).setI 5 (by simp) (.int .u64 (ww2 y))).setI 6 (by simp) (.int .u64 (ww1 y))).setI 7 (by simp) (.int .u64 (ww0 y))).setI 8 (by simp) (.int .u64 (ww3 1))).setI 9 (by simp) (.int .u64 (ww2 1))).setI 10 (by simp) (.int .u64 (ww1 1))).setI 11 (by simp) (.int .u64 (ww0 1)))).alloc _)
  have HBF : Below w.heap.size w (((((((((((((w2.setCell ⟨w.heap.size + 1, 0, none⟩ (.int .u64 (ww3 x))).setCell ⟨w.heap.size + 1, 1, none⟩ (.int .u64 (ww2 x))).setCell ⟨w.heap.size + 1, 2, none⟩ (.int .u64 (ww1 x))).setCell ⟨w.heap.size + 1, 3, none⟩ (.int .u64 (ww0 x))).setCell ⟨w.heap.size + 1, 4, none⟩ (.int .u64 (ww3 y))).setCell ⟨w.heap.size + 1, 5, none⟩ (.int .u64 (ww2 y))).setCell ⟨w.heap.size + 1, 6, none⟩ (.int .u64 (ww1 y))).setCell ⟨w.heap.size + 1, 7, none⟩ (.int .u64 (ww0 y))).setCell ⟨w.heap.size + 1, 8, none⟩ (.int .u64 (ww3 1))).setCell ⟨w.heap.size + 1, 9, none⟩ (.int .u64 (ww2 1))).setCell ⟨w.heap.size + 1, 10, none⟩ (.int .u64 (ww1 1))).setCell ⟨w.heap.size + 1, 11, none⟩ (.int .u64 (ww0 1))).alloc (.cells #[.int .u64 (ww3 x), .int .u64 (ww2 x), .int .u64 (ww1 x), .int .u64 (ww0 x), .int .u64 (ww3 y), .int .u64 (ww2 y), .int .u64 (ww1 y), .int .u64 (ww0 y), .int .u64 (ww3 1), .int .u64 (ww2 1), .int .u64 (ww1 1), .int .u64 (ww0 1)] 47)) := (by refine Below.alloc ?_ (by have := HB2.size; simpa [World.setCell] using this) _; exact ((((((((((((HB2.setCell (p := ⟨w.heap.size + 1, 0, none⟩) (by simp) (.int .u64 (ww3 x))).setCell (p := ⟨w.heap.size + 1, 1, none⟩) (by simp) (.int .u64 (ww2 x))).setCell (p := ⟨w.heap.size + 1, 2, none⟩) (by simp) (.int .u64 (ww1 x))).setCell (p := ⟨w.heap.size + 1, 3, none⟩) (by simp) (.int .u64 (ww0 x))).setCell (p := ⟨w.heap.size + 1, 4, none⟩) (by simp) (.int .u64 (ww3 y))).setCell (p := ⟨w.heap.size + 1, 5, none⟩) (by simp) (.int .u64 (ww2 y))).setCell (p := ⟨w.heap.size + 1, 6, none⟩) (by simp) (.int .u64 (ww1 y))).setCell (p := ⟨w.heap.size + 1, 7, none⟩) (by simp) (.int .u64 (ww0 y))).setCell (p := ⟨w.heap.size + 1, 8, none⟩) (by simp) (.int .u64 (ww3 1))).setCell (p := ⟨w.heap.size + 1, 9, none⟩) (by simp) (.int .u64 (ww2 1))).setCell (p := ⟨w.heap.size + 1, 10, none⟩) (by simp) (.int .u64 (ww1 1))).setCell (p := ⟨w.heap.size + 1, 11, none⟩) (by simp) (.int .u64 (ww0 1))))
  have tc0 := B1.c 0 rfl; have tf0 := B1.f 0 rfl; have tc1 := B1.c 1 rfl; have tf1 := B1.f 1 rfl; have tc2 := B1.c 2 rfl; have tf2 := B1.f 2 rfl; have tc3 := B1.c 3 rfl; have tf3 := B1.f 3 rfl; have tc4 := B1.c 4 rfl; have tf4 := B1.f 4 rfl; have tc5 := B1.c 5 rfl; have tf5 := B1.f 5 rfl; have tc6 := B1.c 6 rfl; have tf6 := B1.f 6 rfl; have tc7 := B1.c 7 rfl; have tf7 := B1.f 7 rfl; have tc8 := B1.c 8 rfl; have tf8 := B1.f 8 rfl; have tc9 := B1.c 9 rfl; have tf9 := B1.f 9 rfl; have tc10 := B1.c 10 rfl; have tf10 := B1.f 10 rfl; have tc11 := B1.c 11 rfl; have tf11 := B1.f 11 rfl; have tl := B1.lt
  clear B1 HB2
  go_wp2
  generalize (((((((((((((w2.setCell ⟨w.heap.size + 1, 0, none⟩ (.int .u64 (ww3 x))).setCell ⟨w.heap.size + 1, 1, none⟩ (.int .u64 (ww2 x))).setCell ⟨w.heap.size + 1, 2, none⟩ (.int .u64 (ww1 x))).setCell ⟨w.heap.size + 1, 3, none⟩ (.int .u64 (ww0 x))).setCell ⟨w.heap.size + 1, 4, none⟩ (.int .u64 (ww3 y))).setCell ⟨w.heap.size + 1, 5, none⟩ (.int .u64 (ww2 y))).setCell ⟨w.heap.size + 1, 6, none⟩ (.int .u64 (ww1 y))).setCell ⟨w.heap.size + 1, 7, none⟩ (.int .u64 (ww0 y))).setCell ⟨w.heap.size + 1, 8, none⟩ (.int .u64 (ww3 1))).setCell ⟨w.heap.size + 1, 9, none⟩ (.int .u64 (ww2 1))).setCell ⟨w.heap.size + 1, 10, none⟩ (.int .u64 (ww1 1))).setCell ⟨w.heap.size + 1, 11, none⟩ (.int .u64 (ww0 1))).alloc (.cells #[.int .u64 (ww3 x), .int .u64 (ww2 x), .int .u64 (ww1 x), .int .u64 (ww0 x), .int .u64 (ww3 y), .int .u64 (ww2 y), .int .u64 (ww1 y), .int .u64 (ww0 y), .int .u64 (ww3 1), .int .u64 (ww2 1), .int .u64 (ww1 1), .int .u64 (ww0 1)] 47)) = WF at *
  have u0 := F.c 0 rfl; have u1 := F.c 1 rfl; have u2 := F.c 2 rfl; have u3 := F.c 3 rfl; have u4 := F.c 4 rfl; have u5 := F.c 5 rfl; have u6 := F.c 6 rfl; have u7 := F.c 7 rfl; have u8 := F.c 8 rfl; have u9 := F.c 9 rfl; have u10 := F.c 10 rfl; have u11 := F.c 11 rfl
  refine bodyPost_ret (v := .agg #[.int .u64 (ww3 x), .int .u64 (ww2 x), .int .u64 (ww1 x), .int .u64 (ww0 x), .int .u64 (ww3 y), .int .u64 (ww2 y), .int .u64 (ww1 y), .int .u64 (ww0 y), .int .u64 (ww3 1), .int .u64 (ww2 1), .int .u64 (ww1 1), .int .u64 (ww0 1)]) (by simp [results, Try.results107, go_sem, u0, u1, u2, u3, u4, u5, u6, u7, u8, u9, u10, u11]) rfl ?_
  exact ⟨rfl, HBF⟩
end Go.Proofs.Ytnnojeggjnddpaa

/- Spots and segments beside points: the walks of their rightness, by the model and by the program. -/
namespace Go.Proofs.Ytnnojeggjnddpaa
open Go.RowKit
/-- Four cells of a block, to be written. -/
structure Quad (W : World) (g : Nat) (v0 v1 v2 v3 : Value) : Prop where
  c0 : W.cell? ⟨g, 0, none⟩ = some v0
  c1 : W.cell? ⟨g, 1, none⟩ = some v1
  c2 : W.cell? ⟨g, 2, none⟩ = some v2
  c3 : W.cell? ⟨g, 3, none⟩ = some v3
  f0 : W.frozen? ⟨g, 0, none⟩ = false
  f1 : W.frozen? ⟨g, 1, none⟩ = false
  f2 : W.frozen? ⟨g, 2, none⟩ = false
  f3 : W.frozen? ⟨g, 3, none⟩ = false
  lt : g < W.heap.size
theorem Quad.below {W W' : World} {B g : Nat} {v0 v1 v2 v3 : Value} (h : Quad W g v0 v1 v2 v3) (hB : Below B W W') (hg : g < B) : Quad W' g v0 v1 v2 v3 :=
  ⟨(hB.cell (p := ⟨g, 0, none⟩) hg).trans h.c0, (hB.cell (p := ⟨g, 1, none⟩) hg).trans h.c1, (hB.cell (p := ⟨g, 2, none⟩) hg).trans h.c2, (hB.cell (p := ⟨g, 3, none⟩) hg).trans h.c3,
   (hB.frozen (p := ⟨g, 0, none⟩) hg).trans h.f0, (hB.frozen (p := ⟨g, 1, none⟩) hg).trans h.f1, (hB.frozen (p := ⟨g, 2, none⟩) hg).trans h.f2, (hB.frozen (p := ⟨g, 3, none⟩) hg).trans h.f3, Nat.lt_of_lt_of_le h.lt hB.size⟩
theorem Quad.alloc {W : World} {g : Nat} {v0 v1 v2 v3 : Value} (h : Quad W g v0 v1 v2 v3) (o : Obj) : Quad (W.alloc o) g v0 v1 v2 v3 := h.below ((Below.refl W.heap.size W).alloc (Nat.le_refl _) o) h.lt
theorem Quad.new (W : World) (v0 v1 v2 v3 : Value) (t : TypeId) {g : Nat} (hg : g = W.heap.size) : Quad (W.alloc (.cells #[v0, v1, v2, v3] t)) g v0 v1 v2 v3 := by
  subst hg
  constructor <;> simp [go_sem]
end Go.Proofs.Ytnnojeggjnddpaa

/- The ends of a segment as points: the program's walk. -/
namespace Go.Proofs.Ytnnojeggjnddpaa
open Go.RowKit
theorem Blk.set12 {W : World} {vs : List Value} {v0 v1 v2 v3 v4 v5 v6 v7 v8 v9 v10 v11 : Value} {g g' : Nat} (G : Blk W g' vs) (hg : g' ≠ g) : Blk ((((((((((((W.setCell ⟨g, 0, none⟩ v0).setCell ⟨g, 1, none⟩ v1).setCell ⟨g, 2, none⟩ v2).setCell ⟨g, 3, none⟩ v3).setCell ⟨g, 4, none⟩ v4).setCell ⟨g, 5, none⟩ v5).setCell ⟨g, 6, none⟩ v6).setCell ⟨g, 7, none⟩ v7).setCell ⟨g, 8, none⟩ v8).setCell ⟨g, 9, none⟩ v9).setCell ⟨g, 10, none⟩ v10).setCell ⟨g, 11, none⟩ v11) g' vs :=
  (((((((((((G.setO hg v0).setO hg v1).setO hg v2).setO hg v3).setO hg v4).setO hg v5).setO hg v6).setO hg v7).setO hg v8).setO hg v9).setO hg v10).setO hg v11
theorem Below.set12 {B g : Nat} {w W : World} {v0 v1 v2 v3 v4 v5 v6 v7 v8 v9 v10 v11 : Value} (hg : B ≤ g) (h : Below B w W) : Below B w ((((((((((((W.setCell ⟨g, 0, none⟩ v0).setCell ⟨g, 1, none⟩ v1).setCell ⟨g, 2, none⟩ v2).setCell ⟨g, 3, none⟩ v3).setCell ⟨g, 4, none⟩ v4).setCell ⟨g, 5, none⟩ v5).setCell ⟨g, 6, none⟩ v6).setCell ⟨g, 7, none⟩ v7).setCell ⟨g, 8, none⟩ v8).setCell ⟨g, 9, none⟩ v9).setCell ⟨g, 10, none⟩ v10).setCell ⟨g, 11, none⟩ v11) :=
  (((((((((((h.setCell (p := ⟨g, 0, none⟩) hg _).setCell (p := ⟨g, 1, none⟩) hg _).setCell (p := ⟨g, 2, none⟩) hg _).setCell (p := ⟨g, 3, none⟩) hg _).setCell (p := ⟨g, 4, none⟩) hg _).setCell (p := ⟨g, 5, none⟩) hg _).setCell (p := ⟨g, 6, none⟩) hg _).setCell (p := ⟨g, 7, none⟩) hg _).setCell (p := ⟨g, 8, none⟩) hg _).setCell (p := ⟨g, 9, none⟩) hg _).setCell (p := ⟨g, 10, none⟩) hg _).setCell (p := ⟨g, 11, none⟩) hg _
end Go.Proofs.Ytnnojeggjnddpaa
