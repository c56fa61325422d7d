/- Part 11 of the walks that the proof leans on. -/
import Derived.Test.YteakhlipmmfilaaGreatQy10
import Derived.Test.YteakhlipmmfilaaGreatQy8
import Derived.Test.YteakhlipmmfilaaGreatQy7
namespace Go.Proofs.YteakhlipmmfilaaGreat
open Go.RowKit
set_option maxRecDepth 100000 in
theorem eqSpo (x y u v : Int) (w : World) : (Op.equalIn 10000 51 (.agg #[.int .i64 x, .int .i64 y]) (.agg #[.int .i64 u, .int .i64 v])).run Tryz.prog w = .ok (decide (x = u) && decide (y = v)) w := by
 have u3 := Tryz.underlying2
 have a3 := Tryz.isAgg2
 have z3 := Tryz.sizeOf2
 rw [show (10000 : Nat) = 9999 + 1 from rfl, Op.equalIn]
 simp only [Sem.run_bind, run_underlying Tryz.underlying51, Result.andThen_ok]
 go_simp
 by_cases h3 : x = u
 · subst h3
   by_cases h2 : y = v
   · subst h2
     simp
   · simp [h2]
 · simp [h3]
set_option maxRecDepth 100000 in
set_option maxHeartbeats 8000000 in
theorem seg_any (g : Nat) (ao : Option Addr) (n cap : Nat) (cs : List Int) (w : World) (h : Rdr w g ao n cap cs) :
   Calls Tryz.prog 80 #[.pointer (some ⟨g, 0, none⟩)] w (RdP g ao n cap cs IsSg w) := by
 have hg := h.lt
 have hne : w.heap.size ≠ g := by omega
 have B := Blk.new w [.int .i64 0, .int .i64 0, .int .i64 0, .int .i64 0] 53 rfl
 rw [show ([.int .i64 0, .int .i64 0, .int .i64 0, .int .i64 0] : List Value).toArray = #[.int .i64 0, .int .i64 0, .int .i64 0, .int .i64 0] from rfl] at B
 have R := h.alloc (.cells #[.int .i64 0, .int .i64 0, .int .i64 0, .int .i64 0] 53)
 have K := (Kept.refl g w).alloc (.cells #[.int .i64 0, .int .i64 0, .int .i64 0, .int .i64 0] 53)
 clear h
 go_enter Tryz.func80, Tryz.ntmps80
 go_wp2_with fail
 refine (below_any 20 (by decide) (by decide) g ao n cap cs _ R).mono ?_
 rintro e w1 ⟨_, rfl, ⟨v, rfl, v0, v1⟩, R1, K1⟩
 replace K := K.trans K1
 replace B := B.kept K1 hne
 clear R K1
 have R := R1
 clear R1
 by_cases hv0 : v = 0
 · subst hv0
   go_wp2_with fail
   refine (off_any g ao n cap cs _ R).mono ?_
   rintro e w2 ⟨_, rfl, ⟨a, rfl, ia⟩, R1, K1⟩
   replace K := K.trans K1
   replace B := B.kept K1 hne
   clear R K1
   have R := R1
   clear R1
   go_wp2_with fail
   refine (off_any g ao n cap cs _ R).mono ?_
   rintro e w3 ⟨_, rfl, ⟨b, rfl, ib⟩, R1, K1⟩
   replace K := K.trans K1
   replace B := B.kept K1 hne
   clear R K1
   have R := R1
   clear R1
   go_wp2_with fail
   refine (off_any g ao n cap cs _ R).mono ?_
   rintro e w4 ⟨_, rfl, ⟨c, rfl, ic⟩, R1, K1⟩
   replace K := K.trans K1
   replace B := B.kept K1 hne
   clear R K1
   have R := R1
   clear R1
   go_wp2_with fail
   refine (off_any g ao n cap cs _ R).mono ?_
   rintro e w5 ⟨_, rfl, ⟨d, rfl, id⟩, R1, K1⟩
   replace K := K.trans K1
   replace B := B.kept K1 hne
   clear R K1
   have R := R1
   clear R1
   have o0 := B.c 0 rfl; have f0 := B.f 0 rfl; have o1 := B.c 1 rfl; have f1 := B.f 1 rfl; have o2 := B.c 2 rfl; have f2 := B.f 2 rfl; have o3 := B.c 3 rfl; have f3 := B.f 3 rfl; have ol := B.lt
   clear B
   go_wp2
   refine bodyPost_ret (v := .agg #[.int .i64 a, .int .i64 b, .int .i64 c, .int .i64 d]) (by simp [results, Tryz.results80, go_sem, o0, o1, o2, o3]) rfl ?_
   exact ⟨_, rfl, ⟨_, _, _, _, rfl, ia, ib, ic, id⟩, (((R.setN (by exact hg) _).setN (by exact hg) _).setN (by exact hg) _).setN (by exact hg) _, (((K.setN (by simp) (by simp; omega) _).setN (by simp) (by simp; omega) _).setN (by simp) (by simp; omega) _).setN (by simp) (by simp; omega) _⟩
 · have b0 : (v == 0) = false := beq_eq_false_iff_ne.2 hv0
   by_cases hv1 : v = 1
   · subst hv1
     go_wp2_with fail
     refine (near_pm g ao n cap cs _ R).mono ?_
     rintro e w2 ⟨_, rfl, ⟨x, rfl, x0, x1⟩, R1, K1⟩
     replace K := K.trans K1
     replace B := B.kept K1 hne
     clear R K1
     have R := R1
     clear R1
     go_wp2_with fail
     refine (near_pm g ao n cap cs _ R).mono ?_
     rintro e w3 ⟨_, rfl, ⟨y, rfl, y0, y1⟩, R1, K1⟩
     replace K := K.trans K1
     replace B := B.kept K1 hne
     clear R K1
     have R := R1
     clear R1
     go_wp2_with fail
     refine (near_pm g ao n cap cs _ R).mono ?_
     rintro e w4 ⟨_, rfl, ⟨u, rfl, u0, u1⟩, R1, K1⟩
     replace K := K.trans K1
     replace B := B.kept K1 hne
     clear R K1
     have R := R1
     clear R1
     go_wp2_with fail
     refine (near_pm g ao n cap cs _ R).mono ?_
     rintro e w5 ⟨_, rfl, ⟨z, rfl, z0, z1⟩, R1, K1⟩
     replace K := K.trans K1
     replace B := B.kept K1 hne
     clear R K1
     have R := R1
     clear R1
     obtain ⟨a, b, c, d, k, ia, ib, ic, id, CS⟩ := segOf_ex x y u z (by constructor <;> omega) (by constructor <;> omega) (by constructor <;> omega) (by constructor <;> omega)
     go_wp2_with fail
     refine (CS _).mono ?_
     rintro e w6 ⟨rfl, hB⟩
     replace R := R.step hB
     replace K := K.trans (Kept.of hB)
     replace B := B.step hB
     clear hB
     clear CS
     have X := Blk.new w6 [.int .i64 a, .int .i64 b, .int .i64 c, .int .i64 d] 53 rfl
     rw [show ([.int .i64 a, .int .i64 b, .int .i64 c, .int .i64 d] : List Value).toArray = #[.int .i64 a, .int .i64 b, .int .i64 c, .int .i64 d] from rfl] at X
     replace R := R.alloc (.cells #[.int .i64 a, .int .i64 b, .int .i64 c, .int .i64 d] 53)
     replace K := K.alloc (.cells #[.int .i64 a, .int .i64 b, .int .i64 c, .int .i64 d] 53)
     replace B := B.alloc (.cells #[.int .i64 a, .int .i64 b, .int .i64 c, .int .i64 d] 53)
     obtain ⟨c0, c1, c2, c3⟩ := X.cs4
     have xl := B.lt
     clear X
     have o0 := B.c 0 rfl; have f0 := B.f 0 rfl; have o1 := B.c 1 rfl; have f1 := B.f 1 rfl; have o2 := B.c 2 rfl; have f2 := B.f 2 rfl; have o3 := B.c 3 rfl; have f3 := B.f 3 rfl; have ol := B.lt
     clear B
     go_wp2
     refine bodyPost_ret (v := .agg #[.int .i64 a, .int .i64 b, .int .i64 c, .int .i64 d]) (by simp [results, Tryz.results80, go_sem, o0, o1, o2, o3]) rfl ?_
     exact ⟨_, rfl, ⟨_, _, _, _, rfl, ia, ib, ic, id⟩, (((R.setN (by exact hg) _).setN (by exact hg) _).setN (by exact hg) _).setN (by exact hg) _, (((K.setN (by simp) (by simp; omega) _).setN (by simp) (by simp; omega) _).setN (by simp) (by simp; omega) _).setN (by simp) (by simp; omega) _⟩
   · have b1 : (v == 1) = false := beq_eq_false_iff_ne.2 hv1
     by_cases hv2 : v = 2
     · subst hv2
       go_wp2_with fail
       refine (spot_any g ao n cap cs _ R).mono ?_
       rintro e w2 ⟨_, rfl, ⟨x, y, rfl, x0, x1, y0, y1⟩, R1, K1⟩
       replace K := K.trans K1
       replace B := B.kept K1 hne
       clear R K1
       have R := R1
       clear R1
       go_wp2_with fail
       refine (spot_any g ao n cap cs _ R).mono ?_
       rintro e w3 ⟨_, rfl, ⟨u, z, rfl, u0, u1, z0, z1⟩, R1, K1⟩
       replace K := K.trans K1
       replace B := B.kept K1 hne
       clear R K1
       have R := R1
       clear R1
       have o0 := B.c 0 rfl; have f0 := B.f 0 rfl; have o1 := B.c 1 rfl; have f1 := B.f 1 rfl; have o2 := B.c 2 rfl; have f2 := B.f 2 rfl; have o3 := B.c 3 rfl; have f3 := B.f 3 rfl; have ol := B.lt
       clear B
       go_wp2
       refine bodyPost_ret (v := .agg #[.int .i64 x, .int .i64 y, .int .i64 u, .int .i64 z]) (by simp [results, Tryz.results80, go_sem, o0, o1, o2, o3]) rfl ?_
       exact ⟨_, rfl, ⟨_, _, _, _, rfl, (by constructor <;> omega), (by constructor <;> omega), (by constructor <;> omega), (by constructor <;> omega)⟩, (((R.setN (by exact hg) _).setN (by exact hg) _).setN (by exact hg) _).setN (by exact hg) _, (((K.setN (by simp) (by simp; omega) _).setN (by simp) (by simp; omega) _).setN (by simp) (by simp; omega) _).setN (by simp) (by simp; omega) _⟩
     · have b2 : (v == 2) = false := beq_eq_false_iff_ne.2 hv2
       go_wp2_with fail
       refine (spot_any g ao n cap cs _ R).mono ?_
       rintro e w2 ⟨_, rfl, ⟨x, y, rfl, x0, x1, y0, y1⟩, R1, K1⟩
       replace K := K.trans K1
       replace B := B.kept K1 hne
       clear R K1
       have R := R1
       clear R1
       have gl2 := R.lt
       have hn2 : w2.heap.size ≠ g := by omega
       have X2 := Blk.new w2 [.int .i64 x, .int .i64 y] 51 rfl
       rw [show ([.int .i64 x, .int .i64 y] : List Value).toArray = #[.int .i64 x, .int .i64 y] from rfl] at X2
       replace R := R.alloc (.cells #[.int .i64 x, .int .i64 y] 51)
       replace K := K.alloc (.cells #[.int .i64 x, .int .i64 y] 51)
       replace B := B.alloc (.cells #[.int .i64 x, .int .i64 y] 51)
       go_wp2_with fail
       refine (spot_any g ao n cap cs _ R).mono ?_
       rintro e w3 ⟨_, rfl, ⟨u, z, rfl, u0, u1, z0, z1⟩, R1, K1⟩
       replace K := K.trans K1
       replace B := B.kept K1 hne
       replace X2 := X2.kept K1 hn2
       clear R K1
       have R := R1
       clear R1
       have gl3 := R.lt
       have x2l := X2.lt
       have hwl := B.lt
       have Y2 := X2
       have YB := B
       have YR := R
       have YK := K
       have X3 := Blk.new w3 [.int .i64 u, .int .i64 z] 51 rfl
       rw [show ([.int .i64 u, .int .i64 z] : List Value).toArray = #[.int .i64 u, .int .i64 z] from rfl] at X3
       replace R := R.alloc (.cells #[.int .i64 u, .int .i64 z] 51)
       replace K := K.alloc (.cells #[.int .i64 u, .int .i64 z] 51)
       replace B := B.alloc (.cells #[.int .i64 u, .int .i64 z] 51)
       replace X2 := X2.alloc (.cells #[.int .i64 u, .int .i64 z] 51)
       have E := eqSpo x y u z
       have n32 : ¬ (w3.heap.size = w2.heap.size) := by omega
       have n23 : ¬ (w2.heap.size = w3.heap.size) := by omega
       by_cases he : x = u ∧ y = z
       · rw [decide_eq_true he.1, decide_eq_true he.2] at E
         obtain ⟨e1, e2⟩ := he
         have wr : IntKind.i64.wrap (u + 1) = u + 1 := by rw [IntKind.wrap_i64]; omega
         obtain ⟨p0, p1⟩ := X2.cs2
         obtain ⟨r0, rf0, r1, rf1⟩ := X3.cf2
         have x3l := X3.lt
         obtain ⟨a, b, c, d, k, ia, ib, ic, id, CS⟩ := segOf_ex x y (u + 1) z (by constructor <;> omega) (by constructor <;> omega) (by constructor <;> omega) (by constructor <;> omega)
         clear e1 e2
         go_upto_region 13 with fail
         clear p0 p1 r0 rf0 r1 rf1 X2 X3 E B R K x3l
         have X2 := Y2.alloc (.cells #[.int .i64 (u + 1), .int .i64 z] 51)
         have B := YB.alloc (.cells #[.int .i64 (u + 1), .int .i64 z] 51)
         have R := YR.alloc (.cells #[.int .i64 (u + 1), .int .i64 z] 51)
         have K := YK.alloc (.cells #[.int .i64 (u + 1), .int .i64 z] 51)
         have X3 := Blk.new w3 [.int .i64 (u + 1), .int .i64 z] 51 rfl
         rw [show ([.int .i64 (u + 1), .int .i64 z] : List Value).toArray = #[.int .i64 (u + 1), .int .i64 z] from rfl] at X3
         clear Y2 YB YR YK
         obtain ⟨p0, p1⟩ := X2.cs2
         obtain ⟨r0, r1⟩ := X3.cs2
         go_wp2_with fail
         clear p0 p1 r0 r1 X2 X3
         generalize (w3.alloc (.cells #[.int .i64 (u + 1), .int .i64 z] 51)) = W3 at *
         refine (CS _).mono ?_
         rintro e w4 ⟨rfl, hB⟩
         replace R := R.step hB
         replace K := K.trans (Kept.of hB)
         replace B := B.step hB
         clear hB CS
         have X := Blk.new w4 [.int .i64 a, .int .i64 b, .int .i64 c, .int .i64 d] 53 rfl
         rw [show ([.int .i64 a, .int .i64 b, .int .i64 c, .int .i64 d] : List Value).toArray = #[.int .i64 a, .int .i64 b, .int .i64 c, .int .i64 d] from rfl] at X
         replace R := R.alloc (.cells #[.int .i64 a, .int .i64 b, .int .i64 c, .int .i64 d] 53)
         replace K := K.alloc (.cells #[.int .i64 a, .int .i64 b, .int .i64 c, .int .i64 d] 53)
         replace B := B.alloc (.cells #[.int .i64 a, .int .i64 b, .int .i64 c, .int .i64 d] 53)
         obtain ⟨c0, c1, c2, c3⟩ := X.cs4
         have xl := B.lt
         clear X
         have o0 := B.c 0 rfl; have f0 := B.f 0 rfl; have o1 := B.c 1 rfl; have f1 := B.f 1 rfl; have o2 := B.c 2 rfl; have f2 := B.f 2 rfl; have o3 := B.c 3 rfl; have f3 := B.f 3 rfl; have ol := B.lt
         clear B
         go_wp2
         refine bodyPost_ret (v := .agg #[.int .i64 a, .int .i64 b, .int .i64 c, .int .i64 d]) (by simp [results, Tryz.results80, go_sem, o0, o1, o2, o3]) rfl ?_
         exact ⟨_, rfl, ⟨_, _, _, _, rfl, ia, ib, ic, id⟩, (((R.setN (by exact hg) _).setN (by exact hg) _).setN (by exact hg) _).setN (by exact hg) _, (((K.setN (by simp) (by simp; omega) _).setN (by simp) (by simp; omega) _).setN (by simp) (by simp; omega) _).setN (by simp) (by simp; omega) _⟩
       · have E' : ∀ w, (Op.equalIn 10000 51 (.agg #[.int .i64 x, .int .i64 y]) (.agg #[.int .i64 u, .int .i64 z])).run Tryz.prog w = .ok false w := by
           intro w
           rw [E w]
           congr 1
           simp only [Bool.and_eq_false_iff, decide_eq_false_iff_not]
           omega
         obtain ⟨p0, p1⟩ := X2.cs2
         obtain ⟨r0, r1⟩ := X3.cs2
         obtain ⟨a, b, c, d, k, ia, ib, ic, id, CS⟩ := segOf_ex x y u z (by constructor <;> omega) (by constructor <;> omega) (by constructor <;> omega) (by constructor <;> omega)
         clear he E Y2 YB YR YK
         go_wp2_with fail
         clear p0 p1 r0 r1 X2 X3 E'
         generalize (w3.alloc (.cells #[.int .i64 u, .int .i64 z] 51)) = W3 at *
         refine (CS _).mono ?_
         rintro e w4 ⟨rfl, hB⟩
         replace R := R.step hB
         replace K := K.trans (Kept.of hB)
         replace B := B.step hB
         clear hB CS
         have X := Blk.new w4 [.int .i64 a, .int .i64 b, .int .i64 c, .int .i64 d] 53 rfl
         rw [show ([.int .i64 a, .int .i64 b, .int .i64 c, .int .i64 d] : List Value).toArray = #[.int .i64 a, .int .i64 b, .int .i64 c, .int .i64 d] from rfl] at X
         replace R := R.alloc (.cells #[.int .i64 a, .int .i64 b, .int .i64 c, .int .i64 d] 53)
         replace K := K.alloc (.cells #[.int .i64 a, .int .i64 b, .int .i64 c, .int .i64 d] 53)
         replace B := B.alloc (.cells #[.int .i64 a, .int .i64 b, .int .i64 c, .int .i64 d] 53)
         obtain ⟨c0, c1, c2, c3⟩ := X.cs4
         have xl := B.lt
         clear X
         have o0 := B.c 0 rfl; have f0 := B.f 0 rfl; have o1 := B.c 1 rfl; have f1 := B.f 1 rfl; have o2 := B.c 2 rfl; have f2 := B.f 2 rfl; have o3 := B.c 3 rfl; have f3 := B.f 3 rfl; have ol := B.lt
         clear B
         go_wp2
         refine bodyPost_ret (v := .agg #[.int .i64 a, .int .i64 b, .int .i64 c, .int .i64 d]) (by simp [results, Tryz.results80, go_sem, o0, o1, o2, o3]) rfl ?_
         exact ⟨_, rfl, ⟨_, _, _, _, rfl, ia, ib, ic, id⟩, (((R.setN (by exact hg) _).setN (by exact hg) _).setN (by exact hg) _).setN (by exact hg) _, (((K.setN (by simp) (by simp; omega) _).setN (by simp) (by simp; omega) _).setN (by simp) (by simp; omega) _).setN (by simp) (by simp; omega) _⟩
theorem Tryz.infoSegD : (Tryz.prog.info? 53).map (fun i => (i.zero, i.size, i.bytes)) = some (some (.agg #[.int .i64 0, .int .i64 0, .int .i64 0, .int .i64 0]), 4, 32) := by kernel_rfl
theorem ownG_kept {w w' : World} {base n g : Nat} {e : TypeId} {size : Nat} {v : Value} {xs : List Value} (h : w.ownsRow base e size v n xs) (K : Kept g w w') (hg : g < base) : w'.ownsRow base e size v n xs := by
 rcases h with ⟨h0, h1 | ⟨b, cap, cur, h1, h2, h3, h4⟩⟩
 · exact ⟨h0, .inl h1⟩
 · refine ⟨h0, .inr ⟨b, cap, cur, h1, h2, ?_, h4⟩⟩
   rw [K.block b (Array.getElem?_eq_some_iff.1 h3).1 (by omega)]
   exact h3
theorem ownG_step {w w' : World} {base n : Nat} {e : TypeId} {size : Nat} {v : Value} {xs : List Value} (h : w.ownsRow base e size v n xs) (hB : Below w.heap.size w w') : w'.ownsRow base e size v n xs := by
 rcases h with ⟨h0, h1 | ⟨g, cap, cur, h1, h2, h3, h4⟩⟩
 · exact ⟨h0, .inl h1⟩
 · refine ⟨h0, .inr ⟨g, cap, cur, h1, h2, ?_, h4⟩⟩
   rw [hB.block g (Array.getElem?_eq_some_iff.1 h3).1]
   exact h3
theorem ownG_mono {w : World} {b b' n : Nat} {e : TypeId} {size : Nat} {v : Value} {xs : List Value} (h : w.ownsRow b' e size v n xs) (hb : b ≤ b') : w.ownsRow b e size v n xs := by
 rcases h with ⟨h0, h1 | ⟨g, cap, cur, h1, h2, h3⟩⟩
 · exact ⟨h0, .inl h1⟩
 · exact ⟨h0, .inr ⟨g, cap, cur, h1, Nat.le_trans hb h2, h3⟩⟩
theorem ownG_form {w : World} {base n : Nat} {e : TypeId} {size : Nat} {v : Value} {xs : List Value} (h : w.ownsRow base e size v n xs) (hn : 0 < n) : ∃ g cap, v = .slice (some ⟨g, 0, none⟩) n cap ∧ base ≤ g ∧ n ≤ cap ∧ cap ≤ maxLen := by
 rcases h.2 with ⟨_, h0⟩ | ⟨g, cap, cur, hv, hb, _, h1, h2, _⟩
 · omega
 · exact ⟨g, cap, hv, hb, h1, h2⟩
theorem ownG_slice {w : World} {base n : Nat} {e : TypeId} {size : Nat} {v : Value} {xs : List Value} (h : w.ownsRow base e size v n xs) : ∃ ao cap, v = .slice ao n cap := by
 rcases h.2 with ⟨h1, h0⟩ | ⟨g, cap, cur, hv, hb, _⟩
 · subst h0; exact ⟨none, 0, h1⟩
 · exact ⟨_, cap, hv⟩
theorem ownG_blk {w : World} {base g n cap : Nat} {e : TypeId} {size : Nat} {xs : List Value} (h : w.ownsRow base e size (.slice (some ⟨g, 0, none⟩) n cap) n xs) : Blk w g xs := by
 refine ⟨(h.lt g rfl).2, fun i v hi => ⟨?_, ?_⟩⟩
 · have h1 := h.cells rfl i v hi
   have hadd : (⟨g, 0, none⟩ : Addr).add i = ⟨g, i, none⟩ := by unfold Addr.add; split <;> simp_all
   rw [hadd] at h1
   exact h1
 · rcases h.2 with ⟨h', _⟩ | ⟨g', cap', cur, h', _, hg, _⟩
   · cases h'
   · cases h'
     simp [World.frozen?, hg]
theorem ownG_set {w : World} {base g n cap : Nat} {e : TypeId} {size : Nat} {xs : List Value} (h : w.ownsRow base e size (.slice (some ⟨g, 0, none⟩) n cap) n xs) (j : Nat) (u : Value) : (w.setCell ⟨g, j, none⟩ u).ownsRow base e size (.slice (some ⟨g, 0, none⟩) n cap) n (xs.set j u) := by
 refine ⟨by rw [List.length_set]; exact h.1, ?_⟩
 rcases h.2 with ⟨h', _⟩ | ⟨g', cap', cur, h', hb, hg, h1, h2, h3, h4⟩
 · cases h'
 · cases h'
   refine .inr ⟨g, cap, cur.setIfInBounds j u, rfl, hb, ?_, h1, h2, by simpa using h3, ?_⟩
   · simp [World.setCell, Array.getElem?_modify, hg]
   · rw [← h4]
     simp [List.take_set]
theorem ownG_setO {w : World} {base n : Nat} {e : TypeId} {size : Nat} {v : Value} {xs : List Value} (h : w.ownsRow base e size v n xs) {p : Addr} (hp : p.block < base) (u : Value) : (w.setCell p u).ownsRow base e size v n xs := by
 rcases h with ⟨h0, h1 | ⟨g, cap, cur, h1, h2, h3, h4⟩⟩
 · exact ⟨h0, .inl h1⟩
 · refine ⟨h0, .inr ⟨g, cap, cur, h1, h2, ?_, h4⟩⟩
   rw [Below.heap_setCell _ _ _ _ (by omega)]
   exact h3
theorem four_new (w : World) (a b c d : Value) (t : TypeId) : ∀ j u, [a, b, c, d][j]? = some u → (w.alloc (.cells #[a, b, c, d] t)).cell? ((⟨w.heap.size, 0, none⟩ : Addr).add j) = some u := by
 intro j u hj
 match j, hj with
 | 0, hj => simp at hj; subst hj; simp [Addr.add]
 | 1, hj => simp at hj; subst hj; simp [Addr.add]
 | 2, hj => simp at hj; subst hj; simp [Addr.add]
 | 3, hj => simp at hj; subst hj; simp [Addr.add]
 | j + 4, hj => simp at hj
theorem four_one (x y z t : Int) : ∀ u ∈ [Value.int .i64 x, Value.int .i64 y, Value.int .i64 z, Value.int .i64 t], u.oneCell' = true := by
 intro u hu
 simp only [List.mem_cons, List.not_mem_nil, or_false] at hu
 rcases hu with rfl | rfl | rfl | rfl <;> rfl
structure SgRow (w : World) (base : Nat) (v : Value) (c : Nat) (L : List Int) : Prop where
 own : w.ownsRow base 53 4 v c (L.map (Value.int .i64))
 i64 : ∀ z ∈ L, I64 z
theorem SgRow.len {w : World} {base : Nat} {v : Value} {c : Nat} {L : List Int} (h : SgRow w base v c L) : L.length = c * 4 := by
 have := h.own.1
 simpa using this
theorem SgRow.in {w : World} {base : Nat} {v : Value} {c : Nat} {L : List Int} (h : SgRow w base v c L) : ∃ ao cap, v = .slice ao c cap ∧ SegIn w ao c (fun i => L.getD i 0) := by
 rcases Nat.eq_zero_or_pos c with h0 | h0
 · subst h0
   obtain ⟨ao, cap, hv⟩ := ownG_slice h.own
   exact ⟨ao, cap, hv, fun i hi => by omega⟩
 · obtain ⟨g, cap, hv, hb, _⟩ := ownG_form h.own h0
   have hl := h.len
   have ho := h.own
   rw [hv] at ho
   have B := ownG_blk ho
   refine ⟨_, cap, hv, fun i hi => ⟨g, 0, rfl, B.lt, fun j hj => ?_⟩⟩
   rw [Nat.zero_add]
   refine B.c (i * 4 + j) ?_
   have hl2 : i * 4 + j < L.length := by omega
   show _ = some (Value.int .i64 (L.getD (i * 4 + j) 0))
   rw [List.getElem?_map, List.getElem?_eq_getElem hl2, List.getD_eq_getElem?_getD, List.getElem?_eq_getElem hl2]
   rfl
theorem SgRow.four {w : World} {base : Nat} {v : Value} {c : Nat} {L : List Int} (h : SgRow w base v c L) {i : Nat} (hi : i < c) : ∃ g cap a b d e, v = .slice (some ⟨g, 0, none⟩) c cap ∧ base ≤ g ∧ g < w.heap.size ∧ w.cell? ⟨g, i * 4, none⟩ = some (.int .i64 a) ∧ w.cell? ⟨g, i * 4 + 1, none⟩ = some (.int .i64 b) ∧ w.cell? ⟨g, i * 4 + 2, none⟩ = some (.int .i64 d) ∧ w.cell? ⟨g, i * 4 + 3, none⟩ = some (.int .i64 e) ∧ w.cell? ⟨g, i * 4 + 2 + 1, none⟩ = some (.int .i64 e) ∧ I64 a ∧ I64 b ∧ I64 d ∧ I64 e := by
 obtain ⟨g, cap, hv, hb, _⟩ := ownG_form h.own (by omega)
 have hl := h.len
 have ho := h.own
 rw [hv] at ho
 have B := ownG_blk ho
 have hc : ∀ k (hk : k < L.length), w.cell? ⟨g, k, none⟩ = some (.int .i64 L[k]) ∧ I64 L[k] := fun k hk => ⟨B.c k (by rw [List.getElem?_map, List.getElem?_eq_getElem hk]; rfl), h.i64 _ (List.getElem_mem hk)⟩
 have c0 := hc (i * 4) (by omega)
 have c1 := hc (i * 4 + 1) (by omega)
 have c2 := hc (i * 4 + 2) (by omega)
 have c3 := hc (i * 4 + 3) (by omega)
 exact ⟨g, cap, _, _, _, _, hv, hb, B.lt, c0.1, c1.1, c2.1, c3.1, c3.1, c0.2, c1.2, c2.2, c3.2⟩
theorem SgRow.kept {w w' : World} {base : Nat} {v : Value} {c g : Nat} {L : List Int} (h : SgRow w base v c L) (K : Kept g w w') (hg : g < base) : SgRow w' base v c L := ⟨ownG_kept h.own K hg, h.i64⟩
theorem SgRow.step {w w' : World} {base : Nat} {v : Value} {c : Nat} {L : List Int} (h : SgRow w base v c L) (hB : Below w.heap.size w w') : SgRow w' base v c L := ⟨ownG_step h.own hB, h.i64⟩
theorem SgRow.alloc {w : World} {base : Nat} {v : Value} {c : Nat} {L : List Int} (h : SgRow w base v c L) (o : Obj) : SgRow (w.alloc o) base v c L := h.step ((Below.refl _ _).alloc (Nat.le_refl _) o)
theorem SgRow.app {w : World} {base : Nat} {v : Value} {c : Nat} {L : List Int} {p q r s : Int} (h : w.ownsRow base 53 4 v (c + 1) (L.map (Value.int .i64) ++ [.int .i64 p, .int .i64 q, .int .i64 r, .int .i64 s])) (hL : ∀ z ∈ L, I64 z) (hp : I64 p) (hq : I64 q) (hr : I64 r) (hs : I64 s) : SgRow w base v (c + 1) (L ++ [p, q, r, s]) := by
 refine ⟨by rw [List.map_append]; exact h, fun z hz => ?_⟩
 rcases List.mem_append.1 hz with hz | hz
 · exact hL z hz
 · simp only [List.mem_cons, List.not_mem_nil, or_false] at hz
   rcases hz with rfl | rfl | rfl | rfl <;> assumption
theorem SgRow.set {w : World} {base g c cap : Nat} {L : List Int} (h : SgRow w base (.slice (some ⟨g, 0, none⟩) c cap) c L) (j : Nat) {u : Int} (hu : I64 u) : SgRow (w.setCell ⟨g, j, none⟩ (.int .i64 u)) base (.slice (some ⟨g, 0, none⟩) c cap) c (L.set j u) := by
 refine ⟨by rw [List.map_set]; exact ownG_set h.own j _, fun z hz => ?_⟩
 rcases List.mem_or_eq_of_mem_set hz with hz | hz
 · exact h.i64 z hz
 · subst hz; exact hu
theorem kept_grown {g : Nat} {w W W' : World} {row : Option Nat} (K : Kept g w W) (hg : W.grownBy W' row) (hr : ∀ k, row = some k → w.heap.size ≤ k) : Kept g w W' := by
 have hs := K.size
 have hb : ∀ k, k < w.heap.size → W'.heap[k]? = W.heap[k]? := fun k hk => hg.block k (by omega) (by intro e; have := hr k e.symm; omega)
 exact ⟨hg.os.trans K.os, hg.tape.trans K.tape, hg.output.trans K.output, Nat.le_trans K.size hg.size, fun k hk hne => (hb k hk).trans (K.block k hk hne), fun j hj hl => (World.cell?_of_block (a := ⟨g, j, none⟩) (hb g hl)).trans (K.other j hj hl)⟩
theorem rdr_grown {w w' : World} {g : Nat} {ao : Option Addr} {n cap : Nat} {cs : List Int} {row : Option Nat} (h : Rdr w g ao n cap cs) (hg : w.grownBy w' row) (hr : ∀ k, row = some k → g < k) : Rdr w' g ao n cap cs := by
 have hl := h.lt
 have hb : ∀ k, k ≤ g → w'.heap[k]? = w.heap[k]? := fun k hk => hg.block k (by omega) (by intro e; have := hr k e.symm; omega)
 obtain ⟨p, hp, B⟩ := h.blk
 refine ⟨⟨p, hp, Nat.lt_of_lt_of_le B.lt hg.size, fun i v hi => ⟨(World.cell?_of_block (hb g (Nat.le_refl _))).trans (B.c i hi), (World.frozen?_of_block (hb g (Nat.le_refl _))).trans (B.f i hi)⟩⟩, fun i hi => ?_, h.len, h.small, h.byte⟩
 obtain ⟨b, off, e, hlt, hc⟩ := h.bytes i hi
 exact ⟨b, off, e, hlt, (World.cell?_of_block (hb b (by omega))).trans hc⟩
set_option maxRecDepth 100000 in
set_option maxHeartbeats 1000000 in
theorem near_m64 (g : Nat) (ao : Option Addr) (n cap : Nat) (cs : List Int) (w : World) (h : Rdr w g ao n cap cs) :
   Calls Tryz.prog 77 #[.pointer (some ⟨g, 0, none⟩), .int .i64 (-6), .int .i64 4] w (RdP g ao n cap cs (IsIn (-6) 5) w) := by
 go_enter Tryz.func77, Tryz.ntmps77
 go_wp2_with fail
 refine (below_any 8 (by decide) (by decide) g ao n cap cs _ h).mono ?_
 rintro e w1 ⟨_, rfl, ⟨x, rfl, x0, x1⟩, R, K⟩
 clear h
 by_cases h0 : x = 0
 · subst h0
   go_wp2
   go_ret
   exact ⟨_, rfl, ⟨_, rfl, by decide, by decide⟩, R, K⟩
 · by_cases h1 : x = 1
   · subst h1
     go_wp2
     go_ret
     exact ⟨_, rfl, ⟨_, rfl, by decide, by decide⟩, R, K⟩
   · have e0 : (x == 0) = false := by simpa using h0
     have e1 : (x == 1) = false := by simpa using h1
     go_wp2_with fail
     refine (word_any g ao n cap cs _ R).mono ?_
     rintro e w2 ⟨_, rfl, ⟨y, rfl, y0, y1⟩, R2, K2⟩
     replace K := K.trans K2
     clear R K2
     have hw : IntKind.u64.wrap 11 = 11 := by rw [IntKind.wrap_u64]; decide
     go_wp2
     go_ret
     exact ⟨_, rfl, ⟨_, rfl, by omega, by omega⟩, R2, K⟩
set_option maxRecDepth 100000 in
set_option maxHeartbeats 1000000 in
theorem near_p06 (g : Nat) (ao : Option Addr) (n cap : Nat) (cs : List Int) (w : World) (h : Rdr w g ao n cap cs) :
   Calls Tryz.prog 77 #[.pointer (some ⟨g, 0, none⟩), .int .i64 0, .int .i64 6] w (RdP g ao n cap cs (IsIn 0 7) w) := by
 go_enter Tryz.func77, Tryz.ntmps77
 go_wp2_with fail
 refine (below_any 8 (by decide) (by decide) g ao n cap cs _ h).mono ?_
 rintro e w1 ⟨_, rfl, ⟨x, rfl, x0, x1⟩, R, K⟩
 clear h
 by_cases h0 : x = 0
 · subst h0
   go_wp2
   go_ret
   exact ⟨_, rfl, ⟨_, rfl, by decide, by decide⟩, R, K⟩
 · by_cases h1 : x = 1
   · subst h1
     go_wp2
     go_ret
     exact ⟨_, rfl, ⟨_, rfl, by decide, by decide⟩, R, K⟩
   · have e0 : (x == 0) = false := by simpa using h0
     have e1 : (x == 1) = false := by simpa using h1
     go_wp2_with fail
     refine (word_any g ao n cap cs _ R).mono ?_
     rintro e w2 ⟨_, rfl, ⟨y, rfl, y0, y1⟩, R2, K2⟩
     replace K := K.trans K2
     clear R K2
     have hw : IntKind.u64.wrap 7 = 7 := by rw [IntKind.wrap_u64]; decide
     go_wp2
     go_ret
     exact ⟨_, rfl, ⟨_, rfl, by omega, by omega⟩, R2, K⟩
set_option maxRecDepth 100000 in
set_option maxHeartbeats 1000000 in
theorem near_m28 (g : Nat) (ao : Option Addr) (n cap : Nat) (cs : List Int) (w : World) (h : Rdr w g ao n cap cs) :
   Calls Tryz.prog 77 #[.pointer (some ⟨g, 0, none⟩), .int .i64 (-2), .int .i64 8] w (RdP g ao n cap cs (IsIn (-2) 9) w) := by
 go_enter Tryz.func77, Tryz.ntmps77
 go_wp2_with fail
 refine (below_any 8 (by decide) (by decide) g ao n cap cs _ h).mono ?_
 rintro e w1 ⟨_, rfl, ⟨x, rfl, x0, x1⟩, R, K⟩
 clear h
 by_cases h0 : x = 0
 · subst h0
   go_wp2
   go_ret
   exact ⟨_, rfl, ⟨_, rfl, by decide, by decide⟩, R, K⟩
 · by_cases h1 : x = 1
   · subst h1
     go_wp2
     go_ret
     exact ⟨_, rfl, ⟨_, rfl, by decide, by decide⟩, R, K⟩
   · have e0 : (x == 0) = false := by simpa using h0
     have e1 : (x == 1) = false := by simpa using h1
     go_wp2_with fail
     refine (word_any g ao n cap cs _ R).mono ?_
     rintro e w2 ⟨_, rfl, ⟨y, rfl, y0, y1⟩, R2, K2⟩
     replace K := K.trans K2
     clear R K2
     have hw : IntKind.u64.wrap 11 = 11 := by rw [IntKind.wrap_u64]; decide
     go_wp2
     go_ret
     exact ⟨_, rfl, ⟨_, rfl, by omega, by omega⟩, R2, K⟩
def SpRow (w : World) (base : Nat) (v : Value) (c : Nat) (L : List Int) : Prop := w.ownsRow base 51 2 v c (L.map (Value.int .i64))
theorem SpRow.kept {w w' : World} {base : Nat} {v : Value} {c g : Nat} {L : List Int} (h : SpRow w base v c L) (K : Kept g w w') (hg : g < base) : SpRow w' base v c L := ownG_kept h K hg
theorem SpRow.alloc {w : World} {base : Nat} {v : Value} {c : Nat} {L : List Int} (h : SpRow w base v c L) (o : Obj) : SpRow (w.alloc o) base v c L := ownG_step h ((Below.refl _ _).alloc (Nat.le_refl _) o)
theorem SpRow.len {w : World} {base : Nat} {v : Value} {c : Nat} {L : List Int} (h : SpRow w base v c L) : L.length = c * 2 := by
 have := h.1
 rwa [List.length_map] at this
theorem SpRow.set {w : World} {base g c cap : Nat} {L : List Int} (h : SpRow w base (.slice (some ⟨g, 0, none⟩) c cap) c L) (j : Nat) (u : Int) : SpRow (w.setCell ⟨g, j, none⟩ (.int .i64 u)) base (.slice (some ⟨g, 0, none⟩) c cap) c (L.set j u) := by
 have := ownG_set h j (.int .i64 u)
 unfold SpRow
 rw [List.map_set]
 exact this
theorem SpRow.two {w : World} {base g c cap : Nat} {L : List Int} (h : SpRow w base (.slice (some ⟨g, 0, none⟩) c cap) c L) {i : Nat} (hi : i < c) : ∃ a b, w.cell? ⟨g, i * 2, none⟩ = some (.int .i64 a) ∧ w.frozen? ⟨g, i * 2, none⟩ = false ∧ w.cell? ⟨g, i * 2 + 1, none⟩ = some (.int .i64 b) ∧ w.frozen? ⟨g, i * 2 + 1, none⟩ = false := by
 have X := ownG_blk h
 have hl := h.len
 have e0 : (L.map (Value.int .i64))[i * 2]? = some (.int .i64 (L[i * 2]'(by omega))) := by rw [List.getElem?_map, List.getElem?_eq_getElem (by omega)]; rfl
 have e1 : (L.map (Value.int .i64))[i * 2 + 1]? = some (.int .i64 (L[i * 2 + 1]'(by omega))) := by rw [List.getElem?_map, List.getElem?_eq_getElem (by omega)]; rfl
 exact ⟨_, _, X.c _ e0, X.f _ e0, X.c _ e1, X.f _ e1⟩
theorem sp_made3 {base : Nat} (w : World) (z0 z1 z2 z3 z4 z5 : Int) (hb : base ≤ w.heap.size) : SpRow (w.alloc (.cells #[.int .i64 z0, .int .i64 z1, .int .i64 z2, .int .i64 z3, .int .i64 z4, .int .i64 z5] 51)) base (.slice (some ⟨w.heap.size, 0, none⟩) 3 3) 3 [z0, z1, z2, z3, z4, z5] :=
 ⟨rfl, .inr ⟨w.heap.size, 3, #[.int .i64 z0, .int .i64 z1, .int .i64 z2, .int .i64 z3, .int .i64 z4, .int .i64 z5], rfl, hb, Array.getElem?_push_size, Nat.le_refl _, by decide, rfl, rfl⟩⟩
theorem sp_made4 {base : Nat} (w : World) (z0 z1 z2 z3 z4 z5 z6 z7 : Int) (hb : base ≤ w.heap.size) : SpRow (w.alloc (.cells #[.int .i64 z0, .int .i64 z1, .int .i64 z2, .int .i64 z3, .int .i64 z4, .int .i64 z5, .int .i64 z6, .int .i64 z7] 51)) base (.slice (some ⟨w.heap.size, 0, none⟩) 4 4) 4 [z0, z1, z2, z3, z4, z5, z6, z7] :=
 ⟨rfl, .inr ⟨w.heap.size, 4, #[.int .i64 z0, .int .i64 z1, .int .i64 z2, .int .i64 z3, .int .i64 z4, .int .i64 z5, .int .i64 z6, .int .i64 z7], rfl, hb, Array.getElem?_push_size, Nat.le_refl _, by decide, rfl, rfl⟩⟩
theorem sp_made6 {base : Nat} (w : World) (z0 z1 z2 z3 z4 z5 z6 z7 z8 z9 z10 z11 : Int) (hb : base ≤ w.heap.size) : SpRow (w.alloc (.cells #[.int .i64 z0, .int .i64 z1, .int .i64 z2, .int .i64 z3, .int .i64 z4, .int .i64 z5, .int .i64 z6, .int .i64 z7, .int .i64 z8, .int .i64 z9, .int .i64 z10, .int .i64 z11] 51)) base (.slice (some ⟨w.heap.size, 0, none⟩) 6 6) 6 [z0, z1, z2, z3, z4, z5, z6, z7, z8, z9, z10, z11] :=
 ⟨rfl, .inr ⟨w.heap.size, 6, #[.int .i64 z0, .int .i64 z1, .int .i64 z2, .int .i64 z3, .int .i64 z4, .int .i64 z5, .int .i64 z6, .int .i64 z7, .int .i64 z8, .int .i64 z9, .int .i64 z10, .int .i64 z11], rfl, hb, Array.getElem?_push_size, Nat.le_refl _, by decide, rfl, rfl⟩⟩
def RnSt (w W : World) (g : Nat) (ao : Option Addr) (n cap : Nat) (cs : List Int) (v : Value) (c : Nat) : Prop := (∃ L, SpRow W (w.heap.size + 1) v c L) ∧ Rdr W g ao n cap cs ∧ Kept g w W ∧ Blk W w.heap.size [.slice none 0 0]
theorem RnSt.kept {w W W' : World} {g : Nat} {ao : Option Addr} {n cap : Nat} {cs : List Int} {v : Value} {c : Nat} (h : RnSt w W g ao n cap cs v c) (hg : g < w.heap.size) (R : Rdr W' g ao n cap cs) (K : Kept g W W') : RnSt w W' g ao n cap cs v c := by
 obtain ⟨⟨L, O⟩, _, K0, B⟩ := h
 exact ⟨⟨L, O.kept K (by omega)⟩, R, K0.trans K, B.kept K (by omega)⟩
def RngP (g : Nat) (ao : Option Addr) (n cap : Nat) (cs : List Int) (w : World) (e : Ending) (w' : World) : Prop := ∃ v c L, e = .returned (.agg #[v]) ∧ 3 ≤ c ∧ c ≤ 12 ∧ SpRow w' w.heap.size v c L ∧ Rdr w' g ao n cap cs ∧ Kept g w w'
end Go.Proofs.YteakhlipmmfilaaGreat
namespace Go.Proofs.YteakhlipmmfilaaGreat
variable {P : Program} {ops : Array Oper} {Q : Exit → Act → World → Prop}
theorem wpOps_inv (J : Array Bool → Act → World → Prop) (hs : ∀ l a w i o, J l a w → l.getD i true = false → ops[i]? = some o → (∀ e ∈ o.after, Region.binds .any e = true → l.getD e.on false = true) → wpOp P ops Q i (J (l.setIfInBounds i true)) a w)
   (hd : ∀ l a w, J l a w → Region.ready .any ops l = [] → Q .normal a w) : ∀ (r acc : List Nat) (l : Array Bool) (a : Act) (w : World), waits .any ops acc r = true → l.size = ops.size → (∀ k ∈ acc, l.getD k false = true) → (∀ k ∈ r, k < ops.size ∧ l.getD k false = false) → r.Nodup → (∀ k, k < ops.size → k ∉ r → l.getD k false = true) → J l a w → wpOps P ops Q r a w
 | [], acc, l, a, w, _, hz, _, _, _, hrest, hJ => by
   have hr : Region.ready .any ops l = [] := by
     rw [List.eq_nil_iff_forall_not_mem]
     intro i hi
     obtain ⟨h0, o, ho, _⟩ := mem_ready.1 hi
     have h1 := hrest i (Array.getElem?_eq_some_iff.1 ho).1 (by simp)
     rw [Array.getD_eq_getD_getElem?] at h0 h1
     cases hh : l[i]? with
     | none => rw [hh] at h1; cases h1
     | some b => rw [hh] at h0 h1; simp at h0 h1; rw [h0] at h1; cases h1
   exact hd l a w hJ hr
 | i :: r, acc, l, a, w, hw, hz, hacc, hopen, hnd, hrest, hJ => by
   rw [wpOps_cons]
   simp only [waits, Bool.and_eq_true] at hw
   obtain ⟨hw1, hw2⟩ := hw
   obtain ⟨hi, hf⟩ := hopen i (by simp)
   obtain ⟨o, ho⟩ : ∃ o, ops[i]? = some o := ⟨_, Array.getElem?_eq_getElem hi⟩
   have hall : ∀ e ∈ o.after, Region.binds .any e = true → l.getD e.on false = true := fun e he hb => by
     rw [ho] at hw1
     have h2 : o.after.all (fun e => !Region.binds .any e || acc.contains e.on) = true := by simpa using hw1
     rw [Array.all_eq_true'] at h2
     have h3 := h2 e he
     rw [hb] at h3
     simp at h3
     exact hacc _ h3
   have h0 : l.getD i true = false := by
     rw [Array.getD_eq_getD_getElem?] at hf ⊢
     cases hh : l[i]? with
     | none => have := Array.getElem?_eq_none_iff.1 hh; omega
     | some b => rw [hh] at hf; exact hf
   rw [List.nodup_cons] at hnd
   have hne : ∀ k, k ≠ i → (l.setIfInBounds i true).getD k false = l.getD k false := fun k hk => by
     simp [Array.getD_eq_getD_getElem?, Array.getElem?_setIfInBounds_ne (Ne.symm hk)]
   have heq : (l.setIfInBounds i true).getD i false = true := by
     rw [Array.getD_eq_getD_getElem?]
     simp [show i < l.size by omega]
   refine wpOp_mono (fun a' w' h' => wpOps_inv J hs hd r (i :: acc) _ a' w' hw2 (by simpa using hz) (fun k hk => ?_) (fun k hk => ?_) hnd.2 (fun k hk hkr => ?_) h') (hs l a w i o hJ h0 ho hall)
   · rcases List.mem_cons.1 hk with rfl | hk
     · exact heq
     · by_cases e : k = i
       · subst e; exact heq
       · rw [hne k e]; exact hacc k hk
   · have hki : k ≠ i := fun e => hnd.1 (e ▸ hk)
     rw [hne k hki]
     exact hopen k (by simp [hk])
   · by_cases e : k = i
     · subst e; exact heq
     · rw [hne k e]; exact hrest k hk (by simp [e, hkr])
theorem wp_region_invp {id : Nat} {a : Act} {w : World} (J : Array Bool → Act → World → Prop) (hw : waits .any ops [] (List.range ops.size) = true) (h0 : J (Array.replicate ops.size false) a w)
   (hs : ∀ l a w i o, J l a w → l.getD i true = false → ops[i]? = some o → (∀ e ∈ o.after, Region.binds .any e = true → l.getD e.on false = true) → wpOp P ops Q i (J (l.setIfInBounds i true)) a w)
   (hd : ∀ l a w, J l a w → Region.ready .any ops l = [] → Q .normal a w) : (Code.region id ops false).wp P Q a w :=
 wp_region (wpOps_inv J hs hd _ [] _ a w hw (by simp) (fun k hk => by simp at hk) (fun k hk => ⟨List.mem_range.1 hk, by rw [Array.getD_eq_getD_getElem?, Array.getElem?_replicate]; split <;> rfl⟩) List.nodup_range (fun k hk hn => absurd (List.mem_range.2 hk) hn) h0)
end Go.Proofs.YteakhlipmmfilaaGreat
