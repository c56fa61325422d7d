/- Part 12 of the walks that the proof leans on. -/
import Derived.Test.YtpnnpkchogooaaaGreatPart11
import Derived.Deep.RegionHeld3
import Derived.Test.YtpnnpkchogooaaaGreatPart2
import Derived.Test.YtpnnpkchogooaaaGreatPart7
import Derived.Test.YtpnnpkchogooaaaGreatPart6
set_option maxRecDepth 100000
set_option maxHeartbeats 8000000
namespace Go.Proofs.YtpnnpkchogooaaaGreat
open Go.RowKit
theorem eqSpo (x y u v : Int) (w : World) : (Op.equalIn 10000 25 (.agg #[.int .i64 x, .int .i64 y]) (.agg #[.int .i64 u, .int .i64 v])).run Tryz.prog w = .ok (decide (x = u) && decide (y = v)) w := by
 have u3 := Tryz.underlying2
 have a3 := Tryz.isAgg2
 have z3 := Tryz.sizeOf2
 rw [show (10000 : Nat) = 9999 + 1 from rfl, Op.equalIn]
 simp only [Sem.run_bind, run_underlying Tryz.underlying25, Result.andThen_ok]
 go_simp
 by_cases h3 : x = u
 · subst h3
   by_cases h2 : y = v
   · subst h2
     simp
   · simp [h2]
 · simp [h3]
theorem seg_any (g : Nat) (ao : Option Addr) (n cap : Nat) (cs : List Int) (w : World) (h : Rdr w g ao n cap cs) :
   Calls Tryz.prog 23 #[.pointer (some ⟨g, 0, none⟩)] w (RdP g ao n cap cs IsSg w) := by
 have hg := h.lt
 have hne : w.heap.size ≠ g := by omega
 have B := Blk.new w [.int .i64 0, .int .i64 0, .int .i64 0, .int .i64 0] 27 rfl
 rw [show ([.int .i64 0, .int .i64 0, .int .i64 0, .int .i64 0] : List Value).toArray = #[.int .i64 0, .int .i64 0, .int .i64 0, .int .i64 0] from rfl] at B
 have R := h.alloc (.cells #[.int .i64 0, .int .i64 0, .int .i64 0, .int .i64 0] 27)
 have K := (Kept.refl g w).alloc (.cells #[.int .i64 0, .int .i64 0, .int .i64 0, .int .i64 0] 27)
 clear h
 go_enter Tryz.func23, Tryz.ntmps23
 go_wp2_with fail
 refine (below_any 20 (by decide) (by decide) g ao n cap cs _ R).mono ?_
 rintro e w1 ⟨_, rfl, ⟨v, rfl, v0, v1⟩, R1, K1⟩
 replace K := K.trans K1
 replace B := B.kept K1 hne
 clear R K1
 have R := R1
 clear R1
 by_cases hv0 : v = 0
 · subst hv0
   go_wp2_with fail
   refine (off_any g ao n cap cs _ R).mono ?_
   rintro e w2 ⟨_, rfl, ⟨a, rfl, ia⟩, R1, K1⟩
   replace K := K.trans K1
   replace B := B.kept K1 hne
   clear R K1
   have R := R1
   clear R1
   go_wp2_with fail
   refine (off_any g ao n cap cs _ R).mono ?_
   rintro e w3 ⟨_, rfl, ⟨b, rfl, ib⟩, R1, K1⟩
   replace K := K.trans K1
   replace B := B.kept K1 hne
   clear R K1
   have R := R1
   clear R1
   go_wp2_with fail
   refine (off_any g ao n cap cs _ R).mono ?_
   rintro e w4 ⟨_, rfl, ⟨c, rfl, ic⟩, R1, K1⟩
   replace K := K.trans K1
   replace B := B.kept K1 hne
   clear R K1
   have R := R1
   clear R1
   go_wp2_with fail
   refine (off_any g ao n cap cs _ R).mono ?_
   rintro e w5 ⟨_, rfl, ⟨d, rfl, id⟩, R1, K1⟩
   replace K := K.trans K1
   replace B := B.kept K1 hne
   clear R K1
   have R := R1
   clear R1
   obtain ⟨o0, f0, o1, f1, o2, f2, o3, f3⟩ := B.cf4; have ol := B.lt
   clear B
   go_wp2
   refine bodyPost_ret (v := .agg #[.int .i64 a, .int .i64 b, .int .i64 c, .int .i64 d]) (by simp [results, Tryz.results23, go_sem, o0, o1, o2, o3]) rfl ?_
   exact ⟨_, rfl, ⟨_, _, _, _, rfl, ia, ib, ic, id⟩, (((R.setN (by exact hg) _).setN (by exact hg) _).setN (by exact hg) _).setN (by exact hg) _, (((K.setN (by simp) (by simp; omega) _).setN (by simp) (by simp; omega) _).setN (by simp) (by simp; omega) _).setN (by simp) (by simp; omega) _⟩
 · have b0 : (v == 0) = false := beq_eq_false_iff_ne.2 hv0
   by_cases hv1 : v = 1
   · subst hv1
     go_wp2_with fail
     refine (near_pm g ao n cap cs _ R).mono ?_
     rintro e w2 ⟨_, rfl, ⟨x, rfl, x0, x1⟩, R1, K1⟩
     replace K := K.trans K1
     replace B := B.kept K1 hne
     clear R K1
     have R := R1
     clear R1
     go_wp2_with fail
     refine (near_pm g ao n cap cs _ R).mono ?_
     rintro e w3 ⟨_, rfl, ⟨y, rfl, y0, y1⟩, R1, K1⟩
     replace K := K.trans K1
     replace B := B.kept K1 hne
     clear R K1
     have R := R1
     clear R1
     go_wp2_with fail
     refine (near_pm g ao n cap cs _ R).mono ?_
     rintro e w4 ⟨_, rfl, ⟨u, rfl, u0, u1⟩, R1, K1⟩
     replace K := K.trans K1
     replace B := B.kept K1 hne
     clear R K1
     have R := R1
     clear R1
     go_wp2_with fail
     refine (near_pm g ao n cap cs _ R).mono ?_
     rintro e w5 ⟨_, rfl, ⟨z, rfl, z0, z1⟩, R1, K1⟩
     replace K := K.trans K1
     replace B := B.kept K1 hne
     clear R K1
     have R := R1
     clear R1
     obtain ⟨a, b, c, d, k, ia, ib, ic, id, CS⟩ := segOf_ex x y u z (by constructor <;> omega) (by constructor <;> omega) (by constructor <;> omega) (by constructor <;> omega)
     go_wp2_with fail
     refine (CS _).mono ?_
     rintro e w6 ⟨rfl, hB⟩
     replace R := R.step hB
     replace K := K.trans (Kept.of hB)
     replace B := B.step hB
     clear hB
     clear CS
     have X := Blk.new w6 [.int .i64 a, .int .i64 b, .int .i64 c, .int .i64 d] 27 rfl
     rw [show ([.int .i64 a, .int .i64 b, .int .i64 c, .int .i64 d] : List Value).toArray = #[.int .i64 a, .int .i64 b, .int .i64 c, .int .i64 d] from rfl] at X
     replace R := R.alloc (.cells #[.int .i64 a, .int .i64 b, .int .i64 c, .int .i64 d] 27)
     replace K := K.alloc (.cells #[.int .i64 a, .int .i64 b, .int .i64 c, .int .i64 d] 27)
     replace B := B.alloc (.cells #[.int .i64 a, .int .i64 b, .int .i64 c, .int .i64 d] 27)
     obtain ⟨c0, c1, c2, c3⟩ := X.cs4
     have xl := B.lt
     clear X
     obtain ⟨o0, f0, o1, f1, o2, f2, o3, f3⟩ := B.cf4; have ol := B.lt
     clear B
     go_wp2
     refine bodyPost_ret (v := .agg #[.int .i64 a, .int .i64 b, .int .i64 c, .int .i64 d]) (by simp [results, Tryz.results23, go_sem, o0, o1, o2, o3]) rfl ?_
     exact ⟨_, rfl, ⟨_, _, _, _, rfl, ia, ib, ic, id⟩, (((R.setN (by exact hg) _).setN (by exact hg) _).setN (by exact hg) _).setN (by exact hg) _, (((K.setN (by simp) (by simp; omega) _).setN (by simp) (by simp; omega) _).setN (by simp) (by simp; omega) _).setN (by simp) (by simp; omega) _⟩
   · have b1 : (v == 1) = false := beq_eq_false_iff_ne.2 hv1
     by_cases hv2 : v = 2
     · subst hv2
       go_wp2_with fail
       refine (spot_any g ao n cap cs _ R).mono ?_
       rintro e w2 ⟨_, rfl, ⟨x, y, rfl, x0, x1, y0, y1⟩, R1, K1⟩
       replace K := K.trans K1
       replace B := B.kept K1 hne
       clear R K1
       have R := R1
       clear R1
       go_wp2_with fail
       refine (spot_any g ao n cap cs _ R).mono ?_
       rintro e w3 ⟨_, rfl, ⟨u, z, rfl, u0, u1, z0, z1⟩, R1, K1⟩
       replace K := K.trans K1
       replace B := B.kept K1 hne
       clear R K1
       have R := R1
       clear R1
       obtain ⟨o0, f0, o1, f1, o2, f2, o3, f3⟩ := B.cf4; have ol := B.lt
       clear B
       go_wp2
       refine bodyPost_ret (v := .agg #[.int .i64 x, .int .i64 y, .int .i64 u, .int .i64 z]) (by simp [results, Tryz.results23, go_sem, o0, o1, o2, o3]) rfl ?_
       exact ⟨_, rfl, ⟨_, _, _, _, rfl, (by constructor <;> omega), (by constructor <;> omega), (by constructor <;> omega), (by constructor <;> omega)⟩, (((R.setN (by exact hg) _).setN (by exact hg) _).setN (by exact hg) _).setN (by exact hg) _, (((K.setN (by simp) (by simp; omega) _).setN (by simp) (by simp; omega) _).setN (by simp) (by simp; omega) _).setN (by simp) (by simp; omega) _⟩
     · have b2 : (v == 2) = false := beq_eq_false_iff_ne.2 hv2
       go_wp2_with fail
       refine (spot_any g ao n cap cs _ R).mono ?_
       rintro e w2 ⟨_, rfl, ⟨x, y, rfl, x0, x1, y0, y1⟩, R1, K1⟩
       replace K := K.trans K1
       replace B := B.kept K1 hne
       clear R K1
       have R := R1
       clear R1
       have gl2 := R.lt
       have hn2 : w2.heap.size ≠ g := by omega
       have X2 := Blk.new w2 [.int .i64 x, .int .i64 y] 25 rfl
       rw [show ([.int .i64 x, .int .i64 y] : List Value).toArray = #[.int .i64 x, .int .i64 y] from rfl] at X2
       replace R := R.alloc (.cells #[.int .i64 x, .int .i64 y] 25)
       replace K := K.alloc (.cells #[.int .i64 x, .int .i64 y] 25)
       replace B := B.alloc (.cells #[.int .i64 x, .int .i64 y] 25)
       go_wp2_with fail
       refine (spot_any g ao n cap cs _ R).mono ?_
       rintro e w3 ⟨_, rfl, ⟨u, z, rfl, u0, u1, z0, z1⟩, R1, K1⟩
       replace K := K.trans K1
       replace B := B.kept K1 hne
       replace X2 := X2.kept K1 hn2
       clear R K1
       have R := R1
       clear R1
       have gl3 := R.lt
       have x2l := X2.lt
       have hwl := B.lt
       have Y2 := X2
       have YB := B
       have YR := R
       have YK := K
       have X3 := Blk.new w3 [.int .i64 u, .int .i64 z] 25 rfl
       rw [show ([.int .i64 u, .int .i64 z] : List Value).toArray = #[.int .i64 u, .int .i64 z] from rfl] at X3
       replace R := R.alloc (.cells #[.int .i64 u, .int .i64 z] 25)
       replace K := K.alloc (.cells #[.int .i64 u, .int .i64 z] 25)
       replace B := B.alloc (.cells #[.int .i64 u, .int .i64 z] 25)
       replace X2 := X2.alloc (.cells #[.int .i64 u, .int .i64 z] 25)
       have E := eqSpo x y u z
       have n32 : ¬ (w3.heap.size = w2.heap.size) := by omega
       have n23 : ¬ (w2.heap.size = w3.heap.size) := by omega
       by_cases he : x = u ∧ y = z
       · rw [decide_eq_true he.1, decide_eq_true he.2] at E
         obtain ⟨e1, e2⟩ := he
         have wr : IntKind.i64.wrap (u + 1) = u + 1 := by rw [IntKind.wrap_i64]; omega
         obtain ⟨p0, p1⟩ := X2.cs2
         obtain ⟨r0, rf0, r1, rf1⟩ := X3.cf2
         have x3l := X3.lt
         obtain ⟨a, b, c, d, k, ia, ib, ic, id, CS⟩ := segOf_ex x y (u + 1) z (by constructor <;> omega) (by constructor <;> omega) (by constructor <;> omega) (by constructor <;> omega)
         clear e1 e2
         go_upto_region 13 with fail
         clear p0 p1 r0 rf0 r1 rf1 X2 X3 E B R K x3l
         have X2 := Y2.alloc (.cells #[.int .i64 (u + 1), .int .i64 z] 25)
         have B := YB.alloc (.cells #[.int .i64 (u + 1), .int .i64 z] 25)
         have R := YR.alloc (.cells #[.int .i64 (u + 1), .int .i64 z] 25)
         have K := YK.alloc (.cells #[.int .i64 (u + 1), .int .i64 z] 25)
         have X3 := Blk.new w3 [.int .i64 (u + 1), .int .i64 z] 25 rfl
         rw [show ([.int .i64 (u + 1), .int .i64 z] : List Value).toArray = #[.int .i64 (u + 1), .int .i64 z] from rfl] at X3
         clear Y2 YB YR YK
         obtain ⟨p0, p1⟩ := X2.cs2
         obtain ⟨r0, r1⟩ := X3.cs2
         go_wp2_with fail
         clear p0 p1 r0 r1 X2 X3
         generalize (w3.alloc (.cells #[.int .i64 (u + 1), .int .i64 z] 25)) = W3 at *
         refine (CS _).mono ?_
         rintro e w4 ⟨rfl, hB⟩
         replace R := R.step hB
         replace K := K.trans (Kept.of hB)
         replace B := B.step hB
         clear hB CS
         have X := Blk.new w4 [.int .i64 a, .int .i64 b, .int .i64 c, .int .i64 d] 27 rfl
         rw [show ([.int .i64 a, .int .i64 b, .int .i64 c, .int .i64 d] : List Value).toArray = #[.int .i64 a, .int .i64 b, .int .i64 c, .int .i64 d] from rfl] at X
         replace R := R.alloc (.cells #[.int .i64 a, .int .i64 b, .int .i64 c, .int .i64 d] 27)
         replace K := K.alloc (.cells #[.int .i64 a, .int .i64 b, .int .i64 c, .int .i64 d] 27)
         replace B := B.alloc (.cells #[.int .i64 a, .int .i64 b, .int .i64 c, .int .i64 d] 27)
         obtain ⟨c0, c1, c2, c3⟩ := X.cs4
         have xl := B.lt
         clear X
         obtain ⟨o0, f0, o1, f1, o2, f2, o3, f3⟩ := B.cf4; have ol := B.lt
         clear B
         go_wp2
         refine bodyPost_ret (v := .agg #[.int .i64 a, .int .i64 b, .int .i64 c, .int .i64 d]) (by simp [results, Tryz.results23, go_sem, o0, o1, o2, o3]) rfl ?_
         exact ⟨_, rfl, ⟨_, _, _, _, rfl, ia, ib, ic, id⟩, (((R.setN (by exact hg) _).setN (by exact hg) _).setN (by exact hg) _).setN (by exact hg) _, (((K.setN (by simp) (by simp; omega) _).setN (by simp) (by simp; omega) _).setN (by simp) (by simp; omega) _).setN (by simp) (by simp; omega) _⟩
       · have E' : ∀ w, (Op.equalIn 10000 25 (.agg #[.int .i64 x, .int .i64 y]) (.agg #[.int .i64 u, .int .i64 z])).run Tryz.prog w = .ok false w := by
           intro w
           rw [E w]
           congr 1
           simp only [Bool.and_eq_false_iff, decide_eq_false_iff_not]
           omega
         obtain ⟨p0, p1⟩ := X2.cs2
         obtain ⟨r0, r1⟩ := X3.cs2
         obtain ⟨a, b, c, d, k, ia, ib, ic, id, CS⟩ := segOf_ex x y u z (by constructor <;> omega) (by constructor <;> omega) (by constructor <;> omega) (by constructor <;> omega)
         clear he E Y2 YB YR YK
         go_wp2_with fail
         clear p0 p1 r0 r1 X2 X3 E'
         generalize (w3.alloc (.cells #[.int .i64 u, .int .i64 z] 25)) = W3 at *
         refine (CS _).mono ?_
         rintro e w4 ⟨rfl, hB⟩
         replace R := R.step hB
         replace K := K.trans (Kept.of hB)
         replace B := B.step hB
         clear hB CS
         have X := Blk.new w4 [.int .i64 a, .int .i64 b, .int .i64 c, .int .i64 d] 27 rfl
         rw [show ([.int .i64 a, .int .i64 b, .int .i64 c, .int .i64 d] : List Value).toArray = #[.int .i64 a, .int .i64 b, .int .i64 c, .int .i64 d] from rfl] at X
         replace R := R.alloc (.cells #[.int .i64 a, .int .i64 b, .int .i64 c, .int .i64 d] 27)
         replace K := K.alloc (.cells #[.int .i64 a, .int .i64 b, .int .i64 c, .int .i64 d] 27)
         replace B := B.alloc (.cells #[.int .i64 a, .int .i64 b, .int .i64 c, .int .i64 d] 27)
         obtain ⟨c0, c1, c2, c3⟩ := X.cs4
         have xl := B.lt
         clear X
         obtain ⟨o0, f0, o1, f1, o2, f2, o3, f3⟩ := B.cf4; have ol := B.lt
         clear B
         go_wp2
         refine bodyPost_ret (v := .agg #[.int .i64 a, .int .i64 b, .int .i64 c, .int .i64 d]) (by simp [results, Tryz.results23, go_sem, o0, o1, o2, o3]) rfl ?_
         exact ⟨_, rfl, ⟨_, _, _, _, rfl, ia, ib, ic, id⟩, (((R.setN (by exact hg) _).setN (by exact hg) _).setN (by exact hg) _).setN (by exact hg) _, (((K.setN (by simp) (by simp; omega) _).setN (by simp) (by simp; omega) _).setN (by simp) (by simp; omega) _).setN (by simp) (by simp; omega) _⟩
end Go.Proofs.YtpnnpkchogooaaaGreat
namespace Go.Proofs.YtpnnpkchogooaaaGreat
variable {P : Program} {ops : Array Oper} {Q : Exit → Act → World → Prop} {md : Region.Mode}
def open_ (l : Array Bool) : Nat := l.toList.countP (fun b => !b)
theorem open_set {l : Array Bool} {i : Nat} (h : l.getD i true = false) : open_ (l.setIfInBounds i true) + 1 = open_ l := by
 obtain ⟨xs⟩ := l
 have hi : i < xs.length := by
   rcases Nat.lt_or_ge i xs.length with h' | h'
   · exact h'
   · simp [Array.getD, Nat.not_lt.2 h'] at h
 have hv : xs[i] = false := by simpa [Array.getD, hi] using h
 have hp : 0 < xs.countP (fun b => !b) := List.countP_pos_iff.2 ⟨xs[i], List.getElem_mem hi, by simp [hv]⟩
 simp only [open_, List.setIfInBounds_toArray, List.countP_set hi, hv]
 simp
 omega
theorem wpAny_inv (J : Array Bool → Act → World → Prop) (hs : ∀ l a w i o, J l a w → l.getD i true = false → ops[i]? = some o → (∀ e ∈ o.after, Region.binds md e = true → l.getD e.on false = true) → wpOp P ops Q i (J (l.setIfInBounds i true)) a w)
   (hd : ∀ l a w, J l a w → Region.ready md ops l = [] → Q .normal a w) : ∀ (fuel : Nat) (l : Array Bool) (a : Act) (w : World), open_ l ≤ fuel → J l a w → wpAny P md ops Q fuel l a w := by
 intro fuel
 induction fuel with
 | zero =>
   intro l a w hf hJ
   have hr : Region.ready md ops l = [] := by
     rw [List.eq_nil_iff_forall_not_mem]
     intro i hi
     have := open_set (mem_ready.1 hi).1
     omega
   exact ⟨hr, hd l a w hJ hr⟩
 | succ fuel ih =>
   intro l a w hf hJ
   refine ⟨fun hr => hd l a w hJ hr, fun i hi => ?_⟩
   obtain ⟨h0, o, ho, hall⟩ := mem_ready.1 hi
   exact wpOp_mono (fun a' w' h' => ih _ a' w' (by have := open_set h0; omega) h') (hs l a w i o hJ h0 ho hall)
theorem wp_region_inv {id : Nat} {a : Act} {w : World} (hm : P.follows .mixedOrders = true) (J : Array Bool → Act → World → Prop)
   (h0 : J (Array.replicate ops.size false) a { w with drawn := w.drawn + 1 })
   (hs : ∀ l a w i o, J l a w → l.getD i true = false → ops[i]? = some o → (∀ e ∈ o.after, Region.binds .any e = true → l.getD e.on false = true) → wpOp P ops Q i (J (l.setIfInBounds i true)) a w)
   (hd : ∀ l a w, J l a w → Region.ready .any ops l = [] → Q .normal a w) : (Code.region id ops true).wp P Q a w :=
 wp_region_any hm (wpAny_inv J hs hd _ _ _ _ (by
   unfold open_
   refine Nat.le_trans List.countP_le_length ?_
   simp) h0)
def waits (md : Region.Mode) (ops : Array Oper) : List Nat → List Nat → Bool
 | _, [] => true
 | acc, i :: r => ((ops[i]?).map (fun o => o.after.all (fun e => !Region.binds md e || acc.contains e.on))).getD false && waits md ops (i :: acc) r
theorem listed_of {l : Array Bool} (hr : Region.ready md ops l = []) : ∀ (r acc : List Nat), (∀ k ∈ acc, l.getD k false = true) → waits md ops acc r = true → (∀ k ∈ r, k < l.size) → ∀ k ∈ r, l.getD k false = true
 | [], _, _, _, _ => fun k hk => by simp at hk
 | i :: r, acc, ha, hw, hz => by
   simp only [waits, Bool.and_eq_true] at hw
   obtain ⟨hw1, hw2⟩ := hw
   have hi : l.getD i false = true := by
     cases ho : ops[i]? with
     | none => rw [ho] at hw1; simp at hw1
     | some o =>
       rw [ho] at hw1
       have hall : ∀ e ∈ o.after, Region.binds md e = true → l.getD e.on false = true := fun e he hb => by
         have h2 : o.after.all (fun e => !Region.binds md e || acc.contains e.on) = true := by simpa using hw1
         rw [Array.all_eq_true'] at h2
         have h3 := h2 e he
         rw [hb] at h3
         exact ha _ (by simpa using h3)
       have hz' := hz i (by simp)
       by_cases hc : l.getD i true = false
       · have : i ∈ Region.ready md ops l := mem_ready.2 ⟨hc, o, ho, hall⟩
         rw [hr] at this
         simp at this
       · simpa [Array.getD, hz'] using hc
   intro k hk
   rcases List.mem_cons.1 hk with rfl | hk
   · exact hi
   · exact listed_of hr r (i :: acc) (fun k hk => by
       rcases List.mem_cons.1 hk with rfl | hk
       · exact hi
       · exact ha k hk) hw2 (fun k hk => hz k (by simp [hk])) k hk
theorem wpOp_of {i : Nat} {o : Oper} {a : Act} {w : World} {K : Act → World → Prop} (ho : ops[i]? = some o) (hg : o.guard = none) (h : o.wp P a w K Q) : wpOp P ops Q i K a w := by
 unfold wpOp
 simp only [ho]
 have hw : Region.wanted o (yielded ops a.tmps) = true := by unfold Region.wanted; rw [hg]
 rw [if_pos hw]
 exact .inl h
theorem tmps_fold : ∀ (D : List Nat) (t s : Array Value), t.size = s.size → (∀ d, d ∉ D → t[d]? = s[d]?) → t = D.foldl (fun u d => u.setIfInBounds d (t.getD d undef)) s
 | [], t, s, _, h => Array.ext_getElem? (fun d => h d (by simp))
 | d :: D, t, s, hz, h => by
   rw [List.foldl_cons]
   refine tmps_fold D t _ (by simpa using hz) (fun e he => ?_)
   by_cases hed : e = d
   · subst hed
     rcases Nat.lt_or_ge e t.size with h' | h'
     · simp [Array.getD, h', ← hz]
     · simp [← hz, h']
   · rw [Array.getElem?_setIfInBounds_ne (fun hh => hed hh.symm)]
     exact h e (by simp [hed, he])
theorem put_getD_ne {a : Act} {d e : Nat} {v : Value} (h : d ≠ e) : (a.put (some d) v).tmps.getD e undef = a.tmps.getD e undef := by
 simp [Act.put, Array.getD_eq_getD_getElem?, Array.getElem?_setIfInBounds_ne h]
theorem put_getD_same {a : Act} {d : Nat} {v : Value} (h : d < a.tmps.size) : (a.put (some d) v).tmps.getD d undef = v := by
 simp [Act.put, Array.getD_eq_getD_getElem?, h]
end Go.Proofs.YtpnnpkchogooaaaGreat
namespace Go.Proofs.YtpnnpkchogooaaaGreat
variable {P : Program} {ops : Array Oper} {Q : Exit → Act → World → Prop}
theorem yielded_of {j d : Nat} {o : Oper} {t : Array Value} {b : Bool} (ho : ops[j]? = some o) (hd : o.dst = some d) (ht : t.getD d undef = .bool b) : yielded ops t j = some b := by
 have h : t[d]? = some (.bool b) := by
   rcases Nat.lt_or_ge d t.size with h | h
   · simpa [Array.getD, h] using ht
   · simp [Array.getD, Nat.not_lt.2 h, undef] at ht
 unfold yielded
 rw [ho]
 simp only [Option.bind_some, hd]
 rw [h]
theorem wpOp_on {i k d : Nat} {b : Bool} {o ok : Oper} {a : Act} {w : World} {K : Act → World → Prop} (ho : ops[i]? = some o) (hg : o.guard = some (k, b)) (hk : ops[k]? = some ok) (hd : ok.dst = some d) (ht : a.tmps.getD d undef = .bool b) (h : o.wp P a w K Q) : wpOp P ops Q i K a w := by
 unfold wpOp
 simp only [ho]
 have hw : Region.wanted o (yielded ops a.tmps) = true := by
   unfold Region.wanted
   rw [hg]
   simp only [yielded_of hk hd ht]
   cases b <;> rfl
 rw [if_pos hw]
 exact .inl h
end Go.Proofs.YtpnnpkchogooaaaGreat
namespace Go.Proofs.YtpnnpkchogooaaaGreat
open Go.RowKit
variable {P : Program} {ops : Array Oper}
def distS : List (Option Nat) → Bool
 | [] => true
 | none :: r => distS r
 | some d :: r => !(r.contains (some d)) && distS r
theorem distS_inj : ∀ (S : List (Option Nat)) (i j d : Nat), distS S = true → S[i]? = some (some d) → S[j]? = some (some d) → i = j
 | [], i, _, _, _, h, _ => by simp at h
 | o :: r, i, j, d, hd, hi, hj => by
   have hr : distS r = true := by
     cases o with
     | none => exact hd
     | some d' => simp only [distS, Bool.and_eq_true] at hd; exact hd.2
   have hno : ∀ k, o = some d → r[k]? = some (some d) → False := fun k ho hk => by
     subst ho
     simp only [distS, Bool.and_eq_true, Bool.not_eq_true'] at hd
     have hm : some d ∈ r := List.mem_of_getElem? hk
     rw [← List.contains_iff_mem, hd.1] at hm
     cases hm
   match i, j with
   | 0, 0 => rfl
   | 0, j + 1 => exact (hno j (by simpa using hi) (by simpa using hj)).elim
   | i + 1, 0 => exact (hno i (by simpa using hj) (by simpa using hi)).elim
   | i + 1, j + 1 => exact congrArg (· + 1) (distS_inj r i j d hr (by simpa using hi) (by simpa using hj))
def InvQ (B : Nat) (S : List (Option Nat)) (V : Nat → Value → World → Prop) (w0 : World) (a0 : Act) (l : Array Bool) (a : Act) (W : World) : Prop :=
 l.size = S.length ∧ a.tmps.size = a0.tmps.size ∧ a.defers = a0.defers ∧ (∀ e, some e ∉ S → a.tmps[e]? = a0.tmps[e]?) ∧ Below B w0 W ∧ (∀ j d, l.getD j false = true → S[j]? = some (some d) → V j (a.tmps.getD d undef) W) ∧ (∀ j, l.getD j false = true → S[j]? = some none → V j undef W)
theorem getD_set_q {l : Array Bool} {i j : Nat} (h : (l.setIfInBounds i true).getD j false = true) (hne : j ≠ i) : l.getD j false = true := by
 rw [getD_set_ne false (Ne.symm hne)] at h
 exact h
theorem InvQ.put {B : Nat} {S : List (Option Nat)} {V : Nat → Value → World → Prop} {w0 : World} {a0 : Act} {l : Array Bool} {a : Act} {W W' : World} (h : InvQ B S V w0 a0 l a W) (hS : distS S = true) (i d : Nat) (hi : S[i]? = some (some d)) (hlt : d < a0.tmps.size)
   (hW : Below B w0 W') (hT : ∀ j v, V j v W → V j v W') (v : Value) (hv : V i v W') : InvQ B S V w0 a0 (l.setIfInBounds i true) (a.put (some d) v) W' := by
 obtain ⟨h1, h2, h3, h4, h5, h6, h7⟩ := h
 refine ⟨by simpa using h1, by simpa [Act.put] using h2, h3, fun e he => ?_, hW, fun j d' hj hd' => ?_, fun j hj hn => ?_⟩
 · have hne : d ≠ e := fun hh => he (hh ▸ List.mem_of_getElem? hi)
   simp only [Act.put]
   rw [Array.getElem?_setIfInBounds_ne hne]
   exact h4 e he
 · by_cases hji : j = i
   · subst hji
     rw [hi] at hd'
     cases hd'
     rw [put_getD_same (by omega)]
     exact hv
   · have hne : d ≠ d' := fun hh => hji (distS_inj S j i d hS (hh ▸ hd') hi)
     rw [put_getD_ne hne]
     exact hT _ _ (h6 j d' (getD_set_q hj hji) hd')
 · have hji : j ≠ i := fun hh => by subst hh; rw [hi] at hn; cases hn
   exact hT _ _ (h7 j (getD_set_q hj hji) hn)
theorem InvQ.world {B : Nat} {S : List (Option Nat)} {V : Nat → Value → World → Prop} {w0 : World} {a0 : Act} {l : Array Bool} {a : Act} {W W' : World} (h : InvQ B S V w0 a0 l a W) (i : Nat) (hi : S[i]? = some none)
   (hW : Below B w0 W') (hT : ∀ j v, V j v W → V j v W') (hv : V i undef W') : InvQ B S V w0 a0 (l.setIfInBounds i true) a W' := by
 obtain ⟨h1, h2, h3, h4, h5, h6, h7⟩ := h
 refine ⟨by simpa using h1, h2, h3, h4, hW, fun j d hj hd => ?_, fun j hj hn => ?_⟩
 · have hji : j ≠ i := fun hh => by subst hh; rw [hi] at hd; cases hd
   exact hT _ _ (h6 j d (getD_set_q hj hji) hd)
 · by_cases hji : j = i
   · subst hji; exact hv
   · exact hT _ _ (h7 j (getD_set_q hj hji) hn)
theorem wp_region_q {Q : Exit → Act → World → Prop} {id : Nat} {a0 : Act} {w0 : World} (hm : P.follows .mixedOrders = true) (B : Nat) (S : List (Option Nat)) (V : Nat → Value → World → Prop) (hSz : ops.size = S.length)
   (hs : ∀ (Q : Exit → Act → World → Prop) l a W i o, InvQ B S V w0 a0 l a W → l.getD i true = false → ops[i]? = some o → (∀ e ∈ o.after, Region.binds .any e = true → l.getD e.on false = true) → wpOp P ops Q i (InvQ B S V w0 a0 (l.setIfInBounds i true)) a W)
   (hd : ∀ l a W, InvQ B S V w0 a0 l a W → Region.ready .any ops l = [] → Q .normal a W) : (Code.region id ops true).wp P Q a0 w0 := by
 refine wp_region_inv hm (InvQ B S V w0 a0) ⟨by simpa using hSz, rfl, rfl, fun _ _ => rfl, (Below.refl _ w0).drew, fun j d hj => ?_, fun j hj => ?_⟩ (hs Q) hd
 all_goals
   exfalso
   rw [Array.getD_eq_getD_getElem?, Array.getElem?_replicate] at hj
   split at hj <;> simp at hj
end Go.Proofs.YtpnnpkchogooaaaGreat
namespace Go.Proofs.YtpnnpkchogooaaaGreat
open Go.RowKit
end Go.Proofs.YtpnnpkchogooaaaGreat
