/- Part 15 of the walks that the proof leans on. -/
import Derived.Test.YteakhlipmmfilaaGreatQy14
import Derived.Test.YteakhlipmmfilaaGreatQy8
import Derived.Maps.AppendAt
import Derived.Test.YteakhlipmmfilaaGreatQy11
namespace Go.Proofs.YteakhlipmmfilaaGreat
open Go.RowKit
set_option maxRecDepth 100000 in
set_option maxHeartbeats 1000000 in
theorem near_m60 (g : Nat) (ao : Option Addr) (n cap : Nat) (cs : List Int) (w : World) (h : Rdr w g ao n cap cs) :
   Calls Tryz.prog 77 #[.pointer (some ⟨g, 0, none⟩), .int .i64 (-6), .int .i64 0] w (RdP g ao n cap cs (IsIn (-6) 1) w) := by
 go_enter Tryz.func77, Tryz.ntmps77
 go_wp2_with fail
 refine (below_any 8 (by decide) (by decide) g ao n cap cs _ h).mono ?_
 rintro e w1 ⟨_, rfl, ⟨x, rfl, x0, x1⟩, R, K⟩
 clear h
 by_cases h0 : x = 0
 · subst h0
   go_wp2
   go_ret
   exact ⟨_, rfl, ⟨_, rfl, by decide, by decide⟩, R, K⟩
 · by_cases h1 : x = 1
   · subst h1
     go_wp2
     go_ret
     exact ⟨_, rfl, ⟨_, rfl, by decide, by decide⟩, R, K⟩
   · have e0 : (x == 0) = false := by simpa using h0
     have e1 : (x == 1) = false := by simpa using h1
     go_wp2_with fail
     refine (word_any g ao n cap cs _ R).mono ?_
     rintro e w2 ⟨_, rfl, ⟨y, rfl, y0, y1⟩, R2, K2⟩
     replace K := K.trans K2
     clear R K2
     have hw : IntKind.u64.wrap 7 = 7 := by rw [IntKind.wrap_u64]; decide
     go_wp2
     go_ret
     exact ⟨_, rfl, ⟨_, rfl, by omega, by omega⟩, R2, K⟩
set_option maxRecDepth 100000 in
set_option maxHeartbeats 1000000 in
theorem near_p1214 (g : Nat) (ao : Option Addr) (n cap : Nat) (cs : List Int) (w : World) (h : Rdr w g ao n cap cs) :
   Calls Tryz.prog 77 #[.pointer (some ⟨g, 0, none⟩), .int .i64 12, .int .i64 14] w (RdP g ao n cap cs (IsIn 12 15) w) := by
 go_enter Tryz.func77, Tryz.ntmps77
 go_wp2_with fail
 refine (below_any 8 (by decide) (by decide) g ao n cap cs _ h).mono ?_
 rintro e w1 ⟨_, rfl, ⟨x, rfl, x0, x1⟩, R, K⟩
 clear h
 by_cases h0 : x = 0
 · subst h0
   go_wp2
   go_ret
   exact ⟨_, rfl, ⟨_, rfl, by decide, by decide⟩, R, K⟩
 · by_cases h1 : x = 1
   · subst h1
     go_wp2
     go_ret
     exact ⟨_, rfl, ⟨_, rfl, by decide, by decide⟩, R, K⟩
   · have e0 : (x == 0) = false := by simpa using h0
     have e1 : (x == 1) = false := by simpa using h1
     go_wp2_with fail
     refine (word_any g ao n cap cs _ R).mono ?_
     rintro e w2 ⟨_, rfl, ⟨y, rfl, y0, y1⟩, R2, K2⟩
     replace K := K.trans K2
     clear R K2
     have hw : IntKind.u64.wrap 3 = 3 := by rw [IntKind.wrap_u64]; decide
     go_wp2
     go_ret
     exact ⟨_, rfl, ⟨_, rfl, by omega, by omega⟩, R2, K⟩
set_option maxRecDepth 100000 in
set_option maxHeartbeats 1000000 in
theorem near_p02 (g : Nat) (ao : Option Addr) (n cap : Nat) (cs : List Int) (w : World) (h : Rdr w g ao n cap cs) :
   Calls Tryz.prog 77 #[.pointer (some ⟨g, 0, none⟩), .int .i64 0, .int .i64 2] w (RdP g ao n cap cs (IsIn 0 3) w) := by
 go_enter Tryz.func77, Tryz.ntmps77
 go_wp2_with fail
 refine (below_any 8 (by decide) (by decide) g ao n cap cs _ h).mono ?_
 rintro e w1 ⟨_, rfl, ⟨x, rfl, x0, x1⟩, R, K⟩
 clear h
 by_cases h0 : x = 0
 · subst h0
   go_wp2
   go_ret
   exact ⟨_, rfl, ⟨_, rfl, by decide, by decide⟩, R, K⟩
 · by_cases h1 : x = 1
   · subst h1
     go_wp2
     go_ret
     exact ⟨_, rfl, ⟨_, rfl, by decide, by decide⟩, R, K⟩
   · have e0 : (x == 0) = false := by simpa using h0
     have e1 : (x == 1) = false := by simpa using h1
     go_wp2_with fail
     refine (word_any g ao n cap cs _ R).mono ?_
     rintro e w2 ⟨_, rfl, ⟨y, rfl, y0, y1⟩, R2, K2⟩
     replace K := K.trans K2
     clear R K2
     have hw : IntKind.u64.wrap 3 = 3 := by rw [IntKind.wrap_u64]; decide
     go_wp2
     go_ret
     exact ⟨_, rfl, ⟨_, rfl, by omega, by omega⟩, R2, K⟩
theorem own_new (w : World) (e : TypeId) (size n base : Nat) (cs : List Value) (hb : base ≤ w.heap.size) (hm : n ≤ maxLen) (hs : cs.length = n * size) : (w.alloc (.cells cs.toArray e)).ownsRow base e size (.slice (some ⟨w.heap.size, 0, none⟩) n n) n cs := by
 refine ⟨hs, .inr ⟨w.heap.size, n, cs.toArray, rfl, hb, heap_alloc_new w _, Nat.le_refl _, hm, by simpa using hs, ?_⟩⟩
 rw [List.take_of_length_le (by simp; omega)]
def LyRow (W : World) (base : Nat) (v : Value) (c : Nat) : Prop := ∃ ss : List Value, W.ownsRow base 57 1 v c ss ∧ ∀ s ∈ ss, ∃ l L, l ≤ 12 ∧ SpRow W base s l L
theorem own_typesL {w : World} {b b' s s' n n' : Nat} {e e' : TypeId} {v v' : Value} {xs xs' : List Value} (h : w.ownsRow b e s v n xs) (h' : w.ownsRow b' e' s' v' n' xs') (hne : e ≠ e') : ∀ c, v.ownBlock = some c → v'.ownBlock ≠ some c := fun c hc hc' => by
 rcases h.2 with ⟨h1, _⟩ | ⟨g, cap, cur, h1, _, h2, _⟩
 · rw [h1] at hc; cases hc
 · rcases h'.2 with ⟨k1, _⟩ | ⟨g', cap', cur', k1, _, k2, _⟩
   · rw [k1] at hc'; cases hc'
   · rw [h1] at hc
     rw [k1] at hc'
     have e1 : g = c := Option.some.inj hc
     have e2 : g' = c := Option.some.inj hc'
     rw [e1] at h2
     rw [e2, h2] at k2
     exact hne (Obj.cells.inj (Option.some.inj k2)).2.1
theorem LyRow.kept {w w' : World} {base : Nat} {v : Value} {c g : Nat} (h : LyRow w base v c) (K : Kept g w w') (hg : g < base) : LyRow w' base v c := by
 obtain ⟨ss, h1, h2⟩ := h
 refine ⟨ss, ownG_kept h1 K hg, fun s hs => ?_⟩
 obtain ⟨l, L, h3, h4⟩ := h2 s hs
 exact ⟨l, L, h3, h4.kept K hg⟩
theorem ownG_grown {w w' : World} {base n : Nat} {e : TypeId} {size : Nat} {v : Value} {xs : List Value} {row : Option Nat} (h : w.ownsRow base e size v n xs) (hg : w.grownBy w' row) (hr : ∀ k, v.ownBlock = some k → some k ≠ row) : w'.ownsRow base e size v n xs := by
 rcases h with ⟨h0, h1 | ⟨b, cap, cur, h1, h2, h3, h4⟩⟩
 · exact ⟨h0, .inl h1⟩
 · refine ⟨h0, .inr ⟨b, cap, cur, h1, h2, ?_, h4⟩⟩
   rw [hg.block b (Array.getElem?_eq_some_iff.1 h3).1 (hr b (by rw [h1]; rfl))]
   exact h3
theorem LyRow.more {w w' : World} {base : Nat} {v v' s : Value} {c l : Nat} {L : List Int} {ss : List Value} (ho : w.ownsRow base 57 1 v c ss) (hs : ∀ s ∈ ss, ∃ l L, l ≤ 12 ∧ SpRow w base s l L) (hl : l ≤ 12) (hn : SpRow w base s l L) (hg : w.grownBy w' v.ownBlock) (h' : w'.ownsRow base 57 1 v' (c + 1) (ss ++ [s])) : LyRow w' base v' (c + 1) := by
 refine ⟨_, h', fun t ht => ?_⟩
 rcases List.mem_append.1 ht with ht | ht
 · obtain ⟨m, M, h3, h4⟩ := hs t ht
   exact ⟨m, M, h3, ownG_grown h4 hg fun k hk e => own_typesL h4 ho (by decide) k hk e.symm⟩
 · obtain rfl := List.mem_singleton.1 ht
   exact ⟨l, L, hl, ownG_grown hn hg fun k hk e => own_typesL hn ho (by decide) k hk e.symm⟩
theorem Tryz.infoRingL : (Tryz.prog.info? 57).map (fun i => (i.zero, i.size, i.bytes)) = some (some (.agg #[.slice none 0 0]), 1, 24) := by kernel_rfl
def LySt (w W : World) (g : Nat) (ao : Option Addr) (n cap : Nat) (cs : List Int) (v : Value) (c : Nat) : Prop := LyRow W w.heap.size v c ∧ Rdr W g ao n cap cs ∧ Kept g w W
theorem LySt.kept {w W W' : World} {g : Nat} {ao : Option Addr} {n cap : Nat} {cs : List Int} {v : Value} {c : Nat} (h : LySt w W g ao n cap cs v c) (hg : g < w.heap.size) (R : Rdr W' g ao n cap cs) (K : Kept g W W') : LySt w W' g ao n cap cs v c := ⟨h.1.kept K hg, R, h.2.2.trans K⟩
def LayrP (g : Nat) (ao : Option Addr) (n cap : Nat) (cs : List Int) (w : World) (e : Ending) (w' : World) : Prop := ∃ v c, e = .returned v ∧ c ≤ 3 ∧ LySt w w' g ao n cap cs v c
theorem SpRow.newRow {w : World} {base : Nat} (L : List Int) (c : Nat) (hb : base ≤ w.heap.size) (hc : c ≤ 12) (hl : L.length = c * 2) : SpRow (w.alloc (.cells (L.map (Value.int .i64)).toArray 51)) base (.slice (some ⟨w.heap.size, 0, none⟩) c c) c L := own_new w _ _ _ _ _ hb (by unfold maxLen; omega) (by simpa using hl)
theorem oneL (v : Value) (h : v.oneCell' = true) : ∀ u ∈ [v], u.oneCell' = true := by
 intro u hu
 obtain rfl := List.mem_singleton.1 hu
 exact h
theorem cell_newL (w : World) (v : Value) (t : TypeId) : ∀ j u, [v][j]? = some u → (w.alloc (.cells #[v] t)).cell? ((⟨w.heap.size, 0, none⟩ : Addr).add j) = some u := by
 intro j u hj
 match j, hj with
 | 0, hj => simp at hj; subst hj; simp [Addr.add]
 | j + 1, hj => simp at hj
set_option maxRecDepth 100000 in
set_option maxHeartbeats 16000000 in
theorem layer_any (g : Nat) (ao : Option Addr) (n cap : Nat) (cs : List Int) (w : World) (R : Rdr w g ao n cap cs) :
   Calls Tryz.prog 41 #[.pointer (some ⟨g, 0, none⟩)] w (LayrP g ao n cap cs w) := by
 have hg := R.lt
 obtain ⟨i0, hi0, hz0, hz1, hz2⟩ := info_parts Tryz.infoRingL
 go_enter Tryz.func41, Tryz.ntmps41
 go_wp2_with fail
 refine (ring_any g ao n cap cs _ R).mono ?_
 rintro e w1 ⟨v0, l0, L0, rfl, h3, h12, O0, R1, K1⟩
 have S0 : LySt w (w1.alloc (.cells #[v0] 57)) g ao n cap cs (.slice (some ⟨w1.heap.size, 0, none⟩) 1 1) 1 := ⟨⟨[v0], own_new w1 _ _ _ _ [v0] K1.size (by unfold maxLen; omega) rfl, fun s hs => by
   obtain rfl := List.mem_singleton.1 hs
   exact ⟨l0, L0, h12, ownG_step O0 ((Below.refl _ _).alloc (Nat.le_refl _) _)⟩⟩, R1.alloc _, K1.alloc _⟩
 obtain ⟨lo0, lc0, hv0⟩ := ownG_slice O0
 subst hv0
 clear R K1 O0 R1
 go_upto_region 2 with fail
 generalize (w1.alloc (.cells #[.slice lo0 l0 lc0] 57)) = W1 at *
 obtain ⟨ss, hss⟩ := S0.1
 have S : LySt w W1 g ao n cap cs (.slice (some ⟨w1.heap.size, 0, none⟩) 1 1) 1 := S0
 clear S0 hss ss
 go_wp2_with fail
 refine (below_any 10 (by decide) (by decide) g ao n cap cs _ S.2.1).mono ?_
 rintro e w2 ⟨_, rfl, ⟨z, rfl, z0, z1⟩, R1, K1⟩
 replace S := S.kept hg R1 K1
 clear R1 K1
 obtain rfl | rfl | rfl | rfl | rfl | hz : z = 0 ∨ z = 1 ∨ z = 2 ∨ z = 3 ∨ z = 4 ∨ 5 ≤ z := by omega
 · have HS : Hid (LySt w (w2.alloc (.cells #[] 57)) g ao n cap cs (.slice (some ⟨w2.heap.size, 0, none⟩) 0 0) 0) := ⟨⟨[], World.ownsRow_made w2 #[] 0 S.2.2.size (Nat.zero_le _) rfl, fun s hs => by cases hs⟩, S.2.1.alloc _, S.2.2.alloc _⟩
   clear S
   go_wp2
   go_ret
   exact ⟨_, 0, rfl, by omega, HS.out⟩
 · go_wp2_with fail
   refine (near_m60 g ao n cap cs _ S.2.1).mono ?_
   rintro e w3 ⟨_, rfl, ⟨x, rfl, x0, x1⟩, R1, K1⟩
   replace S := S.kept hg R1 K1
   clear R1 K1
   go_wp2_with fail
   refine (near_m60 g ao n cap cs _ S.2.1).mono ?_
   rintro e w4 ⟨_, rfl, ⟨y, rfl, y0, y1⟩, R1, K1⟩
   replace S := S.kept hg R1 K1
   clear R1 K1
   have hk4 := S.2.2.size
   have P1 : SpRow (w4.alloc (.cells #[.int .i64 x, .int .i64 y, .int .i64 (x + 7), .int .i64 y, .int .i64 (x + 7), .int .i64 (y + 7), .int .i64 x, .int .i64 (y + 7)] 51)) w.heap.size (.slice (some ⟨w4.heap.size, 0, none⟩) 4 4) 4 [x, y, x + 7, y, x + 7, y + 7, x, y + 7] := SpRow.newRow [x, y, x + 7, y, x + 7, y + 7, x, y + 7] 4 hk4 (by omega) rfl
   have R4 := S.2.1.alloc (.cells #[.int .i64 x, .int .i64 y, .int .i64 (x + 7), .int .i64 y, .int .i64 (x + 7), .int .i64 (y + 7), .int .i64 x, .int .i64 (y + 7)] 51)
   have K4 := S.2.2.alloc (.cells #[.int .i64 x, .int .i64 y, .int .i64 (x + 7), .int .i64 y, .int .i64 (x + 7), .int .i64 (y + 7), .int .i64 x, .int .i64 (y + 7)] 51)
   clear S
   go_wp2_with fail
   refine (near_p02 g ao n cap cs _ R4).mono ?_
   rintro e w5 ⟨_, rfl, ⟨u, rfl, u0, u1⟩, R5, K5⟩
   replace P1 := P1.kept K5 hg
   have KK := K4.trans K5
   have hk5 := KK.size
   clear R4 K4 K5
   have P2 : SpRow (w5.alloc (.cells #[.int .i64 (x + 1), .int .i64 (y + 1), .int .i64 (x + 1), .int .i64 (y + 5), .int .i64 (x + 5), .int .i64 (y + 5), .int .i64 (x + 5 - u), .int .i64 (y + 1)] 51)) w.heap.size (.slice (some ⟨w5.heap.size, 0, none⟩) 4 4) 4 [x + 1, y + 1, x + 1, y + 5, x + 5, y + 5, x + 5 - u, y + 1] := SpRow.newRow [x + 1, y + 1, x + 1, y + 5, x + 5, y + 5, x + 5 - u, y + 1] 4 hk5 (by omega) rfl
   have P1' : SpRow (w5.alloc (.cells #[.int .i64 (x + 1), .int .i64 (y + 1), .int .i64 (x + 1), .int .i64 (y + 5), .int .i64 (x + 5), .int .i64 (y + 5), .int .i64 (x + 5 - u), .int .i64 (y + 1)] 51)) w.heap.size (.slice (some ⟨w4.heap.size, 0, none⟩) 4 4) 4 [x, y, x + 7, y, x + 7, y + 7, x, y + 7] := P1.alloc _
   have S : LySt w ((w5.alloc (.cells #[.int .i64 (x + 1), .int .i64 (y + 1), .int .i64 (x + 1), .int .i64 (y + 5), .int .i64 (x + 5), .int .i64 (y + 5), .int .i64 (x + 5 - u), .int .i64 (y + 1)] 51)).alloc (.cells #[.slice (some ⟨w4.heap.size, 0, none⟩) 4 4, .slice (some ⟨w5.heap.size, 0, none⟩) 4 4] 57)) g ao n cap cs (.slice (some ⟨(w5.alloc (.cells #[.int .i64 (x + 1), .int .i64 (y + 1), .int .i64 (x + 1), .int .i64 (y + 5), .int .i64 (x + 5), .int .i64 (y + 5), .int .i64 (x + 5 - u), .int .i64 (y + 1)] 51)).heap.size, 0, none⟩) 2 2) 2 := ⟨⟨[.slice (some ⟨w4.heap.size, 0, none⟩) 4 4, .slice (some ⟨w5.heap.size, 0, none⟩) 4 4], own_new _ _ _ _ _ [.slice (some ⟨w4.heap.size, 0, none⟩) 4 4, .slice (some ⟨w5.heap.size, 0, none⟩) 4 4] (by simp; omega) (by unfold maxLen; omega) rfl, fun s hs => by
     rcases List.mem_cons.1 hs with rfl | hs
     · exact ⟨4, _, by omega, P1'.alloc _⟩
     · obtain rfl := List.mem_singleton.1 hs
       exact ⟨4, _, by omega, P2.alloc _⟩⟩, (R5.alloc _).alloc _, (KK.alloc _).alloc _⟩
   rw [World.size_alloc] at S
   clear P1 P1' P2 R5 KK
   go_upto_region 10 with fail
   generalize ((w5.alloc (.cells #[.int .i64 (x + 1), .int .i64 (y + 1), .int .i64 (x + 1), .int .i64 (y + 5), .int .i64 (x + 5), .int .i64 (y + 5), .int .i64 (x + 5 - u), .int .i64 (y + 1)] 51)).alloc (.cells #[.slice (some ⟨w4.heap.size, 0, none⟩) 4 4, .slice (some ⟨w5.heap.size, 0, none⟩) 4 4] 57)) = W6 at *
   go_wp2_with fail
   refine (once_any 2 (by decide) (by decide) g ao n cap cs _ S.2.1).mono ?_
   rintro e w7 ⟨_, rfl, ⟨b, rfl⟩, R1, K1⟩
   replace S := S.kept hg R1 K1
   clear R1 K1
   cases b with
   | false =>
     have HS : Hid _ := S
     clear S
     go_wp2
     go_ret
     exact ⟨_, 2, rfl, by omega, HS.out⟩
   | true =>
     obtain ⟨⟨ss, ho, hs⟩, R7, K7⟩ := S
     have hk7 := K7.size
     have P3 : SpRow (w7.alloc (.cells #[.int .i64 (x + 2), .int .i64 (y + 2), .int .i64 (x + 3), .int .i64 (y + 2), .int .i64 (x + 2), .int .i64 (y + 3)] 51)) w.heap.size (.slice (some ⟨w7.heap.size, 0, none⟩) 3 3) 3 [x + 2, y + 2, x + 3, y + 2, x + 2, y + 3] := SpRow.newRow [x + 2, y + 2, x + 3, y + 2, x + 2, y + 3] 3 hk7 (by omega) rfl
     have HB7 : Below w7.heap.size w7 (w7.alloc (.cells #[.int .i64 (x + 2), .int .i64 (y + 2), .int .i64 (x + 3), .int .i64 (y + 2), .int .i64 (x + 2), .int .i64 (y + 3)] 51)) := (Below.refl _ _).alloc (Nat.le_refl _) _
     have ho7 := ownG_step ho HB7
     have hs7 : ∀ s ∈ ss, ∃ l L, l ≤ 12 ∧ SpRow (w7.alloc (.cells #[.int .i64 (x + 2), .int .i64 (y + 2), .int .i64 (x + 3), .int .i64 (y + 2), .int .i64 (x + 2), .int .i64 (y + 3)] 51)) w.heap.size s l L := fun s h => by
       obtain ⟨l, L, h1, h2⟩ := hs s h
       exact ⟨l, L, h1, ownG_step h2 HB7⟩
     have R8 := R7.alloc (.cells #[.int .i64 (x + 2), .int .i64 (y + 2), .int .i64 (x + 3), .int .i64 (y + 2), .int .i64 (x + 2), .int .i64 (y + 3)] 51)
     have K8 := K7.alloc (.cells #[.int .i64 (x + 2), .int .i64 (y + 2), .int .i64 (x + 3), .int .i64 (y + 2), .int .i64 (x + 2), .int .i64 (y + 3)] 51)
     have HB8 : Below (w7.alloc (.cells #[.int .i64 (x + 2), .int .i64 (y + 2), .int .i64 (x + 3), .int .i64 (y + 2), .int .i64 (x + 2), .int .i64 (y + 3)] 51)).heap.size (w7.alloc (.cells #[.int .i64 (x + 2), .int .i64 (y + 2), .int .i64 (x + 3), .int .i64 (y + 2), .int .i64 (x + 2), .int .i64 (y + 3)] 51)) ((w7.alloc (.cells #[.int .i64 (x + 2), .int .i64 (y + 2), .int .i64 (x + 3), .int .i64 (y + 2), .int .i64 (x + 2), .int .i64 (y + 3)] 51)).alloc (.cells #[.slice (some ⟨w7.heap.size, 0, none⟩) 3 3] 57)) := (Below.refl _ _).alloc (Nat.le_refl _) _
     have hc8 := cell_newL (w7.alloc (.cells #[.int .i64 (x + 2), .int .i64 (y + 2), .int .i64 (x + 3), .int .i64 (y + 2), .int .i64 (x + 2), .int .i64 (y + 3)] 51)) (.slice (some ⟨w7.heap.size, 0, none⟩) 3 3) 57
     rw [World.size_alloc] at hc8
     have hsz8 : ((w7.alloc (.cells #[.int .i64 (x + 2), .int .i64 (y + 2), .int .i64 (x + 3), .int .i64 (y + 2), .int .i64 (x + 2), .int .i64 (y + 3)] 51)).alloc (.cells #[.slice (some ⟨w7.heap.size, 0, none⟩) 3 3] 57)).heap.size = w7.heap.size + 1 + 1 := by simp
     clear ho hs R7 K7 HB7
     go_wp2_with (at_builtin; refine wpList_append_own_at _ rfl _ _ 26 rfl w.heap.size 57 i0 (.agg #[.slice none 0 0]) 1 24 Tryz.underlying26 hi0 hz0 hz1 hz2 rfl (by decide) _ _ _ rfl (ownG_step ho7 HB8) ⟨w7.heap.size + 1, 0, none⟩ 1 1 [.slice (some ⟨w7.heap.size, 0, none⟩) 3 3] rfl rfl hc8 (oneL _ rfl) (by unfold maxLen; omega) (by omega) (by rw [hsz8]; omega) ?_)
     intro v' w9 hown' hgrow' _ hob'
     have S : LySt w w9 g ao n cap cs v' 3 := ⟨LyRow.more (ownG_step ho7 HB8) (fun s h => by
       obtain ⟨l, L, h1, h2⟩ := hs7 s h
       exact ⟨l, L, h1, ownG_step h2 HB8⟩) (by omega) (ownG_step P3 HB8) hgrow' hown', rdr_grown (R8.alloc _) hgrow' (fun k hk => by have := (ho7.lt k hk).1; omega), kept_grown (K8.alloc _) hgrow' (fun k hk => (ho7.lt k hk).1)⟩
     clear ho7 hs7 P3 R8 K8 hown' hgrow' hob' HB8 hc8 hsz8
     have HS : Hid _ := S
     clear S
     go_wp2
     go_ret
     exact ⟨_, 3, rfl, by omega, HS.out⟩
 · go_wp2_with fail
   refine (near_m60 g ao n cap cs _ S.2.1).mono ?_
   rintro e w3 ⟨_, rfl, ⟨x, rfl, x0, x1⟩, R1, K1⟩
   replace S := S.kept hg R1 K1
   clear R1 K1
   go_wp2_with fail
   refine (near_m60 g ao n cap cs _ S.2.1).mono ?_
   rintro e w4 ⟨_, rfl, ⟨y, rfl, y0, y1⟩, R1, K1⟩
   replace S := S.kept hg R1 K1
   clear R1 K1
   have hk4 := S.2.2.size
   have P1 : SpRow (w4.alloc (.cells #[.int .i64 x, .int .i64 y, .int .i64 (x + 7), .int .i64 y, .int .i64 (x + 7), .int .i64 (y + 7), .int .i64 x, .int .i64 (y + 7)] 51)) w.heap.size (.slice (some ⟨w4.heap.size, 0, none⟩) 4 4) 4 [x, y, x + 7, y, x + 7, y + 7, x, y + 7] := SpRow.newRow [x, y, x + 7, y, x + 7, y + 7, x, y + 7] 4 hk4 (by omega) rfl
   have R4 := S.2.1.alloc (.cells #[.int .i64 x, .int .i64 y, .int .i64 (x + 7), .int .i64 y, .int .i64 (x + 7), .int .i64 (y + 7), .int .i64 x, .int .i64 (y + 7)] 51)
   have K4 := S.2.2.alloc (.cells #[.int .i64 x, .int .i64 y, .int .i64 (x + 7), .int .i64 y, .int .i64 (x + 7), .int .i64 (y + 7), .int .i64 x, .int .i64 (y + 7)] 51)
   clear S
   go_wp2_with fail
   refine (near_p02 g ao n cap cs _ R4).mono ?_
   rintro e w5 ⟨_, rfl, ⟨u, rfl, u0, u1⟩, R5, K5⟩
   replace P1 := P1.kept K5 hg
   have KK := K4.trans K5
   have hk5 := KK.size
   clear R4 K4 K5
   have P2 : SpRow (w5.alloc (.cells #[.int .i64 (x + 1), .int .i64 (y + 1), .int .i64 (x + 1), .int .i64 (y + 5), .int .i64 (x + 5), .int .i64 (y + 5), .int .i64 (x + 5 - u), .int .i64 (y + 1)] 51)) w.heap.size (.slice (some ⟨w5.heap.size, 0, none⟩) 4 4) 4 [x + 1, y + 1, x + 1, y + 5, x + 5, y + 5, x + 5 - u, y + 1] := SpRow.newRow [x + 1, y + 1, x + 1, y + 5, x + 5, y + 5, x + 5 - u, y + 1] 4 hk5 (by omega) rfl
   have P1' : SpRow (w5.alloc (.cells #[.int .i64 (x + 1), .int .i64 (y + 1), .int .i64 (x + 1), .int .i64 (y + 5), .int .i64 (x + 5), .int .i64 (y + 5), .int .i64 (x + 5 - u), .int .i64 (y + 1)] 51)) w.heap.size (.slice (some ⟨w4.heap.size, 0, none⟩) 4 4) 4 [x, y, x + 7, y, x + 7, y + 7, x, y + 7] := P1.alloc _
   have S : LySt w ((w5.alloc (.cells #[.int .i64 (x + 1), .int .i64 (y + 1), .int .i64 (x + 1), .int .i64 (y + 5), .int .i64 (x + 5), .int .i64 (y + 5), .int .i64 (x + 5 - u), .int .i64 (y + 1)] 51)).alloc (.cells #[.slice (some ⟨w4.heap.size, 0, none⟩) 4 4, .slice (some ⟨w5.heap.size, 0, none⟩) 4 4] 57)) g ao n cap cs (.slice (some ⟨(w5.alloc (.cells #[.int .i64 (x + 1), .int .i64 (y + 1), .int .i64 (x + 1), .int .i64 (y + 5), .int .i64 (x + 5), .int .i64 (y + 5), .int .i64 (x + 5 - u), .int .i64 (y + 1)] 51)).heap.size, 0, none⟩) 2 2) 2 := ⟨⟨[.slice (some ⟨w4.heap.size, 0, none⟩) 4 4, .slice (some ⟨w5.heap.size, 0, none⟩) 4 4], own_new _ _ _ _ _ [.slice (some ⟨w4.heap.size, 0, none⟩) 4 4, .slice (some ⟨w5.heap.size, 0, none⟩) 4 4] (by simp; omega) (by unfold maxLen; omega) rfl, fun s hs => by
     rcases List.mem_cons.1 hs with rfl | hs
     · exact ⟨4, _, by omega, P1'.alloc _⟩
     · obtain rfl := List.mem_singleton.1 hs
       exact ⟨4, _, by omega, P2.alloc _⟩⟩, (R5.alloc _).alloc _, (KK.alloc _).alloc _⟩
   rw [World.size_alloc] at S
   clear P1 P1' P2 R5 KK
   go_upto_region 10 with fail
   generalize ((w5.alloc (.cells #[.int .i64 (x + 1), .int .i64 (y + 1), .int .i64 (x + 1), .int .i64 (y + 5), .int .i64 (x + 5), .int .i64 (y + 5), .int .i64 (x + 5 - u), .int .i64 (y + 1)] 51)).alloc (.cells #[.slice (some ⟨w4.heap.size, 0, none⟩) 4 4, .slice (some ⟨w5.heap.size, 0, none⟩) 4 4] 57)) = W6 at *
   go_wp2_with fail
   refine (once_any 2 (by decide) (by decide) g ao n cap cs _ S.2.1).mono ?_
   rintro e w7 ⟨_, rfl, ⟨b, rfl⟩, R1, K1⟩
   replace S := S.kept hg R1 K1
   clear R1 K1
   cases b with
   | false =>
     have HS : Hid _ := S
     clear S
     go_wp2
     go_ret
     exact ⟨_, 2, rfl, by omega, HS.out⟩
   | true =>
     obtain ⟨⟨ss, ho, hs⟩, R7, K7⟩ := S
     have hk7 := K7.size
     have P3 : SpRow (w7.alloc (.cells #[.int .i64 (x + 2), .int .i64 (y + 2), .int .i64 (x + 3), .int .i64 (y + 2), .int .i64 (x + 2), .int .i64 (y + 3)] 51)) w.heap.size (.slice (some ⟨w7.heap.size, 0, none⟩) 3 3) 3 [x + 2, y + 2, x + 3, y + 2, x + 2, y + 3] := SpRow.newRow [x + 2, y + 2, x + 3, y + 2, x + 2, y + 3] 3 hk7 (by omega) rfl
     have HB7 : Below w7.heap.size w7 (w7.alloc (.cells #[.int .i64 (x + 2), .int .i64 (y + 2), .int .i64 (x + 3), .int .i64 (y + 2), .int .i64 (x + 2), .int .i64 (y + 3)] 51)) := (Below.refl _ _).alloc (Nat.le_refl _) _
     have ho7 := ownG_step ho HB7
     have hs7 : ∀ s ∈ ss, ∃ l L, l ≤ 12 ∧ SpRow (w7.alloc (.cells #[.int .i64 (x + 2), .int .i64 (y + 2), .int .i64 (x + 3), .int .i64 (y + 2), .int .i64 (x + 2), .int .i64 (y + 3)] 51)) w.heap.size s l L := fun s h => by
       obtain ⟨l, L, h1, h2⟩ := hs s h
       exact ⟨l, L, h1, ownG_step h2 HB7⟩
     have R8 := R7.alloc (.cells #[.int .i64 (x + 2), .int .i64 (y + 2), .int .i64 (x + 3), .int .i64 (y + 2), .int .i64 (x + 2), .int .i64 (y + 3)] 51)
     have K8 := K7.alloc (.cells #[.int .i64 (x + 2), .int .i64 (y + 2), .int .i64 (x + 3), .int .i64 (y + 2), .int .i64 (x + 2), .int .i64 (y + 3)] 51)
     have HB8 : Below (w7.alloc (.cells #[.int .i64 (x + 2), .int .i64 (y + 2), .int .i64 (x + 3), .int .i64 (y + 2), .int .i64 (x + 2), .int .i64 (y + 3)] 51)).heap.size (w7.alloc (.cells #[.int .i64 (x + 2), .int .i64 (y + 2), .int .i64 (x + 3), .int .i64 (y + 2), .int .i64 (x + 2), .int .i64 (y + 3)] 51)) ((w7.alloc (.cells #[.int .i64 (x + 2), .int .i64 (y + 2), .int .i64 (x + 3), .int .i64 (y + 2), .int .i64 (x + 2), .int .i64 (y + 3)] 51)).alloc (.cells #[.slice (some ⟨w7.heap.size, 0, none⟩) 3 3] 57)) := (Below.refl _ _).alloc (Nat.le_refl _) _
     have hc8 := cell_newL (w7.alloc (.cells #[.int .i64 (x + 2), .int .i64 (y + 2), .int .i64 (x + 3), .int .i64 (y + 2), .int .i64 (x + 2), .int .i64 (y + 3)] 51)) (.slice (some ⟨w7.heap.size, 0, none⟩) 3 3) 57
     rw [World.size_alloc] at hc8
     have hsz8 : ((w7.alloc (.cells #[.int .i64 (x + 2), .int .i64 (y + 2), .int .i64 (x + 3), .int .i64 (y + 2), .int .i64 (x + 2), .int .i64 (y + 3)] 51)).alloc (.cells #[.slice (some ⟨w7.heap.size, 0, none⟩) 3 3] 57)).heap.size = w7.heap.size + 1 + 1 := by simp
     clear ho hs R7 K7 HB7
     go_wp2_with (at_builtin; refine wpList_append_own_at _ rfl _ _ 26 rfl w.heap.size 57 i0 (.agg #[.slice none 0 0]) 1 24 Tryz.underlying26 hi0 hz0 hz1 hz2 rfl (by decide) _ _ _ rfl (ownG_step ho7 HB8) ⟨w7.heap.size + 1, 0, none⟩ 1 1 [.slice (some ⟨w7.heap.size, 0, none⟩) 3 3] rfl rfl hc8 (oneL _ rfl) (by unfold maxLen; omega) (by omega) (by rw [hsz8]; omega) ?_)
     intro v' w9 hown' hgrow' _ hob'
     have S : LySt w w9 g ao n cap cs v' 3 := ⟨LyRow.more (ownG_step ho7 HB8) (fun s h => by
       obtain ⟨l, L, h1, h2⟩ := hs7 s h
       exact ⟨l, L, h1, ownG_step h2 HB8⟩) (by omega) (ownG_step P3 HB8) hgrow' hown', rdr_grown (R8.alloc _) hgrow' (fun k hk => by have := (ho7.lt k hk).1; omega), kept_grown (K8.alloc _) hgrow' (fun k hk => (ho7.lt k hk).1)⟩
     clear ho7 hs7 P3 R8 K8 hown' hgrow' hob' HB8 hc8 hsz8
     have HS : Hid _ := S
     clear S
     go_wp2
     go_ret
     exact ⟨_, 3, rfl, by omega, HS.out⟩
 · obtain ⟨⟨ss, ho, hs⟩, R, K⟩ := S
   go_wp2_with fail
   refine (ring_any g ao n cap cs _ R).mono ?_
   rintro e w3 ⟨v3, l3, L3, rfl, h3', h12', O3, R3, K3⟩
   obtain ⟨lo3, lc3, hv3⟩ := ownG_slice O3
   subst hv3
   have hk2 := K.size
   have hk3 := K3.size
   have ho3 := ownG_kept ho K3 hg
   have hs3 : ∀ s ∈ ss, ∃ l L, l ≤ 12 ∧ SpRow w3 w.heap.size s l L := fun s h => by
     obtain ⟨l, L, h1, h2⟩ := hs s h
     exact ⟨l, L, h1, h2.kept K3 hg⟩
   have KK := K.trans K3
   clear ho hs K K3 R
   go_wp2_with (at_builtin; refine wpList_append_own_at _ rfl _ _ 26 rfl w.heap.size 57 i0 (.agg #[.slice none 0 0]) 1 24 Tryz.underlying26 hi0 hz0 hz1 hz2 rfl (by decide) _ _ _ rfl (ownG_step ho3 ((Below.refl _ _).alloc (Nat.le_refl _) _)) ⟨w3.heap.size, 0, none⟩ 1 1 [.slice lo3 l3 lc3] rfl rfl (cell_newL _ _ _) (oneL _ rfl) (by unfold maxLen; omega) (by omega) (by simp; omega) ?_)
   intro v' w4 hown' hgrow' _ hob'
   have hB3 : Below w3.heap.size w3 (w3.alloc (.cells #[.slice lo3 l3 lc3] 57)) := (Below.refl _ _).alloc (Nat.le_refl _) _
   have S : LySt w w4 g ao n cap cs v' 2 := ⟨LyRow.more (ownG_step ho3 hB3) (fun s h => by
     obtain ⟨l, L, h1, h2⟩ := hs3 s h
     exact ⟨l, L, h1, ownG_step h2 hB3⟩) h12' (ownG_step (ownG_mono O3 (by omega)) hB3) hgrow' hown', rdr_grown (R3.alloc _) hgrow' (fun k hk => by have := (ho3.lt k hk).1; omega), kept_grown (KK.alloc _) hgrow' (fun k hk => (ho3.lt k hk).1)⟩
   clear ho3 hs3 O3 R3 KK hown' hgrow' hob' hB3
   have HS : Hid _ := S
   clear S
   go_wp2
   go_ret
   exact ⟨_, 2, rfl, by omega, HS.out⟩
 · go_wp2_with fail
   refine (near_p1214 g ao n cap cs _ S.2.1).mono ?_
   rintro e w7 ⟨_, rfl, ⟨x, rfl, x0, x1⟩, R1, K1⟩
   replace S := S.kept hg R1 K1
   clear R1 K1
   obtain ⟨⟨ss, ho, hs⟩, R7, K7⟩ := S
   have hk7 := K7.size
   have P3 : SpRow (w7.alloc (.cells #[.int .i64 x, .int .i64 0, .int .i64 (x + 2), .int .i64 0, .int .i64 x, .int .i64 3] 51)) w.heap.size (.slice (some ⟨w7.heap.size, 0, none⟩) 3 3) 3 [x, 0, x + 2, 0, x, 3] := SpRow.newRow [x, 0, x + 2, 0, x, 3] 3 hk7 (by omega) rfl
   have HB7 : Below w7.heap.size w7 (w7.alloc (.cells #[.int .i64 x, .int .i64 0, .int .i64 (x + 2), .int .i64 0, .int .i64 x, .int .i64 3] 51)) := (Below.refl _ _).alloc (Nat.le_refl _) _
   have ho7 := ownG_step ho HB7
   have hs7 : ∀ s ∈ ss, ∃ l L, l ≤ 12 ∧ SpRow (w7.alloc (.cells #[.int .i64 x, .int .i64 0, .int .i64 (x + 2), .int .i64 0, .int .i64 x, .int .i64 3] 51)) w.heap.size s l L := fun s h => by
     obtain ⟨l, L, h1, h2⟩ := hs s h
     exact ⟨l, L, h1, ownG_step h2 HB7⟩
   have R8 := R7.alloc (.cells #[.int .i64 x, .int .i64 0, .int .i64 (x + 2), .int .i64 0, .int .i64 x, .int .i64 3] 51)
   have K8 := K7.alloc (.cells #[.int .i64 x, .int .i64 0, .int .i64 (x + 2), .int .i64 0, .int .i64 x, .int .i64 3] 51)
   have HB8 : Below (w7.alloc (.cells #[.int .i64 x, .int .i64 0, .int .i64 (x + 2), .int .i64 0, .int .i64 x, .int .i64 3] 51)).heap.size (w7.alloc (.cells #[.int .i64 x, .int .i64 0, .int .i64 (x + 2), .int .i64 0, .int .i64 x, .int .i64 3] 51)) ((w7.alloc (.cells #[.int .i64 x, .int .i64 0, .int .i64 (x + 2), .int .i64 0, .int .i64 x, .int .i64 3] 51)).alloc (.cells #[.slice (some ⟨w7.heap.size, 0, none⟩) 3 3] 57)) := (Below.refl _ _).alloc (Nat.le_refl _) _
   have hc8 := cell_newL (w7.alloc (.cells #[.int .i64 x, .int .i64 0, .int .i64 (x + 2), .int .i64 0, .int .i64 x, .int .i64 3] 51)) (.slice (some ⟨w7.heap.size, 0, none⟩) 3 3) 57
   rw [World.size_alloc] at hc8
   have hsz8 : ((w7.alloc (.cells #[.int .i64 x, .int .i64 0, .int .i64 (x + 2), .int .i64 0, .int .i64 x, .int .i64 3] 51)).alloc (.cells #[.slice (some ⟨w7.heap.size, 0, none⟩) 3 3] 57)).heap.size = w7.heap.size + 1 + 1 := by simp
   clear ho hs R7 K7 HB7
   go_wp2_with (at_builtin; refine wpList_append_own_at _ rfl _ _ 26 rfl w.heap.size 57 i0 (.agg #[.slice none 0 0]) 1 24 Tryz.underlying26 hi0 hz0 hz1 hz2 rfl (by decide) _ _ _ rfl (ownG_step ho7 HB8) ⟨w7.heap.size + 1, 0, none⟩ 1 1 [.slice (some ⟨w7.heap.size, 0, none⟩) 3 3] rfl rfl hc8 (oneL _ rfl) (by unfold maxLen; omega) (by omega) (by rw [hsz8]; omega) ?_)
   intro v' w9 hown' hgrow' _ hob'
   have S : LySt w w9 g ao n cap cs v' 2 := ⟨LyRow.more (ownG_step ho7 HB8) (fun s h => by
     obtain ⟨l, L, h1, h2⟩ := hs7 s h
     exact ⟨l, L, h1, ownG_step h2 HB8⟩) (by omega) (ownG_step P3 HB8) hgrow' hown', rdr_grown (R8.alloc _) hgrow' (fun k hk => by have := (ho7.lt k hk).1; omega), kept_grown (K8.alloc _) hgrow' (fun k hk => (ho7.lt k hk).1)⟩
   clear ho7 hs7 P3 R8 K8 hown' hgrow' hob' HB8 hc8 hsz8
   have HS : Hid _ := S
   clear S
   go_wp2
   go_ret
   exact ⟨_, 2, rfl, by omega, HS.out⟩
 · have e0 : (z == 0) = false := by simp; omega
   have e1 : (z == 1) = false := by simp; omega
   have e2 : (z == 2) = false := by simp; omega
   have e3 : (z == 3) = false := by simp; omega
   have e4 : (z == 4) = false := by simp; omega
   have HS : Hid _ := S
   clear S
   go_wp2
   go_ret
   exact ⟨_, 1, rfl, by omega, HS.out⟩
def VsgX (_GA _GB GR k c cap : Nat) (C a b d e d2 e2 x2 y2 : Int) (_B : Nat) : Nat → Value → World → Prop
 | 0, v, _ => v = .slice (some ⟨GR, 0, none⟩) c cap
 | 1, v, _ => v = .int .i64 C
 | 2, v, _ => v = .int .i64 (k : Nat)
 | 3, v, _ => v = .pointer (some ⟨GR, k * 4, none⟩)
 | 4, v, _ => v = .pointer (some ⟨GR, k * 4, none⟩)
 | 5, v, _ => v = .agg #[.int .i64 a, .int .i64 b]
 | 6, v, _ => v = .slice (some ⟨GR, 0, none⟩) c cap
 | 7, v, _ => v = .int .i64 C
 | 8, v, _ => v = .int .i64 (k : Nat)
 | 9, v, _ => v = .pointer (some ⟨GR, k * 4, none⟩)
 | 10, v, _ => v = .pointer (some ⟨GR, k * 4 + 2, none⟩)
 | 11, v, _ => v = .pointer (some ⟨GR, k * 4 + 2, none⟩)
 | 12, v, _ => v = .int .i64 d
 | 13, v, _ => v = .int .i64 d2
 | 14, v, _ => v = .slice (some ⟨GR, 0, none⟩) c cap
 | 15, v, _ => v = .int .i64 C
 | 16, v, _ => v = .int .i64 (k : Nat)
 | 17, v, _ => v = .pointer (some ⟨GR, k * 4, none⟩)
 | 18, v, _ => v = .pointer (some ⟨GR, k * 4, none⟩)
 | 19, v, _ => v = .pointer (some ⟨GR, k * 4, none⟩)
 | 20, v, _ => v = .int .i64 a
 | 21, v, _ => v = .int .i64 x2
 | 22, v, _ => v = .slice (some ⟨GR, 0, none⟩) c cap
 | 23, v, _ => v = .int .i64 C
 | 24, v, _ => v = .int .i64 (k : Nat)
 | 25, v, _ => v = .pointer (some ⟨GR, k * 4, none⟩)
 | 26, v, _ => v = .pointer (some ⟨GR, k * 4 + 2, none⟩)
 | 27, v, _ => v = .pointer (some ⟨GR, k * 4 + 2 + 1, none⟩)
 | 28, v, _ => v = .int .i64 e
 | 29, v, _ => v = .int .i64 e2
 | 30, v, _ => v = .slice (some ⟨GR, 0, none⟩) c cap
 | 31, v, _ => v = .int .i64 C
 | 32, v, _ => v = .int .i64 (k : Nat)
 | 33, v, _ => v = .pointer (some ⟨GR, k * 4, none⟩)
 | 34, v, _ => v = .pointer (some ⟨GR, k * 4, none⟩)
 | 35, v, _ => v = .pointer (some ⟨GR, k * 4 + 1, none⟩)
 | 36, v, _ => v = .int .i64 b
 | 37, v, _ => v = .int .i64 y2
 | 38, v, _ => v = .agg #[.int .i64 x2, .int .i64 y2]
 | _, _, _ => True
theorem VsgX.same {GA GB GR k c cap : Nat} {C a b d e d2 e2 x2 y2 : Int} {B j : Nat} {v : Value} {W W2 : World} (h : VsgX GA GB GR k c cap C a b d e d2 e2 x2 y2 B j v W) : VsgX GA GB GR k c cap C a b d e d2 e2 x2 y2 B j v W2 := by
 unfold VsgX at *
 split <;> simp only at h <;> first | exact h | trivial
def SsgX (GA GB _GR _k _c _cap : Nat) (_C _a _b _d _e _d2 _e2 _x2 _y2 : Int) (W : World) : Prop := (∃ p q : Int, I64 p ∧ I64 q ∧ Blk W GA [.int .i64 p, .int .i64 q]) ∧ ∃ p q : Int, I64 p ∧ I64 q ∧ Blk W GB [.int .i64 p, .int .i64 q]
def JsgX (GA GB GR k c cap : Nat) (C a b d e d2 e2 x2 y2 : Int) (w0 : World) (a0 : Act) (lz : Array Bool) (az : Act) (W : World) : Prop := InvQ (GA) [some 44, some 45, some 46, some 47, some 48, some 49, some 50, some 51, some 52, some 53, some 54, some 55, some 56, some 57, some 58, some 59, some 60, some 61, some 62, some 63, some 64, some 65, some 66, some 67, some 68, some 69, some 70, some 71, some 72, some 73, some 74, some 75, some 76, some 77, some 78, some 79, some 80, some 81, some 82, none, none] (VsgX GA GB GR k c cap C a b d e d2 e2 x2 y2 (GA)) w0 a0 lz az W ∧ SsgX GA GB GR k c cap C a b d e d2 e2 x2 y2 W
set_option maxRecDepth 100000 in
set_option maxHeartbeats 4000000 in
theorem sgX {Q : Exit → Act → World → Prop} {GA GB GR k c cap : Nat} {C a b d e d2 e2 x2 y2 : Int}  {w0 : World} {a0 : Act} {idq : Nat} {t0 t1 t2 t3 t4 t5 t6 t7 t8 t9 t10 t11 t12 t13 t14 t15 t16 t17 t18 t19 t20 t21 t22 t23 t24 t25 t26 t27 t28 t29 t30 t31 t32 t33 t34 t35 t36 t37 t38 t39 t40 : TypeId} {q0 q1 q2 q3 q4 q5 q6 q7 q8 q9 q10 q11 q12 q13 q14 q15 q16 q17 q18 q19 q20 q21 q22 q23 q24 q25 q26 q27 q28 q29 q30 q31 q32 q33 q34 q35 q36 q37 q38 q39 q40 : String}
   (hab : GA < GB) (wC : IntKind.i64.wrap (C - 1) = (k : Int)) (kc : (k : Int) < (c : Int)) (w1 : IntKind.i64.wrap (2 * d) = d2) (w2 : IntKind.i64.wrap (2 * e) = e2) (w3 : IntKind.i64.wrap (d2 - a) = x2) (w4 : IntKind.i64.wrap (e2 - b) = y2) (ia : I64 a) (ib : I64 b) (ix : I64 x2) (iy : I64 y2) (h5 : a0.tmps[5]? = some (.slice (some ⟨GR, 0, none⟩) c cap)) (h7 : a0.tmps[7]? = some (.int .i64 C)) (h8 : a0.tmps[8]? = some (.pointer (some ⟨GA, 0, none⟩))) (h9 : a0.tmps[9]? = some (.pointer (some ⟨GB, 0, none⟩))) (k0 : w0.cell? ⟨GR, k * 4, none⟩ = some (.int .i64 a)) (l0 : (⟨GR, k * 4, none⟩ : Addr).block < GA) (k1 : w0.cell? ⟨GR, k * 4 + 1, none⟩ = some (.int .i64 b)) (l1 : (⟨GR, k * 4 + 1, none⟩ : Addr).block < GA) (k2 : w0.cell? ⟨GR, k * 4 + 2, none⟩ = some (.int .i64 d)) (l2 : (⟨GR, k * 4 + 2, none⟩ : Addr).block < GA) (k3 : w0.cell? ⟨GR, k * 4 + 2 + 1, none⟩ = some (.int .i64 e)) (l3 : (⟨GR, k * 4 + 2 + 1, none⟩ : Addr).block < GA) (hz : a0.tmps.size = 114) (hs0 : SsgX GA GB GR k c cap C a b d e d2 e2 x2 y2 w0.drew)
   (hQ : ∀ aq W, aq.tmps.size = a0.tmps.size → aq.defers = a0.defers → (∀ e, e ∉ ([44, 45, 46, 47, 48, 49, 50, 51, 52, 53, 54, 55, 56, 57, 58, 59, 60, 61, 62, 63, 64, 65, 66, 67, 68, 69, 70, 71, 72, 73, 74, 75, 76, 77, 78, 79, 80, 81, 82] : List Nat) → aq.tmps[e]? = a0.tmps[e]?) → Below (GA) w0 W → SsgX GA GB GR k c cap C a b d e d2 e2 x2 y2 W → Q .normal aq W) :
   (Code.region idq #[{ dst := some 44, op := Op.move (Operand.tmp 5), type := t0, pos := q0, after := #[], guard := none },
   { dst := some 45, op := Op.move (Operand.tmp 7), type := t1, pos := q1, after := #[], guard := none },
   { dst := some 46, op := Op.binOp BinOp.sub 3 (Operand.tmp 45) (Operand.const (Value.int IntKind.i64 1)) 3, type := t2, pos := q2, after := #[{ on := 1, ground := Ground.data }], guard := none },
   { dst := some 47, op := Op.indexAddr 24 (Operand.tmp 44) (Operand.tmp 46), type := t3, pos := q3, after := #[{ on := 0, ground := Ground.data }, { on := 2, ground := Ground.data }], guard := none },
   { dst := some 48, op := Op.fieldAddr 53 (Operand.tmp 47) 0, type := t4, pos := q4, after := #[{ on := 3, ground := Ground.data }], guard := none },
   { dst := some 49, op := Op.load 51 (Operand.tmp 48), type := t5, pos := q5, after := #[{ on := 4, ground := Ground.data }], guard := none },
   { dst := some 50, op := Op.move (Operand.tmp 5), type := t6, pos := q6, after := #[{ on := 39, ground := Ground.gcOnly Departure.lateStores }], guard := none },
   { dst := some 51, op := Op.move (Operand.tmp 7), type := t7, pos := q7, after := #[{ on := 39, ground := Ground.gcOnly Departure.lateStores }], guard := none },
   { dst := some 52, op := Op.binOp BinOp.sub 3 (Operand.tmp 51) (Operand.const (Value.int IntKind.i64 1)) 3, type := t8, pos := q8, after := #[{ on := 7, ground := Ground.data }, { on := 39, ground := Ground.gcOnly Departure.lateStores }], guard := none },
   { dst := some 53, op := Op.indexAddr 24 (Operand.tmp 50) (Operand.tmp 52), type := t9, pos := q9, after := #[{ on := 6, ground := Ground.data }, { on := 8, ground := Ground.data }, { on := 39, ground := Ground.gcOnly Departure.lateStores }], guard := none },
   { dst := some 54, op := Op.fieldAddr 53 (Operand.tmp 53) 1, type := t10, pos := q10, after := #[{ on := 9, ground := Ground.data }, { on := 39, ground := Ground.gcOnly Departure.lateStores }], guard := none },
   { dst := some 55, op := Op.fieldAddr 51 (Operand.tmp 54) 0, type := t11, pos := q11, after := #[{ on := 10, ground := Ground.data }, { on := 39, ground := Ground.gcOnly Departure.lateStores }], guard := none },
   { dst := some 56, op := Op.load 2 (Operand.tmp 55), type := t12, pos := q12, after := #[{ on := 11, ground := Ground.data }, { on := 39, ground := Ground.gcOnly Departure.lateStores }], guard := none },
   { dst := some 57, op := Op.binOp BinOp.mul 2 (Operand.const (Value.int IntKind.i64 2)) (Operand.tmp 56) 2, type := t13, pos := q13, after := #[{ on := 12, ground := Ground.data }, { on := 39, ground := Ground.gcOnly Departure.lateStores }], guard := none },
   { dst := some 58, op := Op.move (Operand.tmp 5), type := t14, pos := q14, after := #[{ on := 39, ground := Ground.gcOnly Departure.lateStores }], guard := none },
   { dst := some 59, op := Op.move (Operand.tmp 7), type := t15, pos := q15, after := #[{ on := 39, ground := Ground.gcOnly Departure.lateStores }], guard := none },
   { dst := some 60, op := Op.binOp BinOp.sub 3 (Operand.tmp 59) (Operand.const (Value.int IntKind.i64 1)) 3, type := t16, pos := q16, after := #[{ on := 15, ground := Ground.data }, { on := 39, ground := Ground.gcOnly Departure.lateStores }], guard := none },
   { dst := some 61, op := Op.indexAddr 24 (Operand.tmp 58) (Operand.tmp 60), type := t17, pos := q17, after := #[{ on := 14, ground := Ground.data }, { on := 16, ground := Ground.data }, { on := 39, ground := Ground.gcOnly Departure.lateStores }], guard := none },
   { dst := some 62, op := Op.fieldAddr 53 (Operand.tmp 61) 0, type := t18, pos := q18, after := #[{ on := 17, ground := Ground.data }, { on := 39, ground := Ground.gcOnly Departure.lateStores }], guard := none },
   { dst := some 63, op := Op.fieldAddr 51 (Operand.tmp 62) 0, type := t19, pos := q19, after := #[{ on := 18, ground := Ground.data }, { on := 39, ground := Ground.gcOnly Departure.lateStores }], guard := none },
   { dst := some 64, op := Op.load 2 (Operand.tmp 63), type := t20, pos := q20, after := #[{ on := 19, ground := Ground.data }, { on := 39, ground := Ground.gcOnly Departure.lateStores }], guard := none },
   { dst := some 65, op := Op.binOp BinOp.sub 2 (Operand.tmp 57) (Operand.tmp 64) 2, type := t21, pos := q21, after := #[{ on := 13, ground := Ground.data }, { on := 20, ground := Ground.data }, { on := 39, ground := Ground.gcOnly Departure.lateStores }], guard := none },
   { dst := some 66, op := Op.move (Operand.tmp 5), type := t22, pos := q22, after := #[{ on := 39, ground := Ground.gcOnly Departure.lateStores }], guard := none },
   { dst := some 67, op := Op.move (Operand.tmp 7), type := t23, pos := q23, after := #[{ on := 39, ground := Ground.gcOnly Departure.lateStores }], guard := none },
   { dst := some 68, op := Op.binOp BinOp.sub 3 (Operand.tmp 67) (Operand.const (Value.int IntKind.i64 1)) 3, type := t24, pos := q24, after := #[{ on := 23, ground := Ground.data }, { on := 39, ground := Ground.gcOnly Departure.lateStores }], guard := none },
   { dst := some 69, op := Op.indexAddr 24 (Operand.tmp 66) (Operand.tmp 68), type := t25, pos := q25, after := #[{ on := 22, ground := Ground.data }, { on := 24, ground := Ground.data }, { on := 39, ground := Ground.gcOnly Departure.lateStores }], guard := none },
   { dst := some 70, op := Op.fieldAddr 53 (Operand.tmp 69) 1, type := t26, pos := q26, after := #[{ on := 25, ground := Ground.data }, { on := 39, ground := Ground.gcOnly Departure.lateStores }], guard := none },
   { dst := some 71, op := Op.fieldAddr 51 (Operand.tmp 70) 1, type := t27, pos := q27, after := #[{ on := 26, ground := Ground.data }, { on := 39, ground := Ground.gcOnly Departure.lateStores }], guard := none },
   { dst := some 72, op := Op.load 2 (Operand.tmp 71), type := t28, pos := q28, after := #[{ on := 27, ground := Ground.data }, { on := 39, ground := Ground.gcOnly Departure.lateStores }], guard := none },
   { dst := some 73, op := Op.binOp BinOp.mul 2 (Operand.const (Value.int IntKind.i64 2)) (Operand.tmp 72) 2, type := t29, pos := q29, after := #[{ on := 28, ground := Ground.data }, { on := 39, ground := Ground.gcOnly Departure.lateStores }], guard := none },
   { dst := some 74, op := Op.move (Operand.tmp 5), type := t30, pos := q30, after := #[{ on := 39, ground := Ground.gcOnly Departure.lateStores }], guard := none },
   { dst := some 75, op := Op.move (Operand.tmp 7), type := t31, pos := q31, after := #[{ on := 39, ground := Ground.gcOnly Departure.lateStores }], guard := none },
   { dst := some 76, op := Op.binOp BinOp.sub 3 (Operand.tmp 75) (Operand.const (Value.int IntKind.i64 1)) 3, type := t32, pos := q32, after := #[{ on := 31, ground := Ground.data }, { on := 39, ground := Ground.gcOnly Departure.lateStores }], guard := none },
   { dst := some 77, op := Op.indexAddr 24 (Operand.tmp 74) (Operand.tmp 76), type := t33, pos := q33, after := #[{ on := 30, ground := Ground.data }, { on := 32, ground := Ground.data }, { on := 39, ground := Ground.gcOnly Departure.lateStores }], guard := none },
   { dst := some 78, op := Op.fieldAddr 53 (Operand.tmp 77) 0, type := t34, pos := q34, after := #[{ on := 33, ground := Ground.data }, { on := 39, ground := Ground.gcOnly Departure.lateStores }], guard := none },
   { dst := some 79, op := Op.fieldAddr 51 (Operand.tmp 78) 1, type := t35, pos := q35, after := #[{ on := 34, ground := Ground.data }, { on := 39, ground := Ground.gcOnly Departure.lateStores }], guard := none },
   { dst := some 80, op := Op.load 2 (Operand.tmp 79), type := t36, pos := q36, after := #[{ on := 35, ground := Ground.data }, { on := 39, ground := Ground.gcOnly Departure.lateStores }], guard := none },
   { dst := some 81, op := Op.binOp BinOp.sub 2 (Operand.tmp 73) (Operand.tmp 80) 2, type := t37, pos := q37, after := #[{ on := 29, ground := Ground.data }, { on := 36, ground := Ground.data }, { on := 39, ground := Ground.gcOnly Departure.lateStores }], guard := none },
   { dst := some 82, op := Op.build 51 #[(0, Operand.tmp 65), (1, Operand.tmp 81)], type := t38, pos := q38, after := #[{ on := 21, ground := Ground.data }, { on := 37, ground := Ground.data }, { on := 39, ground := Ground.gcOnly Departure.lateStores }], guard := none },
   { dst := none, op := Op.store 51 (Operand.tmp 8) (Operand.tmp 49), type := t39, pos := q39, after := #[{ on := 5, ground := Ground.data }, { on := 0, ground := Ground.phase }, { on := 1, ground := Ground.phase }, { on := 2, ground := Ground.phase }, { on := 3, ground := Ground.phase }, { on := 4, ground := Ground.phase }, { on := 5, ground := Ground.phase }, { on := 6, ground := Ground.textOnly Departure.lateStores }, { on := 7, ground := Ground.textOnly Departure.lateStores }, { on := 8, ground := Ground.textOnly Departure.lateStores }, { on := 9, ground := Ground.textOnly Departure.lateStores }, { on := 10, ground := Ground.textOnly Departure.lateStores }, { on := 11, ground := Ground.textOnly Departure.lateStores }, { on := 12, ground := Ground.textOnly Departure.lateStores }, { on := 13, ground := Ground.textOnly Departure.lateStores }, { on := 14, ground := Ground.textOnly Departure.lateStores }, { on := 15, ground := Ground.textOnly Departure.lateStores }, { on := 16, ground := Ground.textOnly Departure.lateStores }, { on := 17, ground := Ground.textOnly Departure.lateStores }, { on := 18, ground := Ground.textOnly Departure.lateStores }, { on := 19, ground := Ground.textOnly Departure.lateStores }, { on := 20, ground := Ground.textOnly Departure.lateStores }, { on := 21, ground := Ground.textOnly Departure.lateStores }, { on := 22, ground := Ground.textOnly Departure.lateStores }, { on := 23, ground := Ground.textOnly Departure.lateStores }, { on := 24, ground := Ground.textOnly Departure.lateStores }, { on := 25, ground := Ground.textOnly Departure.lateStores }, { on := 26, ground := Ground.textOnly Departure.lateStores }, { on := 27, ground := Ground.textOnly Departure.lateStores }, { on := 28, ground := Ground.textOnly Departure.lateStores }, { on := 29, ground := Ground.textOnly Departure.lateStores }, { on := 30, ground := Ground.textOnly Departure.lateStores }, { on := 31, ground := Ground.textOnly Departure.lateStores }, { on := 32, ground := Ground.textOnly Departure.lateStores }, { on := 33, ground := Ground.textOnly Departure.lateStores }, { on := 34, ground := Ground.textOnly Departure.lateStores }, { on := 35, ground := Ground.textOnly Departure.lateStores }, { on := 36, ground := Ground.textOnly Departure.lateStores }, { on := 37, ground := Ground.textOnly Departure.lateStores }, { on := 38, ground := Ground.textOnly Departure.lateStores }], guard := none },
   { dst := none, op := Op.store 51 (Operand.tmp 9) (Operand.tmp 82), type := t40, pos := q40, after := #[{ on := 38, ground := Ground.data }, { on := 39, ground := Ground.chain }, { on := 0, ground := Ground.phase }, { on := 1, ground := Ground.phase }, { on := 2, ground := Ground.phase }, { on := 3, ground := Ground.phase }, { on := 4, ground := Ground.phase }, { on := 5, ground := Ground.phase }, { on := 6, ground := Ground.phase }, { on := 7, ground := Ground.phase }, { on := 8, ground := Ground.phase }, { on := 9, ground := Ground.phase }, { on := 10, ground := Ground.phase }, { on := 11, ground := Ground.phase }, { on := 12, ground := Ground.phase }, { on := 13, ground := Ground.phase }, { on := 14, ground := Ground.phase }, { on := 15, ground := Ground.phase }, { on := 16, ground := Ground.phase }, { on := 17, ground := Ground.phase }, { on := 18, ground := Ground.phase }, { on := 19, ground := Ground.phase }, { on := 20, ground := Ground.phase }, { on := 21, ground := Ground.phase }, { on := 22, ground := Ground.phase }, { on := 23, ground := Ground.phase }, { on := 24, ground := Ground.phase }, { on := 25, ground := Ground.phase }, { on := 26, ground := Ground.phase }, { on := 27, ground := Ground.phase }, { on := 28, ground := Ground.phase }, { on := 29, ground := Ground.phase }, { on := 30, ground := Ground.phase }, { on := 31, ground := Ground.phase }, { on := 32, ground := Ground.phase }, { on := 33, ground := Ground.phase }, { on := 34, ground := Ground.phase }, { on := 35, ground := Ground.phase }, { on := 36, ground := Ground.phase }, { on := 37, ground := Ground.phase }, { on := 38, ground := Ground.phase }, { on := 39, ground := Ground.phase }], guard := none }] true).wp Tryz.prog Q a0 w0 := by
 have hS : distS [some 44, some 45, some 46, some 47, some 48, some 49, some 50, some 51, some 52, some 53, some 54, some 55, some 56, some 57, some 58, some 59, some 60, some 61, some 62, some 63, some 64, some 65, some 66, some 67, some 68, some 69, some 70, some 71, some 72, some 73, some 74, some 75, some 76, some 77, some 78, some 79, some 80, some 81, some 82, none, none] = true := rfl
 refine wp_region_inv (by kernel_rfl) (JsgX GA GB GR k c cap C a b d e d2 e2 x2 y2 w0 a0) ⟨⟨rfl, rfl, rfl, fun _ _ => rfl, (Below.refl _ w0).drew, fun j d hj => ?_, fun j hj => ?_⟩, hs0⟩ ?_ ?_
 · exfalso
   rw [Array.getD_eq_getD_getElem?, Array.getElem?_replicate] at hj
   split at hj <;> simp at hj
 · exfalso
   rw [Array.getD_eq_getD_getElem?, Array.getElem?_replicate] at hj
   split at hj <;> simp at hj
 · intro lq aq W iq oq ⟨hJ, hs⟩ hl ho hall
   have hJ2 := hJ
   obtain ⟨z1, z2, z3, z4, z5, z6, z7⟩ := hJ
   obtain ⟨⟨pa, qa, ipa, iqa, xa⟩, pb, qb, ir, is, xb⟩ := hs
   have ra0 := xa.c 0 rfl; have sa0 := xa.f 0 rfl; have ra1 := xa.c 1 rfl; have sa1 := xa.f 1 rfl; have rla := xa.lt
   have rb0 := xb.c 0 rfl; have sb0 := xb.f 0 rfl; have rb1 := xb.c 1 rfl; have sb1 := xb.f 1 rfl; have rlb := xb.lt
   have hs : SsgX GA GB GR k c cap C a b d e d2 e2 x2 y2 W := ⟨⟨pa, qa, ipa, iqa, xa⟩, pb, qb, ir, is, xb⟩
   have g5 : aq.tmps.getD 5 undef = .slice (some ⟨GR, 0, none⟩) c cap := by rw [Array.getD_eq_getD_getElem?, z4 5 (by decide), h5]; rfl
   have g7 : aq.tmps.getD 7 undef = .int .i64 C := by rw [Array.getD_eq_getD_getElem?, z4 7 (by decide), h7]; rfl
   have g8 : aq.tmps.getD 8 undef = .pointer (some ⟨GA, 0, none⟩) := by rw [Array.getD_eq_getD_getElem?, z4 8 (by decide), h8]; rfl
   have g9 : aq.tmps.getD 9 undef = .pointer (some ⟨GB, 0, none⟩) := by rw [Array.getD_eq_getD_getElem?, z4 9 (by decide), h9]; rfl
   have c0 : W.cell? ⟨GR, k * 4, none⟩ = some (.int .i64 a) := (z5.cell l0).trans k0
   have c1 : W.cell? ⟨GR, k * 4 + 1, none⟩ = some (.int .i64 b) := (z5.cell l1).trans k1
   have c2 : W.cell? ⟨GR, k * 4 + 2, none⟩ = some (.int .i64 d) := (z5.cell l2).trans k2
   have c3 : W.cell? ⟨GR, k * 4 + 2 + 1, none⟩ = some (.int .i64 e) := (z5.cell l3).trans k3
   match iq, ho with
   | 0, ho =>
     cases ho
     refine wpOp_of rfl rfl ?_
     have hK := fun (v : Value) (W2 : World) hW hT hv (hs : SsgX GA GB GR k c cap C a b d e d2 e2 x2 y2 W2) => show (JsgX GA GB GR k c cap C a b d e d2 e2 x2 y2 w0 a0) (lq.setIfInBounds 0 true) (aq.put (some 44) v) W2 from ⟨hJ2.put hS 0 44 rfl (by omega) (W' := W2) hW hT v hv, hs⟩
     clear ho hall hl hQ
     generalize (JsgX GA GB GR k c cap C a b d e d2 e2 x2 y2 w0 a0) (lq.setIfInBounds 0 true) = K at hK ⊢
     clear hJ2 hS z1 z2 z3 z4 z6 z7
     go_simp
     exact hK _ _ z5 (fun _ _ h => h) rfl hs
   | 1, ho =>
     cases ho
     refine wpOp_of rfl rfl ?_
     have hK := fun (v : Value) (W2 : World) hW hT hv (hs : SsgX GA GB GR k c cap C a b d e d2 e2 x2 y2 W2) => show (JsgX GA GB GR k c cap C a b d e d2 e2 x2 y2 w0 a0) (lq.setIfInBounds 1 true) (aq.put (some 45) v) W2 from ⟨hJ2.put hS 1 45 rfl (by omega) (W' := W2) hW hT v hv, hs⟩
     clear ho hall hl hQ
     generalize (JsgX GA GB GR k c cap C a b d e d2 e2 x2 y2 w0 a0) (lq.setIfInBounds 1 true) = K at hK ⊢
     clear hJ2 hS z1 z2 z3 z4 z6 z7
     go_simp
     exact hK _ _ z5 (fun _ _ h => h) rfl hs
   | 2, ho =>
     cases ho
     refine wpOp_of rfl rfl ?_
     have f1 : (aq.tmps.getD 45 undef) = .int .i64 C := z6 1 45 (hall { on := 1, ground := Ground.data } (by simp) rfl) rfl
     have hK := fun (v : Value) (W2 : World) hW hT hv (hs : SsgX GA GB GR k c cap C a b d e d2 e2 x2 y2 W2) => show (JsgX GA GB GR k c cap C a b d e d2 e2 x2 y2 w0 a0) (lq.setIfInBounds 2 true) (aq.put (some 46) v) W2 from ⟨hJ2.put hS 2 46 rfl (by omega) (W' := W2) hW hT v hv, hs⟩
     clear ho hall hl hQ
     generalize (JsgX GA GB GR k c cap C a b d e d2 e2 x2 y2 w0 a0) (lq.setIfInBounds 2 true) = K at hK ⊢
     clear hJ2 hS z1 z2 z3 z4 z6 z7
     go_simp
     exact hK _ _ z5 (fun _ _ h => h) rfl hs
   | 3, ho =>
     cases ho
     refine wpOp_of rfl rfl ?_
     have f0 : (aq.tmps.getD 44 undef) = .slice (some ⟨GR, 0, none⟩) c cap := z6 0 44 (hall { on := 0, ground := Ground.data } (by simp) rfl) rfl
     have f2 : (aq.tmps.getD 46 undef) = .int .i64 (k : Nat) := z6 2 46 (hall { on := 2, ground := Ground.data } (by simp) rfl) rfl
     have hK := fun (v : Value) (W2 : World) hW hT hv (hs : SsgX GA GB GR k c cap C a b d e d2 e2 x2 y2 W2) => show (JsgX GA GB GR k c cap C a b d e d2 e2 x2 y2 w0 a0) (lq.setIfInBounds 3 true) (aq.put (some 47) v) W2 from ⟨hJ2.put hS 3 47 rfl (by omega) (W' := W2) hW hT v hv, hs⟩
     clear ho hall hl hQ
     generalize (JsgX GA GB GR k c cap C a b d e d2 e2 x2 y2 w0 a0) (lq.setIfInBounds 3 true) = K at hK ⊢
     clear hJ2 hS z1 z2 z3 z4 z6 z7
     go_simp
     exact hK _ _ z5 (fun _ _ h => h) rfl hs
   | 4, ho =>
     cases ho
     refine wpOp_of rfl rfl ?_
     have f3 : (aq.tmps.getD 47 undef) = .pointer (some ⟨GR, k * 4, none⟩) := z6 3 47 (hall { on := 3, ground := Ground.data } (by simp) rfl) rfl
     have hK := fun (v : Value) (W2 : World) hW hT hv (hs : SsgX GA GB GR k c cap C a b d e d2 e2 x2 y2 W2) => show (JsgX GA GB GR k c cap C a b d e d2 e2 x2 y2 w0 a0) (lq.setIfInBounds 4 true) (aq.put (some 48) v) W2 from ⟨hJ2.put hS 4 48 rfl (by omega) (W' := W2) hW hT v hv, hs⟩
     clear ho hall hl hQ
     generalize (JsgX GA GB GR k c cap C a b d e d2 e2 x2 y2 w0 a0) (lq.setIfInBounds 4 true) = K at hK ⊢
     clear hJ2 hS z1 z2 z3 z4 z6 z7
     go_simp
     exact hK _ _ z5 (fun _ _ h => h) rfl hs
   | 5, ho =>
     cases ho
     refine wpOp_of rfl rfl ?_
     have f4 : (aq.tmps.getD 48 undef) = .pointer (some ⟨GR, k * 4, none⟩) := z6 4 48 (hall { on := 4, ground := Ground.data } (by simp) rfl) rfl
     have hK := fun (v : Value) (W2 : World) hW hT hv (hs : SsgX GA GB GR k c cap C a b d e d2 e2 x2 y2 W2) => show (JsgX GA GB GR k c cap C a b d e d2 e2 x2 y2 w0 a0) (lq.setIfInBounds 5 true) (aq.put (some 49) v) W2 from ⟨hJ2.put hS 5 49 rfl (by omega) (W' := W2) hW hT v hv, hs⟩
     clear ho hall hl hQ
     generalize (JsgX GA GB GR k c cap C a b d e d2 e2 x2 y2 w0 a0) (lq.setIfInBounds 5 true) = K at hK ⊢
     clear hJ2 hS z1 z2 z3 z4 z6 z7
     go_simp
     exact hK _ _ z5 (fun _ _ h => h) rfl hs
   | 6, ho =>
     cases ho
     refine wpOp_of rfl rfl ?_
     have hK := fun (v : Value) (W2 : World) hW hT hv (hs : SsgX GA GB GR k c cap C a b d e d2 e2 x2 y2 W2) => show (JsgX GA GB GR k c cap C a b d e d2 e2 x2 y2 w0 a0) (lq.setIfInBounds 6 true) (aq.put (some 50) v) W2 from ⟨hJ2.put hS 6 50 rfl (by omega) (W' := W2) hW hT v hv, hs⟩
     clear ho hall hl hQ
     generalize (JsgX GA GB GR k c cap C a b d e d2 e2 x2 y2 w0 a0) (lq.setIfInBounds 6 true) = K at hK ⊢
     clear hJ2 hS z1 z2 z3 z4 z6 z7
     go_simp
     exact hK _ _ z5 (fun _ _ h => h) rfl hs
   | 7, ho =>
     cases ho
     refine wpOp_of rfl rfl ?_
     have hK := fun (v : Value) (W2 : World) hW hT hv (hs : SsgX GA GB GR k c cap C a b d e d2 e2 x2 y2 W2) => show (JsgX GA GB GR k c cap C a b d e d2 e2 x2 y2 w0 a0) (lq.setIfInBounds 7 true) (aq.put (some 51) v) W2 from ⟨hJ2.put hS 7 51 rfl (by omega) (W' := W2) hW hT v hv, hs⟩
     clear ho hall hl hQ
     generalize (JsgX GA GB GR k c cap C a b d e d2 e2 x2 y2 w0 a0) (lq.setIfInBounds 7 true) = K at hK ⊢
     clear hJ2 hS z1 z2 z3 z4 z6 z7
     go_simp
     exact hK _ _ z5 (fun _ _ h => h) rfl hs
   | 8, ho =>
     cases ho
     refine wpOp_of rfl rfl ?_
     have f7 : (aq.tmps.getD 51 undef) = .int .i64 C := z6 7 51 (hall { on := 7, ground := Ground.data } (by simp) rfl) rfl
     have hK := fun (v : Value) (W2 : World) hW hT hv (hs : SsgX GA GB GR k c cap C a b d e d2 e2 x2 y2 W2) => show (JsgX GA GB GR k c cap C a b d e d2 e2 x2 y2 w0 a0) (lq.setIfInBounds 8 true) (aq.put (some 52) v) W2 from ⟨hJ2.put hS 8 52 rfl (by omega) (W' := W2) hW hT v hv, hs⟩
     clear ho hall hl hQ
     generalize (JsgX GA GB GR k c cap C a b d e d2 e2 x2 y2 w0 a0) (lq.setIfInBounds 8 true) = K at hK ⊢
     clear hJ2 hS z1 z2 z3 z4 z6 z7
     go_simp
     exact hK _ _ z5 (fun _ _ h => h) rfl hs
   | 9, ho =>
     cases ho
     refine wpOp_of rfl rfl ?_
     have f6 : (aq.tmps.getD 50 undef) = .slice (some ⟨GR, 0, none⟩) c cap := z6 6 50 (hall { on := 6, ground := Ground.data } (by simp) rfl) rfl
     have f8 : (aq.tmps.getD 52 undef) = .int .i64 (k : Nat) := z6 8 52 (hall { on := 8, ground := Ground.data } (by simp) rfl) rfl
     have hK := fun (v : Value) (W2 : World) hW hT hv (hs : SsgX GA GB GR k c cap C a b d e d2 e2 x2 y2 W2) => show (JsgX GA GB GR k c cap C a b d e d2 e2 x2 y2 w0 a0) (lq.setIfInBounds 9 true) (aq.put (some 53) v) W2 from ⟨hJ2.put hS 9 53 rfl (by omega) (W' := W2) hW hT v hv, hs⟩
     clear ho hall hl hQ
     generalize (JsgX GA GB GR k c cap C a b d e d2 e2 x2 y2 w0 a0) (lq.setIfInBounds 9 true) = K at hK ⊢
     clear hJ2 hS z1 z2 z3 z4 z6 z7
     go_simp
     exact hK _ _ z5 (fun _ _ h => h) rfl hs
   | 10, ho =>
     cases ho
     refine wpOp_of rfl rfl ?_
     have f9 : (aq.tmps.getD 53 undef) = .pointer (some ⟨GR, k * 4, none⟩) := z6 9 53 (hall { on := 9, ground := Ground.data } (by simp) rfl) rfl
     have hK := fun (v : Value) (W2 : World) hW hT hv (hs : SsgX GA GB GR k c cap C a b d e d2 e2 x2 y2 W2) => show (JsgX GA GB GR k c cap C a b d e d2 e2 x2 y2 w0 a0) (lq.setIfInBounds 10 true) (aq.put (some 54) v) W2 from ⟨hJ2.put hS 10 54 rfl (by omega) (W' := W2) hW hT v hv, hs⟩
     clear ho hall hl hQ
     generalize (JsgX GA GB GR k c cap C a b d e d2 e2 x2 y2 w0 a0) (lq.setIfInBounds 10 true) = K at hK ⊢
     clear hJ2 hS z1 z2 z3 z4 z6 z7
     go_simp
     exact hK _ _ z5 (fun _ _ h => h) rfl hs
   | 11, ho =>
     cases ho
     refine wpOp_of rfl rfl ?_
     have f10 : (aq.tmps.getD 54 undef) = .pointer (some ⟨GR, k * 4 + 2, none⟩) := z6 10 54 (hall { on := 10, ground := Ground.data } (by simp) rfl) rfl
     have hK := fun (v : Value) (W2 : World) hW hT hv (hs : SsgX GA GB GR k c cap C a b d e d2 e2 x2 y2 W2) => show (JsgX GA GB GR k c cap C a b d e d2 e2 x2 y2 w0 a0) (lq.setIfInBounds 11 true) (aq.put (some 55) v) W2 from ⟨hJ2.put hS 11 55 rfl (by omega) (W' := W2) hW hT v hv, hs⟩
     clear ho hall hl hQ
     generalize (JsgX GA GB GR k c cap C a b d e d2 e2 x2 y2 w0 a0) (lq.setIfInBounds 11 true) = K at hK ⊢
     clear hJ2 hS z1 z2 z3 z4 z6 z7
     go_simp
     exact hK _ _ z5 (fun _ _ h => h) rfl hs
   | 12, ho =>
     cases ho
     refine wpOp_of rfl rfl ?_
     have f11 : (aq.tmps.getD 55 undef) = .pointer (some ⟨GR, k * 4 + 2, none⟩) := z6 11 55 (hall { on := 11, ground := Ground.data } (by simp) rfl) rfl
     have hK := fun (v : Value) (W2 : World) hW hT hv (hs : SsgX GA GB GR k c cap C a b d e d2 e2 x2 y2 W2) => show (JsgX GA GB GR k c cap C a b d e d2 e2 x2 y2 w0 a0) (lq.setIfInBounds 12 true) (aq.put (some 56) v) W2 from ⟨hJ2.put hS 12 56 rfl (by omega) (W' := W2) hW hT v hv, hs⟩
     clear ho hall hl hQ
     generalize (JsgX GA GB GR k c cap C a b d e d2 e2 x2 y2 w0 a0) (lq.setIfInBounds 12 true) = K at hK ⊢
     clear hJ2 hS z1 z2 z3 z4 z6 z7
     go_simp
     exact hK _ _ z5 (fun _ _ h => h) rfl hs
   | 13, ho =>
     cases ho
     refine wpOp_of rfl rfl ?_
     have f12 : (aq.tmps.getD 56 undef) = .int .i64 d := z6 12 56 (hall { on := 12, ground := Ground.data } (by simp) rfl) rfl
     have hK := fun (v : Value) (W2 : World) hW hT hv (hs : SsgX GA GB GR k c cap C a b d e d2 e2 x2 y2 W2) => show (JsgX GA GB GR k c cap C a b d e d2 e2 x2 y2 w0 a0) (lq.setIfInBounds 13 true) (aq.put (some 57) v) W2 from ⟨hJ2.put hS 13 57 rfl (by omega) (W' := W2) hW hT v hv, hs⟩
     clear ho hall hl hQ
     generalize (JsgX GA GB GR k c cap C a b d e d2 e2 x2 y2 w0 a0) (lq.setIfInBounds 13 true) = K at hK ⊢
     clear hJ2 hS z1 z2 z3 z4 z6 z7
     go_simp
     exact hK _ _ z5 (fun _ _ h => h) rfl hs
   | 14, ho =>
     cases ho
     refine wpOp_of rfl rfl ?_
     have hK := fun (v : Value) (W2 : World) hW hT hv (hs : SsgX GA GB GR k c cap C a b d e d2 e2 x2 y2 W2) => show (JsgX GA GB GR k c cap C a b d e d2 e2 x2 y2 w0 a0) (lq.setIfInBounds 14 true) (aq.put (some 58) v) W2 from ⟨hJ2.put hS 14 58 rfl (by omega) (W' := W2) hW hT v hv, hs⟩
     clear ho hall hl hQ
     generalize (JsgX GA GB GR k c cap C a b d e d2 e2 x2 y2 w0 a0) (lq.setIfInBounds 14 true) = K at hK ⊢
     clear hJ2 hS z1 z2 z3 z4 z6 z7
     go_simp
     exact hK _ _ z5 (fun _ _ h => h) rfl hs
   | 15, ho =>
     cases ho
     refine wpOp_of rfl rfl ?_
     have hK := fun (v : Value) (W2 : World) hW hT hv (hs : SsgX GA GB GR k c cap C a b d e d2 e2 x2 y2 W2) => show (JsgX GA GB GR k c cap C a b d e d2 e2 x2 y2 w0 a0) (lq.setIfInBounds 15 true) (aq.put (some 59) v) W2 from ⟨hJ2.put hS 15 59 rfl (by omega) (W' := W2) hW hT v hv, hs⟩
     clear ho hall hl hQ
     generalize (JsgX GA GB GR k c cap C a b d e d2 e2 x2 y2 w0 a0) (lq.setIfInBounds 15 true) = K at hK ⊢
     clear hJ2 hS z1 z2 z3 z4 z6 z7
     go_simp
     exact hK _ _ z5 (fun _ _ h => h) rfl hs
   | 16, ho =>
     cases ho
     refine wpOp_of rfl rfl ?_
     have f15 : (aq.tmps.getD 59 undef) = .int .i64 C := z6 15 59 (hall { on := 15, ground := Ground.data } (by simp) rfl) rfl
     have hK := fun (v : Value) (W2 : World) hW hT hv (hs : SsgX GA GB GR k c cap C a b d e d2 e2 x2 y2 W2) => show (JsgX GA GB GR k c cap C a b d e d2 e2 x2 y2 w0 a0) (lq.setIfInBounds 16 true) (aq.put (some 60) v) W2 from ⟨hJ2.put hS 16 60 rfl (by omega) (W' := W2) hW hT v hv, hs⟩
     clear ho hall hl hQ
     generalize (JsgX GA GB GR k c cap C a b d e d2 e2 x2 y2 w0 a0) (lq.setIfInBounds 16 true) = K at hK ⊢
     clear hJ2 hS z1 z2 z3 z4 z6 z7
     go_simp
     exact hK _ _ z5 (fun _ _ h => h) rfl hs
   | 17, ho =>
     cases ho
     refine wpOp_of rfl rfl ?_
     have f14 : (aq.tmps.getD 58 undef) = .slice (some ⟨GR, 0, none⟩) c cap := z6 14 58 (hall { on := 14, ground := Ground.data } (by simp) rfl) rfl
     have f16 : (aq.tmps.getD 60 undef) = .int .i64 (k : Nat) := z6 16 60 (hall { on := 16, ground := Ground.data } (by simp) rfl) rfl
     have hK := fun (v : Value) (W2 : World) hW hT hv (hs : SsgX GA GB GR k c cap C a b d e d2 e2 x2 y2 W2) => show (JsgX GA GB GR k c cap C a b d e d2 e2 x2 y2 w0 a0) (lq.setIfInBounds 17 true) (aq.put (some 61) v) W2 from ⟨hJ2.put hS 17 61 rfl (by omega) (W' := W2) hW hT v hv, hs⟩
     clear ho hall hl hQ
     generalize (JsgX GA GB GR k c cap C a b d e d2 e2 x2 y2 w0 a0) (lq.setIfInBounds 17 true) = K at hK ⊢
     clear hJ2 hS z1 z2 z3 z4 z6 z7
     go_simp
     exact hK _ _ z5 (fun _ _ h => h) rfl hs
   | 18, ho =>
     cases ho
     refine wpOp_of rfl rfl ?_
     have f17 : (aq.tmps.getD 61 undef) = .pointer (some ⟨GR, k * 4, none⟩) := z6 17 61 (hall { on := 17, ground := Ground.data } (by simp) rfl) rfl
     have hK := fun (v : Value) (W2 : World) hW hT hv (hs : SsgX GA GB GR k c cap C a b d e d2 e2 x2 y2 W2) => show (JsgX GA GB GR k c cap C a b d e d2 e2 x2 y2 w0 a0) (lq.setIfInBounds 18 true) (aq.put (some 62) v) W2 from ⟨hJ2.put hS 18 62 rfl (by omega) (W' := W2) hW hT v hv, hs⟩
     clear ho hall hl hQ
     generalize (JsgX GA GB GR k c cap C a b d e d2 e2 x2 y2 w0 a0) (lq.setIfInBounds 18 true) = K at hK ⊢
     clear hJ2 hS z1 z2 z3 z4 z6 z7
     go_simp
     exact hK _ _ z5 (fun _ _ h => h) rfl hs
   | 19, ho =>
     cases ho
     refine wpOp_of rfl rfl ?_
     have f18 : (aq.tmps.getD 62 undef) = .pointer (some ⟨GR, k * 4, none⟩) := z6 18 62 (hall { on := 18, ground := Ground.data } (by simp) rfl) rfl
     have hK := fun (v : Value) (W2 : World) hW hT hv (hs : SsgX GA GB GR k c cap C a b d e d2 e2 x2 y2 W2) => show (JsgX GA GB GR k c cap C a b d e d2 e2 x2 y2 w0 a0) (lq.setIfInBounds 19 true) (aq.put (some 63) v) W2 from ⟨hJ2.put hS 19 63 rfl (by omega) (W' := W2) hW hT v hv, hs⟩
     clear ho hall hl hQ
     generalize (JsgX GA GB GR k c cap C a b d e d2 e2 x2 y2 w0 a0) (lq.setIfInBounds 19 true) = K at hK ⊢
     clear hJ2 hS z1 z2 z3 z4 z6 z7
     go_simp
     exact hK _ _ z5 (fun _ _ h => h) rfl hs
   | 20, ho =>
     cases ho
     refine wpOp_of rfl rfl ?_
     have f19 : (aq.tmps.getD 63 undef) = .pointer (some ⟨GR, k * 4, none⟩) := z6 19 63 (hall { on := 19, ground := Ground.data } (by simp) rfl) rfl
     have hK := fun (v : Value) (W2 : World) hW hT hv (hs : SsgX GA GB GR k c cap C a b d e d2 e2 x2 y2 W2) => show (JsgX GA GB GR k c cap C a b d e d2 e2 x2 y2 w0 a0) (lq.setIfInBounds 20 true) (aq.put (some 64) v) W2 from ⟨hJ2.put hS 20 64 rfl (by omega) (W' := W2) hW hT v hv, hs⟩
     clear ho hall hl hQ
     generalize (JsgX GA GB GR k c cap C a b d e d2 e2 x2 y2 w0 a0) (lq.setIfInBounds 20 true) = K at hK ⊢
     clear hJ2 hS z1 z2 z3 z4 z6 z7
     go_simp
     exact hK _ _ z5 (fun _ _ h => h) rfl hs
   | 21, ho =>
     cases ho
     refine wpOp_of rfl rfl ?_
     have f13 : (aq.tmps.getD 57 undef) = .int .i64 d2 := z6 13 57 (hall { on := 13, ground := Ground.data } (by simp) rfl) rfl
     have f20 : (aq.tmps.getD 64 undef) = .int .i64 a := z6 20 64 (hall { on := 20, ground := Ground.data } (by simp) rfl) rfl
     have hK := fun (v : Value) (W2 : World) hW hT hv (hs : SsgX GA GB GR k c cap C a b d e d2 e2 x2 y2 W2) => show (JsgX GA GB GR k c cap C a b d e d2 e2 x2 y2 w0 a0) (lq.setIfInBounds 21 true) (aq.put (some 65) v) W2 from ⟨hJ2.put hS 21 65 rfl (by omega) (W' := W2) hW hT v hv, hs⟩
     clear ho hall hl hQ
     generalize (JsgX GA GB GR k c cap C a b d e d2 e2 x2 y2 w0 a0) (lq.setIfInBounds 21 true) = K at hK ⊢
     clear hJ2 hS z1 z2 z3 z4 z6 z7
     go_simp
     exact hK _ _ z5 (fun _ _ h => h) rfl hs
   | 22, ho =>
     cases ho
     refine wpOp_of rfl rfl ?_
     have hK := fun (v : Value) (W2 : World) hW hT hv (hs : SsgX GA GB GR k c cap C a b d e d2 e2 x2 y2 W2) => show (JsgX GA GB GR k c cap C a b d e d2 e2 x2 y2 w0 a0) (lq.setIfInBounds 22 true) (aq.put (some 66) v) W2 from ⟨hJ2.put hS 22 66 rfl (by omega) (W' := W2) hW hT v hv, hs⟩
     clear ho hall hl hQ
     generalize (JsgX GA GB GR k c cap C a b d e d2 e2 x2 y2 w0 a0) (lq.setIfInBounds 22 true) = K at hK ⊢
     clear hJ2 hS z1 z2 z3 z4 z6 z7
     go_simp
     exact hK _ _ z5 (fun _ _ h => h) rfl hs
   | 23, ho =>
     cases ho
     refine wpOp_of rfl rfl ?_
     have hK := fun (v : Value) (W2 : World) hW hT hv (hs : SsgX GA GB GR k c cap C a b d e d2 e2 x2 y2 W2) => show (JsgX GA GB GR k c cap C a b d e d2 e2 x2 y2 w0 a0) (lq.setIfInBounds 23 true) (aq.put (some 67) v) W2 from ⟨hJ2.put hS 23 67 rfl (by omega) (W' := W2) hW hT v hv, hs⟩
     clear ho hall hl hQ
     generalize (JsgX GA GB GR k c cap C a b d e d2 e2 x2 y2 w0 a0) (lq.setIfInBounds 23 true) = K at hK ⊢
     clear hJ2 hS z1 z2 z3 z4 z6 z7
     go_simp
     exact hK _ _ z5 (fun _ _ h => h) rfl hs
   | 24, ho =>
     cases ho
     refine wpOp_of rfl rfl ?_
     have f23 : (aq.tmps.getD 67 undef) = .int .i64 C := z6 23 67 (hall { on := 23, ground := Ground.data } (by simp) rfl) rfl
     have hK := fun (v : Value) (W2 : World) hW hT hv (hs : SsgX GA GB GR k c cap C a b d e d2 e2 x2 y2 W2) => show (JsgX GA GB GR k c cap C a b d e d2 e2 x2 y2 w0 a0) (lq.setIfInBounds 24 true) (aq.put (some 68) v) W2 from ⟨hJ2.put hS 24 68 rfl (by omega) (W' := W2) hW hT v hv, hs⟩
     clear ho hall hl hQ
     generalize (JsgX GA GB GR k c cap C a b d e d2 e2 x2 y2 w0 a0) (lq.setIfInBounds 24 true) = K at hK ⊢
     clear hJ2 hS z1 z2 z3 z4 z6 z7
     go_simp
     exact hK _ _ z5 (fun _ _ h => h) rfl hs
   | 25, ho =>
     cases ho
     refine wpOp_of rfl rfl ?_
     have f22 : (aq.tmps.getD 66 undef) = .slice (some ⟨GR, 0, none⟩) c cap := z6 22 66 (hall { on := 22, ground := Ground.data } (by simp) rfl) rfl
     have f24 : (aq.tmps.getD 68 undef) = .int .i64 (k : Nat) := z6 24 68 (hall { on := 24, ground := Ground.data } (by simp) rfl) rfl
     have hK := fun (v : Value) (W2 : World) hW hT hv (hs : SsgX GA GB GR k c cap C a b d e d2 e2 x2 y2 W2) => show (JsgX GA GB GR k c cap C a b d e d2 e2 x2 y2 w0 a0) (lq.setIfInBounds 25 true) (aq.put (some 69) v) W2 from ⟨hJ2.put hS 25 69 rfl (by omega) (W' := W2) hW hT v hv, hs⟩
     clear ho hall hl hQ
     generalize (JsgX GA GB GR k c cap C a b d e d2 e2 x2 y2 w0 a0) (lq.setIfInBounds 25 true) = K at hK ⊢
     clear hJ2 hS z1 z2 z3 z4 z6 z7
     go_simp
     exact hK _ _ z5 (fun _ _ h => h) rfl hs
   | 26, ho =>
     cases ho
     refine wpOp_of rfl rfl ?_
     have f25 : (aq.tmps.getD 69 undef) = .pointer (some ⟨GR, k * 4, none⟩) := z6 25 69 (hall { on := 25, ground := Ground.data } (by simp) rfl) rfl
     have hK := fun (v : Value) (W2 : World) hW hT hv (hs : SsgX GA GB GR k c cap C a b d e d2 e2 x2 y2 W2) => show (JsgX GA GB GR k c cap C a b d e d2 e2 x2 y2 w0 a0) (lq.setIfInBounds 26 true) (aq.put (some 70) v) W2 from ⟨hJ2.put hS 26 70 rfl (by omega) (W' := W2) hW hT v hv, hs⟩
     clear ho hall hl hQ
     generalize (JsgX GA GB GR k c cap C a b d e d2 e2 x2 y2 w0 a0) (lq.setIfInBounds 26 true) = K at hK ⊢
     clear hJ2 hS z1 z2 z3 z4 z6 z7
     go_simp
     exact hK _ _ z5 (fun _ _ h => h) rfl hs
   | 27, ho =>
     cases ho
     refine wpOp_of rfl rfl ?_
     have f26 : (aq.tmps.getD 70 undef) = .pointer (some ⟨GR, k * 4 + 2, none⟩) := z6 26 70 (hall { on := 26, ground := Ground.data } (by simp) rfl) rfl
     have hK := fun (v : Value) (W2 : World) hW hT hv (hs : SsgX GA GB GR k c cap C a b d e d2 e2 x2 y2 W2) => show (JsgX GA GB GR k c cap C a b d e d2 e2 x2 y2 w0 a0) (lq.setIfInBounds 27 true) (aq.put (some 71) v) W2 from ⟨hJ2.put hS 27 71 rfl (by omega) (W' := W2) hW hT v hv, hs⟩
     clear ho hall hl hQ
     generalize (JsgX GA GB GR k c cap C a b d e d2 e2 x2 y2 w0 a0) (lq.setIfInBounds 27 true) = K at hK ⊢
     clear hJ2 hS z1 z2 z3 z4 z6 z7
     go_simp
     exact hK _ _ z5 (fun _ _ h => h) rfl hs
   | 28, ho =>
     cases ho
     refine wpOp_of rfl rfl ?_
     have f27 : (aq.tmps.getD 71 undef) = .pointer (some ⟨GR, k * 4 + 2 + 1, none⟩) := z6 27 71 (hall { on := 27, ground := Ground.data } (by simp) rfl) rfl
     have hK := fun (v : Value) (W2 : World) hW hT hv (hs : SsgX GA GB GR k c cap C a b d e d2 e2 x2 y2 W2) => show (JsgX GA GB GR k c cap C a b d e d2 e2 x2 y2 w0 a0) (lq.setIfInBounds 28 true) (aq.put (some 72) v) W2 from ⟨hJ2.put hS 28 72 rfl (by omega) (W' := W2) hW hT v hv, hs⟩
     clear ho hall hl hQ
     generalize (JsgX GA GB GR k c cap C a b d e d2 e2 x2 y2 w0 a0) (lq.setIfInBounds 28 true) = K at hK ⊢
     clear hJ2 hS z1 z2 z3 z4 z6 z7
     go_simp
     exact hK _ _ z5 (fun _ _ h => h) rfl hs
   | 29, ho =>
     cases ho
     refine wpOp_of rfl rfl ?_
     have f28 : (aq.tmps.getD 72 undef) = .int .i64 e := z6 28 72 (hall { on := 28, ground := Ground.data } (by simp) rfl) rfl
     have hK := fun (v : Value) (W2 : World) hW hT hv (hs : SsgX GA GB GR k c cap C a b d e d2 e2 x2 y2 W2) => show (JsgX GA GB GR k c cap C a b d e d2 e2 x2 y2 w0 a0) (lq.setIfInBounds 29 true) (aq.put (some 73) v) W2 from ⟨hJ2.put hS 29 73 rfl (by omega) (W' := W2) hW hT v hv, hs⟩
     clear ho hall hl hQ
     generalize (JsgX GA GB GR k c cap C a b d e d2 e2 x2 y2 w0 a0) (lq.setIfInBounds 29 true) = K at hK ⊢
     clear hJ2 hS z1 z2 z3 z4 z6 z7
     go_simp
     exact hK _ _ z5 (fun _ _ h => h) rfl hs
   | 30, ho =>
     cases ho
     refine wpOp_of rfl rfl ?_
     have hK := fun (v : Value) (W2 : World) hW hT hv (hs : SsgX GA GB GR k c cap C a b d e d2 e2 x2 y2 W2) => show (JsgX GA GB GR k c cap C a b d e d2 e2 x2 y2 w0 a0) (lq.setIfInBounds 30 true) (aq.put (some 74) v) W2 from ⟨hJ2.put hS 30 74 rfl (by omega) (W' := W2) hW hT v hv, hs⟩
     clear ho hall hl hQ
     generalize (JsgX GA GB GR k c cap C a b d e d2 e2 x2 y2 w0 a0) (lq.setIfInBounds 30 true) = K at hK ⊢
     clear hJ2 hS z1 z2 z3 z4 z6 z7
     go_simp
     exact hK _ _ z5 (fun _ _ h => h) rfl hs
   | 31, ho =>
     cases ho
     refine wpOp_of rfl rfl ?_
     have hK := fun (v : Value) (W2 : World) hW hT hv (hs : SsgX GA GB GR k c cap C a b d e d2 e2 x2 y2 W2) => show (JsgX GA GB GR k c cap C a b d e d2 e2 x2 y2 w0 a0) (lq.setIfInBounds 31 true) (aq.put (some 75) v) W2 from ⟨hJ2.put hS 31 75 rfl (by omega) (W' := W2) hW hT v hv, hs⟩
     clear ho hall hl hQ
     generalize (JsgX GA GB GR k c cap C a b d e d2 e2 x2 y2 w0 a0) (lq.setIfInBounds 31 true) = K at hK ⊢
     clear hJ2 hS z1 z2 z3 z4 z6 z7
     go_simp
     exact hK _ _ z5 (fun _ _ h => h) rfl hs
   | 32, ho =>
     cases ho
     refine wpOp_of rfl rfl ?_
     have f31 : (aq.tmps.getD 75 undef) = .int .i64 C := z6 31 75 (hall { on := 31, ground := Ground.data } (by simp) rfl) rfl
     have hK := fun (v : Value) (W2 : World) hW hT hv (hs : SsgX GA GB GR k c cap C a b d e d2 e2 x2 y2 W2) => show (JsgX GA GB GR k c cap C a b d e d2 e2 x2 y2 w0 a0) (lq.setIfInBounds 32 true) (aq.put (some 76) v) W2 from ⟨hJ2.put hS 32 76 rfl (by omega) (W' := W2) hW hT v hv, hs⟩
     clear ho hall hl hQ
     generalize (JsgX GA GB GR k c cap C a b d e d2 e2 x2 y2 w0 a0) (lq.setIfInBounds 32 true) = K at hK ⊢
     clear hJ2 hS z1 z2 z3 z4 z6 z7
     go_simp
     exact hK _ _ z5 (fun _ _ h => h) rfl hs
   | 33, ho =>
     cases ho
     refine wpOp_of rfl rfl ?_
     have f30 : (aq.tmps.getD 74 undef) = .slice (some ⟨GR, 0, none⟩) c cap := z6 30 74 (hall { on := 30, ground := Ground.data } (by simp) rfl) rfl
     have f32 : (aq.tmps.getD 76 undef) = .int .i64 (k : Nat) := z6 32 76 (hall { on := 32, ground := Ground.data } (by simp) rfl) rfl
     have hK := fun (v : Value) (W2 : World) hW hT hv (hs : SsgX GA GB GR k c cap C a b d e d2 e2 x2 y2 W2) => show (JsgX GA GB GR k c cap C a b d e d2 e2 x2 y2 w0 a0) (lq.setIfInBounds 33 true) (aq.put (some 77) v) W2 from ⟨hJ2.put hS 33 77 rfl (by omega) (W' := W2) hW hT v hv, hs⟩
     clear ho hall hl hQ
     generalize (JsgX GA GB GR k c cap C a b d e d2 e2 x2 y2 w0 a0) (lq.setIfInBounds 33 true) = K at hK ⊢
     clear hJ2 hS z1 z2 z3 z4 z6 z7
     go_simp
     exact hK _ _ z5 (fun _ _ h => h) rfl hs
   | 34, ho =>
     cases ho
     refine wpOp_of rfl rfl ?_
     have f33 : (aq.tmps.getD 77 undef) = .pointer (some ⟨GR, k * 4, none⟩) := z6 33 77 (hall { on := 33, ground := Ground.data } (by simp) rfl) rfl
     have hK := fun (v : Value) (W2 : World) hW hT hv (hs : SsgX GA GB GR k c cap C a b d e d2 e2 x2 y2 W2) => show (JsgX GA GB GR k c cap C a b d e d2 e2 x2 y2 w0 a0) (lq.setIfInBounds 34 true) (aq.put (some 78) v) W2 from ⟨hJ2.put hS 34 78 rfl (by omega) (W' := W2) hW hT v hv, hs⟩
     clear ho hall hl hQ
     generalize (JsgX GA GB GR k c cap C a b d e d2 e2 x2 y2 w0 a0) (lq.setIfInBounds 34 true) = K at hK ⊢
     clear hJ2 hS z1 z2 z3 z4 z6 z7
     go_simp
     exact hK _ _ z5 (fun _ _ h => h) rfl hs
   | 35, ho =>
     cases ho
     refine wpOp_of rfl rfl ?_
     have f34 : (aq.tmps.getD 78 undef) = .pointer (some ⟨GR, k * 4, none⟩) := z6 34 78 (hall { on := 34, ground := Ground.data } (by simp) rfl) rfl
     have hK := fun (v : Value) (W2 : World) hW hT hv (hs : SsgX GA GB GR k c cap C a b d e d2 e2 x2 y2 W2) => show (JsgX GA GB GR k c cap C a b d e d2 e2 x2 y2 w0 a0) (lq.setIfInBounds 35 true) (aq.put (some 79) v) W2 from ⟨hJ2.put hS 35 79 rfl (by omega) (W' := W2) hW hT v hv, hs⟩
     clear ho hall hl hQ
     generalize (JsgX GA GB GR k c cap C a b d e d2 e2 x2 y2 w0 a0) (lq.setIfInBounds 35 true) = K at hK ⊢
     clear hJ2 hS z1 z2 z3 z4 z6 z7
     go_simp
     exact hK _ _ z5 (fun _ _ h => h) rfl hs
   | 36, ho =>
     cases ho
     refine wpOp_of rfl rfl ?_
     have f35 : (aq.tmps.getD 79 undef) = .pointer (some ⟨GR, k * 4 + 1, none⟩) := z6 35 79 (hall { on := 35, ground := Ground.data } (by simp) rfl) rfl
     have hK := fun (v : Value) (W2 : World) hW hT hv (hs : SsgX GA GB GR k c cap C a b d e d2 e2 x2 y2 W2) => show (JsgX GA GB GR k c cap C a b d e d2 e2 x2 y2 w0 a0) (lq.setIfInBounds 36 true) (aq.put (some 80) v) W2 from ⟨hJ2.put hS 36 80 rfl (by omega) (W' := W2) hW hT v hv, hs⟩
     clear ho hall hl hQ
     generalize (JsgX GA GB GR k c cap C a b d e d2 e2 x2 y2 w0 a0) (lq.setIfInBounds 36 true) = K at hK ⊢
     clear hJ2 hS z1 z2 z3 z4 z6 z7
     go_simp
     exact hK _ _ z5 (fun _ _ h => h) rfl hs
   | 37, ho =>
     cases ho
     refine wpOp_of rfl rfl ?_
     have f29 : (aq.tmps.getD 73 undef) = .int .i64 e2 := z6 29 73 (hall { on := 29, ground := Ground.data } (by simp) rfl) rfl
     have f36 : (aq.tmps.getD 80 undef) = .int .i64 b := z6 36 80 (hall { on := 36, ground := Ground.data } (by simp) rfl) rfl
     have hK := fun (v : Value) (W2 : World) hW hT hv (hs : SsgX GA GB GR k c cap C a b d e d2 e2 x2 y2 W2) => show (JsgX GA GB GR k c cap C a b d e d2 e2 x2 y2 w0 a0) (lq.setIfInBounds 37 true) (aq.put (some 81) v) W2 from ⟨hJ2.put hS 37 81 rfl (by omega) (W' := W2) hW hT v hv, hs⟩
     clear ho hall hl hQ
     generalize (JsgX GA GB GR k c cap C a b d e d2 e2 x2 y2 w0 a0) (lq.setIfInBounds 37 true) = K at hK ⊢
     clear hJ2 hS z1 z2 z3 z4 z6 z7
     go_simp
     exact hK _ _ z5 (fun _ _ h => h) rfl hs
   | 38, ho =>
     cases ho
     refine wpOp_of rfl rfl ?_
     have f21 : (aq.tmps.getD 65 undef) = .int .i64 x2 := z6 21 65 (hall { on := 21, ground := Ground.data } (by simp) rfl) rfl
     have f37 : (aq.tmps.getD 81 undef) = .int .i64 y2 := z6 37 81 (hall { on := 37, ground := Ground.data } (by simp) rfl) rfl
     rw [Array.getD_eq_getD_getElem?] at f21 f37
     have hK := fun (v : Value) (W2 : World) hW hT hv (hs : SsgX GA GB GR k c cap C a b d e d2 e2 x2 y2 W2) => show (JsgX GA GB GR k c cap C a b d e d2 e2 x2 y2 w0 a0) (lq.setIfInBounds 38 true) (aq.put (some 82) v) W2 from ⟨hJ2.put hS 38 82 rfl (by omega) (W' := W2) hW hT v hv, hs⟩
     clear ho hall hl hQ
     generalize (JsgX GA GB GR k c cap C a b d e d2 e2 x2 y2 w0 a0) (lq.setIfInBounds 38 true) = K at hK ⊢
     clear hJ2 hS z1 z2 z3 z4 z6 z7
     go_simp
     exact hK _ _ z5 (fun _ _ h => h) rfl hs
   | 39, ho =>
     cases ho
     refine wpOp_of rfl rfl ?_
     have f5 : (aq.tmps.getD 49 undef) = .agg #[.int .i64 a, .int .i64 b] := z6 5 49 (hall { on := 5, ground := Ground.data } (by simp) rfl) rfl
     have hK := fun (W2 : World) hW hT hv (hs : SsgX GA GB GR k c cap C a b d e d2 e2 x2 y2 W2) => show (JsgX GA GB GR k c cap C a b d e d2 e2 x2 y2 w0 a0) (lq.setIfInBounds 39 true) aq W2 from ⟨hJ2.world 39 rfl (W' := W2) hW hT hv, hs⟩
     clear ho hall hl hQ
     generalize (JsgX GA GB GR k c cap C a b d e d2 e2 x2 y2 w0 a0) (lq.setIfInBounds 39 true) = K at hK ⊢
     clear hJ2 hS z1 z2 z3 z4 z6 z7
     have nb : Blk ((W.setCell ⟨GA, 0, none⟩ (.int .i64 a)).setCell ⟨GA, 1, none⟩ (.int .i64 b)) GA [.int .i64 a, .int .i64 b] := (xa.setI 0 (by simp) _).setI 1 (by simp) _
     have ns : SsgX GA GB GR k c cap C a b d e d2 e2 x2 y2 ((W.setCell ⟨GA, 0, none⟩ (.int .i64 a)).setCell ⟨GA, 1, none⟩ (.int .i64 b)) := ⟨⟨a, b, ia, ib, nb⟩, pb, qb, ir, is, (xb.setO (p := ⟨GA, 0, none⟩) (by show GB ≠ GA; omega) _).setO (p := ⟨GA, 1, none⟩) (by show GB ≠ GA; omega) _⟩
     have nB : Below GA w0 ((W.setCell ⟨GA, 0, none⟩ (.int .i64 a)).setCell ⟨GA, 1, none⟩ (.int .i64 b)) := (z5.setCell (p := ⟨GA, 0, none⟩) (Nat.le_refl _) _).setCell (p := ⟨GA, 1, none⟩) (Nat.le_refl _) _
     clear xa xb nb
     go_simp
     exact hK _ nB (fun _ _ h => VsgX.same h) trivial ns
   | 40, ho =>
     cases ho
     refine wpOp_of rfl rfl ?_
     have f38 : (aq.tmps.getD 82 undef) = .agg #[.int .i64 x2, .int .i64 y2] := z6 38 82 (hall { on := 38, ground := Ground.data } (by simp) rfl) rfl
     have hK := fun (W2 : World) hW hT hv (hs : SsgX GA GB GR k c cap C a b d e d2 e2 x2 y2 W2) => show (JsgX GA GB GR k c cap C a b d e d2 e2 x2 y2 w0 a0) (lq.setIfInBounds 40 true) aq W2 from ⟨hJ2.world 40 rfl (W' := W2) hW hT hv, hs⟩
     clear ho hall hl hQ
     generalize (JsgX GA GB GR k c cap C a b d e d2 e2 x2 y2 w0 a0) (lq.setIfInBounds 40 true) = K at hK ⊢
     clear hJ2 hS z1 z2 z3 z4 z6 z7
     have nb : Blk ((W.setCell ⟨GB, 0, none⟩ (.int .i64 x2)).setCell ⟨GB, 1, none⟩ (.int .i64 y2)) GB [.int .i64 x2, .int .i64 y2] := (xb.setI 0 (by simp) _).setI 1 (by simp) _
     have ns : SsgX GA GB GR k c cap C a b d e d2 e2 x2 y2 ((W.setCell ⟨GB, 0, none⟩ (.int .i64 x2)).setCell ⟨GB, 1, none⟩ (.int .i64 y2)) := ⟨⟨pa, qa, ipa, iqa, (xa.setO (p := ⟨GB, 0, none⟩) (by show GA ≠ GB; omega) _).setO (p := ⟨GB, 1, none⟩) (by show GA ≠ GB; omega) _⟩, x2, y2, ix, iy, nb⟩
     have nB : Below GA w0 ((W.setCell ⟨GB, 0, none⟩ (.int .i64 x2)).setCell ⟨GB, 1, none⟩ (.int .i64 y2)) := (z5.setCell (p := ⟨GB, 0, none⟩) (Nat.le_of_lt hab) _).setCell (p := ⟨GB, 1, none⟩) (Nat.le_of_lt hab) _
     clear xa xb nb
     go_simp
     exact hK _ nB (fun _ _ h => VsgX.same h) trivial ns
   | iq + 41, ho => simp at ho
 · intro lq aq W ⟨hJ, hs⟩ hr
   obtain ⟨z1, z2, z3, z4, z5, z6, z7⟩ := hJ
   exact hQ aq W z2 z3 (fun e he => z4 e (by simpa using he))  z5 hs
theorem below_pos (m : Int) (h1 : 1 ≤ m) (h256 : m ≤ 256) (g : Nat) (ao : Option Addr) (n cap : Nat) (cs : List Int) (w : World) (h : Rdr w g ao n cap cs) :
   Calls Tryz.prog 75 #[.pointer (some ⟨g, 0, none⟩), .int .i64 m] w (RdP g ao n cap cs (IsIn 0 m) w) := by
 rcases Int.lt_or_le m 2 with h2 | h2
 · obtain rfl : m = 1 := by omega
   go_enter Tryz.func75, Tryz.ntmps75
   go_wp2
   go_ret
   exact ⟨_, rfl, ⟨0, rfl, by decide, by decide⟩, h, Kept.refl _ _⟩
 · exact below_any m h2 h256 g ao n cap cs w h
theorem wrap_i (z : Int) : I64 (IntKind.i64.wrap z) := by
 rw [IntKind.wrap_i64]
 constructor <;> omega
theorem SgRow.below {w w' : World} {base B : Nat} {v : Value} {c : Nat} {L : List Int} (h : SgRow w base v c L) (hB : Below B w w') (hp : ∀ k, v.ownBlock = some k → k < B) : SgRow w' base v c L := by
 refine ⟨?_, h.i64⟩
 rcases h.own with ⟨h0, h1 | ⟨g, cap, cur, h1, h2, h3, h4⟩⟩
 · exact ⟨h0, .inl h1⟩
 · refine ⟨h0, .inr ⟨g, cap, cur, h1, h2, ?_, h4⟩⟩
   rw [hB.block g (by subst h1; exact hp g rfl)]
   exact h3
theorem rdr_belowS {w w' : World} {g B : Nat} {ao : Option Addr} {n cap : Nat} {cs : List Int} (h : Rdr w g ao n cap cs) (hB : Below B w w') (hg : g < B) : Rdr w' g ao n cap cs := by
 obtain ⟨p, hp, X⟩ := h.blk
 refine ⟨⟨p, hp, X.below hB hg⟩, fun i hi => ?_, h.len, h.small, h.byte⟩
 obtain ⟨b, off, e, hb, hc⟩ := h.bytes i hi
 exact ⟨b, off, e, hb, (hB.cell (p := ⟨b, off + i, none⟩) (show b < B by omega)).trans hc⟩
theorem kept_belowS {g B : Nat} {a b c : World} (h : Kept g a b) (hB : Below B b c) (hg : g < B) (ha : a.heap.size ≤ B) : Kept g a c :=
 ⟨hB.os.trans h.os, hB.tape.trans h.tape, hB.output.trans h.output, Nat.le_trans h.size hB.size, fun k hk hne => (hB.block k (by omega)).trans (h.block k hk hne), fun j hj hl => (hB.cell (p := ⟨g, j, none⟩) hg).trans (h.other j hj hl)⟩
structure SgSt (w wx : World) (g : Nat) (ao : Option Addr) (n cap : Nat) (cs : List Int) (v : Value) (c : Nat) (L : List Int) (GA GB : Nat) : Prop where
 rdr : Rdr wx g ao n cap cs
 kept : Kept g w wx
 row : SgRow wx w.heap.size v c L
 a : ∃ p q : Int, I64 p ∧ I64 q ∧ Blk wx GA [.int .i64 p, .int .i64 q]
 b : ∃ p q : Int, I64 p ∧ I64 q ∧ Blk wx GB [.int .i64 p, .int .i64 q]
 hg : g < w.heap.size
 ha : w.heap.size ≤ GA
 hb : GA < GB
 hv : ∀ k, v.ownBlock = some k → k < GA
theorem SgSt.draw {w wx w' : World} {g : Nat} {ao : Option Addr} {n cap : Nat} {cs : List Int} {v : Value} {c : Nat} {L : List Int} {GA GB : Nat} (h : SgSt w wx g ao n cap cs v c L GA GB) (R : Rdr w' g ao n cap cs) (K : Kept g wx w') : SgSt w w' g ao n cap cs v c L GA GB := by
 obtain ⟨p, q, ip, iq, A⟩ := h.a
 obtain ⟨r, s, ir, is, B⟩ := h.b
 have h1 := h.hg; have h2 := h.ha; have h3 := h.hb
 exact ⟨R, h.kept.trans K, h.row.kept K h.hg, ⟨p, q, ip, iq, A.kept K (by omega)⟩, ⟨r, s, ir, is, B.kept K (by omega)⟩, h.hg, h.ha, h.hb, h.hv⟩
theorem SgSt.low {w wx w' : World} {g : Nat} {ao : Option Addr} {n cap : Nat} {cs : List Int} {v : Value} {c : Nat} {L : List Int} {GA GB : Nat} (h : SgSt w wx g ao n cap cs v c L GA GB) (hB : Below GA wx w') (a : ∃ p q : Int, I64 p ∧ I64 q ∧ Blk w' GA [.int .i64 p, .int .i64 q]) (b : ∃ p q : Int, I64 p ∧ I64 q ∧ Blk w' GB [.int .i64 p, .int .i64 q]) : SgSt w w' g ao n cap cs v c L GA GB := by
 have h1 := h.hg; have h2 := h.ha; have h3 := h.hb
 exact ⟨rdr_belowS h.rdr hB (by omega), kept_belowS h.kept hB (by omega) h.ha, h.row.below hB h.hv, a, b, h.hg, h.ha, h.hb, h.hv⟩
theorem SgSt.putA {w wx : World} {g : Nat} {ao : Option Addr} {n cap : Nat} {cs : List Int} {v : Value} {c : Nat} {L : List Int} {GA GB : Nat} (h : SgSt w wx g ao n cap cs v c L GA GB) {x y : Int} (hx : I64 x) (hy : I64 y) : SgSt w ((wx.setCell ⟨GA, 0, none⟩ (.int .i64 x)).setCell ⟨GA, 1, none⟩ (.int .i64 y)) g ao n cap cs v c L GA GB := by
 obtain ⟨p, q, ip, iq, A⟩ := h.a
 obtain ⟨r, s, ir, is, B⟩ := h.b
 have h3 := h.hb
 exact h.low (((Below.refl _ _).setCell (p := ⟨GA, 0, none⟩) (Nat.le_refl _) _).setCell (p := ⟨GA, 1, none⟩) (Nat.le_refl _) _) ⟨x, y, hx, hy, (A.setI 0 (by simp) _).setI 1 (by simp) _⟩ ⟨r, s, ir, is, (B.setO (p := ⟨GA, 0, none⟩) (by show GB ≠ GA; omega) _).setO (p := ⟨GA, 1, none⟩) (by show GB ≠ GA; omega) _⟩
theorem SgSt.putB {w wx : World} {g : Nat} {ao : Option Addr} {n cap : Nat} {cs : List Int} {v : Value} {c : Nat} {L : List Int} {GA GB : Nat} (h : SgSt w wx g ao n cap cs v c L GA GB) {y : Int} (hy : I64 y) : SgSt w (wx.setCell ⟨GB, 1, none⟩ (.int .i64 y)) g ao n cap cs v c L GA GB := by
 obtain ⟨p, q, ip, iq, A⟩ := h.a
 obtain ⟨r, s, ir, is, B⟩ := h.b
 have h3 := h.hb
 exact h.low ((Below.refl _ _).setCell (p := ⟨GB, 1, none⟩) (Nat.le_of_lt h3) _) ⟨p, q, ip, iq, A.setO (p := ⟨GB, 1, none⟩) (by show GA ≠ GB; omega) _⟩ ⟨r, y, ir, hy, B.setI 1 (by simp) _⟩
def SgsP (g : Nat) (ao : Option Addr) (n cap : Nat) (cs : List Int) (w : World) (e : Ending) (w' : World) : Prop := ∃ v c L, e = .returned v ∧ c ≤ 6 ∧ SgRow w' w.heap.size v c L ∧ Rdr w' g ao n cap cs ∧ Kept g w w'
end Go.Proofs.YteakhlipmmfilaaGreat
