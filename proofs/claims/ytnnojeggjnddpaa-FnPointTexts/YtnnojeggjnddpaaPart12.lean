/- Part 12 of the walks that the proof leans on. -/
import Derived.Test.YtnnojeggjnddpaaPart10
import Derived.Test.YtnnojeggjnddpaaPart11
import Derived.Test.YtnnojeggjnddpaaPart8
import Derived.Test.YtnnojeggjnddpaaRows
import Derived.ProofKit
import Derived.Lib.SmallJoins
/- Points come back from their texts: the law over drawn ones. -/
namespace Go.Proofs.Ytnnojeggjnddpaa
open Go.RowKit
theorem bigt_any (ao : Option Addr) (n cap : Nat) (w : World) (z : Bool) (hz : decide (1048576 < n) = z) : Calls Try.prog 30 #[.slice ao n cap] w (BoolP z w) := by
  subst hz
  go_enter Try.func30, Try.ntmps30
  go_wp2
  go_ret
  exact ⟨by simp; try omega, Below.refl _ _⟩
theorem pl_lt (x y z : Int) : ∀ b ∈ ptL x y z, b < 256 := by
  intro b hb
  rcases List.mem_append.1 hb with h | h
  · exact txL_lt x b h
  · rcases List.mem_cons.1 h with h | h
    · omega
    · rcases List.mem_append.1 h with h | h
      · exact txL_lt y b h
      · exact unL_lt z b h
theorem rp_empty : rpV [] = .tuple #[PV 0 0 0, .bool false] := rpV_no fun x y z h => by
  have := h.2.2.2.2
  unfold ptL at this
  exact tx_ne x (List.append_eq_nil_iff.1 this.symm).1
set_option maxRecDepth 100000 in
set_option maxHeartbeats 8000000 in
theorem lawPointTexts_any (ao : Option Addr) (n cap : Nat) (cs : List Int) (w : World) (h : n ≤ 1048576 → Code w ao n cs) : Calls Try.prog 11 #[.slice ao n cap] w (BoolP true w) := by
  by_cases hn : 1048576 < n
  · go_enter Try.func11, Try.ntmps11
    go_wp2_with fail
    refine (bigt_any ao n cap _ true (by simpa using hn)).mono ?_
    rintro e w1 ⟨rfl, hB⟩
    clear h
    go_wp2
    go_ret
    exact ⟨rfl, hB⟩
  · have hc := h (by omega)
    clear h
    go_enter Try.func11, Try.ntmps11
    go_wp2_with fail
    refine (bigt_any ao n cap _ false (by simpa using hn)).mono ?_
    rintro e w1 ⟨rfl, hB⟩
    replace hc := hc.below hB
    have HB := hB
    clear hB
    go_wp2_with fail
    refine (drawPointText_any ao n cap cs _ hc).mono ?_
    rintro e w2 ⟨x, y, z, rfl, tx, ty, tz, hB⟩
    replace HB := HB.trans (hB.mono HB.size)
    replace hc := hc.below hB
    clear hB
    have X1 := Blk.new w2 [.int .u64 (ww3 x), .int .u64 (ww2 x), .int .u64 (ww1 x), .int .u64 (ww0 x), .int .u64 (ww3 y), .int .u64 (ww2 y), .int .u64 (ww1 y), .int .u64 (ww0 y), .int .u64 (ww3 z), .int .u64 (ww2 z), .int .u64 (ww1 z), .int .u64 (ww0 z)] 47 rfl
    rw [show ([.int .u64 (ww3 x), .int .u64 (ww2 x), .int .u64 (ww1 x), .int .u64 (ww0 x), .int .u64 (ww3 y), .int .u64 (ww2 y), .int .u64 (ww1 y), .int .u64 (ww0 y), .int .u64 (ww3 z), .int .u64 (ww2 z), .int .u64 (ww1 z), .int .u64 (ww0 z)] : List Value).toArray = #[.int .u64 (ww3 x), .int .u64 (ww2 x), .int .u64 (ww1 x), .int .u64 (ww0 x), .int .u64 (ww3 y), .int .u64 (ww2 y), .int .u64 (ww1 y), .int .u64 (ww0 y), .int .u64 (ww3 z), .int .u64 (ww2 z), .int .u64 (ww1 z), .int .u64 (ww0 z)] from rfl] at X1
    replace HB := HB.alloc HB.size (.cells #[.int .u64 (ww3 x), .int .u64 (ww2 x), .int .u64 (ww1 x), .int .u64 (ww0 x), .int .u64 (ww3 y), .int .u64 (ww2 y), .int .u64 (ww1 y), .int .u64 (ww0 y), .int .u64 (ww3 z), .int .u64 (ww2 z), .int .u64 (ww1 z), .int .u64 (ww0 z)] 47)
    replace hc := hc.below ((Below.refl _ _).alloc (Nat.le_refl _) (.cells #[.int .u64 (ww3 x), .int .u64 (ww2 x), .int .u64 (ww1 x), .int .u64 (ww0 x), .int .u64 (ww3 y), .int .u64 (ww2 y), .int .u64 (ww1 y), .int .u64 (ww0 y), .int .u64 (ww3 z), .int .u64 (ww2 z), .int .u64 (ww1 z), .int .u64 (ww0 z)] 47))
    have CT := ptText_det x y z tx ty tz
    have CS := specPtText_det x y z tx ty tz
    have CO := implPointOk_det x y z tx ty tz
    have E := eqPV x y z x y z tx ty tz tx ty tz
    rw [show (decide (x = x) && decide (y = y) && decide (z = z)) = true by simp] at E
    cases hb : ptB x y z
    · rw [hb, if_neg (by decide)] at CT CS
      rw [hb] at CO
      have CR := implReadPoint_any (strL []) (by decide)
      rw [show btL (strL []) = [] from rfl, rp_empty, show (PV 0 0 0) = .agg #[.int .u64 0, .int .u64 0, .int .u64 0, .int .u64 0, .int .u64 0, .int .u64 0, .int .u64 0, .int .u64 0, .int .u64 0, .int .u64 0, .int .u64 0, .int .u64 0] from rfl] at CR
      have e0 : ((strL []).toList == (strL []).toList) = true := beq_iff_eq.2 rfl
      generalize strL [] = S at *
      clear hb E
      obtain ⟨c0, c1, c2, c3, c4, c5, c6, c7, c8, c9, c10, c11⟩ := X1.cs12
      go_wp2_with fail
      clear c0 c1 c2 c3 c4 c5 c6 c7 c8 c9 c10 c11
      generalize w2.heap.size = g1 at *
      generalize (w2.alloc (.cells #[.int .u64 (ww3 x), .int .u64 (ww2 x), .int .u64 (ww1 x), .int .u64 (ww0 x), .int .u64 (ww3 y), .int .u64 (ww2 y), .int .u64 (ww1 y), .int .u64 (ww0 y), .int .u64 (ww3 z), .int .u64 (ww2 z), .int .u64 (ww1 z), .int .u64 (ww0 z)] 47)) = W1 at *
      refine (CT _).mono ?_
      rintro e w3 ⟨rfl, hB⟩
      replace HB := HB.trans (hB.mono HB.size)
      replace X1 := X1.step hB
      replace hc := hc.below hB
      clear hB
      clear CT
      go_wp2_with fail
      refine (CR _).mono ?_
      rintro e w4 ⟨rfl, hB⟩
      replace HB := HB.trans (hB.mono HB.size)
      replace X1 := X1.step hB
      replace hc := hc.below hB
      clear hB
      clear CR
      have X2 := Blk.new w4 [.int .u64 0, .int .u64 0, .int .u64 0, .int .u64 0, .int .u64 0, .int .u64 0, .int .u64 0, .int .u64 0, .int .u64 0, .int .u64 0, .int .u64 0, .int .u64 0] 47 rfl
      rw [show ([.int .u64 0, .int .u64 0, .int .u64 0, .int .u64 0, .int .u64 0, .int .u64 0, .int .u64 0, .int .u64 0, .int .u64 0, .int .u64 0, .int .u64 0, .int .u64 0] : List Value).toArray = #[.int .u64 0, .int .u64 0, .int .u64 0, .int .u64 0, .int .u64 0, .int .u64 0, .int .u64 0, .int .u64 0, .int .u64 0, .int .u64 0, .int .u64 0, .int .u64 0] from rfl] at X2
      replace HB := HB.alloc HB.size (.cells #[.int .u64 0, .int .u64 0, .int .u64 0, .int .u64 0, .int .u64 0, .int .u64 0, .int .u64 0, .int .u64 0, .int .u64 0, .int .u64 0, .int .u64 0, .int .u64 0] 47)
      replace X1 := X1.alloc (.cells #[.int .u64 0, .int .u64 0, .int .u64 0, .int .u64 0, .int .u64 0, .int .u64 0, .int .u64 0, .int .u64 0, .int .u64 0, .int .u64 0, .int .u64 0, .int .u64 0] 47)
      replace hc := hc.below ((Below.refl _ _).alloc (Nat.le_refl _) (.cells #[.int .u64 0, .int .u64 0, .int .u64 0, .int .u64 0, .int .u64 0, .int .u64 0, .int .u64 0, .int .u64 0, .int .u64 0, .int .u64 0, .int .u64 0, .int .u64 0] 47))
      obtain ⟨c0, c1, c2, c3, c4, c5, c6, c7, c8, c9, c10, c11⟩ := X1.cs12
      go_wp2_with fail
      generalize w4.heap.size = g2 at *
      generalize (w4.alloc (.cells #[.int .u64 0, .int .u64 0, .int .u64 0, .int .u64 0, .int .u64 0, .int .u64 0, .int .u64 0, .int .u64 0, .int .u64 0, .int .u64 0, .int .u64 0, .int .u64 0] 47)) = W2 at *
      refine (CS _).mono ?_
      rintro e w5 ⟨rfl, hB⟩
      replace HB := HB.trans (hB.mono HB.size)
      replace X1 := X1.step hB
      replace X2 := X2.step hB
      replace hc := hc.below hB
      clear hB
      clear CS c0 c1 c2 c3 c4 c5 c6 c7 c8 c9 c10 c11
      obtain ⟨c0, c1, c2, c3, c4, c5, c6, c7, c8, c9, c10, c11⟩ := X1.cs12
      go_wp2_with fail
      refine (CO _).mono ?_
      rintro e w6 ⟨rfl, hB⟩
      replace HB := HB.trans (hB.mono HB.size)
      replace X1 := X1.step hB
      replace X2 := X2.step hB
      replace hc := hc.below hB
      clear hB
      clear CO c0 c1 c2 c3 c4 c5 c6 c7 c8 c9 c10 c11
      obtain ⟨c0, c1, c2, c3, c4, c5, c6, c7, c8, c9, c10, c11⟩ := X1.cs12
      obtain ⟨d0, d1, d2, d3, d4, d5, d6, d7, d8, d9, d10, d11⟩ := X2.cs12
      go_wp2_with fail
      clear c0 c1 c2 c3 c4 c5 c6 c7 c8 c9 c10 c11 d0 d1 d2 d3 d4 d5 d6 d7 d8 d9 d10 d11 X1 X2
      refine (drawReadPoint_any ao n cap cs _ hc).mono ?_
      rintro e w7 ⟨s, rfl, hs, hB⟩
      replace HB := HB.trans (hB.mono HB.size)
      clear hB hc
      have CR := implReadPoint_any s (by omega)
      by_cases hk : ∃ u v t, RpOk (btL s) u v t
      · obtain ⟨u, v, t, hk⟩ := hk
        have hr := rpV_yes hk
        obtain ⟨ku, kv, kt, hright, hl⟩ := hk
        rw [hr] at CR
        have CT := ptText_det u v t ku kv kt
        rw [if_pos hright, ← hl, strL_btL] at CT
        have e1 : (s.toList == s.toList) = true := beq_iff_eq.2 rfl
        clear hr hright hl
        go_wp2_with fail
        refine (CR _).mono ?_
        rintro e w8 ⟨rfl, hB⟩
        replace HB := HB.trans (hB.mono HB.size)
        clear hB
        clear CR
        have X3 := Blk.new w8 [.int .u64 (ww3 u), .int .u64 (ww2 u), .int .u64 (ww1 u), .int .u64 (ww0 u), .int .u64 (ww3 v), .int .u64 (ww2 v), .int .u64 (ww1 v), .int .u64 (ww0 v), .int .u64 (ww3 t), .int .u64 (ww2 t), .int .u64 (ww1 t), .int .u64 (ww0 t)] 47 rfl
        rw [show ([.int .u64 (ww3 u), .int .u64 (ww2 u), .int .u64 (ww1 u), .int .u64 (ww0 u), .int .u64 (ww3 v), .int .u64 (ww2 v), .int .u64 (ww1 v), .int .u64 (ww0 v), .int .u64 (ww3 t), .int .u64 (ww2 t), .int .u64 (ww1 t), .int .u64 (ww0 t)] : List Value).toArray = #[.int .u64 (ww3 u), .int .u64 (ww2 u), .int .u64 (ww1 u), .int .u64 (ww0 u), .int .u64 (ww3 v), .int .u64 (ww2 v), .int .u64 (ww1 v), .int .u64 (ww0 v), .int .u64 (ww3 t), .int .u64 (ww2 t), .int .u64 (ww1 t), .int .u64 (ww0 t)] from rfl] at X3
        replace HB := HB.alloc HB.size (.cells #[.int .u64 (ww3 u), .int .u64 (ww2 u), .int .u64 (ww1 u), .int .u64 (ww0 u), .int .u64 (ww3 v), .int .u64 (ww2 v), .int .u64 (ww1 v), .int .u64 (ww0 v), .int .u64 (ww3 t), .int .u64 (ww2 t), .int .u64 (ww1 t), .int .u64 (ww0 t)] 47)
        obtain ⟨c0, c1, c2, c3, c4, c5, c6, c7, c8, c9, c10, c11⟩ := X3.cs12
        go_wp2_with fail
        clear c0 c1 c2 c3 c4 c5 c6 c7 c8 c9 c10 c11 X3
        generalize w8.heap.size = g3 at *
        generalize (w8.alloc (.cells #[.int .u64 (ww3 u), .int .u64 (ww2 u), .int .u64 (ww1 u), .int .u64 (ww0 u), .int .u64 (ww3 v), .int .u64 (ww2 v), .int .u64 (ww1 v), .int .u64 (ww0 v), .int .u64 (ww3 t), .int .u64 (ww2 t), .int .u64 (ww1 t), .int .u64 (ww0 t)] 47)) = W3 at *
        refine (CT _).mono ?_
        rintro e w9 ⟨rfl, hB⟩
        replace HB := HB.trans (hB.mono HB.size)
        clear hB
        clear CT
        go_wp2
        go_ret
        exact ⟨rfl, HB⟩
      · have hr := rpV_no (l := btL s) fun u v t h => hk ⟨u, v, t, h⟩
        rw [hr, show (PV 0 0 0) = .agg #[.int .u64 0, .int .u64 0, .int .u64 0, .int .u64 0, .int .u64 0, .int .u64 0, .int .u64 0, .int .u64 0, .int .u64 0, .int .u64 0, .int .u64 0, .int .u64 0] from rfl] at CR
        clear hr hk
        go_wp2_with fail
        refine (CR _).mono ?_
        rintro e w8 ⟨rfl, hB⟩
        replace HB := HB.trans (hB.mono HB.size)
        clear hB
        clear CR
        replace HB := HB.alloc HB.size (.cells #[.int .u64 0, .int .u64 0, .int .u64 0, .int .u64 0, .int .u64 0, .int .u64 0, .int .u64 0, .int .u64 0, .int .u64 0, .int .u64 0, .int .u64 0, .int .u64 0] 47)
        go_wp2
        go_ret
        exact ⟨rfl, HB⟩
    · rw [hb, if_pos rfl] at CT CS
      rw [hb] at CO
      have CR := implReadPoint_any (strL (ptL x y z)) (by have := pt_size tx ty tz; rw [if_pos hb] at this; omega)
      rw [btL_strL (pl_lt x y z), rpV_yes ⟨tx, ty, tz, hb, rfl⟩] at CR
      have e0 : ((strL (ptL x y z)).toList == (strL (ptL x y z)).toList) = true := beq_iff_eq.2 rfl
      generalize strL (ptL x y z) = S at *
      clear hb
      obtain ⟨c0, c1, c2, c3, c4, c5, c6, c7, c8, c9, c10, c11⟩ := X1.cs12
      go_wp2_with fail
      clear c0 c1 c2 c3 c4 c5 c6 c7 c8 c9 c10 c11
      generalize w2.heap.size = g1 at *
      generalize (w2.alloc (.cells #[.int .u64 (ww3 x), .int .u64 (ww2 x), .int .u64 (ww1 x), .int .u64 (ww0 x), .int .u64 (ww3 y), .int .u64 (ww2 y), .int .u64 (ww1 y), .int .u64 (ww0 y), .int .u64 (ww3 z), .int .u64 (ww2 z), .int .u64 (ww1 z), .int .u64 (ww0 z)] 47)) = W1 at *
      refine (CT _).mono ?_
      rintro e w3 ⟨rfl, hB⟩
      replace HB := HB.trans (hB.mono HB.size)
      replace X1 := X1.step hB
      replace hc := hc.below hB
      clear hB
      clear CT
      go_wp2_with fail
      refine (CR _).mono ?_
      rintro e w4 ⟨rfl, hB⟩
      replace HB := HB.trans (hB.mono HB.size)
      replace X1 := X1.step hB
      replace hc := hc.below hB
      clear hB
      clear CR
      have X2 := Blk.new w4 [.int .u64 (ww3 x), .int .u64 (ww2 x), .int .u64 (ww1 x), .int .u64 (ww0 x), .int .u64 (ww3 y), .int .u64 (ww2 y), .int .u64 (ww1 y), .int .u64 (ww0 y), .int .u64 (ww3 z), .int .u64 (ww2 z), .int .u64 (ww1 z), .int .u64 (ww0 z)] 47 rfl
      rw [show ([.int .u64 (ww3 x), .int .u64 (ww2 x), .int .u64 (ww1 x), .int .u64 (ww0 x), .int .u64 (ww3 y), .int .u64 (ww2 y), .int .u64 (ww1 y), .int .u64 (ww0 y), .int .u64 (ww3 z), .int .u64 (ww2 z), .int .u64 (ww1 z), .int .u64 (ww0 z)] : List Value).toArray = #[.int .u64 (ww3 x), .int .u64 (ww2 x), .int .u64 (ww1 x), .int .u64 (ww0 x), .int .u64 (ww3 y), .int .u64 (ww2 y), .int .u64 (ww1 y), .int .u64 (ww0 y), .int .u64 (ww3 z), .int .u64 (ww2 z), .int .u64 (ww1 z), .int .u64 (ww0 z)] from rfl] at X2
      replace HB := HB.alloc HB.size (.cells #[.int .u64 (ww3 x), .int .u64 (ww2 x), .int .u64 (ww1 x), .int .u64 (ww0 x), .int .u64 (ww3 y), .int .u64 (ww2 y), .int .u64 (ww1 y), .int .u64 (ww0 y), .int .u64 (ww3 z), .int .u64 (ww2 z), .int .u64 (ww1 z), .int .u64 (ww0 z)] 47)
      replace X1 := X1.alloc (.cells #[.int .u64 (ww3 x), .int .u64 (ww2 x), .int .u64 (ww1 x), .int .u64 (ww0 x), .int .u64 (ww3 y), .int .u64 (ww2 y), .int .u64 (ww1 y), .int .u64 (ww0 y), .int .u64 (ww3 z), .int .u64 (ww2 z), .int .u64 (ww1 z), .int .u64 (ww0 z)] 47)
      replace hc := hc.below ((Below.refl _ _).alloc (Nat.le_refl _) (.cells #[.int .u64 (ww3 x), .int .u64 (ww2 x), .int .u64 (ww1 x), .int .u64 (ww0 x), .int .u64 (ww3 y), .int .u64 (ww2 y), .int .u64 (ww1 y), .int .u64 (ww0 y), .int .u64 (ww3 z), .int .u64 (ww2 z), .int .u64 (ww1 z), .int .u64 (ww0 z)] 47))
      obtain ⟨c0, c1, c2, c3, c4, c5, c6, c7, c8, c9, c10, c11⟩ := X1.cs12
      go_wp2_with fail
      generalize w4.heap.size = g2 at *
      generalize (w4.alloc (.cells #[.int .u64 (ww3 x), .int .u64 (ww2 x), .int .u64 (ww1 x), .int .u64 (ww0 x), .int .u64 (ww3 y), .int .u64 (ww2 y), .int .u64 (ww1 y), .int .u64 (ww0 y), .int .u64 (ww3 z), .int .u64 (ww2 z), .int .u64 (ww1 z), .int .u64 (ww0 z)] 47)) = W2 at *
      refine (CS _).mono ?_
      rintro e w5 ⟨rfl, hB⟩
      replace HB := HB.trans (hB.mono HB.size)
      replace X1 := X1.step hB
      replace X2 := X2.step hB
      replace hc := hc.below hB
      clear hB
      clear CS c0 c1 c2 c3 c4 c5 c6 c7 c8 c9 c10 c11
      obtain ⟨c0, c1, c2, c3, c4, c5, c6, c7, c8, c9, c10, c11⟩ := X1.cs12
      go_wp2_with fail
      refine (CO _).mono ?_
      rintro e w6 ⟨rfl, hB⟩
      replace HB := HB.trans (hB.mono HB.size)
      replace X1 := X1.step hB
      replace X2 := X2.step hB
      replace hc := hc.below hB
      clear hB
      clear CO c0 c1 c2 c3 c4 c5 c6 c7 c8 c9 c10 c11
      obtain ⟨c0, c1, c2, c3, c4, c5, c6, c7, c8, c9, c10, c11⟩ := X1.cs12
      obtain ⟨d0, d1, d2, d3, d4, d5, d6, d7, d8, d9, d10, d11⟩ := X2.cs12
      go_wp2_with fail
      clear c0 c1 c2 c3 c4 c5 c6 c7 c8 c9 c10 c11 d0 d1 d2 d3 d4 d5 d6 d7 d8 d9 d10 d11 X1 X2 E
      refine (drawReadPoint_any ao n cap cs _ hc).mono ?_
      rintro e w7 ⟨s, rfl, hs, hB⟩
      replace HB := HB.trans (hB.mono HB.size)
      clear hB hc
      have CR := implReadPoint_any s (by omega)
      by_cases hk : ∃ u v t, RpOk (btL s) u v t
      · obtain ⟨u, v, t, hk⟩ := hk
        have hr := rpV_yes hk
        obtain ⟨ku, kv, kt, hright, hl⟩ := hk
        rw [hr] at CR
        have CT := ptText_det u v t ku kv kt
        rw [if_pos hright, ← hl, strL_btL] at CT
        have e1 : (s.toList == s.toList) = true := beq_iff_eq.2 rfl
        clear hr hright hl
        go_wp2_with fail
        refine (CR _).mono ?_
        rintro e w8 ⟨rfl, hB⟩
        replace HB := HB.trans (hB.mono HB.size)
        clear hB
        clear CR
        have X3 := Blk.new w8 [.int .u64 (ww3 u), .int .u64 (ww2 u), .int .u64 (ww1 u), .int .u64 (ww0 u), .int .u64 (ww3 v), .int .u64 (ww2 v), .int .u64 (ww1 v), .int .u64 (ww0 v), .int .u64 (ww3 t), .int .u64 (ww2 t), .int .u64 (ww1 t), .int .u64 (ww0 t)] 47 rfl
        rw [show ([.int .u64 (ww3 u), .int .u64 (ww2 u), .int .u64 (ww1 u), .int .u64 (ww0 u), .int .u64 (ww3 v), .int .u64 (ww2 v), .int .u64 (ww1 v), .int .u64 (ww0 v), .int .u64 (ww3 t), .int .u64 (ww2 t), .int .u64 (ww1 t), .int .u64 (ww0 t)] : List Value).toArray = #[.int .u64 (ww3 u), .int .u64 (ww2 u), .int .u64 (ww1 u), .int .u64 (ww0 u), .int .u64 (ww3 v), .int .u64 (ww2 v), .int .u64 (ww1 v), .int .u64 (ww0 v), .int .u64 (ww3 t), .int .u64 (ww2 t), .int .u64 (ww1 t), .int .u64 (ww0 t)] from rfl] at X3
        replace HB := HB.alloc HB.size (.cells #[.int .u64 (ww3 u), .int .u64 (ww2 u), .int .u64 (ww1 u), .int .u64 (ww0 u), .int .u64 (ww3 v), .int .u64 (ww2 v), .int .u64 (ww1 v), .int .u64 (ww0 v), .int .u64 (ww3 t), .int .u64 (ww2 t), .int .u64 (ww1 t), .int .u64 (ww0 t)] 47)
        obtain ⟨c0, c1, c2, c3, c4, c5, c6, c7, c8, c9, c10, c11⟩ := X3.cs12
        go_wp2_with fail
        clear c0 c1 c2 c3 c4 c5 c6 c7 c8 c9 c10 c11 X3
        generalize w8.heap.size = g3 at *
        generalize (w8.alloc (.cells #[.int .u64 (ww3 u), .int .u64 (ww2 u), .int .u64 (ww1 u), .int .u64 (ww0 u), .int .u64 (ww3 v), .int .u64 (ww2 v), .int .u64 (ww1 v), .int .u64 (ww0 v), .int .u64 (ww3 t), .int .u64 (ww2 t), .int .u64 (ww1 t), .int .u64 (ww0 t)] 47)) = W3 at *
        refine (CT _).mono ?_
        rintro e w9 ⟨rfl, hB⟩
        replace HB := HB.trans (hB.mono HB.size)
        clear hB
        clear CT
        go_wp2
        go_ret
        exact ⟨rfl, HB⟩
      · have hr := rpV_no (l := btL s) fun u v t h => hk ⟨u, v, t, h⟩
        rw [hr, show (PV 0 0 0) = .agg #[.int .u64 0, .int .u64 0, .int .u64 0, .int .u64 0, .int .u64 0, .int .u64 0, .int .u64 0, .int .u64 0, .int .u64 0, .int .u64 0, .int .u64 0, .int .u64 0] from rfl] at CR
        clear hr hk
        go_wp2_with fail
        refine (CR _).mono ?_
        rintro e w8 ⟨rfl, hB⟩
        replace HB := HB.trans (hB.mono HB.size)
        clear hB
        clear CR
        replace HB := HB.alloc HB.size (.cells #[.int .u64 0, .int .u64 0, .int .u64 0, .int .u64 0, .int .u64 0, .int .u64 0, .int .u64 0, .int .u64 0, .int .u64 0, .int .u64 0, .int .u64 0, .int .u64 0] 47)
        go_wp2
        go_ret
        exact ⟨rfl, HB⟩
end Go.Proofs.Ytnnojeggjnddpaa

/- What the row of a law asks of the program as a whole, each by itself. -/
namespace Go.Proofs.Ytnnojeggjnddpaa
open Go.ChangeShapes Go.WideShapes Go.ChangeAt Go.RowKit Go.Joins
theorem jn_laid : laidOutB Try.pinned.checked.prog = true := by kernel_rfl
theorem jn_maps : mapsRowed Try.pinned.checked.prog = true := by kernel_rfl
theorem jn_enter : Try.pinned.checked.prog.mayEnter = true := by kernel_rfl
theorem jn_heard : Try.pinned.checked.prog.stopsHeard = true := by kernel_rfl
end Go.Proofs.Ytnnojeggjnddpaa
