/- Whether a segment meets a box: the walk of the program. -/
import Derived.Test.YtenhadlhfnaocaaSegH
namespace Go.Proofs.Ytenhadlhfnaocaa
open Go.RowKit
set_option maxRecDepth 100000 in
set_option maxHeartbeats 2000000 in
theorem implMeetsBox_any (a b c d x y u v : Int) (z : Bool) (hz : meetsB a b c d x y u v = z) (w : World) : Calls Try.prog 17 #[Sg a b c d, Sp x y, Sp u v] w (BoolP z w) := by
  have T0 := box_start a b c d x y u v w 32 25 25
  by_cases h1 : segOk a b c d = true
  · by_cases h2 : spotOk x y = true
    · by_cases h3 : spotOk u v = true
      · obtain ⟨s1, s2⟩ := spots_of_seg h1
        obtain ⟨ha, hb⟩ := in6_of_spot s1
        obtain ⟨hc, hd⟩ := in6_of_spot s2
        obtain ⟨hx, hy⟩ := in6_of_spot h2
        obtain ⟨hu, hv⟩ := in6_of_spot h3
        go_enter Try.func17, Try.ntmps17
        go_upto_region 1 with fail
        generalize (((w.alloc (.cells #[.int .i64 a, .int .i64 b, .int .i64 c, .int .i64 d] 32)).alloc (.cells #[.int .i64 x, .int .i64 y] 25)).alloc (.cells #[.int .i64 u, .int .i64 v] 25)) = W at *
        go_cut [33] (fun q wx => q = .bool (!boxOk x y u v) ∧ ArgsB w wx [[.int .i64 a, .int .i64 b, .int .i64 c, .int .i64 d], [.int .i64 x, .int .i64 y], [.int .i64 u, .int .i64 v]])
        case first =>
          have a0 := (T0.b 0 rfl).c 0 rfl; have a1 := (T0.b 0 rfl).c 1 rfl; have a2 := (T0.b 0 rfl).c 2 rfl; have a3 := (T0.b 0 rfl).c 3 rfl; have b0 := (T0.b 1 rfl).c 0 rfl; have b1 := (T0.b 1 rfl).c 1 rfl; have c0 := (T0.b 2 rfl).c 0 rfl; have c1 := (T0.b 2 rfl).c 1 rfl; have alt := (T0.b 2 rfl).lt; simp only [Nat.add_zero] at a0 a1 a2 a3
          go_wp2_with fail
          refine (implSegOk_any _ _ _ _ true h1 _).mono ?_
          rintro e w1 ⟨rfl, hB⟩
          replace T0 := T0.step hB
          clear hB a0 a1 a2 a3 b0 b1 c0 c1 alt
          have a0 := (T0.b 0 rfl).c 0 rfl; have a1 := (T0.b 0 rfl).c 1 rfl; have a2 := (T0.b 0 rfl).c 2 rfl; have a3 := (T0.b 0 rfl).c 3 rfl; have b0 := (T0.b 1 rfl).c 0 rfl; have b1 := (T0.b 1 rfl).c 1 rfl; have c0 := (T0.b 2 rfl).c 0 rfl; have c1 := (T0.b 2 rfl).c 1 rfl; have alt := (T0.b 2 rfl).lt; simp only [Nat.add_zero] at a0 a1 a2 a3
          go_wp2_with fail
          refine (implSpotOk_any _ _ true h2 _).mono ?_
          rintro e w2 ⟨rfl, hB⟩
          replace T0 := T0.step hB
          clear hB a0 a1 a2 a3 b0 b1 c0 c1 alt
          have a0 := (T0.b 0 rfl).c 0 rfl; have a1 := (T0.b 0 rfl).c 1 rfl; have a2 := (T0.b 0 rfl).c 2 rfl; have a3 := (T0.b 0 rfl).c 3 rfl; have b0 := (T0.b 1 rfl).c 0 rfl; have b1 := (T0.b 1 rfl).c 1 rfl; have c0 := (T0.b 2 rfl).c 0 rfl; have c1 := (T0.b 2 rfl).c 1 rfl; have alt := (T0.b 2 rfl).lt; simp only [Nat.add_zero] at a0 a1 a2 a3
          go_wp2_with fail
          refine (implSpotOk_any _ _ true h3 _).mono ?_
          rintro e w3 ⟨rfl, hB⟩
          replace T0 := T0.step hB
          clear hB a0 a1 a2 a3 b0 b1 c0 c1 alt
          have a0 := (T0.b 0 rfl).c 0 rfl; have a1 := (T0.b 0 rfl).c 1 rfl; have a2 := (T0.b 0 rfl).c 2 rfl; have a3 := (T0.b 0 rfl).c 3 rfl; have b0 := (T0.b 1 rfl).c 0 rfl; have b1 := (T0.b 1 rfl).c 1 rfl; have c0 := (T0.b 2 rfl).c 0 rfl; have c1 := (T0.b 2 rfl).c 1 rfl; have alt := (T0.b 2 rfl).lt; simp only [Nat.add_zero] at a0 a1 a2 a3
          go_wp2
          all_goals go_meet
          all_goals refine ⟨?_, T0⟩
          all_goals (apply congrArg Value.bool; unfold boxOk; rw [h2, h3, Bool.eq_iff_iff]; simp; try omega)
        case rest =>
          clear T0
          obtain ⟨hq, T0⟩ := hcut
          subst hq
          have a0 := (T0.b 0 rfl).c 0 rfl; have a1 := (T0.b 0 rfl).c 1 rfl; have a2 := (T0.b 0 rfl).c 2 rfl; have a3 := (T0.b 0 rfl).c 3 rfl; have b0 := (T0.b 1 rfl).c 0 rfl; have b1 := (T0.b 1 rfl).c 1 rfl; have c0 := (T0.b 2 rfl).c 0 rfl; have c1 := (T0.b 2 rfl).c 1 rfl; have alt := (T0.b 2 rfl).lt; simp only [Nat.add_zero] at a0 a1 a2 a3
          obtain ⟨O, hO⟩ : ∃ O, boxOk x y u v = O := ⟨_, rfl⟩
          rw [hO]
          cases O
          · go_wp2
            go_ret
            exact ⟨ret_bool (by rw [← hz]; simp [meetsB, hO]), T0.below⟩
          · go_upto_region 3 with fail
            go_cut [71] (fun q wx => q = .bool (boxOut a b c d x y u v) ∧ ArgsB w wx [[.int .i64 a, .int .i64 b, .int .i64 c, .int .i64 d], [.int .i64 x, .int .i64 y], [.int .i64 u, .int .i64 v]])
            case first =>
              go_wp2
              all_goals go_meet
              all_goals refine ⟨?_, T0⟩
              all_goals (apply congrArg Value.bool; unfold boxOut; rw [Bool.eq_iff_iff]; simp; try omega)
            case rest =>
              clear a0 a1 a2 a3 b0 b1 c0 c1 alt T0
              obtain ⟨hq, T0⟩ := hcut
              subst hq
              have a0 := (T0.b 0 rfl).c 0 rfl; have a1 := (T0.b 0 rfl).c 1 rfl; have a2 := (T0.b 0 rfl).c 2 rfl; have a3 := (T0.b 0 rfl).c 3 rfl; have b0 := (T0.b 1 rfl).c 0 rfl; have b1 := (T0.b 1 rfl).c 1 rfl; have c0 := (T0.b 2 rfl).c 0 rfl; have c1 := (T0.b 2 rfl).c 1 rfl; have alt := (T0.b 2 rfl).lt; simp only [Nat.add_zero] at a0 a1 a2 a3
              obtain ⟨M, hM⟩ : ∃ M, boxOut a b c d x y u v = M := ⟨_, rfl⟩
              rw [hM]
              cases M
              · go_wp2_with fail
                refine (parts_any a b c d x y u v x v u y ha hb hc hd hx hy hu hv hx hv hu hy wc.heap.size _ (Blk.new wc [.int .i64 x, .int .i64 y, .int .i64 u, .int .i64 v, .int .i64 x, .int .i64 v, .int .i64 u, .int .i64 y] 25 rfl)).mono ?_
                rintro e w4 ⟨rfl, hB⟩
                have HB : Below w.heap.size w w4 := (T0.alloc _).below.trans (hB.mono (T0.alloc _).below.size)
                clear hB a0 a1 a2 a3 b0 b1 c0 c1 alt T0
                go_wp2
                go_ret
                exact ⟨ret_bool (by rw [← hz]; simp [meetsB, h1, hO, hM]), HB⟩
              · go_wp2
                go_ret
                exact ⟨ret_bool (by rw [← hz]; simp [meetsB, hM]), T0.below⟩
      · have h3 := Bool.eq_false_iff.2 h3
        go_enter Try.func17, Try.ntmps17
        go_wp2_with fail
        refine (implSegOk_any _ _ _ _ true h1 _).mono ?_
        rintro e w1 ⟨rfl, hB⟩
        replace T0 := T0.step hB
        clear hB
        have a0 := (T0.b 0 rfl).c 0 rfl; have a1 := (T0.b 0 rfl).c 1 rfl; have a2 := (T0.b 0 rfl).c 2 rfl; have a3 := (T0.b 0 rfl).c 3 rfl; have b0 := (T0.b 1 rfl).c 0 rfl; have b1 := (T0.b 1 rfl).c 1 rfl; have c0 := (T0.b 2 rfl).c 0 rfl; have c1 := (T0.b 2 rfl).c 1 rfl; have alt := (T0.b 2 rfl).lt; simp only [Nat.add_zero] at a0 a1 a2 a3
        go_wp2_with fail
        refine (implSpotOk_any _ _ true h2 _).mono ?_
        rintro e w2 ⟨rfl, hB⟩
        replace T0 := T0.step hB
        clear hB a0 a1 a2 a3 b0 b1 c0 c1 alt
        have a0 := (T0.b 0 rfl).c 0 rfl; have a1 := (T0.b 0 rfl).c 1 rfl; have a2 := (T0.b 0 rfl).c 2 rfl; have a3 := (T0.b 0 rfl).c 3 rfl; have b0 := (T0.b 1 rfl).c 0 rfl; have b1 := (T0.b 1 rfl).c 1 rfl; have c0 := (T0.b 2 rfl).c 0 rfl; have c1 := (T0.b 2 rfl).c 1 rfl; have alt := (T0.b 2 rfl).lt; simp only [Nat.add_zero] at a0 a1 a2 a3
        go_wp2_with fail
        refine (implSpotOk_any _ _ false h3 _).mono ?_
        rintro e w3 ⟨rfl, hB⟩
        replace T0 := T0.step hB
        clear hB a0 a1 a2 a3 b0 b1 c0 c1 alt
        go_wp2
        go_ret
        exact ⟨ret_bool (by rw [← hz]; simp [meetsB, boxOk, h1, h2, h3]), T0.below⟩
    · have h2 := Bool.eq_false_iff.2 h2
      go_enter Try.func17, Try.ntmps17
      go_wp2_with fail
      refine (implSegOk_any _ _ _ _ true h1 _).mono ?_
      rintro e w1 ⟨rfl, hB⟩
      replace T0 := T0.step hB
      clear hB
      have a0 := (T0.b 0 rfl).c 0 rfl; have a1 := (T0.b 0 rfl).c 1 rfl; have a2 := (T0.b 0 rfl).c 2 rfl; have a3 := (T0.b 0 rfl).c 3 rfl; have b0 := (T0.b 1 rfl).c 0 rfl; have b1 := (T0.b 1 rfl).c 1 rfl; have c0 := (T0.b 2 rfl).c 0 rfl; have c1 := (T0.b 2 rfl).c 1 rfl; have alt := (T0.b 2 rfl).lt; simp only [Nat.add_zero] at a0 a1 a2 a3
      go_wp2_with fail
      refine (implSpotOk_any _ _ false h2 _).mono ?_
      rintro e w2 ⟨rfl, hB⟩
      replace T0 := T0.step hB
      clear hB a0 a1 a2 a3 b0 b1 c0 c1 alt
      go_wp2
      go_ret
      exact ⟨ret_bool (by rw [← hz]; simp [meetsB, boxOk, h1, h2]), T0.below⟩
  · have h1 := Bool.eq_false_iff.2 h1
    go_enter Try.func17, Try.ntmps17
    go_wp2_with fail
    refine (implSegOk_any _ _ _ _ false h1 _).mono ?_
    rintro e w1 ⟨rfl, hB⟩
    replace T0 := T0.step hB
    clear hB
    go_wp2
    go_ret
    exact ⟨ret_bool (by rw [← hz]; simp [meetsB, boxOk, h1]), T0.below⟩
end Go.Proofs.Ytenhadlhfnaocaa
