/- Part 9 of the walks that the proof leans on. -/
import Derived.Test.YtnnojeggjnddpaaPart8
import Derived.Test.YtnnojeggjnddpaaPart1
import Derived.Test.YtnnojeggjnddpaaPart6
import Derived.Test.YtnnojeggjnddpaaPart7
import Derived.Test.YtnnojeggjnddpaaPart3
/- A point read from its text: the program's. -/
namespace Go.Proofs.Ytnnojeggjnddpaa
open Go.RowKit
theorem pt_split (x y z : Int) : ptL x y z = (txL x ++ 44 :: txL y) ++ unL z := by unfold ptL; simp
theorem pt_no47 (x y : Int) : 47 ∉ txL x ++ 44 :: txL y := by
  intro h
  rcases List.mem_append.1 h with h | h
  · exact txL_47 x h
  · rcases List.mem_cons.1 h with h | h
    · omega
    · exact txL_47 y h
/-- What is found where a point is written. -/
theorem pt_cut {l : List Nat} {x y z : Int} (h : l = ptL x y z) : cutA 47 l = txL x ++ 44 :: txL y ∧ cutA 44 (cutA 47 l) = txL x ∧ cutB 44 (cutA 47 l) = txL y ∧ (47 ∈ l → z ≠ 1 ∧ cutB 47 l = txL z) ∧ (47 ∉ l → z = 1) := by
  rw [pt_split] at h
  obtain ⟨e1, e2, e3⟩ := ra_cut (pt_no47 x y) h
  obtain ⟨e4, e5⟩ := cut_here (q := txL y) (txL_44 x)
  exact ⟨e1, by rw [e1, e4], by rw [e1, e5], e2, e3⟩
theorem comma_in {a : List Nat} {y : Int} (h : cutB 44 a = txL y) : 44 ∈ a := Classical.byContradiction fun h2 => tx_ne y (by rw [← h]; exact (cut_not h2).2)
set_option maxRecDepth 100000 in
set_option maxHeartbeats 8000000 in
theorem implReadPoint_any (s : ByteArray) (hm : s.size ≤ 9223372036854775807) (w : World) : Calls Try.prog 28 #[.string s] w (VP (rpV (btL s)) w) := by
  obtain ⟨z, ok, hk, CU⟩ := cutUnder_any s hm
  obtain ⟨x, xk, hx, xy, xn, hrx⟩ := rd_ex (cutA 44 (cutA 47 (btL s)))
  obtain ⟨y, yk, hy, yy, yn, hry⟩ := rd_ex (cutB 44 (cutA 47 (btL s)))
  have hmA := (cut_sz 47 s hm).1
  have CK := cut_any (strL (cutA 47 (btL s))) 44 hmA
  have CX := implRead_any (strL (cutA 44 (btL (strL (cutA 47 (btL s)))))) (cut_sz 44 _ hmA).1
  have CY := implRead_any (strL (cutB 44 (btL (strL (cutA 47 (btL s)))))) (cut_sz 44 _ hmA).2
  rw [show (44 : UInt8).toNat = 44 from rfl] at CK
  rw [(cut_bt 44 _).1] at CX
  rw [(cut_bt 44 _).2] at CY
  rw [(cut_bt 47 s).1] at CK CX CY
  rw [hrx] at CX
  rw [hry] at CY
  obtain ⟨hz, ey, en⟩ := hk
  have CQ := pright_det x y z hx hy hz
  have HA : ok = false → rpV (btL s) = .tuple #[PV 0 0 0, .bool false] := fun h1 => rpV_no fun x' y' z' h => en h1 _ z' h.2.2.1 (pt_no47 x' y') (by rw [h.2.2.2.2, pt_split])
  have HBx : xk = false → rpV (btL s) = .tuple #[PV 0 0 0, .bool false] := fun h1 => rpV_no fun x' y' z' h => xn h1 x' h.1 (pt_cut h.2.2.2.2).2.1
  have HCy : yk = false → rpV (btL s) = .tuple #[PV 0 0 0, .bool false] := fun h1 => rpV_no fun x' y' z' h => yn h1 y' h.2.1 (pt_cut h.2.2.2.2).2.2.1
  have HD : ok = true → xk = true → yk = true → btL s = ptL x y z := fun h1 h2 h3 => by
    have e1 := ey h1
    have e2 := (cut_in (comma_in (yy h3))).1
    rw [xy h2, yy h3] at e2
    rw [e2] at e1
    rw [pt_split]
    exact e1
  have HE : ok = true → xk = true → yk = true → ptB x y z = false → rpV (btL s) = .tuple #[PV 0 0 0, .bool false] := fun h1 h2 h3 h4 => rpV_no fun x' y' z' h => by
    obtain ⟨e1, e2, e3⟩ := pt_one ((HD h1 h2 h3).symm.trans h.2.2.2.2)
    have h5 := h.2.2.2.1
    rw [← e1, ← e2, ← e3, h4] at h5
    exact Bool.noConfusion h5
  have HF : ok = true → xk = true → yk = true → ptB x y z = true → rpV (btL s) = .tuple #[PV x y z, .bool true] := fun h1 h2 h3 h4 => rpV_yes ⟨hx, hy, hz, h4, HD h1 h2 h3⟩
  generalize strL (cutA 44 (cutA 47 (btL s))) = XT at *
  generalize strL (cutB 44 (cutA 47 (btL s))) = YT at *
  generalize decide (44 ∈ cutA 47 (btL s)) = fd at *
  generalize strL (cutA 47 (btL s)) = A at *
  clear hrx hry hm hmA ey en xy xn yy yn HD
  have HB : Below w.heap.size w (w.alloc (Obj.cells #[.int .u64 0, .int .u64 0, .int .u64 0, .int .u64 0, .int .u64 0, .int .u64 0, .int .u64 0, .int .u64 0, .int .u64 0, .int .u64 0, .int .u64 0, .int .u64 0] 47)) := (Below.refl _ _).alloc (Nat.le_refl _) _
  have R0 : Blk (w.alloc (Obj.cells #[.int .u64 0, .int .u64 0, .int .u64 0, .int .u64 0, .int .u64 0, .int .u64 0, .int .u64 0, .int .u64 0, .int .u64 0, .int .u64 0, .int .u64 0, .int .u64 0] 47)) w.heap.size [.int .u64 0, .int .u64 0, .int .u64 0, .int .u64 0, .int .u64 0, .int .u64 0, .int .u64 0, .int .u64 0, .int .u64 0, .int .u64 0, .int .u64 0, .int .u64 0] := Blk.new w [.int .u64 0, .int .u64 0, .int .u64 0, .int .u64 0, .int .u64 0, .int .u64 0, .int .u64 0, .int .u64 0, .int .u64 0, .int .u64 0, .int .u64 0, .int .u64 0] _ rfl
  cases ok
  · have HV : Hid (rpV (btL s) = .tuple #[.agg #[.int .u64 0, .int .u64 0, .int .u64 0, .int .u64 0, .int .u64 0, .int .u64 0, .int .u64 0, .int .u64 0, .int .u64 0, .int .u64 0, .int .u64 0, .int .u64 0], .bool false]) := HA rfl
    clear HA HBx HCy HE HF CK CX CY CQ
    go_enter Try.func28, Try.ntmps28
    go_wp2_with fail
    generalize (w.alloc (Obj.cells #[.int .u64 0, .int .u64 0, .int .u64 0, .int .u64 0, .int .u64 0, .int .u64 0, .int .u64 0, .int .u64 0, .int .u64 0, .int .u64 0, .int .u64 0, .int .u64 0] 47)) = W0 at *
    refine (CU _).mono ?_
    rintro e w1 ⟨rfl, hB⟩
    replace HB := HB.trans (hB.mono HB.size)
    replace R0 := R0.step hB
    clear hB
    clear CU
    have X1 := Blk.new w1 [.int .u64 (ww3 z), .int .u64 (ww2 z), .int .u64 (ww1 z), .int .u64 (ww0 z)] 26 rfl
    rw [show ([.int .u64 (ww3 z), .int .u64 (ww2 z), .int .u64 (ww1 z), .int .u64 (ww0 z)] : List Value).toArray = #[.int .u64 (ww3 z), .int .u64 (ww2 z), .int .u64 (ww1 z), .int .u64 (ww0 z)] from rfl] at X1
    replace HB := HB.alloc HB.size (Obj.cells #[.int .u64 (ww3 z), .int .u64 (ww2 z), .int .u64 (ww1 z), .int .u64 (ww0 z)] 26)
    replace R0 := R0.alloc (Obj.cells #[.int .u64 (ww3 z), .int .u64 (ww2 z), .int .u64 (ww1 z), .int .u64 (ww0 z)] 26)
    clear X1
    have dl := R0.lt
    have o0 := R0.c 0 rfl; have q0 := R0.f 0 rfl; have o1 := R0.c 1 rfl; have q1 := R0.f 1 rfl; have o2 := R0.c 2 rfl; have q2 := R0.f 2 rfl; have o3 := R0.c 3 rfl; have q3 := R0.f 3 rfl; have o4 := R0.c 4 rfl; have q4 := R0.f 4 rfl; have o5 := R0.c 5 rfl; have q5 := R0.f 5 rfl; have o6 := R0.c 6 rfl; have q6 := R0.f 6 rfl; have o7 := R0.c 7 rfl; have q7 := R0.f 7 rfl; have o8 := R0.c 8 rfl; have q8 := R0.f 8 rfl; have o9 := R0.c 9 rfl; have q9 := R0.f 9 rfl; have o10 := R0.c 10 rfl; have q10 := R0.f 10 rfl; have o11 := R0.c 11 rfl; have q11 := R0.f 11 rfl
    go_wp2
    refine bodyPost_ret (v := .tuple #[.agg #[.int .u64 0, .int .u64 0, .int .u64 0, .int .u64 0, .int .u64 0, .int .u64 0, .int .u64 0, .int .u64 0, .int .u64 0, .int .u64 0, .int .u64 0, .int .u64 0], .bool false]) (by simp [results, Try.results28, go_sem, o0, o1, o2, o3, o4, o5, o6, o7, o8, o9, o10, o11]) rfl ?_
    refine ⟨by rw [HV.out], ?_⟩
    repeat' (refine Below.setCell ?_ (by simp; try omega) _)
    exact HB
  · cases xk
    · have HV : Hid (rpV (btL s) = .tuple #[.agg #[.int .u64 0, .int .u64 0, .int .u64 0, .int .u64 0, .int .u64 0, .int .u64 0, .int .u64 0, .int .u64 0, .int .u64 0, .int .u64 0, .int .u64 0, .int .u64 0], .bool false]) := HBx rfl
      clear HA HBx HCy HE HF CY CQ
      go_enter Try.func28, Try.ntmps28
      go_wp2_with fail
      generalize (w.alloc (Obj.cells #[.int .u64 0, .int .u64 0, .int .u64 0, .int .u64 0, .int .u64 0, .int .u64 0, .int .u64 0, .int .u64 0, .int .u64 0, .int .u64 0, .int .u64 0, .int .u64 0] 47)) = W0 at *
      refine (CU _).mono ?_
      rintro e w1 ⟨rfl, hB⟩
      replace HB := HB.trans (hB.mono HB.size)
      replace R0 := R0.step hB
      clear hB
      clear CU
      have X1 := Blk.new w1 [.int .u64 (ww3 z), .int .u64 (ww2 z), .int .u64 (ww1 z), .int .u64 (ww0 z)] 26 rfl
      rw [show ([.int .u64 (ww3 z), .int .u64 (ww2 z), .int .u64 (ww1 z), .int .u64 (ww0 z)] : List Value).toArray = #[.int .u64 (ww3 z), .int .u64 (ww2 z), .int .u64 (ww1 z), .int .u64 (ww0 z)] from rfl] at X1
      replace HB := HB.alloc HB.size (Obj.cells #[.int .u64 (ww3 z), .int .u64 (ww2 z), .int .u64 (ww1 z), .int .u64 (ww0 z)] 26)
      replace R0 := R0.alloc (Obj.cells #[.int .u64 (ww3 z), .int .u64 (ww2 z), .int .u64 (ww1 z), .int .u64 (ww0 z)] 26)
      go_wp2_with fail
      generalize w1.heap.size = g1 at *
      generalize (w1.alloc (Obj.cells #[.int .u64 (ww3 z), .int .u64 (ww2 z), .int .u64 (ww1 z), .int .u64 (ww0 z)] 26)) = W1 at *
      refine (CK _).mono ?_
      rintro e w2 ⟨rfl, hB⟩
      replace HB := HB.trans (hB.mono HB.size)
      replace R0 := R0.step hB
      replace X1 := X1.step hB
      clear hB
      clear CK
      go_wp2_with fail
      refine (CX _).mono ?_
      rintro e w3 ⟨rfl, hB⟩
      replace HB := HB.trans (hB.mono HB.size)
      replace R0 := R0.step hB
      replace X1 := X1.step hB
      clear hB
      clear CX
      have X2 := Blk.new w3 [.int .u64 (ww3 x), .int .u64 (ww2 x), .int .u64 (ww1 x), .int .u64 (ww0 x)] 26 rfl
      rw [show ([.int .u64 (ww3 x), .int .u64 (ww2 x), .int .u64 (ww1 x), .int .u64 (ww0 x)] : List Value).toArray = #[.int .u64 (ww3 x), .int .u64 (ww2 x), .int .u64 (ww1 x), .int .u64 (ww0 x)] from rfl] at X2
      replace HB := HB.alloc HB.size (Obj.cells #[.int .u64 (ww3 x), .int .u64 (ww2 x), .int .u64 (ww1 x), .int .u64 (ww0 x)] 26)
      replace R0 := R0.alloc (Obj.cells #[.int .u64 (ww3 x), .int .u64 (ww2 x), .int .u64 (ww1 x), .int .u64 (ww0 x)] 26)
      replace X1 := X1.alloc (Obj.cells #[.int .u64 (ww3 x), .int .u64 (ww2 x), .int .u64 (ww1 x), .int .u64 (ww0 x)] 26)
      clear X1 X2
      have dl := R0.lt
      have o0 := R0.c 0 rfl; have q0 := R0.f 0 rfl; have o1 := R0.c 1 rfl; have q1 := R0.f 1 rfl; have o2 := R0.c 2 rfl; have q2 := R0.f 2 rfl; have o3 := R0.c 3 rfl; have q3 := R0.f 3 rfl; have o4 := R0.c 4 rfl; have q4 := R0.f 4 rfl; have o5 := R0.c 5 rfl; have q5 := R0.f 5 rfl; have o6 := R0.c 6 rfl; have q6 := R0.f 6 rfl; have o7 := R0.c 7 rfl; have q7 := R0.f 7 rfl; have o8 := R0.c 8 rfl; have q8 := R0.f 8 rfl; have o9 := R0.c 9 rfl; have q9 := R0.f 9 rfl; have o10 := R0.c 10 rfl; have q10 := R0.f 10 rfl; have o11 := R0.c 11 rfl; have q11 := R0.f 11 rfl
      go_wp2
      refine bodyPost_ret (v := .tuple #[.agg #[.int .u64 0, .int .u64 0, .int .u64 0, .int .u64 0, .int .u64 0, .int .u64 0, .int .u64 0, .int .u64 0, .int .u64 0, .int .u64 0, .int .u64 0, .int .u64 0], .bool false]) (by simp [results, Try.results28, go_sem, o0, o1, o2, o3, o4, o5, o6, o7, o8, o9, o10, o11]) rfl ?_
      refine ⟨by rw [HV.out], ?_⟩
      repeat' (refine Below.setCell ?_ (by simp; try omega) _)
      exact HB
    · cases yk
      · have HV : Hid (rpV (btL s) = .tuple #[.agg #[.int .u64 0, .int .u64 0, .int .u64 0, .int .u64 0, .int .u64 0, .int .u64 0, .int .u64 0, .int .u64 0, .int .u64 0, .int .u64 0, .int .u64 0, .int .u64 0], .bool false]) := HCy rfl
        clear HA HBx HCy HE HF CQ
        go_enter Try.func28, Try.ntmps28
        go_wp2_with fail
        generalize (w.alloc (Obj.cells #[.int .u64 0, .int .u64 0, .int .u64 0, .int .u64 0, .int .u64 0, .int .u64 0, .int .u64 0, .int .u64 0, .int .u64 0, .int .u64 0, .int .u64 0, .int .u64 0] 47)) = W0 at *
        refine (CU _).mono ?_
        rintro e w1 ⟨rfl, hB⟩
        replace HB := HB.trans (hB.mono HB.size)
        replace R0 := R0.step hB
        clear hB
        clear CU
        have X1 := Blk.new w1 [.int .u64 (ww3 z), .int .u64 (ww2 z), .int .u64 (ww1 z), .int .u64 (ww0 z)] 26 rfl
        rw [show ([.int .u64 (ww3 z), .int .u64 (ww2 z), .int .u64 (ww1 z), .int .u64 (ww0 z)] : List Value).toArray = #[.int .u64 (ww3 z), .int .u64 (ww2 z), .int .u64 (ww1 z), .int .u64 (ww0 z)] from rfl] at X1
        replace HB := HB.alloc HB.size (Obj.cells #[.int .u64 (ww3 z), .int .u64 (ww2 z), .int .u64 (ww1 z), .int .u64 (ww0 z)] 26)
        replace R0 := R0.alloc (Obj.cells #[.int .u64 (ww3 z), .int .u64 (ww2 z), .int .u64 (ww1 z), .int .u64 (ww0 z)] 26)
        go_wp2_with fail
        generalize w1.heap.size = g1 at *
        generalize (w1.alloc (Obj.cells #[.int .u64 (ww3 z), .int .u64 (ww2 z), .int .u64 (ww1 z), .int .u64 (ww0 z)] 26)) = W1 at *
        refine (CK _).mono ?_
        rintro e w2 ⟨rfl, hB⟩
        replace HB := HB.trans (hB.mono HB.size)
        replace R0 := R0.step hB
        replace X1 := X1.step hB
        clear hB
        clear CK
        go_wp2_with fail
        refine (CX _).mono ?_
        rintro e w3 ⟨rfl, hB⟩
        replace HB := HB.trans (hB.mono HB.size)
        replace R0 := R0.step hB
        replace X1 := X1.step hB
        clear hB
        clear CX
        have X2 := Blk.new w3 [.int .u64 (ww3 x), .int .u64 (ww2 x), .int .u64 (ww1 x), .int .u64 (ww0 x)] 26 rfl
        rw [show ([.int .u64 (ww3 x), .int .u64 (ww2 x), .int .u64 (ww1 x), .int .u64 (ww0 x)] : List Value).toArray = #[.int .u64 (ww3 x), .int .u64 (ww2 x), .int .u64 (ww1 x), .int .u64 (ww0 x)] from rfl] at X2
        replace HB := HB.alloc HB.size (Obj.cells #[.int .u64 (ww3 x), .int .u64 (ww2 x), .int .u64 (ww1 x), .int .u64 (ww0 x)] 26)
        replace R0 := R0.alloc (Obj.cells #[.int .u64 (ww3 x), .int .u64 (ww2 x), .int .u64 (ww1 x), .int .u64 (ww0 x)] 26)
        replace X1 := X1.alloc (Obj.cells #[.int .u64 (ww3 x), .int .u64 (ww2 x), .int .u64 (ww1 x), .int .u64 (ww0 x)] 26)
        go_wp2_with fail
        generalize w3.heap.size = g3 at *
        generalize (w3.alloc (Obj.cells #[.int .u64 (ww3 x), .int .u64 (ww2 x), .int .u64 (ww1 x), .int .u64 (ww0 x)] 26)) = W3 at *
        refine (CY _).mono ?_
        rintro e w4 ⟨rfl, hB⟩
        replace HB := HB.trans (hB.mono HB.size)
        replace R0 := R0.step hB
        replace X1 := X1.step hB
        replace X2 := X2.step hB
        clear hB
        clear CY
        have X3 := Blk.new w4 [.int .u64 (ww3 y), .int .u64 (ww2 y), .int .u64 (ww1 y), .int .u64 (ww0 y)] 26 rfl
        rw [show ([.int .u64 (ww3 y), .int .u64 (ww2 y), .int .u64 (ww1 y), .int .u64 (ww0 y)] : List Value).toArray = #[.int .u64 (ww3 y), .int .u64 (ww2 y), .int .u64 (ww1 y), .int .u64 (ww0 y)] from rfl] at X3
        replace HB := HB.alloc HB.size (Obj.cells #[.int .u64 (ww3 y), .int .u64 (ww2 y), .int .u64 (ww1 y), .int .u64 (ww0 y)] 26)
        replace R0 := R0.alloc (Obj.cells #[.int .u64 (ww3 y), .int .u64 (ww2 y), .int .u64 (ww1 y), .int .u64 (ww0 y)] 26)
        replace X1 := X1.alloc (Obj.cells #[.int .u64 (ww3 y), .int .u64 (ww2 y), .int .u64 (ww1 y), .int .u64 (ww0 y)] 26)
        replace X2 := X2.alloc (Obj.cells #[.int .u64 (ww3 y), .int .u64 (ww2 y), .int .u64 (ww1 y), .int .u64 (ww0 y)] 26)
        obtain ⟨c0, c1, c2, c3⟩ := X1.cs4
        obtain ⟨d0, d1, d2, d3⟩ := X2.cs4
        obtain ⟨e0, e1, e2, e3⟩ := X3.cs4
        go_upto_region 10 with fail
        clear c0 c1 c2 c3 d0 d1 d2 d3 e0 e1 e2 e3 X1 X2 X3
        have X4 := Blk.new (w4.alloc (Obj.cells #[.int .u64 (ww3 y), .int .u64 (ww2 y), .int .u64 (ww1 y), .int .u64 (ww0 y)] 26)) [.int .u64 (ww3 x), .int .u64 (ww2 x), .int .u64 (ww1 x), .int .u64 (ww0 x), .int .u64 (ww3 y), .int .u64 (ww2 y), .int .u64 (ww1 y), .int .u64 (ww0 y), .int .u64 (ww3 z), .int .u64 (ww2 z), .int .u64 (ww1 z), .int .u64 (ww0 z)] 47 (g := w4.heap.size + 1) (by simp)
        rw [show ([.int .u64 (ww3 x), .int .u64 (ww2 x), .int .u64 (ww1 x), .int .u64 (ww0 x), .int .u64 (ww3 y), .int .u64 (ww2 y), .int .u64 (ww1 y), .int .u64 (ww0 y), .int .u64 (ww3 z), .int .u64 (ww2 z), .int .u64 (ww1 z), .int .u64 (ww0 z)] : List Value).toArray = #[.int .u64 (ww3 x), .int .u64 (ww2 x), .int .u64 (ww1 x), .int .u64 (ww0 x), .int .u64 (ww3 y), .int .u64 (ww2 y), .int .u64 (ww1 y), .int .u64 (ww0 y), .int .u64 (ww3 z), .int .u64 (ww2 z), .int .u64 (ww1 z), .int .u64 (ww0 z)] from rfl] at X4
        replace HB := HB.alloc HB.size (Obj.cells #[.int .u64 (ww3 x), .int .u64 (ww2 x), .int .u64 (ww1 x), .int .u64 (ww0 x), .int .u64 (ww3 y), .int .u64 (ww2 y), .int .u64 (ww1 y), .int .u64 (ww0 y), .int .u64 (ww3 z), .int .u64 (ww2 z), .int .u64 (ww1 z), .int .u64 (ww0 z)] 47)
        replace R0 := R0.alloc (Obj.cells #[.int .u64 (ww3 x), .int .u64 (ww2 x), .int .u64 (ww1 x), .int .u64 (ww0 x), .int .u64 (ww3 y), .int .u64 (ww2 y), .int .u64 (ww1 y), .int .u64 (ww0 y), .int .u64 (ww3 z), .int .u64 (ww2 z), .int .u64 (ww1 z), .int .u64 (ww0 z)] 47)
        generalize w4.heap.size + 1 = g5 at *
        generalize ((w4.alloc (Obj.cells #[.int .u64 (ww3 y), .int .u64 (ww2 y), .int .u64 (ww1 y), .int .u64 (ww0 y)] 26)).alloc (Obj.cells #[.int .u64 (ww3 x), .int .u64 (ww2 x), .int .u64 (ww1 x), .int .u64 (ww0 x), .int .u64 (ww3 y), .int .u64 (ww2 y), .int .u64 (ww1 y), .int .u64 (ww0 y), .int .u64 (ww3 z), .int .u64 (ww2 z), .int .u64 (ww1 z), .int .u64 (ww0 z)] 47)) = W5 at *
        clear X4
        have dl := R0.lt
        have o0 := R0.c 0 rfl; have q0 := R0.f 0 rfl; have o1 := R0.c 1 rfl; have q1 := R0.f 1 rfl; have o2 := R0.c 2 rfl; have q2 := R0.f 2 rfl; have o3 := R0.c 3 rfl; have q3 := R0.f 3 rfl; have o4 := R0.c 4 rfl; have q4 := R0.f 4 rfl; have o5 := R0.c 5 rfl; have q5 := R0.f 5 rfl; have o6 := R0.c 6 rfl; have q6 := R0.f 6 rfl; have o7 := R0.c 7 rfl; have q7 := R0.f 7 rfl; have o8 := R0.c 8 rfl; have q8 := R0.f 8 rfl; have o9 := R0.c 9 rfl; have q9 := R0.f 9 rfl; have o10 := R0.c 10 rfl; have q10 := R0.f 10 rfl; have o11 := R0.c 11 rfl; have q11 := R0.f 11 rfl
        go_wp2
        refine bodyPost_ret (v := .tuple #[.agg #[.int .u64 0, .int .u64 0, .int .u64 0, .int .u64 0, .int .u64 0, .int .u64 0, .int .u64 0, .int .u64 0, .int .u64 0, .int .u64 0, .int .u64 0, .int .u64 0], .bool false]) (by simp [results, Try.results28, go_sem, o0, o1, o2, o3, o4, o5, o6, o7, o8, o9, o10, o11]) rfl ?_
        refine ⟨by rw [HV.out], ?_⟩
        repeat' (refine Below.setCell ?_ (by simp; try omega) _)
        exact HB
      · cases hb : ptB x y z <;> rw [hb] at CQ
        · have HV : Hid (rpV (btL s) = .tuple #[.agg #[.int .u64 0, .int .u64 0, .int .u64 0, .int .u64 0, .int .u64 0, .int .u64 0, .int .u64 0, .int .u64 0, .int .u64 0, .int .u64 0, .int .u64 0, .int .u64 0], .bool false]) := HE rfl rfl rfl hb
          clear HA HBx HCy HE HF hb
          go_enter Try.func28, Try.ntmps28
          go_wp2_with fail
          generalize (w.alloc (Obj.cells #[.int .u64 0, .int .u64 0, .int .u64 0, .int .u64 0, .int .u64 0, .int .u64 0, .int .u64 0, .int .u64 0, .int .u64 0, .int .u64 0, .int .u64 0, .int .u64 0] 47)) = W0 at *
          refine (CU _).mono ?_
          rintro e w1 ⟨rfl, hB⟩
          replace HB := HB.trans (hB.mono HB.size)
          replace R0 := R0.step hB
          clear hB
          clear CU
          have X1 := Blk.new w1 [.int .u64 (ww3 z), .int .u64 (ww2 z), .int .u64 (ww1 z), .int .u64 (ww0 z)] 26 rfl
          rw [show ([.int .u64 (ww3 z), .int .u64 (ww2 z), .int .u64 (ww1 z), .int .u64 (ww0 z)] : List Value).toArray = #[.int .u64 (ww3 z), .int .u64 (ww2 z), .int .u64 (ww1 z), .int .u64 (ww0 z)] from rfl] at X1
          replace HB := HB.alloc HB.size (Obj.cells #[.int .u64 (ww3 z), .int .u64 (ww2 z), .int .u64 (ww1 z), .int .u64 (ww0 z)] 26)
          replace R0 := R0.alloc (Obj.cells #[.int .u64 (ww3 z), .int .u64 (ww2 z), .int .u64 (ww1 z), .int .u64 (ww0 z)] 26)
          go_wp2_with fail
          generalize w1.heap.size = g1 at *
          generalize (w1.alloc (Obj.cells #[.int .u64 (ww3 z), .int .u64 (ww2 z), .int .u64 (ww1 z), .int .u64 (ww0 z)] 26)) = W1 at *
          refine (CK _).mono ?_
          rintro e w2 ⟨rfl, hB⟩
          replace HB := HB.trans (hB.mono HB.size)
          replace R0 := R0.step hB
          replace X1 := X1.step hB
          clear hB
          clear CK
          go_wp2_with fail
          refine (CX _).mono ?_
          rintro e w3 ⟨rfl, hB⟩
          replace HB := HB.trans (hB.mono HB.size)
          replace R0 := R0.step hB
          replace X1 := X1.step hB
          clear hB
          clear CX
          have X2 := Blk.new w3 [.int .u64 (ww3 x), .int .u64 (ww2 x), .int .u64 (ww1 x), .int .u64 (ww0 x)] 26 rfl
          rw [show ([.int .u64 (ww3 x), .int .u64 (ww2 x), .int .u64 (ww1 x), .int .u64 (ww0 x)] : List Value).toArray = #[.int .u64 (ww3 x), .int .u64 (ww2 x), .int .u64 (ww1 x), .int .u64 (ww0 x)] from rfl] at X2
          replace HB := HB.alloc HB.size (Obj.cells #[.int .u64 (ww3 x), .int .u64 (ww2 x), .int .u64 (ww1 x), .int .u64 (ww0 x)] 26)
          replace R0 := R0.alloc (Obj.cells #[.int .u64 (ww3 x), .int .u64 (ww2 x), .int .u64 (ww1 x), .int .u64 (ww0 x)] 26)
          replace X1 := X1.alloc (Obj.cells #[.int .u64 (ww3 x), .int .u64 (ww2 x), .int .u64 (ww1 x), .int .u64 (ww0 x)] 26)
          go_wp2_with fail
          generalize w3.heap.size = g3 at *
          generalize (w3.alloc (Obj.cells #[.int .u64 (ww3 x), .int .u64 (ww2 x), .int .u64 (ww1 x), .int .u64 (ww0 x)] 26)) = W3 at *
          refine (CY _).mono ?_
          rintro e w4 ⟨rfl, hB⟩
          replace HB := HB.trans (hB.mono HB.size)
          replace R0 := R0.step hB
          replace X1 := X1.step hB
          replace X2 := X2.step hB
          clear hB
          clear CY
          have X3 := Blk.new w4 [.int .u64 (ww3 y), .int .u64 (ww2 y), .int .u64 (ww1 y), .int .u64 (ww0 y)] 26 rfl
          rw [show ([.int .u64 (ww3 y), .int .u64 (ww2 y), .int .u64 (ww1 y), .int .u64 (ww0 y)] : List Value).toArray = #[.int .u64 (ww3 y), .int .u64 (ww2 y), .int .u64 (ww1 y), .int .u64 (ww0 y)] from rfl] at X3
          replace HB := HB.alloc HB.size (Obj.cells #[.int .u64 (ww3 y), .int .u64 (ww2 y), .int .u64 (ww1 y), .int .u64 (ww0 y)] 26)
          replace R0 := R0.alloc (Obj.cells #[.int .u64 (ww3 y), .int .u64 (ww2 y), .int .u64 (ww1 y), .int .u64 (ww0 y)] 26)
          replace X1 := X1.alloc (Obj.cells #[.int .u64 (ww3 y), .int .u64 (ww2 y), .int .u64 (ww1 y), .int .u64 (ww0 y)] 26)
          replace X2 := X2.alloc (Obj.cells #[.int .u64 (ww3 y), .int .u64 (ww2 y), .int .u64 (ww1 y), .int .u64 (ww0 y)] 26)
          obtain ⟨c0, c1, c2, c3⟩ := X1.cs4
          obtain ⟨d0, d1, d2, d3⟩ := X2.cs4
          obtain ⟨e0, e1, e2, e3⟩ := X3.cs4
          go_upto_region 10 with fail
          clear c0 c1 c2 c3 d0 d1 d2 d3 e0 e1 e2 e3 X1 X2 X3
          have X4 := Blk.new (w4.alloc (Obj.cells #[.int .u64 (ww3 y), .int .u64 (ww2 y), .int .u64 (ww1 y), .int .u64 (ww0 y)] 26)) [.int .u64 (ww3 x), .int .u64 (ww2 x), .int .u64 (ww1 x), .int .u64 (ww0 x), .int .u64 (ww3 y), .int .u64 (ww2 y), .int .u64 (ww1 y), .int .u64 (ww0 y), .int .u64 (ww3 z), .int .u64 (ww2 z), .int .u64 (ww1 z), .int .u64 (ww0 z)] 47 (g := w4.heap.size + 1) (by simp)
          rw [show ([.int .u64 (ww3 x), .int .u64 (ww2 x), .int .u64 (ww1 x), .int .u64 (ww0 x), .int .u64 (ww3 y), .int .u64 (ww2 y), .int .u64 (ww1 y), .int .u64 (ww0 y), .int .u64 (ww3 z), .int .u64 (ww2 z), .int .u64 (ww1 z), .int .u64 (ww0 z)] : List Value).toArray = #[.int .u64 (ww3 x), .int .u64 (ww2 x), .int .u64 (ww1 x), .int .u64 (ww0 x), .int .u64 (ww3 y), .int .u64 (ww2 y), .int .u64 (ww1 y), .int .u64 (ww0 y), .int .u64 (ww3 z), .int .u64 (ww2 z), .int .u64 (ww1 z), .int .u64 (ww0 z)] from rfl] at X4
          replace HB := HB.alloc HB.size (Obj.cells #[.int .u64 (ww3 x), .int .u64 (ww2 x), .int .u64 (ww1 x), .int .u64 (ww0 x), .int .u64 (ww3 y), .int .u64 (ww2 y), .int .u64 (ww1 y), .int .u64 (ww0 y), .int .u64 (ww3 z), .int .u64 (ww2 z), .int .u64 (ww1 z), .int .u64 (ww0 z)] 47)
          replace R0 := R0.alloc (Obj.cells #[.int .u64 (ww3 x), .int .u64 (ww2 x), .int .u64 (ww1 x), .int .u64 (ww0 x), .int .u64 (ww3 y), .int .u64 (ww2 y), .int .u64 (ww1 y), .int .u64 (ww0 y), .int .u64 (ww3 z), .int .u64 (ww2 z), .int .u64 (ww1 z), .int .u64 (ww0 z)] 47)
          generalize w4.heap.size + 1 = g5 at *
          generalize ((w4.alloc (Obj.cells #[.int .u64 (ww3 y), .int .u64 (ww2 y), .int .u64 (ww1 y), .int .u64 (ww0 y)] 26)).alloc (Obj.cells #[.int .u64 (ww3 x), .int .u64 (ww2 x), .int .u64 (ww1 x), .int .u64 (ww0 x), .int .u64 (ww3 y), .int .u64 (ww2 y), .int .u64 (ww1 y), .int .u64 (ww0 y), .int .u64 (ww3 z), .int .u64 (ww2 z), .int .u64 (ww1 z), .int .u64 (ww0 z)] 47)) = W5 at *
          obtain ⟨c0, c1, c2, c3, c4, c5, c6, c7, c8, c9, c10, c11⟩ := X4.cs12
          go_wp2_with fail
          refine (CQ _).mono ?_
          rintro e w6 ⟨rfl, hB⟩
          replace HB := HB.trans (hB.mono HB.size)
          replace R0 := R0.step hB
          replace X4 := X4.step hB
          clear hB
          clear CQ c0 c1 c2 c3 c4 c5 c6 c7 c8 c9 c10 c11
          clear X4
          have dl := R0.lt
          have o0 := R0.c 0 rfl; have q0 := R0.f 0 rfl; have o1 := R0.c 1 rfl; have q1 := R0.f 1 rfl; have o2 := R0.c 2 rfl; have q2 := R0.f 2 rfl; have o3 := R0.c 3 rfl; have q3 := R0.f 3 rfl; have o4 := R0.c 4 rfl; have q4 := R0.f 4 rfl; have o5 := R0.c 5 rfl; have q5 := R0.f 5 rfl; have o6 := R0.c 6 rfl; have q6 := R0.f 6 rfl; have o7 := R0.c 7 rfl; have q7 := R0.f 7 rfl; have o8 := R0.c 8 rfl; have q8 := R0.f 8 rfl; have o9 := R0.c 9 rfl; have q9 := R0.f 9 rfl; have o10 := R0.c 10 rfl; have q10 := R0.f 10 rfl; have o11 := R0.c 11 rfl; have q11 := R0.f 11 rfl
          go_wp2
          refine bodyPost_ret (v := .tuple #[.agg #[.int .u64 0, .int .u64 0, .int .u64 0, .int .u64 0, .int .u64 0, .int .u64 0, .int .u64 0, .int .u64 0, .int .u64 0, .int .u64 0, .int .u64 0, .int .u64 0], .bool false]) (by simp [results, Try.results28, go_sem, o0, o1, o2, o3, o4, o5, o6, o7, o8, o9, o10, o11]) rfl ?_
          refine ⟨by rw [HV.out], ?_⟩
          repeat' (refine Below.setCell ?_ (by simp; try omega) _)
          exact HB
        · have HV : Hid (rpV (btL s) = .tuple #[.agg #[.int .u64 (ww3 x), .int .u64 (ww2 x), .int .u64 (ww1 x), .int .u64 (ww0 x), .int .u64 (ww3 y), .int .u64 (ww2 y), .int .u64 (ww1 y), .int .u64 (ww0 y), .int .u64 (ww3 z), .int .u64 (ww2 z), .int .u64 (ww1 z), .int .u64 (ww0 z)], .bool true]) := HF rfl rfl rfl hb
          clear HA HBx HCy HE HF hb
          go_enter Try.func28, Try.ntmps28
          go_wp2_with fail
          generalize (w.alloc (Obj.cells #[.int .u64 0, .int .u64 0, .int .u64 0, .int .u64 0, .int .u64 0, .int .u64 0, .int .u64 0, .int .u64 0, .int .u64 0, .int .u64 0, .int .u64 0, .int .u64 0] 47)) = W0 at *
          refine (CU _).mono ?_
          rintro e w1 ⟨rfl, hB⟩
          replace HB := HB.trans (hB.mono HB.size)
          replace R0 := R0.step hB
          clear hB
          clear CU
          have X1 := Blk.new w1 [.int .u64 (ww3 z), .int .u64 (ww2 z), .int .u64 (ww1 z), .int .u64 (ww0 z)] 26 rfl
          rw [show ([.int .u64 (ww3 z), .int .u64 (ww2 z), .int .u64 (ww1 z), .int .u64 (ww0 z)] : List Value).toArray = #[.int .u64 (ww3 z), .int .u64 (ww2 z), .int .u64 (ww1 z), .int .u64 (ww0 z)] from rfl] at X1
          replace HB := HB.alloc HB.size (Obj.cells #[.int .u64 (ww3 z), .int .u64 (ww2 z), .int .u64 (ww1 z), .int .u64 (ww0 z)] 26)
          replace R0 := R0.alloc (Obj.cells #[.int .u64 (ww3 z), .int .u64 (ww2 z), .int .u64 (ww1 z), .int .u64 (ww0 z)] 26)
          go_wp2_with fail
          generalize w1.heap.size = g1 at *
          generalize (w1.alloc (Obj.cells #[.int .u64 (ww3 z), .int .u64 (ww2 z), .int .u64 (ww1 z), .int .u64 (ww0 z)] 26)) = W1 at *
          refine (CK _).mono ?_
          rintro e w2 ⟨rfl, hB⟩
          replace HB := HB.trans (hB.mono HB.size)
          replace R0 := R0.step hB
          replace X1 := X1.step hB
          clear hB
          clear CK
          go_wp2_with fail
          refine (CX _).mono ?_
          rintro e w3 ⟨rfl, hB⟩
          replace HB := HB.trans (hB.mono HB.size)
          replace R0 := R0.step hB
          replace X1 := X1.step hB
          clear hB
          clear CX
          have X2 := Blk.new w3 [.int .u64 (ww3 x), .int .u64 (ww2 x), .int .u64 (ww1 x), .int .u64 (ww0 x)] 26 rfl
          rw [show ([.int .u64 (ww3 x), .int .u64 (ww2 x), .int .u64 (ww1 x), .int .u64 (ww0 x)] : List Value).toArray = #[.int .u64 (ww3 x), .int .u64 (ww2 x), .int .u64 (ww1 x), .int .u64 (ww0 x)] from rfl] at X2
          replace HB := HB.alloc HB.size (Obj.cells #[.int .u64 (ww3 x), .int .u64 (ww2 x), .int .u64 (ww1 x), .int .u64 (ww0 x)] 26)
          replace R0 := R0.alloc (Obj.cells #[.int .u64 (ww3 x), .int .u64 (ww2 x), .int .u64 (ww1 x), .int .u64 (ww0 x)] 26)
          replace X1 := X1.alloc (Obj.cells #[.int .u64 (ww3 x), .int .u64 (ww2 x), .int .u64 (ww1 x), .int .u64 (ww0 x)] 26)
          go_wp2_with fail
          generalize w3.heap.size = g3 at *
          generalize (w3.alloc (Obj.cells #[.int .u64 (ww3 x), .int .u64 (ww2 x), .int .u64 (ww1 x), .int .u64 (ww0 x)] 26)) = W3 at *
          refine (CY _).mono ?_
          rintro e w4 ⟨rfl, hB⟩
          replace HB := HB.trans (hB.mono HB.size)
          replace R0 := R0.step hB
          replace X1 := X1.step hB
          replace X2 := X2.step hB
          clear hB
          clear CY
          have X3 := Blk.new w4 [.int .u64 (ww3 y), .int .u64 (ww2 y), .int .u64 (ww1 y), .int .u64 (ww0 y)] 26 rfl
          rw [show ([.int .u64 (ww3 y), .int .u64 (ww2 y), .int .u64 (ww1 y), .int .u64 (ww0 y)] : List Value).toArray = #[.int .u64 (ww3 y), .int .u64 (ww2 y), .int .u64 (ww1 y), .int .u64 (ww0 y)] from rfl] at X3
          replace HB := HB.alloc HB.size (Obj.cells #[.int .u64 (ww3 y), .int .u64 (ww2 y), .int .u64 (ww1 y), .int .u64 (ww0 y)] 26)
          replace R0 := R0.alloc (Obj.cells #[.int .u64 (ww3 y), .int .u64 (ww2 y), .int .u64 (ww1 y), .int .u64 (ww0 y)] 26)
          replace X1 := X1.alloc (Obj.cells #[.int .u64 (ww3 y), .int .u64 (ww2 y), .int .u64 (ww1 y), .int .u64 (ww0 y)] 26)
          replace X2 := X2.alloc (Obj.cells #[.int .u64 (ww3 y), .int .u64 (ww2 y), .int .u64 (ww1 y), .int .u64 (ww0 y)] 26)
          obtain ⟨c0, c1, c2, c3⟩ := X1.cs4
          obtain ⟨d0, d1, d2, d3⟩ := X2.cs4
          obtain ⟨e0, e1, e2, e3⟩ := X3.cs4
          go_upto_region 10 with fail
          clear c0 c1 c2 c3 d0 d1 d2 d3 e0 e1 e2 e3 X1 X2 X3
          have X4 := Blk.new (w4.alloc (Obj.cells #[.int .u64 (ww3 y), .int .u64 (ww2 y), .int .u64 (ww1 y), .int .u64 (ww0 y)] 26)) [.int .u64 (ww3 x), .int .u64 (ww2 x), .int .u64 (ww1 x), .int .u64 (ww0 x), .int .u64 (ww3 y), .int .u64 (ww2 y), .int .u64 (ww1 y), .int .u64 (ww0 y), .int .u64 (ww3 z), .int .u64 (ww2 z), .int .u64 (ww1 z), .int .u64 (ww0 z)] 47 (g := w4.heap.size + 1) (by simp)
          rw [show ([.int .u64 (ww3 x), .int .u64 (ww2 x), .int .u64 (ww1 x), .int .u64 (ww0 x), .int .u64 (ww3 y), .int .u64 (ww2 y), .int .u64 (ww1 y), .int .u64 (ww0 y), .int .u64 (ww3 z), .int .u64 (ww2 z), .int .u64 (ww1 z), .int .u64 (ww0 z)] : List Value).toArray = #[.int .u64 (ww3 x), .int .u64 (ww2 x), .int .u64 (ww1 x), .int .u64 (ww0 x), .int .u64 (ww3 y), .int .u64 (ww2 y), .int .u64 (ww1 y), .int .u64 (ww0 y), .int .u64 (ww3 z), .int .u64 (ww2 z), .int .u64 (ww1 z), .int .u64 (ww0 z)] from rfl] at X4
          replace HB := HB.alloc HB.size (Obj.cells #[.int .u64 (ww3 x), .int .u64 (ww2 x), .int .u64 (ww1 x), .int .u64 (ww0 x), .int .u64 (ww3 y), .int .u64 (ww2 y), .int .u64 (ww1 y), .int .u64 (ww0 y), .int .u64 (ww3 z), .int .u64 (ww2 z), .int .u64 (ww1 z), .int .u64 (ww0 z)] 47)
          replace R0 := R0.alloc (Obj.cells #[.int .u64 (ww3 x), .int .u64 (ww2 x), .int .u64 (ww1 x), .int .u64 (ww0 x), .int .u64 (ww3 y), .int .u64 (ww2 y), .int .u64 (ww1 y), .int .u64 (ww0 y), .int .u64 (ww3 z), .int .u64 (ww2 z), .int .u64 (ww1 z), .int .u64 (ww0 z)] 47)
          generalize w4.heap.size + 1 = g5 at *
          generalize ((w4.alloc (Obj.cells #[.int .u64 (ww3 y), .int .u64 (ww2 y), .int .u64 (ww1 y), .int .u64 (ww0 y)] 26)).alloc (Obj.cells #[.int .u64 (ww3 x), .int .u64 (ww2 x), .int .u64 (ww1 x), .int .u64 (ww0 x), .int .u64 (ww3 y), .int .u64 (ww2 y), .int .u64 (ww1 y), .int .u64 (ww0 y), .int .u64 (ww3 z), .int .u64 (ww2 z), .int .u64 (ww1 z), .int .u64 (ww0 z)] 47)) = W5 at *
          obtain ⟨c0, c1, c2, c3, c4, c5, c6, c7, c8, c9, c10, c11⟩ := X4.cs12
          go_wp2_with fail
          refine (CQ _).mono ?_
          rintro e w6 ⟨rfl, hB⟩
          replace HB := HB.trans (hB.mono HB.size)
          replace R0 := R0.step hB
          replace X4 := X4.step hB
          clear hB
          clear CQ c0 c1 c2 c3 c4 c5 c6 c7 c8 c9 c10 c11
          obtain ⟨c0, c1, c2, c3, c4, c5, c6, c7, c8, c9, c10, c11⟩ := X4.cs12
          have dl := R0.lt
          have o0 := R0.c 0 rfl; have q0 := R0.f 0 rfl; have o1 := R0.c 1 rfl; have q1 := R0.f 1 rfl; have o2 := R0.c 2 rfl; have q2 := R0.f 2 rfl; have o3 := R0.c 3 rfl; have q3 := R0.f 3 rfl; have o4 := R0.c 4 rfl; have q4 := R0.f 4 rfl; have o5 := R0.c 5 rfl; have q5 := R0.f 5 rfl; have o6 := R0.c 6 rfl; have q6 := R0.f 6 rfl; have o7 := R0.c 7 rfl; have q7 := R0.f 7 rfl; have o8 := R0.c 8 rfl; have q8 := R0.f 8 rfl; have o9 := R0.c 9 rfl; have q9 := R0.f 9 rfl; have o10 := R0.c 10 rfl; have q10 := R0.f 10 rfl; have o11 := R0.c 11 rfl; have q11 := R0.f 11 rfl
          go_wp2
          refine bodyPost_ret (v := .tuple #[.agg #[.int .u64 (ww3 x), .int .u64 (ww2 x), .int .u64 (ww1 x), .int .u64 (ww0 x), .int .u64 (ww3 y), .int .u64 (ww2 y), .int .u64 (ww1 y), .int .u64 (ww0 y), .int .u64 (ww3 z), .int .u64 (ww2 z), .int .u64 (ww1 z), .int .u64 (ww0 z)], .bool true]) (by simp [results, Try.results28, go_sem, o0, o1, o2, o3, o4, o5, o6, o7, o8, o9, o10, o11]) rfl ?_
          refine ⟨by rw [HV.out], ?_⟩
          repeat' (refine Below.setCell ?_ (by simp; try omega) _)
          exact HB
end Go.Proofs.Ytnnojeggjnddpaa

/- A point's text in its parts: the reckoning; rows of texts of the call's own. -/
namespace Go.Proofs.Ytnnojeggjnddpaa
open Go.RowKit
/-- A byte that parts. -/
def mkB (b : Nat) : Bool := b == 44 || b == 47
/-- While a text is parted: what is done, each with the mark behind it, and what is under way. -/
structure PdI (l : List Nat) (c : Nat) (dn : List (List Nat × Nat)) (cur : List Nat) : Prop where
  flat : l.take c = dn.flatMap (fun p => p.1 ++ [p.2]) ++ cur
  mks : (l.take c).filter mkB = dn.map Prod.snd
  dl : dn.length ≤ c
  cl : cur.length ≤ c
theorem PdI.start (l : List Nat) : PdI l 0 [] [] := ⟨by simp, by simp, Nat.le_refl _, Nat.le_refl _⟩
theorem PdI.mark {l : List Nat} {c : Nat} {dn : List (List Nat × Nat)} {cur : List Nat} {b : Nat} (h : PdI l c dn cur) (hc : l[c]? = some b) (hm : mkB b = true) : PdI l (c + 1) (dn ++ [(cur, b)]) [] := by
  obtain ⟨h1, h2, h3, _⟩ := h
  refine ⟨?_, ?_, by simp; omega, by simp⟩
  · rw [List.take_add_one, hc, h1]; simp
  · rw [List.take_add_one, hc, List.filter_append, h2]; simp [hm]
theorem PdI.other {l : List Nat} {c : Nat} {dn : List (List Nat × Nat)} {cur : List Nat} {b : Nat} (h : PdI l c dn cur) (hc : l[c]? = some b) (hm : mkB b = false) : PdI l (c + 1) dn (cur ++ [b]) := by
  obtain ⟨h1, h2, h3, h4⟩ := h
  refine ⟨?_, ?_, by omega, by simp; omega⟩
  · rw [List.take_add_one, hc, h1]; simp
  · rw [List.take_add_one, hc, List.filter_append, h2]; simp [hm]
theorem not_mk {p : List Nat} (h : p.filter mkB = []) : 44 ∉ p ∧ 47 ∉ p := by
  constructor <;> intro h1
  · have : 44 ∈ p.filter mkB := List.mem_filter.2 ⟨h1, rfl⟩
    rw [h] at this
    cases this
  · have : 47 ∈ p.filter mkB := List.mem_filter.2 ⟨h1, rfl⟩
    rw [h] at this
    cases this
theorem tx_marks (z : Int) : (txL z).filter mkB = [] := by
  rw [List.filter_eq_nil_iff]
  intro b hb
  have := txL_mem hb
  unfold isD at this
  unfold mkB
  simp
  omega
theorem pt_marks (x y z : Int) : (ptL x y z).filter mkB = if z = 1 then [44] else [44, 47] := by
  unfold ptL unL
  by_cases h : z = 1
  · rw [if_pos h, if_pos h]
    simp [List.filter_append, tx_marks, mkB]
  · rw [if_neg h, if_neg h]
    simp [List.filter_append, tx_marks, mkB]
theorem pd_one {l : List Nat} {dn : List (List Nat × Nat)} {cur : List Nat} (h : PdI l l.length dn cur) (hm : dn.map Prod.snd = [44]) : ∃ p, dn = [(p, 44)] ∧ l = p ++ 44 :: cur ∧ 44 ∉ p ∧ l.filter mkB = [44] := by
  obtain ⟨h1, h2, _, _⟩ := h
  rw [List.take_length] at h1 h2
  match dn, hm with
  | [(p, m)], hm =>
    obtain rfl : m = 44 := by simpa using hm
    have e : l = p ++ 44 :: cur := by rw [h1]; simp
    refine ⟨p, rfl, e, ?_, h2⟩
    have h3 := h2
    rw [e, List.filter_append, List.filter_cons_of_pos rfl] at h3
    have h4 : p.filter mkB = [] := by
      have := congrArg List.length h3
      simp at this
      exact List.eq_nil_of_length_eq_zero (by omega)
    exact (not_mk h4).1
theorem pd_two {l : List Nat} {dn : List (List Nat × Nat)} {cur : List Nat} (h : PdI l l.length dn cur) (hm : dn.map Prod.snd = [44, 47]) : ∃ p q, dn = [(p, 44), (q, 47)] ∧ l = p ++ 44 :: (q ++ 47 :: cur) ∧ 44 ∉ p ∧ 47 ∉ q ∧ l.filter mkB = [44, 47] := by
  obtain ⟨h1, h2, _, _⟩ := h
  rw [List.take_length] at h1 h2
  match dn, hm with
  | [(p, m), (q, n)], hm =>
    obtain ⟨rfl, rfl⟩ : m = 44 ∧ n = 47 := by simpa using hm
    have e : l = p ++ 44 :: (q ++ 47 :: cur) := by rw [h1]; simp
    have h3 := h2
    rw [e, List.filter_append, List.filter_cons_of_pos rfl, List.filter_append, List.filter_cons_of_pos rfl] at h3
    have h4 := congrArg List.length h3
    simp at h4
    exact ⟨p, q, rfl, e, (not_mk (List.eq_nil_of_length_eq_zero (by omega))).1, (not_mk (List.eq_nil_of_length_eq_zero (by omega))).2, h2⟩
theorem pt_parts1 {l p q : List Nat} {x y z : Int} (h : l = ptL x y z) (e : l = p ++ 44 :: q) (hp : 44 ∉ p) (hm : l.filter mkB = [44]) : p = txL x ∧ q = txL y ∧ z = 1 := by
  have hz : z = 1 := by
    rw [h, pt_marks] at hm
    by_cases hz : z = 1
    · exact hz
    · rw [if_neg hz] at hm; simp at hm
  rw [e] at h
  obtain ⟨e1, e2⟩ := first_one hp (txL_44 x) h
  rw [hz, unL_one, List.append_nil] at e2
  exact ⟨e1, e2, hz⟩
theorem pt_parts2 {l p q r : List Nat} {x y z : Int} (h : l = ptL x y z) (e : l = p ++ 44 :: (q ++ 47 :: r)) (hp : 44 ∉ p) (hq : 47 ∉ q) (hm : l.filter mkB = [44, 47]) : p = txL x ∧ q = txL y ∧ r = txL z := by
  have hz : ¬ z = 1 := by
    intro hz
    rw [h, pt_marks, if_pos hz] at hm
    simp at hm
  rw [e] at h
  obtain ⟨e1, e2⟩ := first_one hp (txL_44 x) h
  rw [unL_not hz] at e2
  obtain ⟨e3, e4⟩ := first_one hq (txL_47 y) e2
  exact ⟨e1, e3, e4⟩
theorem ptL_lt (x y z : Int) : ∀ b ∈ ptL x y z, b < 256 := by
  intro b hb
  rcases List.mem_append.1 hb with h | h
  · exact txL_lt x b h
  · rcases List.mem_cons.1 h with h | h
    · omega
    · rcases List.mem_append.1 h with h | h
      · exact txL_lt y b h
      · exact unL_lt z b h
theorem tx_one : txL 1 = [49] := by
  rw [tx_pos (by omega)]
  show dg (1 / 10) ++ [48 + 1 % 10] = [49]
  rw [show 1 / 10 = 0 from rfl, dg_zero]
  rfl
theorem pd_tell {s : ByteArray} {p q r : List Nat} {x y z : Int} {xk yk zk : Bool} (hx : told x = true) (hy : told y = true) (hz : told z = true)
    (xy : xk = true → p = txL x) (xn : xk = false → ∀ z, told z = true → p ≠ txL z) (yy : yk = true → q = txL y) (yn : yk = false → ∀ z, told z = true → q ≠ txL z) (zy : zk = true → r = txL z) (zn : zk = false → ∀ z, told z = true → r ≠ txL z)
    (hne : btL s ≠ []) (hp : ∀ x' y' z', btL s = ptL x' y' z' → p = txL x' ∧ q = txL y' ∧ r = txL z') :
    (xk = false → rpV (btL s) = .tuple #[PV 0 0 0, .bool false]) ∧ (yk = false → rpV (btL s) = .tuple #[PV 0 0 0, .bool false]) ∧ (zk = false → rpV (btL s) = .tuple #[PV 0 0 0, .bool false]) ∧ (xk = true → yk = true → zk = true → (strL (if ptB x y z = true then ptL x y z else []) = s → rpV (btL s) = .tuple #[PV x y z, .bool true]) ∧ (strL (if ptB x y z = true then ptL x y z else []) ≠ s → rpV (btL s) = .tuple #[PV 0 0 0, .bool false])) := by
  refine ⟨fun h1 => rpV_no fun x' y' z' h => xn h1 x' h.1 (hp _ _ _ h.2.2.2.2).1, fun h1 => rpV_no fun x' y' z' h => yn h1 y' h.2.1 (hp _ _ _ h.2.2.2.2).2.1, fun h1 => rpV_no fun x' y' z' h => zn h1 z' h.2.2.1 (hp _ _ _ h.2.2.2.2).2.2, fun h1 h2 h3 => ⟨fun h => ?_, fun h => rpV_no fun x' y' z' hk => h ?_⟩⟩
  · by_cases hr : ptB x y z = true
    · rw [if_pos hr] at h
      exact rpV_yes ⟨hx, hy, hz, hr, by rw [← h, btL_strL (ptL_lt x y z)]⟩
    · rw [if_neg hr] at h
      exact absurd (by rw [← h]; rfl) hne
  · obtain ⟨_, _, _, hr, hl⟩ := hk
    obtain ⟨e1, e2, e3⟩ := hp _ _ _ hl
    rw [tx_inj ((xy h1).symm.trans e1), tx_inj ((yy h2).symm.trans e2), tx_inj ((zy h3).symm.trans e3), if_pos hr, ← hl, strL_btL]
/-- The parts as they lie. -/
def rowP (dn : List (List Nat × Nat)) (cur : List Nat) : List Value := (dn.map fun p => Value.string (strL p.1)) ++ [.string (strL cur)]
theorem rowP_mark (dn : List (List Nat × Nat)) (cur : List Nat) (b : Nat) : rowP (dn ++ [(cur, b)]) [] = rowP dn cur ++ [.string ⟨#[]⟩] := by simp [rowP]; rfl
theorem rowP_other (dn : List (List Nat × Nat)) (cur : List Nat) (u : List Nat) : (rowP dn cur).set dn.length (.string (strL u)) = rowP dn u := by simp [rowP]
theorem rowP_last (dn : List (List Nat × Nat)) (cur : List Nat) : (rowP dn cur)[dn.length]? = some (.string (strL cur)) := by simp [rowP]
theorem own_blk {w : World} {base g n cap : Nat} {e : TypeId} {xs : List Value} (h : w.ownsRow base e 1 (.slice (some ⟨g, 0, none⟩) n cap) n xs) : Blk w g xs := by
  refine ⟨(h.lt g rfl).2, fun i v hi => ⟨?_, ?_⟩⟩
  · have h1 := h.cells rfl i v hi
    have hadd : (⟨g, 0, none⟩ : Addr).add i = ⟨g, i, none⟩ := by unfold Addr.add; split <;> simp_all
    rw [hadd] at h1
    exact h1
  · rcases h.2 with ⟨h', _⟩ | ⟨g', cap', cur, h', _, hg, _⟩
    · cases h'
    · cases h'
      simp [World.frozen?, hg]
theorem own_set {w : World} {base g n cap : Nat} {e : TypeId} {xs : List Value} (h : w.ownsRow base e 1 (.slice (some ⟨g, 0, none⟩) n cap) n xs) (j : Nat) (u : Value) : (w.setCell ⟨g, j, none⟩ u).ownsRow base e 1 (.slice (some ⟨g, 0, none⟩) n cap) n (xs.set j u) := by
  refine ⟨by rw [List.length_set]; exact h.1, ?_⟩
  rcases h.2 with ⟨h', _⟩ | ⟨g', cap', cur, h', hb, hg, h1, h2, h3, h4⟩
  · cases h'
  · cases h'
    refine .inr ⟨g, cap, cur.setIfInBounds j u, rfl, hb, ?_, h1, h2, by simpa using h3, ?_⟩
    · simp [World.setCell, Array.getElem?_modify, hg]
    · rw [← h4]
      simp [List.take_set]
theorem own_form {w : World} {base n : Nat} {e : TypeId} {v : Value} {xs : List Value} (h : w.ownsRow base e 1 v (n + 1) xs) : ∃ g cap, v = .slice (some ⟨g, 0, none⟩) (n + 1) cap ∧ base ≤ g := by
  rcases h.2 with ⟨_, h0⟩ | ⟨g, cap, cur, hv, hb, _⟩
  · omega
  · exact ⟨g, cap, hv, hb⟩
theorem blk_grown {w w' : World} {row : Option Nat} {g : Nat} {vs : List Value} (h : Blk w g vs) (hg : w.grownBy w' row) (hne : some g ≠ row) : Blk w' g vs :=
  ⟨Nat.lt_of_lt_of_le h.1 hg.size, fun i _ hi => ⟨(World.cell?_of_block (hg.block g h.1 hne)).trans (h.c i hi), (World.frozen?_of_block (hg.block g h.1 hne)).trans (h.f i hi)⟩⟩
theorem one_str (u : ByteArray) : ∀ v ∈ [Value.string u], v.oneCell' = true := by
  intro v hv
  simp only [List.mem_singleton] at hv
  subst hv; rfl
theorem ex_one {s : ByteArray} {c : Nat} (h : c < s.size) : s.extract c (c + 1) = strL [bt s c] := by
  rw [← strL_btL (s.extract c (c + 1)), btL_extract]
  congr 1
  have h1 := btL_getQ h
  have h2 : c < (btL s).length := by rw [btL_len]; exact h
  rw [List.drop_eq_getElem_cons h2, show c + 1 - c = 1 by omega]
  rw [List.getElem?_eq_getElem h2] at h1
  rw [Option.some.inj h1]
  rfl
theorem Try.infoStr : (Try.prog.info? 9).map (fun i => (i.zero, i.size, i.bytes)) = some (some (.string ⟨#[]⟩), 1, 16) := by kernel_rfl
end Go.Proofs.Ytnnojeggjnddpaa

/- Two numbers of digits laid behind the arguments; the model's tell of a number, its value known. -/
namespace Go.Proofs.Ytnnojeggjnddpaa
open Go.RowKit
theorem IsNum.step {w w' : World} {s : Bool} {ao : Option Addr} {n cap : Nat} {ds : List Int} {z : Int} {k : Nat} (h : IsNum w s ao n cap ds z k) (hb : Below w.heap.size w w') : IsNum w' s ao n cap ds z k := h.below hb
theorem IsNum.alloc {w : World} {s : Bool} {ao : Option Addr} {n cap : Nat} {ds : List Int} {z : Int} {k : Nat} (h : IsNum w s ao n cap ds z k) (o : Obj) : IsNum (w.alloc o) s ao n cap ds z k := h.below ((Below.refl _ _).alloc (Nat.le_refl _) o)
theorem ArgsB.set2 {w W : World} {vss : List (List Value)} (h : ArgsB w W vss) {g : Nat} (hg : w.heap.size + vss.length ≤ g) (v0 v1 : Value) : ArgsB w ((W.setCell ⟨g, 0, none⟩ v0).setCell ⟨g, 1, none⟩ v1) vss := (h.set (by exact hg) _).set (by exact hg) _
theorem Blk.set2 {W : World} {vs : List Value} {v0 v1 : Value} {g g' : Nat} (G : Blk W g' vs) (hg : g' ≠ g) : Blk ((W.setCell ⟨g, 0, none⟩ v0).setCell ⟨g, 1, none⟩ v1) g' vs := (G.setO (by exact hg) _).setO (by exact hg) _
theorem tellP_VP {z : Int} {w w' : World} {e : Ending} (h : TellP z w e w') : VP (tellV z) w e w' := by
  rcases h.2 with ⟨t, a3, a2, a1, a0, rfl, h3, h2, h1, h0, hz⟩ | ⟨t, rfl⟩
  · obtain ⟨rfl, rfl, rfl, rfl⟩ := wd_of h3 h2 h1 h0 hz
    exact ⟨by unfold tellV; rw [if_pos t], h.1⟩
  · exact ⟨by unfold tellV; rw [if_neg (by simp [t]), W40], h.1⟩
theorem toW_det (s : Bool) (ao : Option Addr) (n cap : Nat) (ds : List Int) (z : Int) (k : Nat) (w : World) (h : IsNum w s ao n cap ds z k) (hk : k ≤ 1000000) :
    Calls Try.prog 48 #[.agg #[.bool s, .slice ao n cap]] w (VP (tellV z) w) := (toW_any s ao n cap ds z k w h hk).mono fun _ _ => tellP_VP
end Go.Proofs.Ytnnojeggjnddpaa

/- A number read from its text: the model's. -/
namespace Go.Proofs.Ytnnojeggjnddpaa
open Go.RowKit
/-- While the model reads digits: the number lies in a block of its own. -/
structure MrI (w wr : World) (g : Nat) (s : Bool) (o : Option Addr) (n c : Nat) (ds : List Int) (v : Nat) : Prop where
  below : Below w.heap.size w wr
  br : Blk wr w.heap.size [.bool false, .slice none 0 0]
  bs : Blk wr g [.bool s, .slice o n c]
  num : IsNum wr s o n c ds (v : Int) 9
  gl : w.heap.size < g
theorem MrI.drew {w wr : World} {g : Nat} {s : Bool} {o : Option Addr} {n c : Nat} {ds : List Int} {v : Nat} (h : MrI w wr g s o n c ds v) : MrI w wr.drew g s o n c ds v := ⟨h.below.drew, h.br, h.bs, h.num.drew, h.gl⟩
theorem MrI.step {w wr w1 : World} {g : Nat} {s : Bool} {o : Option Addr} {n c : Nat} {ds : List Int} {v : Nat} (h : MrI w wr g s o n c ds v) (hB : Below wr.heap.size wr w1) : MrI w w1 g s o n c ds v :=
  ⟨h.below.trans (hB.mono h.below.size), h.br.step hB, h.bs.step hB, h.num.step hB, h.gl⟩
theorem MrI.next {w wr : World} {g : Nat} {s : Bool} {o : Option Addr} {n c : Nat} {ds : List Int} {v : Nat} (h : MrI w wr g s o n c ds v) {s' : Bool} {o' : Option Addr} {n' c' : Nat} {ds' : List Int} {v' k : Nat} (hN : IsNum wr s' o' n' c' ds' (v' : Int) k) (hv : (v' : Int) < pw 9) :
    MrI w ((wr.setCell ⟨g, 0, none⟩ (.bool s')).setCell ⟨g, 1, none⟩ (.slice o' n' c')) g s' o' n' c' ds' v' := by
  have hgl := h.gl
  refine ⟨(h.below.setCell (p := ⟨g, 0, none⟩) (by show w.heap.size ≤ g; omega) _).setCell (p := ⟨g, 1, none⟩) (by show w.heap.size ≤ g; omega) _, h.br.set2 (by omega), (h.bs.setI 0 (by simp) _).setI 1 (by simp) _, ?_, hgl⟩
  exact num_put (hN.tight 9 (by simpa using hv)) h.bs _ _
/-- What the model tells of a text. -/
def RdP (l : List Nat) (w : World) (e : Ending) (w' : World) : Prop :=
  (RdOk l ∧ (∃ (s : Bool) (o : Option Addr) (n c : Nat) (ds : List Int), e = .returned (.tuple #[.agg #[.bool s, .slice o n c], .bool true]) ∧ IsNum w' s o n c ds (rdI l) 9) ∧ Below w.heap.size w w') ∨ (¬ RdOk l ∧ e = .returned (.tuple #[.agg #[.bool false, .slice none 0 0], .bool false]) ∧ Below w.heap.size w w')
set_option maxRecDepth 100000 in
set_option maxHeartbeats 2000000 in
theorem l1Read_any (s : ByteArray) (hm : s.size ≤ 9223372036854775807) (w : World) : Calls Try.prog 47 #[.string s, .int .i64 77] w (RdP (btL s) w) := by
  obtain ⟨u, hu⟩ : ∃ u, u = strL (cutM (btL s)) := ⟨_, rfl⟩
  have hul : btL u = cutM (btL s) := by rw [hu]; exact btL_strL (cutM_lt (btL_lt s))
  have hus : u.size ≤ 9223372036854775807 := by
    rw [← btL_len, hul]
    have h2 := btL_len s
    have h3 := cutM_len (btL s)
    omega
  obtain ⟨b, hb⟩ : ∃ b, b = decide ((btL s).head? = some 45) := ⟨_, rfl⟩
  have HU : Hid (btL u = cutM (btL s)) := hul
  have HS : Hid (u = strL (cutM (btL s))) := hu
  have HBB : Hid (b = decide ((btL s).head? = some 45)) := hb
  have HB0 : Hid (Below w.heap.size w (w.alloc (Obj.cells #[.bool false, .slice none 0 0] 66))) := (Below.refl _ _).alloc (Nat.le_refl _) _
  have BR0 : Hid (Blk (w.alloc (Obj.cells #[.bool false, .slice none 0 0] 66)) w.heap.size [.bool false, .slice none 0 0]) := Blk.new w [.bool false, .slice none 0 0] _ rfl
  clear hul hu hb
  go_enter Try.func47, Try.ntmps47
  go_upto_region 2 with fail
  generalize (w.alloc (Obj.cells #[.bool false, .slice none 0 0] 66)) = W0 at *
  go_cut [7] (fun p wx => p = .bool b ∧ wx = W0)
  case first =>
    by_cases hs : 0 < s.size
    · have hbt := bt_at hs
      have hlt := bt_lt s 0
      have hs1 : (0 : Int) < s.size := by omega
      have e1 : ((bt s 0 : Int) == 45) = b := by
        rw [HBB.out, btL_head hs, Bool.eq_iff_iff, beq_iff_eq, decide_eq_true_iff]
        simp only [Option.some.injEq]
        omega
      go_wp2
      go_meet
      exact ⟨rfl, rfl⟩
    · have hs1 : ¬ (0 : Int) < s.size := by omega
      have e1 : b = false := by
        rw [HBB.out, List.length_eq_zero_iff.1 (show (btL s).length = 0 by rw [btL_len]; omega)]
        rfl
      go_wp2
      go_meet
      exact ⟨by rw [e1], rfl⟩
  case rest =>
    obtain ⟨hp, hw⟩ := hcut
    have hw' := hw.symm
    subst hp hw'
    rename_i hk
    refine hk _ _ ?_
    clear hk hw
    go_upto_region 3 with fail
    go_cut [19] (fun p wx => p = .bool b ∧ wx = W0)
    case first =>
      go_wp2
      go_meet
      exact ⟨rfl, rfl⟩
    case rest =>
      obtain ⟨hp, hw⟩ := hcut
      have hw' := hw.symm
      subst hp hw'
      rename_i hk
      refine hk _ _ ?_
      clear hk hw
      go_cut [6] (fun p wx => p = .string u ∧ wx = W0)
      case first =>
        cases b
        · have h1 : ¬ (btL s).head? = some 45 := by simpa using HBB.out
          have e1 : Hid (u = s) := by show _ = _; rw [HS.out, cutM_pos h1, strL_btL]
          clear h1
          go_wp2
          go_meet
          exact ⟨by rw [e1.out], rfl⟩
        · have h1 : (btL s).head? = some 45 := by simpa using HBB.out
          have hs : 0 < s.size := by
            rw [← btL_len]
            cases hl : btL s with
            | nil => rw [hl] at h1; simp at h1
            | cons x t => simp
          have e1 : Hid (s.extract 1 s.size = u) := by show _ = _; rw [HS.out]; exact ex_tail h1
          have hs1 : (1 : Int) ≤ s.size := by omega
          clear h1
          go_wp2
          go_meet
          exact ⟨by rw [e1.out], rfl⟩
      case rest =>
        obtain ⟨hp, hw⟩ := hcut
        have hw' := hw.symm
        subst hp hw'
        clear hw
        go_upto_region 5 with fail
        by_cases hT : TestL (btL s)
        · obtain ⟨t1, t2, t3⟩ := hT
          have hT : TestL (btL s) := ⟨t1, t2, t3⟩
          rw [← HU.out] at t1 t2 t3
          rw [btL_len] at t2 t3
          have hu0 : 0 < u.size := by
            rw [← btL_len]
            exact List.length_pos_iff.2 t1
          rw [btL_head hu0] at t3
          have HT : Hid (TestL (btL s)) := hT
          have HT3 : Hid (¬ (some (bt u 0) = some 48 ∧ ((btL s).head? = some 45 ∨ 1 < u.size))) := t3
          clear t1 t3 hT
          have hbt := bt_at hu0
          have hlt := bt_lt u 0
          have i1 : ¬ ((u.size : Int) < 1) := by omega
          have i2 : ¬ ((77 : Int) < u.size) := by omega
          go_cut [43] (fun p wx => p = .bool false ∧ wx = W0)
          case first =>
            by_cases h48 : bt u 0 = 48
            · have hb0 : ((bt u 0 : Int) == 48) = true := by rw [h48]; rfl
              obtain rfl : b = false := by
                rw [HBB.out]
                exact decide_eq_false fun h => HT3.out ⟨by rw [h48], Or.inl h⟩
              have i3 : ¬ ((1 : Int) < u.size) := fun h => HT3.out ⟨by rw [h48], Or.inr (by omega)⟩
              clear h48
              go_wp2
              go_meet
              exact ⟨by first | rfl | (exact congrArg Value.bool (decide_eq_false i3)) | (exact congrArg Value.bool (decide_eq_false (by omega))), rfl⟩
            · have hb0 : ((bt u 0 : Int) == 48) = false := beq_eq_false_iff_ne.2 (by omega)
              clear h48
              go_wp2
              go_meet
              exact ⟨by first | rfl | (exact congrArg Value.bool (decide_eq_false (by omega))), rfl⟩
          case rest =>
            obtain ⟨hp, hw⟩ := hcut
            have hw' := hw.symm
            subst hp hw'
            clear hw hbt hlt i1 i2
            have HB := HB0.out
            have N0 : IsNum (W0.alloc (Obj.cells #[.bool false, .slice none 0 0] 66)) false none 0 0 [] ((0 : Nat) : Int) 9 := ⟨rfl, rfl, Nat.le_refl _, Rd.nil _ _, nrm_nil, rfl, by omega⟩
            have HI0 : Hid (MrI w (W0.alloc (Obj.cells #[.bool false, .slice none 0 0] 66)) W0.heap.size false none 0 0 [] 0) :=
              ⟨HB.alloc HB.size _, BR0.out.alloc _, Blk.new _ [.bool false, .slice none 0 0] _ rfl, N0, BR0.out.lt⟩
            clear N0 HB
            go_wp2
            generalize (W0.alloc (Obj.cells #[.bool false, .slice none 0 0] 66)) = W1 at *
            generalize W0.heap.size = g at *
            clear BR0 HB0
            go_loopw [9] (fun i wr => ∃ (c : Nat) (s' : Bool) (o : Option Addr) (n cp : Nat) (ds : List Int), c ≤ u.size ∧ i = .int .i64 c ∧ MrI w wr g s' o n cp ds (rdN ((btL u).take c)) ∧ ∀ j, j < c → isD (bt u j)) (fun i _ => u.size - (intOf i).toNat)
            case atStart => exact ⟨0, _, _, _, _, _, Nat.zero_le _, rfl, HI0.out, fun j hj => by omega⟩
            case round =>
              clear HI0
              obtain ⟨c, s', o, n, cp, ds, hc, rfl, hI, hD⟩ := hrel
              have HD : Hid (∀ j, j < c → isD (bt u j)) := hD
              have HII : Hid (MrI w wr g s' o n cp ds (rdN ((btL u).take c))) := hI
              have hgl := hI.gl
              clear hD
              by_cases hcs : c < u.size
              · have hbt := bt_at hcs
                have hlt := bt_lt u c
                have hcI : (c : Int) < u.size := by omega
                by_cases hd : isD (bt u c)
                · obtain ⟨hd1, hd2⟩ := hd
                  have hd3 : ¬ ((bt u c : Int) < 48) := by omega
                  have hd4 : ¬ ((57 : Int) < (bt u c : Int)) := by omega
                  obtain ⟨d, hd⟩ : ∃ d, d = bt u c - 48 := ⟨_, rfl⟩
                  have hdI : (bt u c : Int) - 48 = d := by omega
                  have hcl : c < (btL u).length := by rw [btL_len]; exact hcs
                  have hnx : Hid (10 * rdN ((btL u).take c) + d = rdN ((btL u).take (c + 1))) := by show _ = _; rw [rdN_take _ _ hcl, btL_get hcl, hd]
                  have hn2 : Hid (((rdN ((btL u).take (c + 1)) : Nat) : Int) < pw 9) := by
                    have hall : ∀ b ∈ (btL u).take (c + 1), isD b := by
                      intro b hb
                      obtain ⟨j, hj, rfl⟩ := List.getElem_of_mem hb
                      rw [List.length_take] at hj
                      rw [List.getElem_take, btL_get]
                      by_cases e : j = c
                      · rw [e]; exact ⟨hd1, hd2⟩
                      · exact HD.out j (by omega)
                    have h5 := rdN_lt _ hall
                    have h6 : 10 ^ ((btL u).take (c + 1)).length ≤ 10 ^ 77 := Nat.pow_le_pow_right (by omega) (by rw [List.length_take]; omega)
                    show _ < _
                    rw [show pw 9 = 497323236409786642155382248146820840100456150797347717440463976893159497012533375533056 by decide]
                    omega
                  have hw1 : IntKind.u8.wrap (d : Int) = d := by rw [IntKind.wrap_u8]; omega
                  have hw2 : IntKind.i64.wrap (d : Int) = d := by rw [IntKind.wrap_i64]; omega
                  have J0 : MrI w wr.drew g s' o n cp ds (rdN ((btL u).take c)) := hI.drew
                  obtain ⟨c0, f0, c1, f1⟩ := hI.bs.cf2
                  have slt := hI.bs.lt
                  have hd9 : (d : Int) < 10 := by omega
                  have HDD : Hid (isD (bt u c)) := ⟨hd1, hd2⟩
                  have tok1 : True := trivial
                  clear hI hd HII
                  go_upto_region 13 with fail
                  --BEGINREG
                  go_region_with ((first
                    | (go_at_call 57; have _t := tok1; refine (int_any 10 _ (by decide) (by decide)).mono ?_; rintro e w5 ⟨s5, o5, n5, c5, d5, rfl, N5, hB⟩; have J5 := J0.step hB; obtain ⟨p0, pf0, p1, pf1⟩ := J5.bs.cf2; have pl := J5.bs.lt; clear hB tok1 _t)
                    | (go_at_call 82; refine (mul_any s' s5 o o5 n n5 cp c5 9 ds d5 _ _ _ J5.num (num_more N5 (by omega)) (by omega)).mono ?_; rintro e w6 ⟨s6, o6, n6, c6, d6, rfl, N6, hB⟩; have J6 := J5.step hB; clear hB N5)
                    | (go_at_call 57; refine (int_any d _ (by omega) (by omega)).mono ?_; rintro e w7 ⟨s7, o7, n7, c7, d7, rfl, N7, hB⟩; have J7 := J6.step hB; have M6 := N6.step hB; clear hB N6)
                    | (go_at_call 81; refine (add_any s6 s7 o6 o7 n6 n7 c6 c7 18 d6 d7 _ _ _ M6 (num_more N7 (by omega)) (by omega)).mono ?_; rintro e w8 ⟨s8, o8, n8, c8, d8, rfl, N8, hB⟩; have J8 := J7.step hB; obtain ⟨q0, qf0, q1, qf1⟩ := J8.bs.cf2; have ql := J8.bs.lt; clear hB M6 N7)))
                  --ENDREG
                  all_goals
                    have JJ : Hid (MrI w ((w8.setCell ⟨g, 0, none⟩ (.bool s8)).setCell ⟨g, 1, none⟩ (.slice o8 n8 c8)) g s8 o8 n8 c8 d8 (rdN ((btL u).take (c + 1)))) := J8.next (by rw [← hnx.out]; exact (show (((10 * rdN ((btL u).take c) + d : Nat) : Nat) : Int) = ((rdN ((btL u).take c) : Nat) : Int) * 10 + (d : Int) by omega) ▸ N8) hn2.out
                    clear J8 N8 q0 qf0 q1 qf1 ql
                    go_wp2
                    go_roundw
                    case rel => exact ⟨c + 1, _, _, _, _, _, by omega, by go_num, JJ.out, fun j hj => by
                      by_cases e : j = c
                      · rw [e]; exact HDD.out
                      · exact HD.out j (by omega)⟩
                    case measure => simp [intOf]; omega
                · have HN : Hid (¬ RdOk (btL s)) := fun h => hd (by
                    have h2 := (rdOk_iff.1 h).2
                    rw [← HU.out] at h2
                    exact btL_mem.1 h2 c hcs)
                  obtain ⟨d0, e0, d1, e1⟩ := hI.br.cf2
                  have dl := hI.br.lt
                  have HB := hI.below
                  clear hI
                  by_cases hd1 : 48 ≤ bt u c
                  · have hd3 : ¬ ((bt u c : Int) < 48) := by omega
                    have hd4 : (57 : Int) < (bt u c : Int) := by unfold isD at hd; omega
                    clear hd
                    go_wp2
                    refine bodyPost_ret (v := .tuple #[.agg #[.bool false, .slice none 0 0], .bool false]) (by simp [results, Try.results47, go_sem, d0, d1]) rfl ?_
                    exact Or.inr ⟨HN.out, rfl, (HB.setCell (p := ⟨w.heap.size, 0, none⟩) (Nat.le_refl _) _).setCell (p := ⟨w.heap.size, 1, none⟩) (Nat.le_refl _) _⟩
                  · have hd3 : (bt u c : Int) < 48 := by omega
                    clear hd
                    go_wp2
                    refine bodyPost_ret (v := .tuple #[.agg #[.bool false, .slice none 0 0], .bool false]) (by simp [results, Try.results47, go_sem, d0, d1]) rfl ?_
                    exact Or.inr ⟨HN.out, rfl, (HB.setCell (p := ⟨w.heap.size, 0, none⟩) (Nat.le_refl _) _).setCell (p := ⟨w.heap.size, 1, none⟩) (Nat.le_refl _) _⟩
              · obtain rfl : c = u.size := by omega
                have HY : Hid (RdOk (btL s)) := rdOk_iff.2 ⟨HT.out, by rw [← HU.out]; exact btL_mem.2 HD.out⟩
                have hlast : (btL u).take u.size = btL u := by rw [← btL_len, List.take_length]
                rw [hlast] at hI
                have hI2 : MrI w wr g s' o n cp ds (rdN (btL u)) := hI
                obtain ⟨c0, f0, c1, f1⟩ := hI.bs.cf2
                have slt := hI.bs.lt
                obtain ⟨d0, e0, d1, e1⟩ := hI.br.cf2
                have dl := hI.br.lt
                clear hI HII hlast
                cases b
                · have hz : Hid (((rdN (btL u) : Nat) : Int) = rdI (btL s)) := by
                    have h1 : ¬ (btL s).head? = some 45 := by simpa using HBB.out
                    show _ = _
                    unfold rdI
                    rw [if_neg h1, HU.out]
                  have NN : Hid (IsNum wr s' o n cp ds (rdI (btL s)) 9) := by rw [← hz.out]; exact hI2.num
                  have HB := hI2.below
                  have BR := hI2.br
                  clear hI2
                  go_wp2
                  refine bodyPost_ret (v := .tuple #[.agg #[.bool s', .slice o n cp], .bool true]) (by simp [results, Try.results47, go_sem, d0, d1]) rfl ?_
                  exact Or.inl ⟨HY.out, ⟨s', o, n, cp, ds, rfl, num_put NN.out BR _ _⟩, (HB.setCell (p := ⟨w.heap.size, 0, none⟩) (Nat.le_refl _) _).setCell (p := ⟨w.heap.size, 1, none⟩) (Nat.le_refl _) _⟩
                · have hz : Hid (-((rdN (btL u) : Nat) : Int) = rdI (btL s)) := by
                    have h1 : (btL s).head? = some 45 := by simpa using HBB.out
                    show _ = _
                    unfold rdI
                    rw [if_pos h1, HU.out]
                  have CN := neg_any s' o n cp ds _ _ wr hI2.num
                  rw [hz.out] at CN
                  go_wp2_with fail
                  refine CN.mono ?_
                  rintro e w5 ⟨s5, o5, n5, c5, d5, rfl, N5, hB⟩
                  have J5 := hI2.step hB
                  clear hB CN c0 f0 c1 f1 slt d0 e0 d1 e1 dl hI2
                  obtain ⟨c0, f0, c1, f1⟩ := J5.bs.cf2
                  have slt := J5.bs.lt
                  have N6 := num_put N5 J5.bs (.bool s5) (.slice o5 n5 c5)
                  have BR := J5.br.set2 (g := g) (v0 := .bool s5) (v1 := .slice o5 n5 c5) (by omega)
                  have BS := (J5.bs.setI 0 (by simp) (.bool s5)).setI 1 (by simp) (.slice o5 n5 c5)
                  have HB := (J5.below.setCell (p := ⟨g, 0, none⟩) (by show w.heap.size ≤ g; omega) (.bool s5)).setCell (p := ⟨g, 1, none⟩) (by show w.heap.size ≤ g; omega) (.slice o5 n5 c5)
                  have bsl := BS
                  clear J5 N5
                  go_upto_region 16 with fail
                  generalize ((w5.setCell ⟨g, 0, none⟩ (.bool s5)).setCell ⟨g, 1, none⟩ (.slice o5 n5 c5)) = W6 at *
                  clear c0 f0 c1 f1 slt
                  have c0 : W6.cell? ⟨g, 0, none⟩ = some (.bool s5) := BS.c 0 rfl
                  have c1 : W6.cell? ⟨g, 1, none⟩ = some (.slice o5 n5 c5) := BS.c 1 rfl
                  obtain ⟨d0, e0, d1, e1⟩ := BR.cf2
                  have dl := BR.lt
                  have NN : Hid (IsNum W6 s5 o5 n5 c5 d5 (rdI (btL s)) 9) := N6
                  clear N6 bsl BS
                  go_wp2
                  refine bodyPost_ret (v := .tuple #[.agg #[.bool s5, .slice o5 n5 c5], .bool true]) (by simp [results, Try.results47, go_sem, d0, d1]) rfl ?_
                  exact Or.inl ⟨HY.out, ⟨s5, o5, n5, c5, d5, rfl, num_put NN.out BR _ _⟩, (HB.setCell (p := ⟨w.heap.size, 0, none⟩) (Nat.le_refl _) _).setCell (p := ⟨w.heap.size, 1, none⟩) (Nat.le_refl _) _⟩
        · have HN : Hid (¬ RdOk (btL s)) := fun h => hT (rdOk_iff.1 h).1
          obtain ⟨d0, e0, d1, e1⟩ := BR0.out.cf2
          have dl := BR0.out.lt
          have HB := HB0.out
          by_cases h1 : 1 ≤ u.size
          · have i1 : ¬ ((u.size : Int) < 1) := by omega
            by_cases h2 : u.size ≤ 77
            · have i2 : ¬ ((77 : Int) < u.size) := by omega
              have hbt := bt_at h1
              have hlt := bt_lt u 0
              have h3 : bt u 0 = 48 ∧ ((btL s).head? = some 45 ∨ 1 < u.size) := Classical.byContradiction fun h3 => hT ⟨by rw [← HU.out]; intro h; have := btL_len u; rw [h] at this; simp at this; omega, by rw [← HU.out, btL_len]; exact h2, fun h => h3 ⟨by have := h.1; rw [← HU.out, btL_head h1] at this; simpa using this, by have := h.2; rw [← HU.out, btL_len] at this; exact this⟩⟩
              have hb0 : ((bt u 0 : Int) == 48) = true := by rw [h3.1]; rfl
              cases b
              · have h4 : 1 < u.size := by
                  rcases h3.2 with h | h
                  · exact absurd h (by simpa using HBB.out)
                  · exact h
                have i3 : (1 : Int) < u.size := by omega
                clear h3 hT
                go_wp2
                refine bodyPost_ret (v := .tuple #[.agg #[.bool false, .slice none 0 0], .bool false]) (by simp [results, Try.results47, go_sem, d0, d1]) rfl ?_
                exact Or.inr ⟨HN.out, rfl, (HB.setCell (p := ⟨w.heap.size, 0, none⟩) (Nat.le_refl _) _).setCell (p := ⟨w.heap.size, 1, none⟩) (Nat.le_refl _) _⟩
              · clear h3 hT
                go_wp2
                refine bodyPost_ret (v := .tuple #[.agg #[.bool false, .slice none 0 0], .bool false]) (by simp [results, Try.results47, go_sem, d0, d1]) rfl ?_
                exact Or.inr ⟨HN.out, rfl, (HB.setCell (p := ⟨w.heap.size, 0, none⟩) (Nat.le_refl _) _).setCell (p := ⟨w.heap.size, 1, none⟩) (Nat.le_refl _) _⟩
            · have i2 : (77 : Int) < u.size := by omega
              clear hT
              go_wp2
              refine bodyPost_ret (v := .tuple #[.agg #[.bool false, .slice none 0 0], .bool false]) (by simp [results, Try.results47, go_sem, d0, d1]) rfl ?_
              exact Or.inr ⟨HN.out, rfl, (HB.setCell (p := ⟨w.heap.size, 0, none⟩) (Nat.le_refl _) _).setCell (p := ⟨w.heap.size, 1, none⟩) (Nat.le_refl _) _⟩
          · have i1 : (u.size : Int) < 1 := by omega
            clear hT
            go_wp2
            refine bodyPost_ret (v := .tuple #[.agg #[.bool false, .slice none 0 0], .bool false]) (by simp [results, Try.results47, go_sem, d0, d1]) rfl ?_
            exact Or.inr ⟨HN.out, rfl, (HB.setCell (p := ⟨w.heap.size, 0, none⟩) (Nat.le_refl _) _).setCell (p := ⟨w.heap.size, 1, none⟩) (Nat.le_refl _) _⟩
end Go.Proofs.Ytnnojeggjnddpaa

/- A number read from its text: the law over both sides. -/
namespace Go.Proofs.Ytnnojeggjnddpaa
open Go.RowKit
set_option maxRecDepth 100000 in
set_option maxHeartbeats 2000000 in
theorem specRead_any (s : ByteArray) (hm : s.size ≤ 9223372036854775807) (w : World) : Calls Try.prog 15 #[.string s] w (VP (rdV (btL s)) w) := by
  have HB0 : Hid (Below w.heap.size w (w.alloc (Obj.cells #[.int .u64 0, .int .u64 0, .int .u64 0, .int .u64 0] 26))) := (Below.refl _ _).alloc (Nat.le_refl _) _
  have BR0 : Hid (Blk (w.alloc (Obj.cells #[.int .u64 0, .int .u64 0, .int .u64 0, .int .u64 0] 26)) w.heap.size [.int .u64 0, .int .u64 0, .int .u64 0, .int .u64 0]) := Blk.new w [.int .u64 0, .int .u64 0, .int .u64 0, .int .u64 0] _ rfl
  have C := l1Read_any s hm
  go_enter Try.func15, Try.ntmps15
  go_wp2_with fail
  generalize (w.alloc (Obj.cells #[.int .u64 0, .int .u64 0, .int .u64 0, .int .u64 0] 26)) = W0 at *
  refine (C _).mono ?_
  rintro e w1 (⟨hok, ⟨s1, o1, n1, c1, d1, rfl, N1⟩, hB⟩ | ⟨hok, rfl, hB⟩)
  · have BR1 := BR0.out.step hB
    have HB1 := HB0.out.trans (hB.mono HB0.out.size)
    have HR : Hid (rdV (btL s) = tellV (rdI (btL s))) := rdV_yes hok
    have N2 := N1.alloc (Obj.cells #[.bool s1, .slice o1 n1 c1] 66)
    have BR2 : Hid (Blk (w1.alloc (Obj.cells #[.bool s1, .slice o1 n1 c1] 66)) w.heap.size [.int .u64 0, .int .u64 0, .int .u64 0, .int .u64 0]) := BR1.alloc _
    have HB2 : Hid (Below w.heap.size w (w1.alloc (Obj.cells #[.bool s1, .slice o1 n1 c1] 66))) := HB1.alloc HB1.size _
    have CW := toW_det s1 o1 n1 c1 d1 _ _ _ N2 (by omega)
    clear BR0 HB0 hB C N1 N2 BR1 HB1 hok
    obtain ⟨t3, t2, t1, t0, tb, ht⟩ := tellV_form (rdI (btL s))
    have HT : Hid (tellV (rdI (btL s)) = .tuple #[.agg #[.int .u64 t3, .int .u64 t2, .int .u64 t1, .int .u64 t0], .bool tb]) := ht
    rw [ht] at CW
    clear ht
    go_wp2_with fail
    refine CW.mono ?_
    rintro e w2 ⟨rfl, hB⟩
    have BR3 := BR2.out.step hB
    have HB3 := HB2.out.trans (hB.mono HB2.out.size)
    clear BR2 HB2 hB CW
    obtain ⟨d0, e0, d1, e1, d2, e2, d3, e3⟩ := BR3.cf4
    have dl := BR3.lt
    go_wp2
    refine bodyPost_ret (v := .tuple #[.agg #[.int .u64 t3, .int .u64 t2, .int .u64 t1, .int .u64 t0], .bool tb]) (by simp [results, Try.results15, go_sem, d0, d1, d2, d3]) rfl ?_
    exact ⟨by rw [HR.out, HT.out], tell_below HB3 (Nat.le_refl _)⟩
  · have BR1 := BR0.out.step hB
    have HB1 := HB0.out.trans (hB.mono HB0.out.size)
    have HR : Hid (rdV (btL s) = .tuple #[W4 0, .bool false]) := rdV_no hok
    have BR2 := BR1.alloc (Obj.cells #[.bool false, .slice none 0 0] 66)
    have HB2 := HB1.alloc HB1.size (Obj.cells #[.bool false, .slice none 0 0] 66)
    clear BR0 HB0 hB C BR1 HB1 hok
    obtain ⟨d0, e0, d1, e1, d2, e2, d3, e3⟩ := BR2.cf4
    have dl := BR2.lt
    go_wp2
    refine bodyPost_ret (v := .tuple #[.agg #[.int .u64 0, .int .u64 0, .int .u64 0, .int .u64 0], .bool false]) (by simp [results, Try.results15, go_sem, d0, d1, d2, d3]) rfl ?_
    exact ⟨by rw [HR.out]; rfl, tell_below HB2 (Nat.le_refl _)⟩
end Go.Proofs.Ytnnojeggjnddpaa

/- The texts of fractions and of points: the model's. -/
namespace Go.Proofs.Ytnnojeggjnddpaa
open Go.RowKit
theorem cmp_one (y : Int) : (cmpI y 1 == 0) = decide (y = 1) := by
  unfold cmpI
  by_cases h : y = 1
  · subst h; rfl
  · rw [decide_eq_false h]
    split
    · rfl
    · split
      · rfl
      · omega
set_option maxRecDepth 100000 in
set_option maxHeartbeats 2000000 in
theorem specPtText_det (x y z : Int) (hx : told x = true) (hy : told y = true) (hz : told z = true) (w : World) : Calls Try.prog 24 #[PV x y z] w (VP (.string (strL (if ptB x y z = true then ptL x y z else []))) w) := by
  have C0 := specPointOk_det x y z hx hy hz
  have CO := l3Of_det x y z hx hy hz
  have hs1 := txS_le hx
  have hs2 := txS_le hy
  have hs3 := txS_le hz
  have X0 := Blk.new w [.int .u64 (ww3 x), .int .u64 (ww2 x), .int .u64 (ww1 x), .int .u64 (ww0 x), .int .u64 (ww3 y), .int .u64 (ww2 y), .int .u64 (ww1 y), .int .u64 (ww0 y), .int .u64 (ww3 z), .int .u64 (ww2 z), .int .u64 (ww1 z), .int .u64 (ww0 z)] 47 rfl
  have HB := (Below.refl _ w).alloc (Nat.le_refl _) (.cells #[.int .u64 (ww3 x), .int .u64 (ww2 x), .int .u64 (ww1 x), .int .u64 (ww0 x), .int .u64 (ww3 y), .int .u64 (ww2 y), .int .u64 (ww1 y), .int .u64 (ww0 y), .int .u64 (ww3 z), .int .u64 (ww2 z), .int .u64 (ww1 z), .int .u64 (ww0 z)] 47)
  rw [show ([.int .u64 (ww3 x), .int .u64 (ww2 x), .int .u64 (ww1 x), .int .u64 (ww0 x), .int .u64 (ww3 y), .int .u64 (ww2 y), .int .u64 (ww1 y), .int .u64 (ww0 y), .int .u64 (ww3 z), .int .u64 (ww2 z), .int .u64 (ww1 z), .int .u64 (ww0 z)] : List Value).toArray = #[.int .u64 (ww3 x), .int .u64 (ww2 x), .int .u64 (ww1 x), .int .u64 (ww0 x), .int .u64 (ww3 y), .int .u64 (ww2 y), .int .u64 (ww1 y), .int .u64 (ww0 y), .int .u64 (ww3 z), .int .u64 (ww2 z), .int .u64 (ww1 z), .int .u64 (ww0 z)] from rfl] at X0
  cases hb : ptB x y z
  · rw [hb] at C0
    rw [if_neg (by decide)]
    clear hb
    obtain ⟨c0, c1, c2, c3, c4, c5, c6, c7, c8, c9, c10, c11⟩ := X0.cs12
    go_enter Try.func24, Try.ntmps24
    go_wp2_with fail
    refine (C0 _).mono ?_
    rintro e w1 ⟨rfl, hB⟩
    have HB2 := HB.trans (hB.mono HB.size)
    clear hB
    go_wp2
    go_ret
    exact ⟨rfl, HB2⟩
  · rw [hb] at C0
    rw [if_pos rfl]
    clear hb
    obtain ⟨c0, c1, c2, c3, c4, c5, c6, c7, c8, c9, c10, c11⟩ := X0.cs12
    have hsz1 : (txS x ++ ⟨#[44]⟩).size = (txS x).size + 1 := by rw [ByteArray.size_append]; rfl
    have r1 : ¬ (9223372036854775807 < (txS x).size + 1) := by omega
    have r2 : ¬ (9223372036854775807 < (txS x).size + 1 + (txS y).size) := by omega
    have q2 : ¬ (9223372036854775807 < (txS x ++ ⟨#[44]⟩).size + (txS y).size) := by omega
    have tok1 : True := trivial
    go_enter Try.func24, Try.ntmps24
    go_wp2_with fail
    refine (C0 _).mono ?_
    rintro e w1 ⟨rfl, hB⟩
    replace X0 := X0.step hB
    replace HB := HB.trans (hB.mono HB.size)
    clear hB C0 c0 c1 c2 c3 c4 c5 c6 c7 c8 c9 c10 c11
    obtain ⟨c0, c1, c2, c3, c4, c5, c6, c7, c8, c9, c10, c11⟩ := X0.cs12
    go_wp2_with fail
    refine (CO _).mono ?_
    rintro e w2 ⟨s1, o1, n1, k1, d1, s2, o2, n2, k2, d2, s3, o3, n3, k3, d3, rfl, N1, N2, N3, hB⟩
    replace HB := HB.trans (hB.mono HB.size)
    clear hB CO X0 c0 c1 c2 c3 c4 c5 c6 c7 c8 c9 c10 c11
    generalize k1 = c1 at *
    generalize k2 = c2 at *
    generalize k3 = c3 at *
    have X0 := Blk.new w2 [.bool s1, .slice o1 n1 c1, .bool s2, .slice o2 n2 c2, .bool s3, .slice o3 n3 c3] 95 rfl
    rw [show ([.bool s1, .slice o1 n1 c1, .bool s2, .slice o2 n2 c2, .bool s3, .slice o3 n3 c3] : List Value).toArray = #[.bool s1, .slice o1 n1 c1, .bool s2, .slice o2 n2 c2, .bool s3, .slice o3 n3 c3] from rfl] at X0
    replace HB := HB.alloc HB.size (.cells #[.bool s1, .slice o1 n1 c1, .bool s2, .slice o2 n2 c2, .bool s3, .slice o3 n3 c3] 95)
    replace N1 := N1.alloc (.cells #[.bool s1, .slice o1 n1 c1, .bool s2, .slice o2 n2 c2, .bool s3, .slice o3 n3 c3] 95)
    replace N2 := N2.alloc (.cells #[.bool s1, .slice o1 n1 c1, .bool s2, .slice o2 n2 c2, .bool s3, .slice o3 n3 c3] 95)
    replace N3 := N3.alloc (.cells #[.bool s1, .slice o1 n1 c1, .bool s2, .slice o2 n2 c2, .bool s3, .slice o3 n3 c3] 95)
    go_upto_region 4 with fail
    generalize (w2.alloc (.cells #[.bool s1, .slice o1 n1 c1, .bool s2, .slice o2 n2 c2, .bool s3, .slice o3 n3 c3] 95)) = W at *
    generalize w2.heap.size = g at *
    go_cut [4] (fun p wx => p = .string (txS x ++ ⟨#[44]⟩ ++ txS y) ∧ Blk wx g [.bool s1, .slice o1 n1 c1, .bool s2, .slice o2 n2 c2, .bool s3, .slice o3 n3 c3] ∧ Below w.heap.size w wx ∧ IsNum wx s1 o1 n1 c1 d1 x 8 ∧ IsNum wx s2 o2 n2 c2 d2 y 8 ∧ IsNum wx s3 o3 n3 c3 d3 z 8)
    case first =>
      go_region_held3 (fun w' => w'.cell? ⟨g, 0, none⟩ = some (.bool s1) ∧ w'.cell? ⟨g, 1, none⟩ = some (.slice o1 n1 c1) ∧ w'.cell? ⟨g, 2, none⟩ = some (.bool s2) ∧ w'.cell? ⟨g, 3, none⟩ = some (.slice o2 n2 c2) ∧ w'.cell? ⟨g, 4, none⟩ = some (.bool s3) ∧ w'.cell? ⟨g, 5, none⟩ = some (.slice o3 n3 c3)) (first | (with_reducible exact X0.cs6) | (with_reducible exact X0.drew.cs6))
        (first
          | (go_at_call 42; have _t := tok1; refine (l1Text_any s1 o1 n1 c1 d1 x 8 _ (by first | (with_reducible exact N1) | (with_reducible exact N1.drew)) (by omega)).mono ?_; rintro e w5 ⟨rfl, hB⟩; (first | (replace X0 := X0.step hB; replace HB := HB.trans (hB.mono HB.size); replace N1 := N1.step hB; replace N2 := N2.step hB; replace N3 := N3.step hB) | (replace X0 := X0.drew.step hB; replace HB := HB.drew.trans (hB.mono HB.size); replace N1 := N1.drew.step hB; replace N2 := N2.drew.step hB; replace N3 := N3.drew.step hB)); clear hB tok1 _t)
          | (go_at_call 42; refine (l1Text_any s2 o2 n2 c2 d2 y 8 _ (by first | (with_reducible exact N2) | (with_reducible exact N2.drew)) (by omega)).mono ?_; rintro e w6 ⟨rfl, hB⟩; (first | (replace X0 := X0.step hB; replace HB := HB.trans (hB.mono HB.size); replace N1 := N1.step hB; replace N2 := N2.step hB; replace N3 := N3.step hB) | (replace X0 := X0.drew.step hB; replace HB := HB.drew.trans (hB.mono HB.size); replace N1 := N1.drew.step hB; replace N2 := N2.drew.step hB; replace N3 := N3.drew.step hB)); clear hB))
      all_goals go_wp2_with fail
      all_goals go_meet
      all_goals exact ⟨rfl, X0, HB, N1, N2, N3⟩
    case rest =>
      clear X0 HB N1 N2 N3 tok1
      obtain ⟨hp, X0, HB, N1, N2, N3⟩ := hcut
      subst hp
      generalize wc = W2 at *
      rename_i hk
      refine hk _ _ ?_
      clear hk
      go_upto_region 5 with fail
      go_cut [22] (fun p wx => p = .bool (decide (z = 1)) ∧ Blk wx g [.bool s1, .slice o1 n1 c1, .bool s2, .slice o2 n2 c2, .bool s3, .slice o3 n3 c3] ∧ Below w.heap.size w wx ∧ IsNum wx s3 o3 n3 c3 d3 z 8)
      case first =>
        go_region_held3 (fun w' => w'.cell? ⟨g, 0, none⟩ = some (.bool s1) ∧ w'.cell? ⟨g, 1, none⟩ = some (.slice o1 n1 c1) ∧ w'.cell? ⟨g, 2, none⟩ = some (.bool s2) ∧ w'.cell? ⟨g, 3, none⟩ = some (.slice o2 n2 c2) ∧ w'.cell? ⟨g, 4, none⟩ = some (.bool s3) ∧ w'.cell? ⟨g, 5, none⟩ = some (.slice o3 n3 c3)) (first | (with_reducible exact X0.cs6) | (with_reducible exact X0.drew.cs6))
          (first
            | (go_at_call 57; refine (int_any 1 _ (by decide) (by decide)).mono ?_; rintro e w3 ⟨s5, o5, n5, c5, d5, rfl, N5, hB⟩; (first | (replace X0 := X0.step hB; replace HB := HB.trans (hB.mono HB.size); replace N1 := N1.step hB; replace N2 := N2.step hB; replace N3 := N3.step hB) | (replace X0 := X0.drew.step hB; replace HB := HB.drew.trans (hB.mono HB.size); replace N1 := N1.drew.step hB; replace N2 := N2.drew.step hB; replace N3 := N3.drew.step hB)); clear hB)
            | (go_at_call 56; refine (cmp_any s3 s5 o3 o5 n3 n5 c3 c5 8 d3 d5 _ _ _ N3 (num_more N5 (by omega)) (by omega)).mono ?_; rintro e w4 ⟨rfl, hB⟩; (first | (replace X0 := X0.step hB; replace HB := HB.trans (hB.mono HB.size); replace N1 := N1.step hB; replace N2 := N2.step hB; replace N3 := N3.step hB) | (replace X0 := X0.drew.step hB; replace HB := HB.drew.trans (hB.mono HB.size); replace N1 := N1.drew.step hB; replace N2 := N2.drew.step hB; replace N3 := N3.drew.step hB)); clear hB N5))
        all_goals go_wp2_with fail
        all_goals go_meet
        all_goals exact ⟨by rw [show (cmpI z 1 == 0) = decide (z = 1) from cmp_one z], X0, HB, N3⟩
      case rest =>
        clear X0 HB N1 N2 N3
        obtain ⟨hp, X0, HB, N3⟩ := hcut
        subst hp
        generalize wc = W3 at *
        rename_i hk
        refine hk _ _ ?_
        clear hk
        obtain ⟨e0, e1, e2, e3, e4, e5⟩ := X0.cs6
        by_cases h1 : z = 1
        · have HO : Hid (strL (ptL x y z) = txS x ++ ⟨#[44]⟩ ++ txS y) := by
            show _ = _
            unfold ptL
            rw [h1, unL_one, List.append_nil, strL_append, show (44 :: txL y) = [44] ++ txL y from rfl, strL_append, ← ByteArray.append_assoc]
            rfl
          rw [decide_eq_true h1]
          clear h1
          go_wp2
          go_ret
          exact ⟨by rw [HO.out]; rfl, HB⟩
        · have hcat : Hid (txS x ++ ⟨#[44]⟩ ++ txS y ++ ⟨#[47]⟩ ++ txS z = strL (ptL x y z)) := by
            show _ = _
            unfold ptL
            rw [unL_not h1, strL_append, show (44 :: (txL y ++ 47 :: txL z)) = [44] ++ (txL y ++ ([47] ++ txL z)) from rfl, strL_append, strL_append, strL_append, ← ByteArray.append_assoc, ← ByteArray.append_assoc, ← ByteArray.append_assoc]
            rfl
          have hsz2 : (txS x ++ ⟨#[44]⟩ ++ txS y).size = (txS x).size + 1 + (txS y).size := by rw [ByteArray.size_append, hsz1]
          have hsz3 : (txS x ++ ⟨#[44]⟩ ++ txS y ++ ⟨#[47]⟩).size = (txS x).size + 1 + (txS y).size + 1 := by rw [ByteArray.size_append, hsz2]; rfl
          have r3 : ¬ (9223372036854775807 < (txS x).size + 1 + (txS y).size + 1) := by omega
          have r4 : ¬ (9223372036854775807 < (txS x).size + 1 + (txS y).size + 1 + (txS z).size) := by omega
          rw [decide_eq_false h1]
          clear h1
          go_wp2_with fail
          refine (l1Text_any s3 o3 n3 c3 d3 z 8 _ N3 (by omega)).mono ?_
          rintro e w7 ⟨rfl, hB⟩
          have HB2 := HB.trans (hB.mono HB.size)
          clear hB X0 HB N3
          go_wp2
          go_ret
          exact ⟨by rw [← hcat.out]; rfl, HB2⟩
end Go.Proofs.Ytnnojeggjnddpaa
