/- Names and their masks: the program's map. -/
import Derived.Test.YtlfogfjehdgjmaaNamA
import Derived.Test.YtlfogfjehdgjmaaBase
import Derived.StringKeys
namespace Go.Proofs.Ytlfogfjehdgjmaa
open Go.RowKit
open Go.WideMaps
/-- An element of the map, as it lies. -/
def heldV (v : Value) : Option (DataW Value × List MemPlace) := some (.held v, [])
theorem keyS : Maps.Keyed Try.prog 9 := Maps.string_keyed Try.underlying9
theorem zeroMean (w : World) : (zeroValue 88).run Try.prog w = .ok (.agg #[.slice none 0 0]) w := by kernel_rfl
theorem blk_grown {W W' : World} {g b : Nat} {vs : List Value} (h : Blk W g vs) (hg : W.grownBy W' (some b)) (hne : g ≠ b) : Blk W' g vs := by
  have hb := hg.block g h.lt (fun e => hne (Option.some.inj e))
  exact ⟨Nat.lt_of_lt_of_le h.lt hg.size, fun i v hi => ⟨(World.cell?_of_block (a := ⟨g, i, none⟩) hb).trans (h.c i hi), (World.frozen?_of_block (a := ⟨g, i, none⟩) hb).trans (h.f i hi)⟩⟩
def D7 (v0 v1 v2 v3 v4 v5 v6 : Value) : DataW Value := ((((((((DataW.map []).put (.string [101, 113, 117, 97, 108, 115]) (.held v0)).put (.string [100, 105, 115, 106, 111, 105, 110, 116]) (.held v1)).put (.string [116, 111, 117, 99, 104, 101, 115]) (.held v2)).put (.string [119, 105, 116, 104, 105, 110]) (.held v3)).put (.string [99, 111, 110, 116, 97, 105, 110, 115]) (.held v4)).put (.string [111, 118, 101, 114, 108, 97, 112, 115]) (.held v5)).put (.string [105, 110, 116, 101, 114, 115, 101, 99, 116, 115]) (.held v6))
theorem D7_has0 (v0 v1 v2 v3 v4 v5 v6 : Value) : Maps.has (D7 v0 v1 v2 v3 v4 v5 v6) (.string [101, 113, 117, 97, 108, 115]) = true := by kernel_rfl
theorem D7_at0 (v0 v1 v2 v3 v4 v5 v6 : Value) (z : DataW Value) : (D7 v0 v1 v2 v3 v4 v5 v6).atKey (.string [101, 113, 117, 97, 108, 115]) z = .held v0 := by kernel_rfl
theorem D7_has1 (v0 v1 v2 v3 v4 v5 v6 : Value) : Maps.has (D7 v0 v1 v2 v3 v4 v5 v6) (.string [100, 105, 115, 106, 111, 105, 110, 116]) = true := by kernel_rfl
theorem D7_at1 (v0 v1 v2 v3 v4 v5 v6 : Value) (z : DataW Value) : (D7 v0 v1 v2 v3 v4 v5 v6).atKey (.string [100, 105, 115, 106, 111, 105, 110, 116]) z = .held v1 := by kernel_rfl
theorem D7_has2 (v0 v1 v2 v3 v4 v5 v6 : Value) : Maps.has (D7 v0 v1 v2 v3 v4 v5 v6) (.string [116, 111, 117, 99, 104, 101, 115]) = true := by kernel_rfl
theorem D7_at2 (v0 v1 v2 v3 v4 v5 v6 : Value) (z : DataW Value) : (D7 v0 v1 v2 v3 v4 v5 v6).atKey (.string [116, 111, 117, 99, 104, 101, 115]) z = .held v2 := by kernel_rfl
theorem D7_has3 (v0 v1 v2 v3 v4 v5 v6 : Value) : Maps.has (D7 v0 v1 v2 v3 v4 v5 v6) (.string [119, 105, 116, 104, 105, 110]) = true := by kernel_rfl
theorem D7_at3 (v0 v1 v2 v3 v4 v5 v6 : Value) (z : DataW Value) : (D7 v0 v1 v2 v3 v4 v5 v6).atKey (.string [119, 105, 116, 104, 105, 110]) z = .held v3 := by kernel_rfl
theorem D7_has4 (v0 v1 v2 v3 v4 v5 v6 : Value) : Maps.has (D7 v0 v1 v2 v3 v4 v5 v6) (.string [99, 111, 110, 116, 97, 105, 110, 115]) = true := by kernel_rfl
theorem D7_at4 (v0 v1 v2 v3 v4 v5 v6 : Value) (z : DataW Value) : (D7 v0 v1 v2 v3 v4 v5 v6).atKey (.string [99, 111, 110, 116, 97, 105, 110, 115]) z = .held v4 := by kernel_rfl
theorem D7_has5 (v0 v1 v2 v3 v4 v5 v6 : Value) : Maps.has (D7 v0 v1 v2 v3 v4 v5 v6) (.string [111, 118, 101, 114, 108, 97, 112, 115]) = true := by kernel_rfl
theorem D7_at5 (v0 v1 v2 v3 v4 v5 v6 : Value) (z : DataW Value) : (D7 v0 v1 v2 v3 v4 v5 v6).atKey (.string [111, 118, 101, 114, 108, 97, 112, 115]) z = .held v5 := by kernel_rfl
theorem D7_has6 (v0 v1 v2 v3 v4 v5 v6 : Value) : Maps.has (D7 v0 v1 v2 v3 v4 v5 v6) (.string [105, 110, 116, 101, 114, 115, 101, 99, 116, 115]) = true := by kernel_rfl
theorem D7_at6 (v0 v1 v2 v3 v4 v5 v6 : Value) (z : DataW Value) : (D7 v0 v1 v2 v3 v4 v5 v6).atKey (.string [105, 110, 116, 101, 114, 115, 101, 99, 116, 115]) z = .held v6 := by kernel_rfl
theorem D7_has (v0 v1 v2 v3 v4 v5 v6 : Value) {x : Lit} (h0 : x ≠ .string [101, 113, 117, 97, 108, 115]) (h1 : x ≠ .string [100, 105, 115, 106, 111, 105, 110, 116]) (h2 : x ≠ .string [116, 111, 117, 99, 104, 101, 115]) (h3 : x ≠ .string [119, 105, 116, 104, 105, 110]) (h4 : x ≠ .string [99, 111, 110, 116, 97, 105, 110, 115]) (h5 : x ≠ .string [111, 118, 101, 114, 108, 97, 112, 115]) (h6 : x ≠ .string [105, 110, 116, 101, 114, 115, 101, 99, 116, 115]) : Maps.has (D7 v0 v1 v2 v3 v4 v5 v6) x = false := by
  unfold D7
  rw [Maps.has_put_other h6, Maps.has_put_other h5, Maps.has_put_other h4, Maps.has_put_other h3, Maps.has_put_other h2, Maps.has_put_other h1, Maps.has_put_other h0]
  rfl
theorem D7_at (v0 v1 v2 v3 v4 v5 v6 : Value) {x : Lit} (z : DataW Value) (h0 : x ≠ .string [101, 113, 117, 97, 108, 115]) (h1 : x ≠ .string [100, 105, 115, 106, 111, 105, 110, 116]) (h2 : x ≠ .string [116, 111, 117, 99, 104, 101, 115]) (h3 : x ≠ .string [119, 105, 116, 104, 105, 110]) (h4 : x ≠ .string [99, 111, 110, 116, 97, 105, 110, 115]) (h5 : x ≠ .string [111, 118, 101, 114, 108, 97, 112, 115]) (h6 : x ≠ .string [105, 110, 116, 101, 114, 115, 101, 99, 116, 115]) : (D7 v0 v1 v2 v3 v4 v5 v6).atKey x z = z := by
  unfold D7
  rw [Maps.atKey_put_other h6, Maps.atKey_put_other h5, Maps.atKey_put_other h4, Maps.atKey_put_other h3, Maps.atKey_put_other h2, Maps.atKey_put_other h1, Maps.atKey_put_other h0]
  rfl
theorem below_sa {w W : World} (h : Below w.heap.size w W) (v : Value) (o : Obj) : Below w.heap.size w ((W.setCell ⟨w.heap.size, 0, none⟩ v).alloc o) :=
  have h1 := h.setCell (p := ⟨w.heap.size, 0, none⟩) (Nat.le_refl _) v
  h1.alloc h1.size o
/-- What is told of a name: its masks, and whether it is one. -/
def MeanP (L : List ByteArray) (ok : Bool) (w : World) (e : Ending) (w' : World) : Prop := ∃ ao cap, e = .returned (.tuple #[.agg #[.slice ao L.length cap], .bool ok]) ∧ StIn w' ao L ∧ Below w.heap.size w w'
set_option maxRecDepth 100000 in
set_option maxHeartbeats 4000000 in
theorem meaning_any (s : ByteArray) (hs : s.size ≤ maxLen) (w : World) : Calls Try.prog 57 #[.string s] w (MeanP (masksL s) (!(masksL s).isEmpty) w) := by
  have hmm := @run_makeMap Try.prog
  obtain ⟨c0, hc0⟩ : ∃ c0 : Obj, c0 = .cells #[.slice none 0 0] 88 := ⟨_, rfl⟩
  have own0 : ((w.alloc c0).alloc (.map #[] 0)).ownsMap Try.prog 9 heldV (w.heap.size + 1) 0 (.map []) := by simpa using World.ownsMap_made (w.alloc c0) Try.prog 9 heldV
  have BR : Blk ((w.alloc c0).alloc (.map #[] 0)) w.heap.size [.slice none 0 0] := by rw [hc0]; exact (Blk.new w [.slice none 0 0] 88 rfl).alloc _
  have HB0 : Below w.heap.size w ((w.alloc c0).alloc (.map #[] 0)) := ((Below.refl _ _).alloc (Nat.le_refl _) _).alloc (by simp) _
  obtain ⟨w1, run0, own1, gr0⟩ := (own0.alloc (.cells #[.string ⟨#[84, 42, 70, 42, 42, 70, 70, 70, 42]⟩] 9)).update keyS Try.underlying138 (by unfold maxLen; omega) (val := .agg #[.slice (some ⟨w.heap.size + 1 + 1, 0, none⟩) 1 1]) (keyOf_string_mk Try.underlying9 (s := ⟨#[101, 113, 117, 97, 108, 115]⟩) (by decide)) rfl
  have B0 := blk_grown (Blk.new ((w.alloc c0).alloc (.map #[] 0)) [.string ⟨#[84, 42, 70, 42, 42, 70, 70, 70, 42]⟩] 9 (g := w.heap.size + 1 + 1) (by simp)) gr0 (by omega)
  replace BR := blk_grown (BR.alloc _) gr0 (by omega)
  have HB1 : Below w.heap.size w w1 := (HB0.alloc HB0.size _).grown gr0 (by have := HB0.size; simp; omega) (fun k hk => by cases hk; omega)
  have z1 : w.heap.size + 2 < w1.heap.size := by have := gr0.size; simp at this; omega
  clear own0 HB0
  obtain ⟨w2, run1, own2, gr1⟩ := (own1.alloc (.cells #[.string ⟨#[70, 70, 42, 70, 70, 42, 42, 42, 42]⟩] 9)).update keyS Try.underlying138 (by unfold maxLen; omega) (val := .agg #[.slice (some ⟨w1.heap.size, 0, none⟩) 1 1]) (keyOf_string_mk Try.underlying9 (s := ⟨#[100, 105, 115, 106, 111, 105, 110, 116]⟩) (by decide)) rfl
  have B1 := blk_grown (Blk.new w1 [.string ⟨#[70, 70, 42, 70, 70, 42, 42, 42, 42]⟩] 9 (g := w1.heap.size) (by rfl)) gr1 (by omega)
  replace B0 := blk_grown (B0.alloc _) gr1 (by omega)
  replace BR := blk_grown (BR.alloc _) gr1 (by omega)
  have HB2 : Below w.heap.size w w2 := (HB1.alloc HB1.size _).grown gr1 (by have := HB1.size; simp; omega) (fun k hk => by cases hk; omega)
  have z2 : w.heap.size + 2 < w2.heap.size := by have := gr1.size; simp at this; omega
  clear own1 HB1
  obtain ⟨w3, run2, own3, gr2⟩ := (own2.alloc (.cells #[.string ⟨#[70, 84, 42, 42, 42, 42, 42, 42, 42]⟩, .string ⟨#[70, 42, 42, 84, 42, 42, 42, 42, 42]⟩, .string ⟨#[70, 42, 42, 42, 84, 42, 42, 42, 42]⟩] 9)).update keyS Try.underlying138 (by unfold maxLen; omega) (val := .agg #[.slice (some ⟨w2.heap.size, 0, none⟩) 3 3]) (keyOf_string_mk Try.underlying9 (s := ⟨#[116, 111, 117, 99, 104, 101, 115]⟩) (by decide)) rfl
  have B2 := blk_grown (Blk.new w2 [.string ⟨#[70, 84, 42, 42, 42, 42, 42, 42, 42]⟩, .string ⟨#[70, 42, 42, 84, 42, 42, 42, 42, 42]⟩, .string ⟨#[70, 42, 42, 42, 84, 42, 42, 42, 42]⟩] 9 (g := w2.heap.size) (by rfl)) gr2 (by omega)
  replace B0 := blk_grown (B0.alloc _) gr2 (by omega)
  replace B1 := blk_grown (B1.alloc _) gr2 (by omega)
  replace BR := blk_grown (BR.alloc _) gr2 (by omega)
  have HB3 : Below w.heap.size w w3 := (HB2.alloc HB2.size _).grown gr2 (by have := HB2.size; simp; omega) (fun k hk => by cases hk; omega)
  have z3 : w.heap.size + 2 < w3.heap.size := by have := gr2.size; simp at this; omega
  clear own2 HB2
  obtain ⟨w4, run3, own4, gr3⟩ := (own3.alloc (.cells #[.string ⟨#[84, 42, 70, 42, 42, 70, 42, 42, 42]⟩] 9)).update keyS Try.underlying138 (by unfold maxLen; omega) (val := .agg #[.slice (some ⟨w3.heap.size, 0, none⟩) 1 1]) (keyOf_string_mk Try.underlying9 (s := ⟨#[119, 105, 116, 104, 105, 110]⟩) (by decide)) rfl
  have B3 := blk_grown (Blk.new w3 [.string ⟨#[84, 42, 70, 42, 42, 70, 42, 42, 42]⟩] 9 (g := w3.heap.size) (by rfl)) gr3 (by omega)
  replace B0 := blk_grown (B0.alloc _) gr3 (by omega)
  replace B1 := blk_grown (B1.alloc _) gr3 (by omega)
  replace B2 := blk_grown (B2.alloc _) gr3 (by omega)
  replace BR := blk_grown (BR.alloc _) gr3 (by omega)
  have HB4 : Below w.heap.size w w4 := (HB3.alloc HB3.size _).grown gr3 (by have := HB3.size; simp; omega) (fun k hk => by cases hk; omega)
  have z4 : w.heap.size + 2 < w4.heap.size := by have := gr3.size; simp at this; omega
  clear own3 HB3
  obtain ⟨w5, run4, own5, gr4⟩ := (own4.alloc (.cells #[.string ⟨#[84, 42, 42, 42, 42, 42, 70, 70, 42]⟩] 9)).update keyS Try.underlying138 (by unfold maxLen; omega) (val := .agg #[.slice (some ⟨w4.heap.size, 0, none⟩) 1 1]) (keyOf_string_mk Try.underlying9 (s := ⟨#[99, 111, 110, 116, 97, 105, 110, 115]⟩) (by decide)) rfl
  have B4 := blk_grown (Blk.new w4 [.string ⟨#[84, 42, 42, 42, 42, 42, 70, 70, 42]⟩] 9 (g := w4.heap.size) (by rfl)) gr4 (by omega)
  replace B0 := blk_grown (B0.alloc _) gr4 (by omega)
  replace B1 := blk_grown (B1.alloc _) gr4 (by omega)
  replace B2 := blk_grown (B2.alloc _) gr4 (by omega)
  replace B3 := blk_grown (B3.alloc _) gr4 (by omega)
  replace BR := blk_grown (BR.alloc _) gr4 (by omega)
  have HB5 : Below w.heap.size w w5 := (HB4.alloc HB4.size _).grown gr4 (by have := HB4.size; simp; omega) (fun k hk => by cases hk; omega)
  have z5 : w.heap.size + 2 < w5.heap.size := by have := gr4.size; simp at this; omega
  clear own4 HB4
  obtain ⟨w6, run5, own6, gr5⟩ := (own5.alloc (.cells #[.string ⟨#[84, 42, 84, 42, 42, 42, 84, 42, 42]⟩] 9)).update keyS Try.underlying138 (by unfold maxLen; omega) (val := .agg #[.slice (some ⟨w5.heap.size, 0, none⟩) 1 1]) (keyOf_string_mk Try.underlying9 (s := ⟨#[111, 118, 101, 114, 108, 97, 112, 115]⟩) (by decide)) rfl
  have B5 := blk_grown (Blk.new w5 [.string ⟨#[84, 42, 84, 42, 42, 42, 84, 42, 42]⟩] 9 (g := w5.heap.size) (by rfl)) gr5 (by omega)
  replace B0 := blk_grown (B0.alloc _) gr5 (by omega)
  replace B1 := blk_grown (B1.alloc _) gr5 (by omega)
  replace B2 := blk_grown (B2.alloc _) gr5 (by omega)
  replace B3 := blk_grown (B3.alloc _) gr5 (by omega)
  replace B4 := blk_grown (B4.alloc _) gr5 (by omega)
  replace BR := blk_grown (BR.alloc _) gr5 (by omega)
  have HB6 : Below w.heap.size w w6 := (HB5.alloc HB5.size _).grown gr5 (by have := HB5.size; simp; omega) (fun k hk => by cases hk; omega)
  have z6 : w.heap.size + 2 < w6.heap.size := by have := gr5.size; simp at this; omega
  clear own5 HB5
  obtain ⟨w7, run6, own7, gr6⟩ := (own6.alloc (.cells #[.string ⟨#[84, 42, 42, 42, 42, 42, 42, 42, 42]⟩, .string ⟨#[42, 84, 42, 42, 42, 42, 42, 42, 42]⟩, .string ⟨#[42, 42, 42, 84, 42, 42, 42, 42, 42]⟩, .string ⟨#[42, 42, 42, 42, 84, 42, 42, 42, 42]⟩] 9)).update keyS Try.underlying138 (by unfold maxLen; omega) (val := .agg #[.slice (some ⟨w6.heap.size, 0, none⟩) 4 4]) (keyOf_string_mk Try.underlying9 (s := ⟨#[105, 110, 116, 101, 114, 115, 101, 99, 116, 115]⟩) (by decide)) rfl
  have B6 := blk_grown (Blk.new w6 [.string ⟨#[84, 42, 42, 42, 42, 42, 42, 42, 42]⟩, .string ⟨#[42, 84, 42, 42, 42, 42, 42, 42, 42]⟩, .string ⟨#[42, 42, 42, 84, 42, 42, 42, 42, 42]⟩, .string ⟨#[42, 42, 42, 42, 84, 42, 42, 42, 42]⟩] 9 (g := w6.heap.size) (by rfl)) gr6 (by omega)
  replace B0 := blk_grown (B0.alloc _) gr6 (by omega)
  replace B1 := blk_grown (B1.alloc _) gr6 (by omega)
  replace B2 := blk_grown (B2.alloc _) gr6 (by omega)
  replace B3 := blk_grown (B3.alloc _) gr6 (by omega)
  replace B4 := blk_grown (B4.alloc _) gr6 (by omega)
  replace B5 := blk_grown (B5.alloc _) gr6 (by omega)
  replace BR := blk_grown (BR.alloc _) gr6 (by omega)
  have HB7 : Below w.heap.size w w7 := (HB6.alloc HB6.size _).grown gr6 (by have := HB6.size; simp; omega) (fun k hk => by cases hk; omega)
  have z7 : w.heap.size + 2 < w7.heap.size := by have := gr6.size; simp at this; omega
  clear own6 HB6
  have own : w7.ownsMap Try.prog 9 heldV (w.heap.size + 1) 7 (D7 (.agg #[.slice (some ⟨w.heap.size + 1 + 1, 0, none⟩) 1 1]) (.agg #[.slice (some ⟨w1.heap.size, 0, none⟩) 1 1]) (.agg #[.slice (some ⟨w2.heap.size, 0, none⟩) 3 3]) (.agg #[.slice (some ⟨w3.heap.size, 0, none⟩) 1 1]) (.agg #[.slice (some ⟨w4.heap.size, 0, none⟩) 1 1]) (.agg #[.slice (some ⟨w5.heap.size, 0, none⟩) 1 1]) (.agg #[.slice (some ⟨w6.heap.size, 0, none⟩) 4 4])) := own7
  have LK := fun key kl hk => own.look_ok keyS Try.underlying138 (zeroMean w7) (zd := .held (.agg #[.slice none 0 0])) (zp := []) rfl (key := key) (kl := kl) hk
  clear own7 own gr0 gr1 gr2 gr3 gr4 gr5 gr6
  subst hc0
  by_cases h0 : s = nm0
  · subst h0
    rw [masksL_0]
    obtain ⟨vL, ps, runL, hvL⟩ := LK (.string ⟨#[101, 113, 117, 97, 108, 115]⟩) (.string [101, 113, 117, 97, 108, 115]) (keyOf_string_mk Try.underlying9 (s := ⟨#[101, 113, 117, 97, 108, 115]⟩) (by decide))
    rw [D7_has0] at runL
    rw [D7_at0] at hvL
    obtain rfl : vL = .agg #[.slice (some ⟨w.heap.size + 1 + 1, 0, none⟩) 1 1] := by
      unfold heldV at hvL
      simp only [Option.some.injEq, Prod.mk.injEq, DataW.held.injEq] at hvL
      exact hvL.1
    clear hvL LK B1 B2 B3 B4 B5 B6
    have HS : Hid (StIn w7 (some ⟨w.heap.size + 1 + 1, 0, none⟩) [⟨#[84, 42, 70, 42, 42, 70, 70, 70, 42]⟩]) := StIn.blk (L := [⟨#[84, 42, 70, 42, 42, 70, 70, 70, 42]⟩]) B0
    clear B0
    unfold nm0
    go_enter Try.func57, Try.ntmps57
    have r0 := BR.c 0 rfl; have rf := BR.f 0 rfl; have rl := BR.lt
    clear BR
    go_wp2
    refine bodyPost_ret (v := .tuple #[.agg #[.slice (some ⟨w.heap.size + 1 + 1, 0, none⟩) 1 1], .bool true]) (by simp [results, Try.results57, go_sem, r0, rl]) rfl ?_
    exact ⟨_, _, rfl, (HS.out.set (p := ⟨w.heap.size, 0, none⟩) (fun g off e => by cases e; show _ ≠ w.heap.size; omega) _).step ((Below.refl _ _).alloc (Nat.le_refl _) _), below_sa HB7 _ _⟩
  by_cases h1 : s = nm1
  · subst h1
    rw [masksL_1]
    obtain ⟨vL, ps, runL, hvL⟩ := LK (.string ⟨#[100, 105, 115, 106, 111, 105, 110, 116]⟩) (.string [100, 105, 115, 106, 111, 105, 110, 116]) (keyOf_string_mk Try.underlying9 (s := ⟨#[100, 105, 115, 106, 111, 105, 110, 116]⟩) (by decide))
    rw [D7_has1] at runL
    rw [D7_at1] at hvL
    obtain rfl : vL = .agg #[.slice (some ⟨w1.heap.size, 0, none⟩) 1 1] := by
      unfold heldV at hvL
      simp only [Option.some.injEq, Prod.mk.injEq, DataW.held.injEq] at hvL
      exact hvL.1
    clear hvL LK B0 B2 B3 B4 B5 B6
    have HS : Hid (StIn w7 (some ⟨w1.heap.size, 0, none⟩) [⟨#[70, 70, 42, 70, 70, 42, 42, 42, 42]⟩]) := StIn.blk (L := [⟨#[70, 70, 42, 70, 70, 42, 42, 42, 42]⟩]) B1
    clear B1
    unfold nm1
    go_enter Try.func57, Try.ntmps57
    have r0 := BR.c 0 rfl; have rf := BR.f 0 rfl; have rl := BR.lt
    clear BR
    go_wp2
    refine bodyPost_ret (v := .tuple #[.agg #[.slice (some ⟨w1.heap.size, 0, none⟩) 1 1], .bool true]) (by simp [results, Try.results57, go_sem, r0, rl]) rfl ?_
    exact ⟨_, _, rfl, (HS.out.set (p := ⟨w.heap.size, 0, none⟩) (fun g off e => by cases e; show _ ≠ w.heap.size; omega) _).step ((Below.refl _ _).alloc (Nat.le_refl _) _), below_sa HB7 _ _⟩
  by_cases h2 : s = nm2
  · subst h2
    rw [masksL_2]
    obtain ⟨vL, ps, runL, hvL⟩ := LK (.string ⟨#[116, 111, 117, 99, 104, 101, 115]⟩) (.string [116, 111, 117, 99, 104, 101, 115]) (keyOf_string_mk Try.underlying9 (s := ⟨#[116, 111, 117, 99, 104, 101, 115]⟩) (by decide))
    rw [D7_has2] at runL
    rw [D7_at2] at hvL
    obtain rfl : vL = .agg #[.slice (some ⟨w2.heap.size, 0, none⟩) 3 3] := by
      unfold heldV at hvL
      simp only [Option.some.injEq, Prod.mk.injEq, DataW.held.injEq] at hvL
      exact hvL.1
    clear hvL LK B0 B1 B3 B4 B5 B6
    have HS : Hid (StIn w7 (some ⟨w2.heap.size, 0, none⟩) [⟨#[70, 84, 42, 42, 42, 42, 42, 42, 42]⟩, ⟨#[70, 42, 42, 84, 42, 42, 42, 42, 42]⟩, ⟨#[70, 42, 42, 42, 84, 42, 42, 42, 42]⟩]) := StIn.blk (L := [⟨#[70, 84, 42, 42, 42, 42, 42, 42, 42]⟩, ⟨#[70, 42, 42, 84, 42, 42, 42, 42, 42]⟩, ⟨#[70, 42, 42, 42, 84, 42, 42, 42, 42]⟩]) B2
    clear B2
    unfold nm2
    go_enter Try.func57, Try.ntmps57
    have r0 := BR.c 0 rfl; have rf := BR.f 0 rfl; have rl := BR.lt
    clear BR
    go_wp2
    refine bodyPost_ret (v := .tuple #[.agg #[.slice (some ⟨w2.heap.size, 0, none⟩) 3 3], .bool true]) (by simp [results, Try.results57, go_sem, r0, rl]) rfl ?_
    exact ⟨_, _, rfl, (HS.out.set (p := ⟨w.heap.size, 0, none⟩) (fun g off e => by cases e; show _ ≠ w.heap.size; omega) _).step ((Below.refl _ _).alloc (Nat.le_refl _) _), below_sa HB7 _ _⟩
  by_cases h3 : s = nm3
  · subst h3
    rw [masksL_3]
    obtain ⟨vL, ps, runL, hvL⟩ := LK (.string ⟨#[119, 105, 116, 104, 105, 110]⟩) (.string [119, 105, 116, 104, 105, 110]) (keyOf_string_mk Try.underlying9 (s := ⟨#[119, 105, 116, 104, 105, 110]⟩) (by decide))
    rw [D7_has3] at runL
    rw [D7_at3] at hvL
    obtain rfl : vL = .agg #[.slice (some ⟨w3.heap.size, 0, none⟩) 1 1] := by
      unfold heldV at hvL
      simp only [Option.some.injEq, Prod.mk.injEq, DataW.held.injEq] at hvL
      exact hvL.1
    clear hvL LK B0 B1 B2 B4 B5 B6
    have HS : Hid (StIn w7 (some ⟨w3.heap.size, 0, none⟩) [⟨#[84, 42, 70, 42, 42, 70, 42, 42, 42]⟩]) := StIn.blk (L := [⟨#[84, 42, 70, 42, 42, 70, 42, 42, 42]⟩]) B3
    clear B3
    unfold nm3
    go_enter Try.func57, Try.ntmps57
    have r0 := BR.c 0 rfl; have rf := BR.f 0 rfl; have rl := BR.lt
    clear BR
    go_wp2
    refine bodyPost_ret (v := .tuple #[.agg #[.slice (some ⟨w3.heap.size, 0, none⟩) 1 1], .bool true]) (by simp [results, Try.results57, go_sem, r0, rl]) rfl ?_
    exact ⟨_, _, rfl, (HS.out.set (p := ⟨w.heap.size, 0, none⟩) (fun g off e => by cases e; show _ ≠ w.heap.size; omega) _).step ((Below.refl _ _).alloc (Nat.le_refl _) _), below_sa HB7 _ _⟩
  by_cases h4 : s = nm4
  · subst h4
    rw [masksL_4]
    obtain ⟨vL, ps, runL, hvL⟩ := LK (.string ⟨#[99, 111, 110, 116, 97, 105, 110, 115]⟩) (.string [99, 111, 110, 116, 97, 105, 110, 115]) (keyOf_string_mk Try.underlying9 (s := ⟨#[99, 111, 110, 116, 97, 105, 110, 115]⟩) (by decide))
    rw [D7_has4] at runL
    rw [D7_at4] at hvL
    obtain rfl : vL = .agg #[.slice (some ⟨w4.heap.size, 0, none⟩) 1 1] := by
      unfold heldV at hvL
      simp only [Option.some.injEq, Prod.mk.injEq, DataW.held.injEq] at hvL
      exact hvL.1
    clear hvL LK B0 B1 B2 B3 B5 B6
    have HS : Hid (StIn w7 (some ⟨w4.heap.size, 0, none⟩) [⟨#[84, 42, 42, 42, 42, 42, 70, 70, 42]⟩]) := StIn.blk (L := [⟨#[84, 42, 42, 42, 42, 42, 70, 70, 42]⟩]) B4
    clear B4
    unfold nm4
    go_enter Try.func57, Try.ntmps57
    have r0 := BR.c 0 rfl; have rf := BR.f 0 rfl; have rl := BR.lt
    clear BR
    go_wp2
    refine bodyPost_ret (v := .tuple #[.agg #[.slice (some ⟨w4.heap.size, 0, none⟩) 1 1], .bool true]) (by simp [results, Try.results57, go_sem, r0, rl]) rfl ?_
    exact ⟨_, _, rfl, (HS.out.set (p := ⟨w.heap.size, 0, none⟩) (fun g off e => by cases e; show _ ≠ w.heap.size; omega) _).step ((Below.refl _ _).alloc (Nat.le_refl _) _), below_sa HB7 _ _⟩
  by_cases h5 : s = nm5
  · subst h5
    rw [masksL_5]
    obtain ⟨vL, ps, runL, hvL⟩ := LK (.string ⟨#[111, 118, 101, 114, 108, 97, 112, 115]⟩) (.string [111, 118, 101, 114, 108, 97, 112, 115]) (keyOf_string_mk Try.underlying9 (s := ⟨#[111, 118, 101, 114, 108, 97, 112, 115]⟩) (by decide))
    rw [D7_has5] at runL
    rw [D7_at5] at hvL
    obtain rfl : vL = .agg #[.slice (some ⟨w5.heap.size, 0, none⟩) 1 1] := by
      unfold heldV at hvL
      simp only [Option.some.injEq, Prod.mk.injEq, DataW.held.injEq] at hvL
      exact hvL.1
    clear hvL LK B0 B1 B2 B3 B4 B6
    have HS : Hid (StIn w7 (some ⟨w5.heap.size, 0, none⟩) [⟨#[84, 42, 84, 42, 42, 42, 84, 42, 42]⟩]) := StIn.blk (L := [⟨#[84, 42, 84, 42, 42, 42, 84, 42, 42]⟩]) B5
    clear B5
    unfold nm5
    go_enter Try.func57, Try.ntmps57
    have r0 := BR.c 0 rfl; have rf := BR.f 0 rfl; have rl := BR.lt
    clear BR
    go_wp2
    refine bodyPost_ret (v := .tuple #[.agg #[.slice (some ⟨w5.heap.size, 0, none⟩) 1 1], .bool true]) (by simp [results, Try.results57, go_sem, r0, rl]) rfl ?_
    exact ⟨_, _, rfl, (HS.out.set (p := ⟨w.heap.size, 0, none⟩) (fun g off e => by cases e; show _ ≠ w.heap.size; omega) _).step ((Below.refl _ _).alloc (Nat.le_refl _) _), below_sa HB7 _ _⟩
  by_cases h6 : s = nm6
  · subst h6
    rw [masksL_6]
    obtain ⟨vL, ps, runL, hvL⟩ := LK (.string ⟨#[105, 110, 116, 101, 114, 115, 101, 99, 116, 115]⟩) (.string [105, 110, 116, 101, 114, 115, 101, 99, 116, 115]) (keyOf_string_mk Try.underlying9 (s := ⟨#[105, 110, 116, 101, 114, 115, 101, 99, 116, 115]⟩) (by decide))
    rw [D7_has6] at runL
    rw [D7_at6] at hvL
    obtain rfl : vL = .agg #[.slice (some ⟨w6.heap.size, 0, none⟩) 4 4] := by
      unfold heldV at hvL
      simp only [Option.some.injEq, Prod.mk.injEq, DataW.held.injEq] at hvL
      exact hvL.1
    clear hvL LK B0 B1 B2 B3 B4 B5
    have HS : Hid (StIn w7 (some ⟨w6.heap.size, 0, none⟩) [⟨#[84, 42, 42, 42, 42, 42, 42, 42, 42]⟩, ⟨#[42, 84, 42, 42, 42, 42, 42, 42, 42]⟩, ⟨#[42, 42, 42, 84, 42, 42, 42, 42, 42]⟩, ⟨#[42, 42, 42, 42, 84, 42, 42, 42, 42]⟩]) := StIn.blk (L := [⟨#[84, 42, 42, 42, 42, 42, 42, 42, 42]⟩, ⟨#[42, 84, 42, 42, 42, 42, 42, 42, 42]⟩, ⟨#[42, 42, 42, 84, 42, 42, 42, 42, 42]⟩, ⟨#[42, 42, 42, 42, 84, 42, 42, 42, 42]⟩]) B6
    clear B6
    unfold nm6
    go_enter Try.func57, Try.ntmps57
    have r0 := BR.c 0 rfl; have rf := BR.f 0 rfl; have rl := BR.lt
    clear BR
    go_wp2
    refine bodyPost_ret (v := .tuple #[.agg #[.slice (some ⟨w6.heap.size, 0, none⟩) 4 4], .bool true]) (by simp [results, Try.results57, go_sem, r0, rl]) rfl ?_
    exact ⟨_, _, rfl, (HS.out.set (p := ⟨w.heap.size, 0, none⟩) (fun g off e => by cases e; show _ ≠ w.heap.size; omega) _).step ((Below.refl _ _).alloc (Nat.le_refl _) _), below_sa HB7 _ _⟩
  rw [masksL_none h0 h1 h2 h3 h4 h5 h6]
  obtain ⟨vL, ps, runL, hvL⟩ := LK (.string s) (.string s.data.toList) (keyOf_string_mk Try.underlying9 hs)
  rw [D7_has _ _ _ _ _ _ _ (ne_data h0) (ne_data h1) (ne_data h2) (ne_data h3) (ne_data h4) (ne_data h5) (ne_data h6)] at runL
  rw [D7_at _ _ _ _ _ _ _ _ (ne_data h0) (ne_data h1) (ne_data h2) (ne_data h3) (ne_data h4) (ne_data h5) (ne_data h6)] at hvL
  obtain rfl : vL = .agg #[.slice none 0 0] := by
    unfold heldV at hvL
    simp only [Option.some.injEq, Prod.mk.injEq, DataW.held.injEq] at hvL
    exact hvL.1
  clear hvL LK B0 B1 B2 B3 B4 B5 B6 h0 h1 h2 h3 h4 h5 h6
  go_enter Try.func57, Try.ntmps57
  have r0 := BR.c 0 rfl; have rf := BR.f 0 rfl; have rl := BR.lt
  clear BR
  go_wp2
  refine bodyPost_ret (v := .tuple #[.agg #[.slice none 0 0], .bool false]) (by simp [results, Try.results57, go_sem, r0, rl]) rfl ?_
  exact ⟨_, _, rfl, fun i hi => by simp at hi, below_sa HB7 _ _⟩
end Go.Proofs.Ytlfogfjehdgjmaa
