/- How a fraction of two numbers reads as data: opened and shut. -/
import Derived.Test.YtddniklhpkagmaaBase4
namespace Go.Proofs.Ytddniklhpkagmaa
open Go.ChangeShapes Go.WideShapes Go.ChangeAt Go.RowKit Go.Joins
abbrev Wu (x : Int) : Prop := (Lit.int .u64 x).wf = true
abbrev WdD {H : Type} (a3 a2 a1 a0 : Int) : DataW H := .agg [.lit (.int .u64 a3), .lit (.int .u64 a2), .lit (.int .u64 a1), .lit (.int .u64 a0)]
theorem Try.cellsRatio : Try.prog.cellsOf 38 = 8 := by kernel_rfl
theorem array8 (T : Array Value) (h : T.size = 8) : ∃ v0 v1 v2 v3 v4 v5 v6 v7 : Value, T = #[v0, v1, v2, v3, v4, v5, v6, v7] := by
  match T, h with
  | ⟨[v0, v1, v2, v3, v4, v5, v6, v7]⟩, _ => exact ⟨v0, v1, v2, v3, v4, v5, v6, v7, rfl⟩
theorem trod_wide {H : Type} {enc : TypeId × Value → H} {w : World} {base : Nat} {spare : TypeId → Bool} {held : Bool} {n : Nat} {c0 c1 c2 c3 : Value} {y : DataW H × List MemPlace} (h : DataW.trod enc Try.prog w base spare held n 24 [c0, c1, c2, c3] = some y) :
    ∃ a3 a2 a1 a0 : Int, c0 = .int .u64 a3 ∧ c1 = .int .u64 a2 ∧ c2 = .int .u64 a1 ∧ c3 = .int .u64 a0 ∧ y = (WdD a3 a2 a1 a0, []) ∧ Wu a3 ∧ Wu a2 ∧ Wu a1 ∧ Wu a0 := by
  obtain ⟨y0, y1, y2, y3, m, hx, _, h0, h1, h2, h3⟩ := trod_struct4 Try.underlying24 h
  obtain ⟨a, e0, rfl, wa⟩ := DataW.trod_int Try.underlying22 h0
  obtain ⟨b, e1, rfl, wb⟩ := DataW.trod_int Try.underlying22 h1
  obtain ⟨c, e2, rfl, wc⟩ := DataW.trod_int Try.underlying22 h2
  obtain ⟨d, e3, rfl, wd⟩ := DataW.trod_int Try.underlying22 h3
  have k : Try.prog.cellsOf 22 = 1 := by kernel_rfl
  simp [k] at e0 e1 e2 e3
  exact ⟨a, b, c, d, e0, e1, e2, e3, hx, wa, wb, wc, wd⟩
set_option maxRecDepth 100000 in
theorem open_ratio {H : Type} {enc : TypeId × Value → H} {w : World} {b0' : Nat} {v : Value} {d : DataW H} {p : List MemPlace} (hv : Value.okWide Try.prog w .any b0' 38 v) (h : DataW.Trod enc Try.prog w 0 (fun _ => true) true 38 v d p) :
    ∃ a3 a2 a1 a0 b3 b2 b1 b0 : Int, v = .agg #[.int .u64 a3, .int .u64 a2, .int .u64 a1, .int .u64 a0, .int .u64 b3, .int .u64 b2, .int .u64 b1, .int .u64 b0] ∧ d = .agg [WdD a3 a2 a1 a0, WdD b3 b2 b1 b0] ∧ p = [] ∧ (Wu a3 ∧ Wu a2 ∧ Wu a1 ∧ Wu a0) ∧ Wu b3 ∧ Wu b2 ∧ Wu b1 ∧ Wu b0 := by
  obtain ⟨cs, rfl, hsz⟩ := okWide_struct Try.underlying38 hv
  obtain ⟨c0, c1, c2, c3, c4, c5, c6, c7, rfl⟩ := array8 cs (hsz.trans Try.cellsRatio)
  obtain ⟨fuel, hf⟩ := h
  obtain ⟨y0, y1, n, hx, _, h0, h1⟩ := trod_struct2 Try.underlying38 hf
  simp [Value.cells, Try.cells28] at h0 h1
  obtain ⟨a3, a2, a1, a0, rfl, rfl, rfl, rfl, rfl, wa⟩ := trod_wide h0
  obtain ⟨b3, b2, b1, b0, rfl, rfl, rfl, rfl, rfl, wb⟩ := trod_wide h1
  simp only [Prod.mk.injEq] at hx
  exact ⟨a3, a2, a1, a0, b3, b2, b1, b0, rfl, hx.1, by simpa using hx.2, wa, wb⟩
theorem shut_ratio {H : Type} {enc : TypeId × Value → H} {w : World} {base : Nat} {spare : TypeId → Bool} {held : Bool} {a3 a2 a1 a0 b3 b2 b1 b0 : Int} (wa : Wu a3 ∧ Wu a2 ∧ Wu a1 ∧ Wu a0) (wb : Wu b3 ∧ Wu b2 ∧ Wu b1 ∧ Wu b0) :
    DataW.Trod enc Try.prog w base spare held 38 (.agg #[.int .u64 a3, .int .u64 a2, .int .u64 a1, .int .u64 a0, .int .u64 b3, .int .u64 b2, .int .u64 b1, .int .u64 b0]) (.agg [WdD a3 a2 a1 a0, WdD b3 b2 b1 b0]) [] := by
  obtain ⟨n0, t0⟩ := shut_wide (enc := enc) (w := w) (base := base) (spare := spare) (held := held) wa.1 wa.2.1 wa.2.2.1 wa.2.2.2
  obtain ⟨n1, t1⟩ := shut_wide (enc := enc) (w := w) (base := base) (spare := spare) (held := held) wb.1 wb.2.1 wb.2.2.1 wb.2.2.2
  have ts := trod_struct2_mk (enc := enc) (w := w) (base := base) (spare := spare) (held := held) (n := max n0 n1) (cs := [.int .u64 a3, .int .u64 a2, .int .u64 a1, .int .u64 a0, .int .u64 b3, .int .u64 b2, .int .u64 b1, .int .u64 b0]) Try.underlying38 (by simp [Try.cellsRatio])
    (by simpa [Value.cells, Try.cells28] using DataW.trod_le (Nat.le_max_left n0 n1) t0) (by simpa [Value.cells, Try.cells28] using DataW.trod_le (Nat.le_max_right n0 n1) t1)
  exact ⟨_, by simpa [Value.cells] using ts⟩
end Go.Proofs.Ytddniklhpkagmaa
