/- For every code (a slice of bytes) the law answers true, and the code reads as it did: the sides of a right layer are quiet, and of other segments the model says whether they are; no condition. -/
import Derived.Test.YteakhlipmmfilaaGreatQy8
import Derived.Test.YteakhlipmmfilaaGreatQy9
import Derived.Test.YteakhlipmmfilaaGreatQy4
import Derived.Test.YteakhlipmmfilaaGreatQy10
import Derived.Test.YteakhlipmmfilaaGreatQy15
import Derived.Test.YteakhlipmmfilaaGreatQy16
import Derived.Test.YteakhlipmmfilaaGreatQy17
import Derived.ProofKit
import Derived.Lib.SmallJoins
import Derived.SizedLaws
namespace Go.Proofs.YteakhlipmmfilaaGreat
open Go.ChangeShapes Go.WideShapes Go.ChangeAt Go.RowKit Go.Joins
theorem Tryz.laidOut : laidOutB Tryz.prog = true := by kernel_rfl
theorem Tryz.cellsByte : Tryz.prog.cellsOf 5 = 1 := by kernel_rfl
theorem byte_of_wf {x : Int} (h : (Lit.int .u8 x).wf = true) : 0 ≤ x ∧ x < 256 := by
  simp [Lit.wf, IntKind.min, IntKind.max, IntKind.signed, IntKind.bits] at h
  exact ⟨by omega, by omega⟩
theorem code_of {W : World} {a : Addr} {len : Nat} {zs : List Int} (hlen : len ≤ zs.length) (hs : len ≤ 1048576) (hcell : ∀ i, i < zs.length → W.cell? (a.add i) = some (.int .u8 (zs.getD i 0))) (hwz : ∀ n ∈ zs, (Lit.int .u8 n).wf = true) (hlt : ∀ x ∈ MemPlace.row a zs.length, x.block < W.heap.size) : Code W (some a) len (zs.take len) := by
  refine ⟨fun i hi => ?_, by simp; omega, hs, fun c hc => byte_of_wf (hwz c (List.mem_of_mem_take hc))⟩
  have hi' : i < zs.length := by simp at hi; omega
  obtain ⟨ab, ao, spot⟩ := a
  have hspot : spot = none := by simpa [Addr.add] using World.cell?_spot (hcell 0 (by omega))
  subst hspot
  have hc := hcell i hi'
  rw [Addr.add_lit] at hc
  have hl := hlt (.cell ab (ao + i)) (by simp only [MemPlace.row, List.mem_map, List.mem_range]; exact ⟨i, hi', rfl⟩)
  refine ⟨ab, ao, rfl, hl, hc.trans ?_⟩
  simp [hi']
set_option maxRecDepth 100000 in
theorem fnQuietly_lifted (os : Os) (started : os.Started) (H : Type) (enc : TypeId × Value → H) :
    ReturnsInHanded {} Tryz.checked os 4 .any (Rows.fnQuietlySpec.pre6 enc Tryz.prog Tryz.f4 Rows.fnQuietlyRow.domain false) (Rows.fnQuietlySpec.post enc Tryz.prog Tryz.f4 false true false false) := by
  refine returnsInHanded_of_change (C := Tryz.checked) Tryz.own started (by kernel_rfl) Tryz.func4
    (ChangeSpec.witness6 (enc := enc) (C := Tryz.checked) false ⟨#[], #[.slice none 0 0], []⟩ 8 (by kernel_rfl) (by kernel_rfl) (by kernel_rfl) (by kernel_rfl)) ?_
  intro W base args ds gs before hval0 hW hcnd _
  have hval : ∀ (j : Nat) t v, Tryz.f4.params[j]? = some t → args[j]? = some v → Value.okWide Tryz.prog W .any base t v := hval0
  have hW' := hW
  obtain ⟨p, q, hA0, hV, rfl, hfz, hnd⟩ := hW
  have hA : DataW.TrodAll enc Tryz.prog W 0 (fun _ => true) true Tryz.f4.params.toList args.toList ds p := hA0
  rw [Tryz.params4] at hA hval
  obtain ⟨v0, d0, rfl, rfl, h0⟩ := trodAll_one hA
  obtain ⟨rfl, rfl⟩ := trodVars_none hV
  have h0k := h0
  obtain ⟨fuel, hf⟩ := h0
  clear hA0 hval0
  simp only [List.append_nil] at hW'
  have hlt : ∀ x ∈ p, x.block < W.heap.size := fun x hx => by simpa using hW'.lt x hx
  have again : ∀ W' : World, Below W.heap.size W W' → DataW.Trod enc Tryz.prog W' 0 (fun b => decide (b < W.heap.size)) true 33 v0 d0 p := fun W' hB =>
    Below.trod Tryz.laidOut (by kernel_rfl) (of_decide_eq_true (by kernel_rfl)) h0k hB hlt
  obtain ⟨a0, len, cap, rfl⟩ := okWide_slice Tryz.underlying33 (hval 0 33 v0 rfl rfl)
  rcases open_ints Tryz.underlying33 Tryz.underlying5 Tryz.cellsByte hf with ⟨hcs, hx⟩ | ⟨a, len', cap', zs, hcs, _, hl, hm, hz, hx, hcell, hwz⟩
  · simp [Value.cells] at hcs
    obtain ⟨rfl, rfl, rfl⟩ := hcs
    simp only [Prod.mk.injEq] at hx
    obtain ⟨rfl, rfl⟩ := hx
    refine (lawQuietly_any none 0 0 [] W (fun _ => ⟨fun i hi => (by simp at hi), rfl, by omega, fun c hc => (by cases hc)⟩)).mono fun e W' ⟨he, hB⟩ => ?_
    subst he
    exact ⟨_, rfl, ⟨_, _, _, [], _, [], hW', trodAll_mk1 (shut_bool Tryz.underlying4 _), trodAll_mk1 (again W' hB), rfl, hB.frame _, fun h => by cases h⟩⟩
  · simp [Value.cells] at hcs
    obtain ⟨rfl, rfl, rfl⟩ := hcs
    simp only [Prod.mk.injEq] at hx
    obtain ⟨rfl, rfl⟩ := hx
    simp only [if_true] at hz
    refine (lawQuietly_any (some a) len cap (zs.take len) W (fun hs => code_of (by omega) hs hcell hwz hlt)).mono fun e W' ⟨he, hB⟩ => ?_
    subst he
    exact ⟨_, rfl, ⟨_, _, _, [], _, [], hW', trodAll_mk1 (shut_bool Tryz.underlying4 _), trodAll_mk1 (again W' hB), rfl, hB.frame _, fun h => by cases h⟩⟩
theorem fnQuietly_j1 : (Rows.fnQuietlyRow.inPlace == Tryz.pinned.checked.prog.inPlace 4) = true := by kernel_rfl
theorem fnQuietly_j2 : (Rows.fnQuietlyRow.unfollowed == Tryz.pinned.checked.prog.unfollowed 4) = true := by kernel_rfl
theorem fnQuietly_j3 : (Rows.fnQuietlyRow.recurses == Tryz.pinned.checked.prog.recurses 4) = true := by kernel_rfl
theorem fnQuietly_j4 : (Rows.fnQuietlyRow.named == Tryz.pinned.checked.prog.varsNamed 4) = true := by kernel_rfl
theorem fnQuietly_closed : joinedFacts Tryz.pinned.checked.prog 4 Tryz.f4 Rows.fnQuietlySpec Rows.fnQuietlyRow = true := by
  unfold joinedFacts
  rw [fnQuietly_j1, fnQuietly_j2, fnQuietly_j3, fnQuietly_j4, jn_laid, jn_maps, jn_enter, jn_heard]
  kernel_rfl
theorem fnQuietly_holds : Rows.FnQuietlySaid :=
  OpenClaim.holds_of_wide 4 Tryz.f4 rfl rfl rfl rfl rfl rfl rfl ⟨rfl, rfl, rfl, rfl, rfl⟩ rfl rfl rfl rfl rfl (by kernel_rfl) Tryz.func4 fnQuietly_closed
    (of_decide_eq_true (by kernel_rfl)) (by unfold Func.isWrapper; first | (rw [if_pos (by decide +kernel)]; kernel_rfl) | (rw [if_neg (by decide +kernel)]; exact ⟨rfl, rfl⟩))
    (fun os started H enc _ => fnQuietly_lifted os started H enc)
#print axioms fnQuietly_holds
end Go.Proofs.YteakhlipmmfilaaGreat
