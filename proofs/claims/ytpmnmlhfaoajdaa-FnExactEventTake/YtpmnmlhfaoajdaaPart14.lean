/- Part 14 of the walks that the proof leans on. -/
import Derived.Test.YtpmnmlhfaoajdaaPart13
/- Rows of events copied by the model. -/
namespace Go.Proofs.Ytpmnmlhfaoajdaa
open Go.RowKit
theorem wp_append_at {P : Program} {o : Oper} {a : Act} {w : World} {K : Act → World → Prop} {Q : Exit → Act → World → Prop} (s x : Operand) (t : TypeId)
    (ho : o.op = .call { callee := .builtin .append, args := #[s, x], argTypes := #[t, t] })
    (base : Nat) (e : TypeId) (i : TypeInfo) (z : Value) (size bytes : Nat) (ht : P.underlying t = some (.slice e)) (hi : P.info? e = some i) (hz : i.zero = some z)
    (hsize : i.size = size) (hby : i.bytes = bytes) (hzs : z.cells.size = size) (hsz : 0 < size)
    (v : Value) (n : Nat) (xs : List Value) (hs : a.eval s = v) (hown : w.ownsRow base e size v n xs)
    (ad : Addr) (m c : Nat) (news : List Value) (hx : a.eval x = .slice (some ad) m c) (hl : news.length = m * size) (hnews : ∀ j u, news[j]? = some u → w.cell? (ad.add j) = some u) (h1 : ∀ u ∈ news, u.oneCell' = true)
    (h63 : n + m ≤ maxLen) (hbytes : (n + m) * bytes ≤ 140737488355328) (hbase : base ≤ w.heap.size)
    (h : ∀ v' w', w'.ownsRow base e size v' (n + m) (xs ++ news) → w.grownBy w' v.ownBlock → (v'.ownBlock = v.ownBlock ∨ v'.ownBlock = some w.heap.size) → K (a.put o.dst v') w') : o.wp P a w K Q := by
  obtain ⟨v', w', hr, h2, h3, _, h5⟩ := run_append_own_at (P := P) w base t o.type e i z size bytes ht hi hz hsize hby hzs hsz v n xs hown ad m c news hl hnews h1 h63 hbytes hbase
  unfold Oper.wp execOp
  simp only [ho, resolve, invoke, builtin, Sem.run_bind, Sem.run_pure, Result.andThen_ok, List.map_toArray, List.map_cons, List.map_nil, hs, hx, hr]
  exact h v' w' h2 h3 h5
/-- What lies where while an event is copied behind the row: b.. whether the operation has come up, v.. what its slot holds. -/
structure CpS (B4 base c : Nat) (o : Value) (qf : Nat → Int × Int × Int) (Lf : Nat → Nat) (Ef : Nat → Nat → Int) (sf : Nat → Value) (b6 b12 b13 b14 b15 b16 : Bool) (v3 v18 v24 v25 v26 v27 : Value) (W : World) : Prop where
  o1 : b13 = true → b12 = true
  o2 : b14 = true → b13 = true
  o3 : b15 = true → b14 = true
  k3 : b16 = false → v3 = o
  ev : b15 = false → EvOwn W base o c (wq qf) sf Lf Ef
  k18 : b12 = false → b6 = true → ∃ g, v18 = .slice (some ⟨g, 0, none⟩) 0 0 ∧ W.ownsRow B4 2 1 (.slice (some ⟨g, 0, none⟩) 0 0) 0 []
  k24 : b12 = true → b15 = false → ∃ gs cs, v24 = (.slice (some ⟨gs, 0, none⟩) (Lf c) cs) ∧ W.ownsRow B4 2 1 (.slice (some ⟨gs, 0, none⟩) (Lf c) cs) (Lf c) (noL (Lf c) (Ef c))
  k25 : b13 = true → b15 = false → ∃ gs cs, v25 = .agg #[.int .u64 (ww3 (qf c).1), .int .u64 (ww2 (qf c).1), .int .u64 (ww1 (qf c).1), .int .u64 (ww0 (qf c).1), .int .u64 (ww3 (qf c).2.1), .int .u64 (ww2 (qf c).2.1), .int .u64 (ww1 (qf c).2.1), .int .u64 (ww0 (qf c).2.1), .int .u64 (ww3 (qf c).2.2), .int .u64 (ww2 (qf c).2.2), .int .u64 (ww1 (qf c).2.2), .int .u64 (ww0 (qf c).2.2), (.slice (some ⟨gs, 0, none⟩) (Lf c) cs)] ∧ W.ownsRow B4 2 1 (.slice (some ⟨gs, 0, none⟩) (Lf c) cs) (Lf c) (noL (Lf c) (Ef c))
  k26 : b14 = true → b15 = false → ∃ g gs cs, v26 = .slice (some ⟨g, 0, none⟩) 1 1 ∧ Blk W g [.int .u64 (ww3 (qf c).1), .int .u64 (ww2 (qf c).1), .int .u64 (ww1 (qf c).1), .int .u64 (ww0 (qf c).1), .int .u64 (ww3 (qf c).2.1), .int .u64 (ww2 (qf c).2.1), .int .u64 (ww1 (qf c).2.1), .int .u64 (ww0 (qf c).2.1), .int .u64 (ww3 (qf c).2.2), .int .u64 (ww2 (qf c).2.2), .int .u64 (ww1 (qf c).2.2), .int .u64 (ww0 (qf c).2.2), (.slice (some ⟨gs, 0, none⟩) (Lf c) cs)] ∧ W.ownsRow B4 2 1 (.slice (some ⟨gs, 0, none⟩) (Lf c) cs) (Lf c) (noL (Lf c) (Ef c))
  k27 : b15 = true → ∃ s', EvOwn W base v27 (c + 1) (wq qf) s' Lf Ef
  k3b : b16 = true → v3 = v27
theorem CpS.step {B4 base c : Nat} {o : Value} {qf : Nat → Int × Int × Int} {Lf : Nat → Nat} {Ef : Nat → Nat → Int} {sf : Nat → Value} {b6 b12 b13 b14 b15 b16 : Bool} {v3 v18 v24 v25 v26 v27 : Value} {W W2 : World} (h : CpS B4 base c o qf Lf Ef sf b6 b12 b13 b14 b15 b16 v3 v18 v24 v25 v26 v27 W) (hB : Below W.heap.size W W2) : CpS B4 base c o qf Lf Ef sf b6 b12 b13 b14 b15 b16 v3 v18 v24 v25 v26 v27 W2 :=
  ⟨h.o1, h.o2, h.o3, h.k3, fun a => (h.ev a).step hB, fun a b => by obtain ⟨g, e, x⟩ := h.k18 a b; exact ⟨g, e, ownA_step x hB⟩, fun a b => by obtain ⟨g, d, e, x⟩ := h.k24 a b; exact ⟨g, d, e, ownA_step x hB⟩, fun a b => by obtain ⟨g, d, e, x⟩ := h.k25 a b; exact ⟨g, d, e, ownA_step x hB⟩, fun a b => by obtain ⟨g, d, e, f, x, y⟩ := h.k26 a b; exact ⟨g, d, e, f, x.step hB, ownA_step y hB⟩, fun a => by obtain ⟨s, x⟩ := h.k27 a; exact ⟨s, x.step hB⟩, h.k3b⟩
theorem CpS.made {B4 base c : Nat} {o : Value} {qf : Nat → Int × Int × Int} {Lf : Nat → Nat} {Ef : Nat → Nat → Int} {sf : Nat → Value} {b12 b13 b14 b15 b16 : Bool} {v3 v18 v24 v25 v26 v27 : Value} {W : World} (h : CpS B4 base c o qf Lf Ef sf false b12 b13 b14 b15 b16 v3 v18 v24 v25 v26 v27 W) (hb : B4 ≤ W.heap.size) : CpS B4 base c o qf Lf Ef sf true b12 b13 b14 b15 b16 v3 (.slice (some ⟨W.heap.size, 0, none⟩) 0 0) v24 v25 v26 v27 (W.alloc (.cells #[] 2)) := by
  have h2 := h.step ((Below.refl W.heap.size W).alloc (Nat.le_refl _) (.cells #[] 2))
  exact ⟨h2.o1, h2.o2, h2.o3, h2.k3, h2.ev, fun _ _ => ⟨_, rfl, World.ownsRow_made W #[] 0 hb (by decide) rfl⟩, h2.k24, h2.k25, h2.k26, h2.k27, h2.k3b⟩
theorem CpS.app12 {B4 base c : Nat} {o : Value} {qf : Nat → Int × Int × Int} {Lf : Nat → Nat} {Ef : Nat → Nat → Int} {sf : Nat → Value} {b6 b13 b14 b15 b16 : Bool} {v3 v18 v24 v25 v26 v27 u : Value} {W W2 : World} {g : Nat} (h : CpS B4 base c o qf Lf Ef sf b6 false b13 b14 b15 b16 v3 v18 v24 v25 v26 v27 W) (hg : W.grownBy W2 (some g)) (hB : B4 ≤ g) (hv : ∀ k, o.ownBlock = some k → k < B4) (hs : ∀ i, i < c → ∀ k, (sf i).ownBlock = some k → k < B4) (hm : 0 < Lf c)
    (hn : W2.ownsRow B4 2 1 u (Lf c) (noL (Lf c) (Ef c))) : CpS B4 base c o qf Lf Ef sf b6 true b13 b14 b15 b16 v3 v18 u v25 v26 v27 W2 := by
  have h13 : b13 = false := by cases b13 with | false => rfl | true => cases h.o1 rfl
  have h14 : b14 = false := by cases b14 with | false => rfl | true => rw [h.o2 rfl] at h13; cases h13
  have h15 : b15 = false := by cases b15 with | false => rfl | true => rw [h.o3 rfl] at h14; cases h14
  subst h13 h14 h15
  have ev := h.ev rfl
  have kp : ∀ (x : Value), (∀ k, x.ownBlock = some k → k < B4) → x.ownBlock = none ∨ x.ownBlock ≠ some g := fun x hx => by
    cases e : x.ownBlock with
    | none => exact .inl rfl
    | some k => exact .inr fun e2 => by cases e2; have := hx _ e; omega
  refine ⟨fun _ => rfl, (fun a => by cases a), (fun a => by cases a), h.k3, fun _ => ⟨ev.own.kept hg (kp o hv), fun i hi => (ev.ins i hi).kept hg (kp _ (hs i hi)), ev.d1, ev.d2⟩, (fun a => by cases a), fun _ _ => ?_, (fun a => by cases a), (fun a => by cases a), (fun a => by cases a), h.k3b⟩
  obtain ⟨gs, cs, rfl, _⟩ := ownN_form hn hm
  exact ⟨gs, cs, rfl, hn⟩
theorem CpS.built13 {B4 base c : Nat} {o : Value} {qf : Nat → Int × Int × Int} {Lf : Nat → Nat} {Ef : Nat → Nat → Int} {sf : Nat → Value} {b6 b14 b15 b16 : Bool} {v3 v18 v24 v25 v26 v27 : Value} {W : World} {gs cs : Nat} (h : CpS B4 base c o qf Lf Ef sf b6 true false b14 b15 b16 v3 v18 v24 v25 v26 v27 W) (hO : W.ownsRow B4 2 1 (.slice (some ⟨gs, 0, none⟩) (Lf c) cs) (Lf c) (noL (Lf c) (Ef c))) : CpS B4 base c o qf Lf Ef sf b6 true true b14 b15 b16 v3 v18 v24 (.agg #[.int .u64 (ww3 (qf c).1), .int .u64 (ww2 (qf c).1), .int .u64 (ww1 (qf c).1), .int .u64 (ww0 (qf c).1), .int .u64 (ww3 (qf c).2.1), .int .u64 (ww2 (qf c).2.1), .int .u64 (ww1 (qf c).2.1), .int .u64 (ww0 (qf c).2.1), .int .u64 (ww3 (qf c).2.2), .int .u64 (ww2 (qf c).2.2), .int .u64 (ww1 (qf c).2.2), .int .u64 (ww0 (qf c).2.2), (.slice (some ⟨gs, 0, none⟩) (Lf c) cs)]) v26 v27 W :=
  ⟨fun _ => rfl, fun _ => rfl, h.o3, h.k3, h.ev, h.k18, h.k24, fun _ _ => ⟨gs, cs, rfl, hO⟩, h.k26, h.k27, h.k3b⟩
theorem CpS.built14 {B4 base c : Nat} {o : Value} {qf : Nat → Int × Int × Int} {Lf : Nat → Nat} {Ef : Nat → Nat → Int} {sf : Nat → Value} {b6 b12 b15 b16 : Bool} {v3 v18 v24 v25 v26 v27 : Value} {W : World} {gs cs : Nat} (h : CpS B4 base c o qf Lf Ef sf b6 b12 true false b15 b16 v3 v18 v24 v25 v26 v27 W) (hO : W.ownsRow B4 2 1 (.slice (some ⟨gs, 0, none⟩) (Lf c) cs) (Lf c) (noL (Lf c) (Ef c))) : CpS B4 base c o qf Lf Ef sf b6 b12 true true b15 b16 v3 v18 v24 v25 (.slice (some ⟨W.heap.size, 0, none⟩) 1 1) v27 (W.alloc (.cells #[.int .u64 (ww3 (qf c).1), .int .u64 (ww2 (qf c).1), .int .u64 (ww1 (qf c).1), .int .u64 (ww0 (qf c).1), .int .u64 (ww3 (qf c).2.1), .int .u64 (ww2 (qf c).2.1), .int .u64 (ww1 (qf c).2.1), .int .u64 (ww0 (qf c).2.1), .int .u64 (ww3 (qf c).2.2), .int .u64 (ww2 (qf c).2.2), .int .u64 (ww1 (qf c).2.2), .int .u64 (ww0 (qf c).2.2), (.slice (some ⟨gs, 0, none⟩) (Lf c) cs)] 44)) := by
  have hB := (Below.refl W.heap.size W).alloc (Nat.le_refl _) (.cells #[.int .u64 (ww3 (qf c).1), .int .u64 (ww2 (qf c).1), .int .u64 (ww1 (qf c).1), .int .u64 (ww0 (qf c).1), .int .u64 (ww3 (qf c).2.1), .int .u64 (ww2 (qf c).2.1), .int .u64 (ww1 (qf c).2.1), .int .u64 (ww0 (qf c).2.1), .int .u64 (ww3 (qf c).2.2), .int .u64 (ww2 (qf c).2.2), .int .u64 (ww1 (qf c).2.2), .int .u64 (ww0 (qf c).2.2), (.slice (some ⟨gs, 0, none⟩) (Lf c) cs)] 44)
  have h2 := h.step hB
  exact ⟨h2.o1, fun _ => rfl, fun _ => rfl, h2.k3, h2.ev, h2.k18, h2.k24, h2.k25, fun _ _ => ⟨_, gs, cs, rfl, Blk.new W [.int .u64 (ww3 (qf c).1), .int .u64 (ww2 (qf c).1), .int .u64 (ww1 (qf c).1), .int .u64 (ww0 (qf c).1), .int .u64 (ww3 (qf c).2.1), .int .u64 (ww2 (qf c).2.1), .int .u64 (ww1 (qf c).2.1), .int .u64 (ww0 (qf c).2.1), .int .u64 (ww3 (qf c).2.2), .int .u64 (ww2 (qf c).2.2), .int .u64 (ww1 (qf c).2.2), .int .u64 (ww0 (qf c).2.2), (.slice (some ⟨gs, 0, none⟩) (Lf c) cs)] 44 rfl, ownA_step hO hB⟩, h2.k27, h2.k3b⟩
theorem CpS.app15 {B4 base c : Nat} {o : Value} {qf : Nat → Int × Int × Int} {Lf : Nat → Nat} {Ef : Nat → Nat → Int} {sf : Nat → Value} {b6 b12 b13 b16 : Bool} {v3 v18 v24 v25 v26 v27 u : Value} {W W2 : World} (h : CpS B4 base c o qf Lf Ef sf b6 b12 b13 true false b16 v3 v18 v24 v25 v26 v27 W) (hz : b16 = false) (hn : ∃ s', EvOwn W2 base u (c + 1) (wq qf) s' Lf Ef) : CpS B4 base c o qf Lf Ef sf b6 b12 b13 true true b16 v3 v18 v24 v25 v26 u W2 := by
  subst hz
  have h13 := h.o2 rfl
  subst h13
  have h12 := h.o1 rfl
  subst h12
  exact ⟨fun _ => rfl, fun _ => rfl, fun _ => rfl, h.k3, (fun a => by cases a), (fun a => by cases a), (fun _ a => by cases a), (fun _ a => by cases a), (fun _ a => by cases a), fun _ => hn, (fun a => by cases a)⟩
theorem CpS.assigned {B4 base c : Nat} {o : Value} {qf : Nat → Int × Int × Int} {Lf : Nat → Nat} {Ef : Nat → Nat → Int} {sf : Nat → Value} {b6 b12 b13 b14 : Bool} {v3 v18 v24 v25 v26 v27 : Value} {W : World} (h : CpS B4 base c o qf Lf Ef sf b6 b12 b13 b14 true false v3 v18 v24 v25 v26 v27 W) : CpS B4 base c o qf Lf Ef sf b6 b12 b13 b14 true true v27 v18 v24 v25 v26 v27 W :=
  ⟨h.o1, h.o2, h.o3, (fun a => by cases a), h.ev, h.k18, h.k24, h.k25, h.k26, h.k27, fun _ => rfl⟩
/-- The same, over what is listed and the frame. -/
def CpI (B4 base c : Nat) (o : Value) (qf : Nat → Int × Int × Int) (Lf : Nat → Nat) (Ef : Nat → Nat → Int) (sf : Nat → Value) (lz : Array Bool) (az : Act) (W : World) : Prop := (lz.getD 16 false = true → ∀ j, j < 17 → lz.getD j false = true) ∧ CpS B4 base c o qf Lf Ef sf (lz.getD 6 false) (lz.getD 12 false) (lz.getD 13 false) (lz.getD 14 false) (lz.getD 15 false) (lz.getD 16 false) (az.tmps.getD 3 undef) (az.tmps.getD 18 undef) (az.tmps.getD 24 undef) (az.tmps.getD 25 undef) (az.tmps.getD 26 undef) (az.tmps.getD 27 undef) W
theorem CpI.off {B4 base c : Nat} {o : Value} {qf : Nat → Int × Int × Int} {Lf : Nat → Nat} {Ef : Nat → Nat → Int} {sf : Nat → Value} {lz : Array Bool} {az : Act} {W : World} (h : CpI B4 base c o qf Lf Ef sf lz az W) {i : Nat} (hi : i < 17) (hl : lz.getD i true = false) : lz.getD 16 false = false := by
  cases hh : lz.getD 16 false with
  | false => rfl
  | true => have := h.1 hh i hi; rw [getD_tf hl] at this; cases this
theorem CpI.start {B4 base c : Nat} {o : Value} {qf : Nat → Int × Int × Int} {Lf : Nat → Nat} {Ef : Nat → Nat → Int} {sf : Nat → Value} {az : Act} {W : World} {m : Nat} (h3 : az.tmps.getD 3 undef = o) (hE : EvOwn W base o c (wq qf) sf Lf Ef) : CpI B4 base c o qf Lf Ef sf (Array.replicate m false) az W := by
  refine ⟨(fun h => by rw [replD] at h; cases h), ?_⟩
  simp only [replD]
  exact ⟨(fun a => by cases a), (fun a => by cases a), (fun a => by cases a), fun _ => h3, fun _ => hE, (fun _ a => by cases a), (fun a => by cases a), (fun a => by cases a), (fun a => by cases a), (fun a => by cases a), (fun a => by cases a)⟩
theorem CpI.quiet {B4 base c : Nat} {o : Value} {qf : Nat → Int × Int × Int} {Lf : Nat → Nat} {Ef : Nat → Nat → Int} {sf : Nat → Value} {lz : Array Bool} {az : Act} {W : World} (h : CpI B4 base c o qf Lf Ef sf lz az W) (i d : Nat) (v : Value) (hi : i < 17) (hl : lz.getD i true = false) (hn : i ∉ [6, 12, 13, 14, 15, 16]) (hd : d ∉ [3, 18, 24, 25, 26, 27]) : CpI B4 base c o qf Lf Ef sf (lz.setIfInBounds i true) (az.put (some d) v) W := by
  have hz := h.off hi hl
  simp only [List.mem_cons, List.not_mem_nil, or_false, not_or] at hn hd
  obtain ⟨n1, n2, n3, n4, n5, n6⟩ := hn
  obtain ⟨d1, d2, d3, d4, d5, d6⟩ := hd
  unfold CpI
  rw [getD_set_neq n1, getD_set_neq n2, getD_set_neq n3, getD_set_neq n4, getD_set_neq n5, getD_set_neq n6, put_getD_ne d1, put_getD_ne d2, put_getD_ne d3, put_getD_ne d4, put_getD_ne d5, put_getD_ne d6]
  exact ⟨(fun a => by rw [hz] at a; cases a), h.2⟩
theorem CpI.put6 {B4 base c : Nat} {o : Value} {qf : Nat → Int × Int × Int} {Lf : Nat → Nat} {Ef : Nat → Nat → Int} {sf : Nat → Value} {lz : Array Bool} {az : Act} {W W2 : World} (h : CpI B4 base c o qf Lf Ef sf lz az W) (hl : lz.getD 6 true = false) (hd : 18 < az.tmps.size) {u : Value} (hc : CpS B4 base c o qf Lf Ef sf true (lz.getD 12 false) (lz.getD 13 false) (lz.getD 14 false) (lz.getD 15 false) (lz.getD 16 false) (az.tmps.getD 3 undef) u (az.tmps.getD 24 undef) (az.tmps.getD 25 undef) (az.tmps.getD 26 undef) (az.tmps.getD 27 undef) W2) : CpI B4 base c o qf Lf Ef sf (lz.setIfInBounds 6 true) (az.put (some 18) u) W2 := by
  have hz := h.off (by decide) hl
  unfold CpI
  rw [getD_set_eq hl, getD_set_neq (i := 6) (j := 12) (by decide), getD_set_neq (i := 6) (j := 13) (by decide), getD_set_neq (i := 6) (j := 14) (by decide), getD_set_neq (i := 6) (j := 15) (by decide), getD_set_neq (i := 6) (j := 16) (by decide), put_getD_ne (show 18 ≠ 3 by decide), put_getD_same hd, put_getD_ne (show 18 ≠ 24 by decide), put_getD_ne (show 18 ≠ 25 by decide), put_getD_ne (show 18 ≠ 26 by decide), put_getD_ne (show 18 ≠ 27 by decide)]
  exact ⟨(fun a => by rw [hz] at a; cases a), hc⟩
theorem CpI.put12 {B4 base c : Nat} {o : Value} {qf : Nat → Int × Int × Int} {Lf : Nat → Nat} {Ef : Nat → Nat → Int} {sf : Nat → Value} {lz : Array Bool} {az : Act} {W W2 : World} (h : CpI B4 base c o qf Lf Ef sf lz az W) (hl : lz.getD 12 true = false) (hd : 24 < az.tmps.size) {u : Value} (hc : CpS B4 base c o qf Lf Ef sf (lz.getD 6 false) true (lz.getD 13 false) (lz.getD 14 false) (lz.getD 15 false) (lz.getD 16 false) (az.tmps.getD 3 undef) (az.tmps.getD 18 undef) u (az.tmps.getD 25 undef) (az.tmps.getD 26 undef) (az.tmps.getD 27 undef) W2) : CpI B4 base c o qf Lf Ef sf (lz.setIfInBounds 12 true) (az.put (some 24) u) W2 := by
  have hz := h.off (by decide) hl
  unfold CpI
  rw [getD_set_neq (i := 12) (j := 6) (by decide), getD_set_eq hl, getD_set_neq (i := 12) (j := 13) (by decide), getD_set_neq (i := 12) (j := 14) (by decide), getD_set_neq (i := 12) (j := 15) (by decide), getD_set_neq (i := 12) (j := 16) (by decide), put_getD_ne (show 24 ≠ 3 by decide), put_getD_ne (show 24 ≠ 18 by decide), put_getD_same hd, put_getD_ne (show 24 ≠ 25 by decide), put_getD_ne (show 24 ≠ 26 by decide), put_getD_ne (show 24 ≠ 27 by decide)]
  exact ⟨(fun a => by rw [hz] at a; cases a), hc⟩
theorem CpI.put13 {B4 base c : Nat} {o : Value} {qf : Nat → Int × Int × Int} {Lf : Nat → Nat} {Ef : Nat → Nat → Int} {sf : Nat → Value} {lz : Array Bool} {az : Act} {W W2 : World} (h : CpI B4 base c o qf Lf Ef sf lz az W) (hl : lz.getD 13 true = false) (hd : 25 < az.tmps.size) {u : Value} (hc : CpS B4 base c o qf Lf Ef sf (lz.getD 6 false) (lz.getD 12 false) true (lz.getD 14 false) (lz.getD 15 false) (lz.getD 16 false) (az.tmps.getD 3 undef) (az.tmps.getD 18 undef) (az.tmps.getD 24 undef) u (az.tmps.getD 26 undef) (az.tmps.getD 27 undef) W2) : CpI B4 base c o qf Lf Ef sf (lz.setIfInBounds 13 true) (az.put (some 25) u) W2 := by
  have hz := h.off (by decide) hl
  unfold CpI
  rw [getD_set_neq (i := 13) (j := 6) (by decide), getD_set_neq (i := 13) (j := 12) (by decide), getD_set_eq hl, getD_set_neq (i := 13) (j := 14) (by decide), getD_set_neq (i := 13) (j := 15) (by decide), getD_set_neq (i := 13) (j := 16) (by decide), put_getD_ne (show 25 ≠ 3 by decide), put_getD_ne (show 25 ≠ 18 by decide), put_getD_ne (show 25 ≠ 24 by decide), put_getD_same hd, put_getD_ne (show 25 ≠ 26 by decide), put_getD_ne (show 25 ≠ 27 by decide)]
  exact ⟨(fun a => by rw [hz] at a; cases a), hc⟩
theorem CpI.put14 {B4 base c : Nat} {o : Value} {qf : Nat → Int × Int × Int} {Lf : Nat → Nat} {Ef : Nat → Nat → Int} {sf : Nat → Value} {lz : Array Bool} {az : Act} {W W2 : World} (h : CpI B4 base c o qf Lf Ef sf lz az W) (hl : lz.getD 14 true = false) (hd : 26 < az.tmps.size) {u : Value} (hc : CpS B4 base c o qf Lf Ef sf (lz.getD 6 false) (lz.getD 12 false) (lz.getD 13 false) true (lz.getD 15 false) (lz.getD 16 false) (az.tmps.getD 3 undef) (az.tmps.getD 18 undef) (az.tmps.getD 24 undef) (az.tmps.getD 25 undef) u (az.tmps.getD 27 undef) W2) : CpI B4 base c o qf Lf Ef sf (lz.setIfInBounds 14 true) (az.put (some 26) u) W2 := by
  have hz := h.off (by decide) hl
  unfold CpI
  rw [getD_set_neq (i := 14) (j := 6) (by decide), getD_set_neq (i := 14) (j := 12) (by decide), getD_set_neq (i := 14) (j := 13) (by decide), getD_set_eq hl, getD_set_neq (i := 14) (j := 15) (by decide), getD_set_neq (i := 14) (j := 16) (by decide), put_getD_ne (show 26 ≠ 3 by decide), put_getD_ne (show 26 ≠ 18 by decide), put_getD_ne (show 26 ≠ 24 by decide), put_getD_ne (show 26 ≠ 25 by decide), put_getD_same hd, put_getD_ne (show 26 ≠ 27 by decide)]
  exact ⟨(fun a => by rw [hz] at a; cases a), hc⟩
theorem CpI.put15 {B4 base c : Nat} {o : Value} {qf : Nat → Int × Int × Int} {Lf : Nat → Nat} {Ef : Nat → Nat → Int} {sf : Nat → Value} {lz : Array Bool} {az : Act} {W W2 : World} (h : CpI B4 base c o qf Lf Ef sf lz az W) (hl : lz.getD 15 true = false) (hd : 27 < az.tmps.size) {u : Value} (hc : CpS B4 base c o qf Lf Ef sf (lz.getD 6 false) (lz.getD 12 false) (lz.getD 13 false) (lz.getD 14 false) true (lz.getD 16 false) (az.tmps.getD 3 undef) (az.tmps.getD 18 undef) (az.tmps.getD 24 undef) (az.tmps.getD 25 undef) (az.tmps.getD 26 undef) u W2) : CpI B4 base c o qf Lf Ef sf (lz.setIfInBounds 15 true) (az.put (some 27) u) W2 := by
  have hz := h.off (by decide) hl
  unfold CpI
  rw [getD_set_neq (i := 15) (j := 6) (by decide), getD_set_neq (i := 15) (j := 12) (by decide), getD_set_neq (i := 15) (j := 13) (by decide), getD_set_neq (i := 15) (j := 14) (by decide), getD_set_eq hl, getD_set_neq (i := 15) (j := 16) (by decide), put_getD_ne (show 27 ≠ 3 by decide), put_getD_ne (show 27 ≠ 18 by decide), put_getD_ne (show 27 ≠ 24 by decide), put_getD_ne (show 27 ≠ 25 by decide), put_getD_ne (show 27 ≠ 26 by decide), put_getD_same hd]
  exact ⟨(fun a => by rw [hz] at a; cases a), hc⟩
theorem CpI.put16 {B4 base c : Nat} {o : Value} {qf : Nat → Int × Int × Int} {Lf : Nat → Nat} {Ef : Nat → Nat → Int} {sf : Nat → Value} {lz : Array Bool} {az : Act} {W : World} (hl : lz.getD 16 true = false) (hd : 3 < az.tmps.size) (hall : ∀ j, j < 17 → j ≠ 16 → lz.getD j false = true) {u : Value} (hc : CpS B4 base c o qf Lf Ef sf (lz.getD 6 false) (lz.getD 12 false) (lz.getD 13 false) (lz.getD 14 false) (lz.getD 15 false) true u (az.tmps.getD 18 undef) (az.tmps.getD 24 undef) (az.tmps.getD 25 undef) (az.tmps.getD 26 undef) (az.tmps.getD 27 undef) W) : CpI B4 base c o qf Lf Ef sf (lz.setIfInBounds 16 true) (az.put (some 3) u) W := by
  unfold CpI
  rw [getD_set_neq (i := 16) (j := 6) (by decide), getD_set_neq (i := 16) (j := 12) (by decide), getD_set_neq (i := 16) (j := 13) (by decide), getD_set_neq (i := 16) (j := 14) (by decide), getD_set_neq (i := 16) (j := 15) (by decide), getD_set_eq hl, put_getD_same hd, put_getD_ne (show 3 ≠ 18 by decide), put_getD_ne (show 3 ≠ 24 by decide), put_getD_ne (show 3 ≠ 25 by decide), put_getD_ne (show 3 ≠ 26 by decide), put_getD_ne (show 3 ≠ 27 by decide)]
  refine ⟨fun _ j hj => ?_, hc⟩
  by_cases e : j = 16
  · subst e; exact getD_set_eq hl
  · rw [getD_set_neq (Ne.symm e)]; exact hall j hj e
def VewD (_B4 _base c : Nat) (o : Value) (qf : Nat → Int × Int × Int) (Lf : Nat → Nat) (_Ef : Nat → Nat → Int) (_sf : Nat → Value) (A off n ca Ab ob mc : Nat) (_B : Nat) : Nat → Value → World → Prop
  | 0, v, _ => v = o
  | 1, v, _ => v = .slice (some ⟨A, off, none⟩) n ca
  | 2, v, _ => v = .int .i64 (c : Int)
  | 3, v, _ => v = .pointer (some ⟨A, off + c * 13, none⟩)
  | 4, v, _ => v = .pointer (some ⟨A, off + c * 13, none⟩)
  | 5, v, _ => v = .agg #[.int .u64 (ww3 (qf c).1), .int .u64 (ww2 (qf c).1), .int .u64 (ww1 (qf c).1), .int .u64 (ww0 (qf c).1), .int .u64 (ww3 (qf c).2.1), .int .u64 (ww2 (qf c).2.1), .int .u64 (ww1 (qf c).2.1), .int .u64 (ww0 (qf c).2.1), .int .u64 (ww3 (qf c).2.2), .int .u64 (ww2 (qf c).2.2), .int .u64 (ww1 (qf c).2.2), .int .u64 (ww0 (qf c).2.2)]
  | 7, v, _ => v = .slice (some ⟨A, off, none⟩) n ca
  | 8, v, _ => v = .int .i64 (c : Int)
  | 9, v, _ => v = .pointer (some ⟨A, off + c * 13, none⟩)
  | 10, v, _ => v = .pointer (some ⟨A, off + c * 13 + 12, none⟩)
  | 11, v, _ => v = .slice (some ⟨Ab, ob, none⟩) (Lf c) mc
  | _, _, _ => True
theorem VewD.mono {B4 base c : Nat} {o : Value} {qf : Nat → Int × Int × Int} {Lf : Nat → Nat} {Ef : Nat → Nat → Int} {sf : Nat → Value} {A off n ca Ab ob mc : Nat} {B j : Nat} {v : Value} {W W2 : World} (_hB : Below W.heap.size W W2) (h : VewD B4 base c o qf Lf Ef sf A off n ca Ab ob mc B j v W) : VewD B4 base c o qf Lf Ef sf A off n ca Ab ob mc B j v W2 := by
  unfold VewD at *
  split <;> simp only at h <;> first | exact h | trivial
theorem VewD.same {B4 base c : Nat} {o : Value} {qf : Nat → Int × Int × Int} {Lf : Nat → Nat} {Ef : Nat → Nat → Int} {sf : Nat → Value} {A off n ca Ab ob mc : Nat} {B j : Nat} {v : Value} {W W2 : World} (h : VewD B4 base c o qf Lf Ef sf A off n ca Ab ob mc B j v W) : VewD B4 base c o qf Lf Ef sf A off n ca Ab ob mc B j v W2 := by
  unfold VewD at *
  split <;> simp only at h <;> first | exact h | trivial
def SewD (B4 base c : Nat) (o : Value) (qf : Nat → Int × Int × Int) (Lf : Nat → Nat) (Ef : Nat → Nat → Int) (sf : Nat → Value) (_A _off _n _ca _Ab _ob _mc : Nat) (lz : Array Bool) (az : Act) (W : World) : Prop := CpI B4 base c o qf Lf Ef sf lz az W

def JewD (B4 base c : Nat) (o : Value) (qf : Nat → Int × Int × Int) (Lf : Nat → Nat) (Ef : Nat → Nat → Int) (sf : Nat → Value) (A off n ca Ab ob mc : Nat) (w0 : World) (a0 : Act) (lz : Array Bool) (az : Act) (W : World) : Prop := InvQ (base) [some 12, some 13, some 14, some 15, some 16, some 17, some 18, some 19, some 20, some 21, some 22, some 23, some 24, some 25, some 26, some 27, some 3] (VewD B4 base c o qf Lf Ef sf A off n ca Ab ob mc (base)) w0 a0 lz az W ∧ SewD B4 base c o qf Lf Ef sf A off n ca Ab ob mc lz az W
set_option maxRecDepth 100000 in
set_option maxHeartbeats 4000000 in
theorem ewD {Q : Exit → Act → World → Prop} {B4 base c : Nat} {o : Value} {qf : Nat → Int × Int × Int} {Lf : Nat → Nat} {Ef : Nat → Nat → Int} {sf : Nat → Value} {A off n ca Ab ob mc : Nat} {i0 j0 : TypeInfo}  {w0 : World} {a0 : Act} {idq : Nat} {t0 t1 t2 t3 t4 t5 t6 t7 t8 t9 t10 t11 t12 t13 t14 t15 t16 : TypeId} {q0 q1 q2 q3 q4 q5 q6 q7 q8 q9 q10 q11 q12 q13 q14 q15 q16 : String}
    (hi : Try.prog.info? 44 = some i0) (hz0 : i0.zero = some (.agg #[.int .u64 0, .int .u64 0, .int .u64 0, .int .u64 0, .int .u64 0, .int .u64 0, .int .u64 0, .int .u64 0, .int .u64 0, .int .u64 0, .int .u64 0, .int .u64 0, .slice none 0 0])) (hz1 : i0.size = 13) (hz2 : i0.bytes = 120) (hj : Try.prog.info? 2 = some j0) (hj0 : j0.zero = some (.int .i64 0)) (hj1 : j0.size = 1) (hj2 : j0.bytes = 8)
    (hcI : (c : Int) < (n : Int)) (hcn : c ≤ 1048576) (hB4 : B4 ≤ w0.heap.size) (hB5 : w0.heap.size ≤ B4) (hb0 : base ≤ B4) (hbB : base ≤ B4) (hm0 : 0 < Lf c) (hm1 : Lf c ≤ 1048576) (hN : NoIn w0 (some ⟨Ab, ob, none⟩) (Lf c) (Ef c)) (hAb : Ab < base) (hv : ∀ k, o.ownBlock = some k → k < B4) (hsf : ∀ i, i < c → ∀ k, (sf i).ownBlock = some k → k < B4) (s3 : a0.tmps.getD 3 undef = o) (s0 : EvOwn w0.drew base o c (wq qf) sf Lf Ef) (h0 : a0.tmps[0]? = some (.slice (some ⟨A, off, none⟩) n ca)) (h4 : a0.tmps[4]? = some (.int .i64 (c : Int))) (k0 : w0.cell? ⟨A, off + c * 13, none⟩ = some (.int .u64 (ww3 (qf c).1))) (l0 : (⟨A, off + c * 13, none⟩ : Addr).block < base) (k1 : w0.cell? ⟨A, off + c * 13 + 1, none⟩ = some (.int .u64 (ww2 (qf c).1))) (l1 : (⟨A, off + c * 13 + 1, none⟩ : Addr).block < base) (k2 : w0.cell? ⟨A, off + c * 13 + 2, none⟩ = some (.int .u64 (ww1 (qf c).1))) (l2 : (⟨A, off + c * 13 + 2, none⟩ : Addr).block < base) (k3 : w0.cell? ⟨A, off + c * 13 + 3, none⟩ = some (.int .u64 (ww0 (qf c).1))) (l3 : (⟨A, off + c * 13 + 3, none⟩ : Addr).block < base) (k4 : w0.cell? ⟨A, off + c * 13 + 4, none⟩ = some (.int .u64 (ww3 (qf c).2.1))) (l4 : (⟨A, off + c * 13 + 4, none⟩ : Addr).block < base) (k5 : w0.cell? ⟨A, off + c * 13 + 5, none⟩ = some (.int .u64 (ww2 (qf c).2.1))) (l5 : (⟨A, off + c * 13 + 5, none⟩ : Addr).block < base) (k6 : w0.cell? ⟨A, off + c * 13 + 6, none⟩ = some (.int .u64 (ww1 (qf c).2.1))) (l6 : (⟨A, off + c * 13 + 6, none⟩ : Addr).block < base) (k7 : w0.cell? ⟨A, off + c * 13 + 7, none⟩ = some (.int .u64 (ww0 (qf c).2.1))) (l7 : (⟨A, off + c * 13 + 7, none⟩ : Addr).block < base) (k8 : w0.cell? ⟨A, off + c * 13 + 8, none⟩ = some (.int .u64 (ww3 (qf c).2.2))) (l8 : (⟨A, off + c * 13 + 8, none⟩ : Addr).block < base) (k9 : w0.cell? ⟨A, off + c * 13 + 9, none⟩ = some (.int .u64 (ww2 (qf c).2.2))) (l9 : (⟨A, off + c * 13 + 9, none⟩ : Addr).block < base) (k10 : w0.cell? ⟨A, off + c * 13 + 10, none⟩ = some (.int .u64 (ww1 (qf c).2.2))) (l10 : (⟨A, off + c * 13 + 10, none⟩ : Addr).block < base) (k11 : w0.cell? ⟨A, off + c * 13 + 11, none⟩ = some (.int .u64 (ww0 (qf c).2.2))) (l11 : (⟨A, off + c * 13 + 11, none⟩ : Addr).block < base) (k12 : w0.cell? ⟨A, off + c * 13 + 12, none⟩ = some (.slice (some ⟨Ab, ob, none⟩) (Lf c) mc)) (l12 : (⟨A, off + c * 13 + 12, none⟩ : Addr).block < base) (hz : a0.tmps.size = 29)
    (hQ : ∀ aq W, aq.tmps.size = a0.tmps.size → aq.defers = a0.defers → (∀ e, e ∉ ([12, 13, 14, 15, 16, 17, 18, 19, 20, 21, 22, 23, 24, 25, 26, 27, 3] : List Nat) → aq.tmps[e]? = a0.tmps[e]?) → VewD B4 base c o qf Lf Ef sf A off n ca Ab ob mc (base) 16 (aq.tmps.getD 3 undef) W → Below (base) w0 W → (∃ s', EvOwn W base (aq.tmps.getD 3 undef) (c + 1) (wq qf) s' Lf Ef) → Q .normal aq W) :
    (Code.region idq #[{ dst := some 12, op := Op.move (Operand.tmp 3), type := t0, pos := q0, after := #[], guard := none },
    { dst := some 13, op := Op.move (Operand.tmp 0), type := t1, pos := q1, after := #[], guard := none },
    { dst := some 14, op := Op.move (Operand.tmp 4), type := t2, pos := q2, after := #[], guard := none },
    { dst := some 15, op := Op.indexAddr 45 (Operand.tmp 13) (Operand.tmp 14), type := t3, pos := q3, after := #[{ on := 1, ground := Ground.data }, { on := 2, ground := Ground.data }], guard := none },
    { dst := some 16, op := Op.fieldAddr 44 (Operand.tmp 15) 0, type := t4, pos := q4, after := #[{ on := 3, ground := Ground.data }], guard := none },
    { dst := some 17, op := Op.load 41 (Operand.tmp 16), type := t5, pos := q5, after := #[{ on := 4, ground := Ground.data }], guard := none },
    { dst := some 18, op := Op.buildSlice 42 0 #[], type := t6, pos := q6, after := #[], guard := none },
    { dst := some 19, op := Op.move (Operand.tmp 0), type := t7, pos := q7, after := #[], guard := none },
    { dst := some 20, op := Op.move (Operand.tmp 4), type := t8, pos := q8, after := #[], guard := none },
    { dst := some 21, op := Op.indexAddr 45 (Operand.tmp 19) (Operand.tmp 20), type := t9, pos := q9, after := #[{ on := 7, ground := Ground.data }, { on := 8, ground := Ground.data }], guard := none },
    { dst := some 22, op := Op.fieldAddr 44 (Operand.tmp 21) 1, type := t10, pos := q10, after := #[{ on := 9, ground := Ground.data }], guard := none },
    { dst := some 23, op := Op.load 42 (Operand.tmp 22), type := t11, pos := q11, after := #[{ on := 10, ground := Ground.data }], guard := none },
    { dst := some 24, op := Op.call { callee := Callee.builtin Builtin.append, args := #[Operand.tmp 18, Operand.tmp 23], argTypes := #[42, 42] }, type := t12, pos := q12, after := #[{ on := 6, ground := Ground.data }, { on := 11, ground := Ground.data }], guard := none },
    { dst := some 25, op := Op.build 44 #[(0, Operand.tmp 17), (1, Operand.tmp 24)], type := t13, pos := q13, after := #[{ on := 5, ground := Ground.data }, { on := 12, ground := Ground.data }], guard := none },
    { dst := some 26, op := Op.buildSlice 45 1 #[(0, Operand.tmp 25)], type := t14, pos := q14, after := #[{ on := 13, ground := Ground.data }], guard := none },
    { dst := some 27, op := Op.call { callee := Callee.builtin Builtin.append, args := #[Operand.tmp 12, Operand.tmp 26], argTypes := #[45, 45] }, type := t15, pos := q15, after := #[{ on := 0, ground := Ground.data }, { on := 14, ground := Ground.data }, { on := 12, ground := Ground.chain }], guard := none },
    { dst := some 3, op := Op.assign (Operand.tmp 27), type := t16, pos := q16, after := #[{ on := 15, ground := Ground.data }, { on := 15, ground := Ground.chain }, { on := 0, ground := Ground.phase }, { on := 1, ground := Ground.phase }, { on := 2, ground := Ground.phase }, { on := 3, ground := Ground.phase }, { on := 4, ground := Ground.phase }, { on := 5, ground := Ground.phase }, { on := 6, ground := Ground.phase }, { on := 7, ground := Ground.phase }, { on := 8, ground := Ground.phase }, { on := 9, ground := Ground.phase }, { on := 10, ground := Ground.phase }, { on := 11, ground := Ground.phase }, { on := 12, ground := Ground.phase }, { on := 13, ground := Ground.phase }, { on := 14, ground := Ground.phase }, { on := 15, ground := Ground.phase }], guard := none }] true).wp Try.prog Q a0 w0 := by
  have hS : distS [some 12, some 13, some 14, some 15, some 16, some 17, some 18, some 19, some 20, some 21, some 22, some 23, some 24, some 25, some 26, some 27, some 3] = true := rfl
  refine wp_region_inv (by kernel_rfl) (JewD B4 base c o qf Lf Ef sf A off n ca Ab ob mc w0 a0) ⟨⟨rfl, rfl, rfl, fun _ _ => rfl, (Below.refl _ w0).drew, fun j d hj => ?_, fun j hj => ?_⟩, CpI.start s3 s0⟩ ?_ ?_
  · exfalso
    rw [Array.getD_eq_getD_getElem?, Array.getElem?_replicate] at hj
    split at hj <;> simp at hj
  · exfalso
    rw [Array.getD_eq_getD_getElem?, Array.getElem?_replicate] at hj
    split at hj <;> simp at hj
  · intro lq aq W iq oq ⟨hJ, hs⟩ hl ho hall
    have hJ2 := hJ
    obtain ⟨z1, z2, z3, z4, z5, z6, z7⟩ := hJ
    have g0 : aq.tmps.getD 0 undef = .slice (some ⟨A, off, none⟩) n ca := by rw [Array.getD_eq_getD_getElem?, z4 0 (by decide), h0]; rfl
    have g4 : aq.tmps.getD 4 undef = .int .i64 (c : Int) := by rw [Array.getD_eq_getD_getElem?, z4 4 (by decide), h4]; rfl
    have c0 : W.cell? ⟨A, off + c * 13, none⟩ = some (.int .u64 (ww3 (qf c).1)) := (z5.cell l0).trans k0
    have c1 : W.cell? ⟨A, off + c * 13 + 1, none⟩ = some (.int .u64 (ww2 (qf c).1)) := (z5.cell l1).trans k1
    have c2 : W.cell? ⟨A, off + c * 13 + 2, none⟩ = some (.int .u64 (ww1 (qf c).1)) := (z5.cell l2).trans k2
    have c3 : W.cell? ⟨A, off + c * 13 + 3, none⟩ = some (.int .u64 (ww0 (qf c).1)) := (z5.cell l3).trans k3
    have c4 : W.cell? ⟨A, off + c * 13 + 4, none⟩ = some (.int .u64 (ww3 (qf c).2.1)) := (z5.cell l4).trans k4
    have c5 : W.cell? ⟨A, off + c * 13 + 5, none⟩ = some (.int .u64 (ww2 (qf c).2.1)) := (z5.cell l5).trans k5
    have c6 : W.cell? ⟨A, off + c * 13 + 6, none⟩ = some (.int .u64 (ww1 (qf c).2.1)) := (z5.cell l6).trans k6
    have c7 : W.cell? ⟨A, off + c * 13 + 7, none⟩ = some (.int .u64 (ww0 (qf c).2.1)) := (z5.cell l7).trans k7
    have c8 : W.cell? ⟨A, off + c * 13 + 8, none⟩ = some (.int .u64 (ww3 (qf c).2.2)) := (z5.cell l8).trans k8
    have c9 : W.cell? ⟨A, off + c * 13 + 9, none⟩ = some (.int .u64 (ww2 (qf c).2.2)) := (z5.cell l9).trans k9
    have c10 : W.cell? ⟨A, off + c * 13 + 10, none⟩ = some (.int .u64 (ww1 (qf c).2.2)) := (z5.cell l10).trans k10
    have c11 : W.cell? ⟨A, off + c * 13 + 11, none⟩ = some (.int .u64 (ww0 (qf c).2.2)) := (z5.cell l11).trans k11
    have c12 : W.cell? ⟨A, off + c * 13 + 12, none⟩ = some (.slice (some ⟨Ab, ob, none⟩) (Lf c) mc) := (z5.cell l12).trans k12
    match iq, ho with
    | 0, ho =>
      cases ho
      refine wpOp_of rfl rfl ?_
      have hq := fun (v : Value) => hs.quiet 0 12 v (by decide) hl (by decide) (by decide)
      have f3 := hs.2.k3 (hs.off (by decide) hl)
      have hK := fun (v : Value) (W2 : World) hW hT hv (hs : SewD B4 base c o qf Lf Ef sf A off n ca Ab ob mc (lq.setIfInBounds 0 true) (aq.put (some 12) v) W2) => show (JewD B4 base c o qf Lf Ef sf A off n ca Ab ob mc w0 a0) (lq.setIfInBounds 0 true) (aq.put (some 12) v) W2 from ⟨hJ2.put hS 0 12 rfl (by omega) (W' := W2) hW hT v hv, hs⟩
      clear ho hall hl hQ
      generalize (JewD B4 base c o qf Lf Ef sf A off n ca Ab ob mc w0 a0) (lq.setIfInBounds 0 true) = K at hK ⊢
      clear hJ2 hS z1 z2 z3 z4 z6 z7
      go_simp
      exact hK _ _ z5 (fun _ _ h => h) rfl (hq _)
    | 1, ho =>
      cases ho
      refine wpOp_of rfl rfl ?_
      have hq := fun (v : Value) => hs.quiet 1 13 v (by decide) hl (by decide) (by decide)
      have hK := fun (v : Value) (W2 : World) hW hT hv (hs : SewD B4 base c o qf Lf Ef sf A off n ca Ab ob mc (lq.setIfInBounds 1 true) (aq.put (some 13) v) W2) => show (JewD B4 base c o qf Lf Ef sf A off n ca Ab ob mc w0 a0) (lq.setIfInBounds 1 true) (aq.put (some 13) v) W2 from ⟨hJ2.put hS 1 13 rfl (by omega) (W' := W2) hW hT v hv, hs⟩
      clear ho hall hl hQ
      generalize (JewD B4 base c o qf Lf Ef sf A off n ca Ab ob mc w0 a0) (lq.setIfInBounds 1 true) = K at hK ⊢
      clear hJ2 hS z1 z2 z3 z4 z6 z7
      go_simp
      exact hK _ _ z5 (fun _ _ h => h) rfl (hq _)
    | 2, ho =>
      cases ho
      refine wpOp_of rfl rfl ?_
      have hq := fun (v : Value) => hs.quiet 2 14 v (by decide) hl (by decide) (by decide)
      have hK := fun (v : Value) (W2 : World) hW hT hv (hs : SewD B4 base c o qf Lf Ef sf A off n ca Ab ob mc (lq.setIfInBounds 2 true) (aq.put (some 14) v) W2) => show (JewD B4 base c o qf Lf Ef sf A off n ca Ab ob mc w0 a0) (lq.setIfInBounds 2 true) (aq.put (some 14) v) W2 from ⟨hJ2.put hS 2 14 rfl (by omega) (W' := W2) hW hT v hv, hs⟩
      clear ho hall hl hQ
      generalize (JewD B4 base c o qf Lf Ef sf A off n ca Ab ob mc w0 a0) (lq.setIfInBounds 2 true) = K at hK ⊢
      clear hJ2 hS z1 z2 z3 z4 z6 z7
      go_simp
      exact hK _ _ z5 (fun _ _ h => h) rfl (hq _)
    | 3, ho =>
      cases ho
      refine wpOp_of rfl rfl ?_
      have f1 : (aq.tmps.getD 13 undef) = .slice (some ⟨A, off, none⟩) n ca := z6 1 13 (hall { on := 1, ground := Ground.data } (by simp) rfl) rfl
      have f2 : (aq.tmps.getD 14 undef) = .int .i64 (c : Int) := z6 2 14 (hall { on := 2, ground := Ground.data } (by simp) rfl) rfl
      have hq := fun (v : Value) => hs.quiet 3 15 v (by decide) hl (by decide) (by decide)
      have hK := fun (v : Value) (W2 : World) hW hT hv (hs : SewD B4 base c o qf Lf Ef sf A off n ca Ab ob mc (lq.setIfInBounds 3 true) (aq.put (some 15) v) W2) => show (JewD B4 base c o qf Lf Ef sf A off n ca Ab ob mc w0 a0) (lq.setIfInBounds 3 true) (aq.put (some 15) v) W2 from ⟨hJ2.put hS 3 15 rfl (by omega) (W' := W2) hW hT v hv, hs⟩
      clear ho hall hl hQ
      generalize (JewD B4 base c o qf Lf Ef sf A off n ca Ab ob mc w0 a0) (lq.setIfInBounds 3 true) = K at hK ⊢
      clear hJ2 hS z1 z2 z3 z4 z6 z7
      go_simp
      exact hK _ _ z5 (fun _ _ h => h) rfl (hq _)
    | 4, ho =>
      cases ho
      refine wpOp_of rfl rfl ?_
      have f3 : (aq.tmps.getD 15 undef) = .pointer (some ⟨A, off + c * 13, none⟩) := z6 3 15 (hall { on := 3, ground := Ground.data } (by simp) rfl) rfl
      have hq := fun (v : Value) => hs.quiet 4 16 v (by decide) hl (by decide) (by decide)
      have hK := fun (v : Value) (W2 : World) hW hT hv (hs : SewD B4 base c o qf Lf Ef sf A off n ca Ab ob mc (lq.setIfInBounds 4 true) (aq.put (some 16) v) W2) => show (JewD B4 base c o qf Lf Ef sf A off n ca Ab ob mc w0 a0) (lq.setIfInBounds 4 true) (aq.put (some 16) v) W2 from ⟨hJ2.put hS 4 16 rfl (by omega) (W' := W2) hW hT v hv, hs⟩
      clear ho hall hl hQ
      generalize (JewD B4 base c o qf Lf Ef sf A off n ca Ab ob mc w0 a0) (lq.setIfInBounds 4 true) = K at hK ⊢
      clear hJ2 hS z1 z2 z3 z4 z6 z7
      go_simp
      exact hK _ _ z5 (fun _ _ h => h) rfl (hq _)
    | 5, ho =>
      cases ho
      refine wpOp_of rfl rfl ?_
      have f4 : (aq.tmps.getD 16 undef) = .pointer (some ⟨A, off + c * 13, none⟩) := z6 4 16 (hall { on := 4, ground := Ground.data } (by simp) rfl) rfl
      have hq := fun (v : Value) => hs.quiet 5 17 v (by decide) hl (by decide) (by decide)
      have hK := fun (v : Value) (W2 : World) hW hT hv (hs : SewD B4 base c o qf Lf Ef sf A off n ca Ab ob mc (lq.setIfInBounds 5 true) (aq.put (some 17) v) W2) => show (JewD B4 base c o qf Lf Ef sf A off n ca Ab ob mc w0 a0) (lq.setIfInBounds 5 true) (aq.put (some 17) v) W2 from ⟨hJ2.put hS 5 17 rfl (by omega) (W' := W2) hW hT v hv, hs⟩
      clear ho hall hl hQ
      generalize (JewD B4 base c o qf Lf Ef sf A off n ca Ab ob mc w0 a0) (lq.setIfInBounds 5 true) = K at hK ⊢
      clear hJ2 hS z1 z2 z3 z4 z6 z7
      go_simp
      exact hK _ _ z5 (fun _ _ h => h) rfl (hq _)
    | 6, ho =>
      cases ho
      refine wpOp_of rfl rfl ?_
      have hq := hs.put6 hl (by rw [z2, hz]; decide) (u := .slice (some ⟨W.heap.size, 0, none⟩) 0 0) (W2 := W.alloc (.cells #[] 2)) (by have := hs.2; rw [getD_tf hl] at this; exact this.made (Nat.le_trans hB4 z5.size))
      have zs := z5.size
      have hK := fun (v : Value) (W2 : World) hW hT hv (hs : SewD B4 base c o qf Lf Ef sf A off n ca Ab ob mc (lq.setIfInBounds 6 true) (aq.put (some 18) v) W2) => show (JewD B4 base c o qf Lf Ef sf A off n ca Ab ob mc w0 a0) (lq.setIfInBounds 6 true) (aq.put (some 18) v) W2 from ⟨hJ2.put hS 6 18 rfl (by omega) (W' := W2) hW hT v hv, hs⟩
      clear ho hall hl hQ
      generalize (JewD B4 base c o qf Lf Ef sf A off n ca Ab ob mc w0 a0) (lq.setIfInBounds 6 true) = K at hK ⊢
      clear hJ2 hS z1 z2 z3 z4 z6 z7
      clear hs
      go_simp
      exact hK _ _ (z5.alloc (by omega) _) (fun _ _ h => h.same) trivial hq
    | 7, ho =>
      cases ho
      refine wpOp_of rfl rfl ?_
      have hq := fun (v : Value) => hs.quiet 7 19 v (by decide) hl (by decide) (by decide)
      have hK := fun (v : Value) (W2 : World) hW hT hv (hs : SewD B4 base c o qf Lf Ef sf A off n ca Ab ob mc (lq.setIfInBounds 7 true) (aq.put (some 19) v) W2) => show (JewD B4 base c o qf Lf Ef sf A off n ca Ab ob mc w0 a0) (lq.setIfInBounds 7 true) (aq.put (some 19) v) W2 from ⟨hJ2.put hS 7 19 rfl (by omega) (W' := W2) hW hT v hv, hs⟩
      clear ho hall hl hQ
      generalize (JewD B4 base c o qf Lf Ef sf A off n ca Ab ob mc w0 a0) (lq.setIfInBounds 7 true) = K at hK ⊢
      clear hJ2 hS z1 z2 z3 z4 z6 z7
      go_simp
      exact hK _ _ z5 (fun _ _ h => h) rfl (hq _)
    | 8, ho =>
      cases ho
      refine wpOp_of rfl rfl ?_
      have hq := fun (v : Value) => hs.quiet 8 20 v (by decide) hl (by decide) (by decide)
      have hK := fun (v : Value) (W2 : World) hW hT hv (hs : SewD B4 base c o qf Lf Ef sf A off n ca Ab ob mc (lq.setIfInBounds 8 true) (aq.put (some 20) v) W2) => show (JewD B4 base c o qf Lf Ef sf A off n ca Ab ob mc w0 a0) (lq.setIfInBounds 8 true) (aq.put (some 20) v) W2 from ⟨hJ2.put hS 8 20 rfl (by omega) (W' := W2) hW hT v hv, hs⟩
      clear ho hall hl hQ
      generalize (JewD B4 base c o qf Lf Ef sf A off n ca Ab ob mc w0 a0) (lq.setIfInBounds 8 true) = K at hK ⊢
      clear hJ2 hS z1 z2 z3 z4 z6 z7
      go_simp
      exact hK _ _ z5 (fun _ _ h => h) rfl (hq _)
    | 9, ho =>
      cases ho
      refine wpOp_of rfl rfl ?_
      have f7 : (aq.tmps.getD 19 undef) = .slice (some ⟨A, off, none⟩) n ca := z6 7 19 (hall { on := 7, ground := Ground.data } (by simp) rfl) rfl
      have f8 : (aq.tmps.getD 20 undef) = .int .i64 (c : Int) := z6 8 20 (hall { on := 8, ground := Ground.data } (by simp) rfl) rfl
      have hq := fun (v : Value) => hs.quiet 9 21 v (by decide) hl (by decide) (by decide)
      have hK := fun (v : Value) (W2 : World) hW hT hv (hs : SewD B4 base c o qf Lf Ef sf A off n ca Ab ob mc (lq.setIfInBounds 9 true) (aq.put (some 21) v) W2) => show (JewD B4 base c o qf Lf Ef sf A off n ca Ab ob mc w0 a0) (lq.setIfInBounds 9 true) (aq.put (some 21) v) W2 from ⟨hJ2.put hS 9 21 rfl (by omega) (W' := W2) hW hT v hv, hs⟩
      clear ho hall hl hQ
      generalize (JewD B4 base c o qf Lf Ef sf A off n ca Ab ob mc w0 a0) (lq.setIfInBounds 9 true) = K at hK ⊢
      clear hJ2 hS z1 z2 z3 z4 z6 z7
      go_simp
      exact hK _ _ z5 (fun _ _ h => h) rfl (hq _)
    | 10, ho =>
      cases ho
      refine wpOp_of rfl rfl ?_
      have f9 : (aq.tmps.getD 21 undef) = .pointer (some ⟨A, off + c * 13, none⟩) := z6 9 21 (hall { on := 9, ground := Ground.data } (by simp) rfl) rfl
      have hq := fun (v : Value) => hs.quiet 10 22 v (by decide) hl (by decide) (by decide)
      have hK := fun (v : Value) (W2 : World) hW hT hv (hs : SewD B4 base c o qf Lf Ef sf A off n ca Ab ob mc (lq.setIfInBounds 10 true) (aq.put (some 22) v) W2) => show (JewD B4 base c o qf Lf Ef sf A off n ca Ab ob mc w0 a0) (lq.setIfInBounds 10 true) (aq.put (some 22) v) W2 from ⟨hJ2.put hS 10 22 rfl (by omega) (W' := W2) hW hT v hv, hs⟩
      clear ho hall hl hQ
      generalize (JewD B4 base c o qf Lf Ef sf A off n ca Ab ob mc w0 a0) (lq.setIfInBounds 10 true) = K at hK ⊢
      clear hJ2 hS z1 z2 z3 z4 z6 z7
      go_simp
      exact hK _ _ z5 (fun _ _ h => h) rfl (hq _)
    | 11, ho =>
      cases ho
      refine wpOp_of rfl rfl ?_
      have f10 : (aq.tmps.getD 22 undef) = .pointer (some ⟨A, off + c * 13 + 12, none⟩) := z6 10 22 (hall { on := 10, ground := Ground.data } (by simp) rfl) rfl
      have hq := fun (v : Value) => hs.quiet 11 23 v (by decide) hl (by decide) (by decide)
      have hK := fun (v : Value) (W2 : World) hW hT hv (hs : SewD B4 base c o qf Lf Ef sf A off n ca Ab ob mc (lq.setIfInBounds 11 true) (aq.put (some 23) v) W2) => show (JewD B4 base c o qf Lf Ef sf A off n ca Ab ob mc w0 a0) (lq.setIfInBounds 11 true) (aq.put (some 23) v) W2 from ⟨hJ2.put hS 11 23 rfl (by omega) (W' := W2) hW hT v hv, hs⟩
      clear ho hall hl hQ
      generalize (JewD B4 base c o qf Lf Ef sf A off n ca Ab ob mc w0 a0) (lq.setIfInBounds 11 true) = K at hK ⊢
      clear hJ2 hS z1 z2 z3 z4 z6 z7
      go_simp
      exact hK _ _ z5 (fun _ _ h => h) rfl (hq _)
    | 12, ho =>
      cases ho
      refine wpOp_of rfl rfl ?_
      have f11 : (aq.tmps.getD 23 undef) = .slice (some ⟨Ab, ob, none⟩) (Lf c) mc := z6 11 23 (hall { on := 11, ground := Ground.data } (by simp) rfl) rfl
      have l6 := hall { on := 6, ground := Ground.data } (by simp) rfl
      have H := hs.2
      rw [getD_tf hl, l6] at H
      obtain ⟨g6, f18, ow⟩ := H.k18 rfl rfl
      have hq := fun (u : Value) (W2 : World) hg hn => hs.put12 hl (by rw [z2, hz]; decide) (u := u) (W2 := W2) (by rw [l6]; exact H.app12 (u := u) (W2 := W2) (g := g6) hg (ow.lt g6 rfl).1 hv hsf hm0 hn)
      have zs := z5.size
      have hK := fun (v : Value) (W2 : World) hW hT hv (hs : SewD B4 base c o qf Lf Ef sf A off n ca Ab ob mc (lq.setIfInBounds 12 true) (aq.put (some 24) v) W2) => show (JewD B4 base c o qf Lf Ef sf A off n ca Ab ob mc w0 a0) (lq.setIfInBounds 12 true) (aq.put (some 24) v) W2 from ⟨hJ2.put hS 12 24 rfl (by omega) (W' := W2) hW hT v hv, hs⟩
      clear ho hall hl hQ
      generalize (JewD B4 base c o qf Lf Ef sf A off n ca Ab ob mc w0 a0) (lq.setIfInBounds 12 true) = K at hK ⊢
      clear hJ2 hS z1 z2 z3 z4 z6 z7
      refine wp_append_at (Operand.tmp 18) (Operand.tmp 23) 42 rfl B4 2 j0 (.int .i64 0) 1 8 Try.underlying42 hj hj0 hj1 hj2 rfl (by decide) _ 0 [] f18 ow ⟨Ab, ob, none⟩ (Lf c) mc (noL (Lf c) (Ef c)) f11 (by rw [noL_len]; omega) (noL_cell (noIn_below hN z5 hAb)) (noL_one _ _) (by unfold maxLen; omega) (by omega) (by omega) ?_
      intro v' w' hown hgrow _
      rw [Nat.zero_add, List.nil_append] at hown
      exact hK _ _ (z5.grown hgrow (by omega) (fun k hk => by have h1 : some g6 = some k := hk; cases h1; have := (ow.lt g6 rfl).1; omega)) (fun _ _ h => h.same) trivial (hq _ _ hgrow hown)
    | 13, ho =>
      cases ho
      refine wpOp_of rfl rfl ?_
      have f5 : (aq.tmps.getD 17 undef) = .agg #[.int .u64 (ww3 (qf c).1), .int .u64 (ww2 (qf c).1), .int .u64 (ww1 (qf c).1), .int .u64 (ww0 (qf c).1), .int .u64 (ww3 (qf c).2.1), .int .u64 (ww2 (qf c).2.1), .int .u64 (ww1 (qf c).2.1), .int .u64 (ww0 (qf c).2.1), .int .u64 (ww3 (qf c).2.2), .int .u64 (ww2 (qf c).2.2), .int .u64 (ww1 (qf c).2.2), .int .u64 (ww0 (qf c).2.2)] := z6 5 17 (hall { on := 5, ground := Ground.data } (by simp) rfl) rfl
      have l12 := hall { on := 12, ground := Ground.data } (by simp) rfl
      have H := hs.2
      rw [getD_tf hl, l12] at H
      have l15 : lq.getD 15 false = false := by cases e15 : lq.getD 15 false with | false => rfl | true => have := H.o2 (H.o3 e15); cases this
      obtain ⟨gs, cs, f24, ow⟩ := H.k24 rfl l15
      have hq := hs.put13 hl (by rw [z2, hz]; decide) (u := .agg #[.int .u64 (ww3 (qf c).1), .int .u64 (ww2 (qf c).1), .int .u64 (ww1 (qf c).1), .int .u64 (ww0 (qf c).1), .int .u64 (ww3 (qf c).2.1), .int .u64 (ww2 (qf c).2.1), .int .u64 (ww1 (qf c).2.1), .int .u64 (ww0 (qf c).2.1), .int .u64 (ww3 (qf c).2.2), .int .u64 (ww2 (qf c).2.2), .int .u64 (ww1 (qf c).2.2), .int .u64 (ww0 (qf c).2.2), (.slice (some ⟨gs, 0, none⟩) (Lf c) cs)]) (W2 := W) (by rw [l12]; exact H.built13 ow)
      rw [Array.getD_eq_getD_getElem?] at f24 f5
      have hK := fun (v : Value) (W2 : World) hW hT hv (hs : SewD B4 base c o qf Lf Ef sf A off n ca Ab ob mc (lq.setIfInBounds 13 true) (aq.put (some 25) v) W2) => show (JewD B4 base c o qf Lf Ef sf A off n ca Ab ob mc w0 a0) (lq.setIfInBounds 13 true) (aq.put (some 25) v) W2 from ⟨hJ2.put hS 13 25 rfl (by omega) (W' := W2) hW hT v hv, hs⟩
      clear ho hall hl hQ
      generalize (JewD B4 base c o qf Lf Ef sf A off n ca Ab ob mc w0 a0) (lq.setIfInBounds 13 true) = K at hK ⊢
      clear hJ2 hS z1 z2 z3 z4 z6 z7
      clear hs H
      go_simp
      exact hK _ _ z5 (fun _ _ h => h.same) trivial hq
    | 14, ho =>
      cases ho
      refine wpOp_of rfl rfl ?_
      have l13 := hall { on := 13, ground := Ground.data } (by simp) rfl
      have H := hs.2
      rw [getD_tf hl, l13] at H
      have l15 : lq.getD 15 false = false := by cases e15 : lq.getD 15 false with | false => rfl | true => have := H.o3 e15; cases this
      obtain ⟨gs, cs, f25, ow⟩ := H.k25 rfl l15
      have hq := hs.put14 hl (by rw [z2, hz]; decide) (u := .slice (some ⟨W.heap.size, 0, none⟩) 1 1) (W2 := W.alloc (.cells #[.int .u64 (ww3 (qf c).1), .int .u64 (ww2 (qf c).1), .int .u64 (ww1 (qf c).1), .int .u64 (ww0 (qf c).1), .int .u64 (ww3 (qf c).2.1), .int .u64 (ww2 (qf c).2.1), .int .u64 (ww1 (qf c).2.1), .int .u64 (ww0 (qf c).2.1), .int .u64 (ww3 (qf c).2.2), .int .u64 (ww2 (qf c).2.2), .int .u64 (ww1 (qf c).2.2), .int .u64 (ww0 (qf c).2.2), (.slice (some ⟨gs, 0, none⟩) (Lf c) cs)] 44)) (by rw [l13]; exact H.built14 ow)
      have zs := z5.size
      rw [Array.getD_eq_getD_getElem?] at f25
      have hK := fun (v : Value) (W2 : World) hW hT hv (hs : SewD B4 base c o qf Lf Ef sf A off n ca Ab ob mc (lq.setIfInBounds 14 true) (aq.put (some 26) v) W2) => show (JewD B4 base c o qf Lf Ef sf A off n ca Ab ob mc w0 a0) (lq.setIfInBounds 14 true) (aq.put (some 26) v) W2 from ⟨hJ2.put hS 14 26 rfl (by omega) (W' := W2) hW hT v hv, hs⟩
      clear ho hall hl hQ
      generalize (JewD B4 base c o qf Lf Ef sf A off n ca Ab ob mc w0 a0) (lq.setIfInBounds 14 true) = K at hK ⊢
      clear hJ2 hS z1 z2 z3 z4 z6 z7
      clear hs H
      go_simp
      exact hK _ _ (z5.alloc (by omega) _) (fun _ _ h => h.same) trivial hq
    | 15, ho =>
      cases ho
      refine wpOp_of rfl rfl ?_
      have f0 : (aq.tmps.getD 12 undef) = o := z6 0 12 (hall { on := 0, ground := Ground.data } (by simp) rfl) rfl
      have l14 := hall { on := 14, ground := Ground.data } (by simp) rfl
      have H := hs.2
      rw [getD_tf hl, l14] at H
      have evo := H.ev rfl
      obtain ⟨ge, gs, cs, f26, XB, ow⟩ := H.k26 rfl rfl
      have lz16 := hs.off (by decide) hl
      have hq := fun (u : Value) (W2 : World) hn => hs.put15 hl (by rw [z2, hz]; decide) (u := u) (W2 := W2) (by rw [l14]; exact H.app15 lz16 hn)
      have zs := z5.size
      have hK := fun (v : Value) (W2 : World) hW hT hv (hs : SewD B4 base c o qf Lf Ef sf A off n ca Ab ob mc (lq.setIfInBounds 15 true) (aq.put (some 27) v) W2) => show (JewD B4 base c o qf Lf Ef sf A off n ca Ab ob mc w0 a0) (lq.setIfInBounds 15 true) (aq.put (some 27) v) W2 from ⟨hJ2.put hS 15 27 rfl (by omega) (W' := W2) hW hT v hv, hs⟩
      clear ho hall hl hQ
      generalize (JewD B4 base c o qf Lf Ef sf A off n ca Ab ob mc w0 a0) (lq.setIfInBounds 15 true) = K at hK ⊢
      clear hJ2 hS z1 z2 z3 z4 z6 z7
      refine wp_append_at (Operand.tmp 12) (Operand.tmp 26) 45 rfl base 44 i0 (.agg #[.int .u64 0, .int .u64 0, .int .u64 0, .int .u64 0, .int .u64 0, .int .u64 0, .int .u64 0, .int .u64 0, .int .u64 0, .int .u64 0, .int .u64 0, .int .u64 0, .slice none 0 0]) 13 120 Try.underlying45 hi hz0 hz1 hz2 rfl (by decide) _ c _ f0 evo.own ⟨ge, 0, none⟩ 1 1 (ev13 (qf c) (.slice (some ⟨gs, 0, none⟩) (Lf c) cs)) f26 rfl (fun j u hj => by rw [Addr.add_lit, Nat.zero_add]; exact XB.c j hj) (ev13_one _ _ _ _) (by unfold maxLen; omega) (by omega) (by omega) ?_
      intro v' w' hown hgrow hob
      exact hK _ _ (z5.grown hgrow (by omega) (fun k hk => (evo.own.lt k hk).1)) (fun _ _ h => h.same) trivial (hq _ _ ⟨_, evo.app _ ow hbB hv hsf hgrow hown hob⟩)
    | 16, ho =>
      cases ho
      refine wpOp_of rfl rfl ?_
      have l15 := hall { on := 15, ground := Ground.data } (by simp) rfl
      have H := hs.2
      rw [getD_tf hl, l15] at H
      have hq := CpI.put16 (u := aq.tmps.getD 27 undef) hl (by rw [z2, hz]; decide) (fun j hj hn => match j, hj, hn with | 0, _, _ => hall { on := 0, ground := Ground.phase } (by simp) rfl | 1, _, _ => hall { on := 1, ground := Ground.phase } (by simp) rfl | 2, _, _ => hall { on := 2, ground := Ground.phase } (by simp) rfl | 3, _, _ => hall { on := 3, ground := Ground.phase } (by simp) rfl | 4, _, _ => hall { on := 4, ground := Ground.phase } (by simp) rfl | 5, _, _ => hall { on := 5, ground := Ground.phase } (by simp) rfl | 6, _, _ => hall { on := 6, ground := Ground.phase } (by simp) rfl | 7, _, _ => hall { on := 7, ground := Ground.phase } (by simp) rfl | 8, _, _ => hall { on := 8, ground := Ground.phase } (by simp) rfl | 9, _, _ => hall { on := 9, ground := Ground.phase } (by simp) rfl | 10, _, _ => hall { on := 10, ground := Ground.phase } (by simp) rfl | 11, _, _ => hall { on := 11, ground := Ground.phase } (by simp) rfl | 12, _, _ => hall { on := 12, ground := Ground.phase } (by simp) rfl | 13, _, _ => hall { on := 13, ground := Ground.phase } (by simp) rfl | 14, _, _ => hall { on := 14, ground := Ground.phase } (by simp) rfl | 15, _, _ => hall { on := 15, ground := Ground.data } (by simp) rfl | 16, _, hn => absurd rfl hn | j + 17, hj, _ => absurd hj (by omega)) (by rw [l15]; exact H.assigned)
      have hK := fun (v : Value) (W2 : World) hW hT hv (hs : SewD B4 base c o qf Lf Ef sf A off n ca Ab ob mc (lq.setIfInBounds 16 true) (aq.put (some 3) v) W2) => show (JewD B4 base c o qf Lf Ef sf A off n ca Ab ob mc w0 a0) (lq.setIfInBounds 16 true) (aq.put (some 3) v) W2 from ⟨hJ2.put hS 16 3 rfl (by omega) (W' := W2) hW hT v hv, hs⟩
      clear ho hall hl hQ
      generalize (JewD B4 base c o qf Lf Ef sf A off n ca Ab ob mc w0 a0) (lq.setIfInBounds 16 true) = K at hK ⊢
      clear hJ2 hS z1 z2 z3 z4 z6 z7
      clear hs H
      rw [Array.getD_eq_getD_getElem?] at hq
      go_simp
      exact hK _ _ z5 (fun _ _ h => h.same) trivial hq
    | iq + 17, ho => simp at ho
  · intro lq aq W ⟨hJ, hs⟩ hr
    obtain ⟨z1, z2, z3, z4, z5, z6, z7⟩ := hJ
    have hl := listed_of hr [0, 1, 2, 3, 4, 5, 6, 7, 8, 9, 10, 11, 12, 13, 14, 15, 16] [] (by simp) (by kernel_rfl) (by rw [z1]; decide)
    exact hQ aq W z2 z3 (fun e he => z4 e (by simpa using he)) (z6 16 3 (hl 16 (by simp)) rfl) z5 (by have h16 := hl 16 (by simp); have h15 := hl 15 (by simp); rw [hs.2.k3b h16]; exact hs.2.k27 h15)
set_option maxRecDepth 100000 in
set_option maxHeartbeats 8000000 in
theorem l7Copy_any (ao : Option Addr) (n cap : Nat) (q : Nat → Int × Int × Int) (S : Nat → Option Addr × Nat) (L : Nat → Nat) (E : Nat → Nat → Int) (hn : n ≤ 1048576) (hL : ∀ i, i < n → 0 < L i ∧ L i ≤ 1048576) (w : World) (hS : EvIn w ao n q S L E) : Calls Try.prog 38 #[.slice ao n cap] w (fun r w' => ∃ v s, r = .returned v ∧ EvOwn w' w.heap.size v n (wq q) s L E ∧ Below w.heap.size w w') := by
  obtain ⟨i0, hi, hz0, hz1, hz2⟩ := info_ev
  obtain ⟨j0, hj, hj0, hj1, hj2⟩ := info_parts Try.infoNo
  have HS : Hid (EvIn w ao n q S L E) := hS
  have HL : Hid (∀ i, i < n → 0 < L i ∧ L i ≤ 1048576) := hL
  clear hS hL
  have hnI : (n : Int) ≤ 1048576 := by omega
  have HM := EvOwn.made w w.heap.size (Nat.le_refl _) (wq q) (fun _ => .slice none 0 0) L E
  have HB0 : Below w.heap.size w (w.alloc (.cells #[] 44)) := (Below.refl _ w).alloc (Nat.le_refl _) _
  go_enter Try.func38, Try.ntmps38
  go_wp2_with fail
  go_loopw [3, 4] (fun o i wr => ∃ (c : Nat) (s : Nat → Value), c ≤ n ∧ i = .int .i64 c ∧ EvOwn wr w.heap.size o c (wq q) s L E ∧ Below w.heap.size w wr) (fun _ i _ => n - (intOf i).toNat)
  case atStart => exact ⟨0, fun _ => .slice none 0 0, by omega, rfl, HM, HB0⟩
  case round =>
    clear HM HB0
    obtain ⟨c, s, hc, rfl, HO, HB⟩ := hrel
    by_cases hcn : c < n
    · obtain ⟨A, off, rfl, hA, q0, q1, q2, q3, q4, q5, q6, q7, q8, q9, q10, q11, q12, hrow⟩ := HS.out.step HB c hcn
      have hA0 : A < w.heap.size := by obtain ⟨A', off', e, h, _⟩ := HS.out c hcn; cases e; exact h
      obtain ⟨hl0, hl1⟩ := HL.out c hcn
      obtain ⟨Ab, ob, hSb, _⟩ := hrow 0 hl0
      have hAb : Ab < w.heap.size := by obtain ⟨_, _, _, _, _, _, _, _, _, _, _, _, _, _, _, _, _, h⟩ := HS.out c hcn; obtain ⟨A', o', e, h, _⟩ := h 0 hl0; rw [hSb] at e; cases e; exact h
      have hcI : (c : Int) < n := by omega
      rw [hSb] at hrow q12
      go_upto_region 5 with fail
      refine ewD (i0 := i0) (j0 := j0) (B4 := wr.heap.size) (base := w.heap.size) (c := c) (o := u3) (qf := q) (Lf := L) (Ef := E) (sf := s) (A := A) (off := off) (n := n) (ca := cap) (Ab := Ab) (ob := ob) (mc := (S c).2) hi hz0 hz1 hz2 hj hj0 hj1 hj2 hcI (by omega) (Nat.le_refl _) (Nat.le_refl _) HB.size HB.size hl0 hl1 hrow hAb (fun k hk => (HO.own.lt k hk).2) (fun i hi k hk => ((HO.ins i hi).lt k hk).2) rfl ⟨HO.own, HO.ins, HO.d1, HO.d2⟩ rfl rfl q0 hA0 q1 hA0 q2 hA0 q3 hA0 q4 hA0 q5 hA0 q6 hA0 q7 hA0 q8 hA0 q9 hA0 q10 hA0 q11 hA0 q12 hA0 rfl ?_
      rintro ⟨tm, df⟩ Wz hz hdf hoff _ hBz ⟨s2, HN⟩
      simp only at hz hdf hoff
      change EvOwn Wz w.heap.size (tm.getD 3 undef) (c + 1) (wq q) s2 L E at HN
      subst hdf
      generalize h3 : tm.getD 3 undef = o3 at HN
      have htm := tmps_fold [12, 13, 14, 15, 16, 17, 18, 19, 20, 21, 22, 23, 24, 25, 26, 27, 3] tm _ hz hoff
      simp only [List.foldl, List.setIfInBounds_toArray, List.set_cons_zero, List.set_cons_succ, h3] at htm
      clear hz hoff
      generalize tm.getD 12 undef = u0, tm.getD 13 undef = u1, tm.getD 14 undef = u2, tm.getD 15 undef = u3, tm.getD 16 undef = u4, tm.getD 17 undef = u5, tm.getD 18 undef = u6, tm.getD 19 undef = u7, tm.getD 20 undef = u8, tm.getD 21 undef = u9, tm.getD 22 undef = u10, tm.getD 23 undef = u11, tm.getD 24 undef = u12, tm.getD 25 undef = u13, tm.getD 26 undef = u14, tm.getD 27 undef = u15 at htm
      clear h3
      subst htm
      have HBN := HB.trans hBz
      clear q0 q1 q2 q3 q4 q5 q6 q7 q8 q9 q10 q11 q12 hrow HO HB hBz
      go_wp2
      go_roundw
      case rel => exact ⟨c + 1, _, by omega, by go_num, HN, HBN⟩
      case measure => simp [intOf]; omega
    · obtain rfl : c = n := by omega
      go_wp2
      go_ret
      exact ⟨_, s, rfl, HO, HB⟩
end Go.Proofs.Ytpmnmlhfaoajdaa

/- The first event taken off by the model. -/
namespace Go.Proofs.Ytpmnmlhfaoajdaa
open Go.RowKit
theorem EvOwn.heap {w w' : World} {base : Nat} {v : Value} {n : Nat} {x : Nat → Int} {s : Nat → Value} {L : Nat → Nat} {E : Nat → Nat → Int} (h : EvOwn w base v n x s L E) (hh : ∀ k, base ≤ k → w'.heap[k]? = w.heap[k]?) : EvOwn w' base v n x s L E :=
  ⟨ownN_heap h.own fun k hk => hh k (h.own.lt k hk).1, fun i hi => ownN_heap (h.ins i hi) fun k hk => hh k ((h.ins i hi).lt k hk).1, h.d1, h.d2⟩
/-- The cells of the first event. -/
theorem EvOwn.first {W : World} {base g n cap : Nat} {qf : Nat → Int × Int × Int} {sf : Nat → Value} {Lf : Nat → Nat} {Ef : Nat → Nat → Int} (h : EvOwn W base (.slice (some ⟨g, 0, none⟩) n cap) n (wq qf) sf Lf Ef) (hn : 0 < n) : W.cell? ⟨g, 0, none⟩ = some (.int .u64 (ww3 (qf 0).1)) ∧ W.cell? ⟨g, 1, none⟩ = some (.int .u64 (ww2 (qf 0).1)) ∧ W.cell? ⟨g, 2, none⟩ = some (.int .u64 (ww1 (qf 0).1)) ∧ W.cell? ⟨g, 3, none⟩ = some (.int .u64 (ww0 (qf 0).1)) ∧ W.cell? ⟨g, 4, none⟩ = some (.int .u64 (ww3 (qf 0).2.1)) ∧ W.cell? ⟨g, 5, none⟩ = some (.int .u64 (ww2 (qf 0).2.1)) ∧ W.cell? ⟨g, 6, none⟩ = some (.int .u64 (ww1 (qf 0).2.1)) ∧ W.cell? ⟨g, 7, none⟩ = some (.int .u64 (ww0 (qf 0).2.1)) ∧ W.cell? ⟨g, 8, none⟩ = some (.int .u64 (ww3 (qf 0).2.2)) ∧ W.cell? ⟨g, 9, none⟩ = some (.int .u64 (ww2 (qf 0).2.2)) ∧ W.cell? ⟨g, 10, none⟩ = some (.int .u64 (ww1 (qf 0).2.2)) ∧ W.cell? ⟨g, 11, none⟩ = some (.int .u64 (ww0 (qf 0).2.2)) ∧ W.cell? ⟨g, 12, none⟩ = some (.slice (sOf (sf 0)).1 (Lf 0) (sOf (sf 0)).2) := by
  obtain ⟨ao, cp, e, hI⟩ := h.row.in
  cases e
  obtain ⟨A, off, e, _, c0, c1, c2, c3, c4, c5, c6, c7, c8, c9, c10, c11, c12, _⟩ := hI 0 hn
  cases e
  exact ⟨c0, c1, c2, c3, c4, c5, c6, c7, c8, c9, c10, c11, c12⟩
/-- The store iz into the block A: before it os, behind it ns. -/
def StW (iz A : Nat) (os ns : List Value) (lz : Array Bool) (W : World) : Prop := (lz.getD iz false = false → Blk W A os) ∧ (lz.getD iz false = true → Blk W A ns)
theorem EvRow.in_no {w : World} {b t : Nat} {v : Value} {n : Nat} {x : Nat → Int} {s : Nat → Value} {L : Nat → Nat} {E : Nat → Nat → Int} (h : EvRow w b t v n x s L E) (hn : 0 < n) : ∃ so sc, s 0 = .slice so (L 0) sc ∧ NoIn w so (L 0) (E 0) := by
  rcases h with ⟨_, h⟩ | ⟨g, cap, f, h1, h2, h3, h4, h5, h6, h7, h8, h9⟩
  · omega
  · exact (h7 0 hn).in
theorem EvIn.tail {w : World} {A off n : Nat} {q : Nat → Int × Int × Int} {S : Nat → Option Addr × Nat} {L : Nat → Nat} {E : Nat → Nat → Int} (h : EvIn w (some ⟨A, off, none⟩) n q S L E) : EvIn w (some ⟨A, off + 13, none⟩) (n - 1) (fun i => q (i + 1)) (fun i => S (i + 1)) (fun i => L (i + 1)) (fun i => E (i + 1)) := fun i hi => by
  obtain ⟨A', off', e, hA, c⟩ := h (i + 1) (by omega)
  cases e
  refine ⟨A, off + 13, rfl, hA, ?_⟩
  rw [show off + (i + 1) * 13 = off + 13 + i * 13 by omega] at c
  exact c
theorem StW.start {m iz A : Nat} {os ns : List Value} {W : World} (h : Blk W A os) : StW iz A os ns (Array.replicate m false) W := ⟨fun _ => h, (fun h => by rw [replD] at h; cases h)⟩
theorem StW.quiet {iz A : Nat} {os ns : List Value} {lz : Array Bool} {W : World} (h : StW iz A os ns lz W) (i : Nat) (hi : i ≠ iz) : StW iz A os ns (lz.setIfInBounds i true) W := by
  unfold StW
  rw [getD_set_neq hi]
  exact h
theorem StW.stored {iz A : Nat} {os ns : List Value} {lz : Array Bool} {W : World} (hl : lz.getD iz true = false) (h : Blk W A ns) : StW iz A os ns (lz.setIfInBounds iz true) W := by
  unfold StW
  rw [getD_set_eq hl]
  exact ⟨(fun a => by cases a), fun _ => h⟩
def VewF (_R _base g n cap : Nat) (qf : Nat → Int × Int × Int) (Lf : Nat → Nat) (_Ef : Nat → Nat → Int) (sf : Nat → Value) (_B : Nat) : Nat → Value → World → Prop
  | 0, v, _ => v = .slice (some ⟨g, 0, none⟩) n cap
  | 1, v, _ => v = .pointer (some ⟨g, 0, none⟩)
  | 2, v, _ => v = .agg #[.int .u64 (ww3 (qf 0).1), .int .u64 (ww2 (qf 0).1), .int .u64 (ww1 (qf 0).1), .int .u64 (ww0 (qf 0).1), .int .u64 (ww3 (qf 0).2.1), .int .u64 (ww2 (qf 0).2.1), .int .u64 (ww1 (qf 0).2.1), .int .u64 (ww0 (qf 0).2.1), .int .u64 (ww3 (qf 0).2.2), .int .u64 (ww2 (qf 0).2.2), .int .u64 (ww1 (qf 0).2.2), .int .u64 (ww0 (qf 0).2.2), .slice (sOf (sf 0)).1 (Lf 0) (sOf (sf 0)).2]
  | 3, v, _ => v = .slice (some ⟨g, 0, none⟩) n cap
  | 4, v, _ => ∃ ad, v = .slice (some ⟨g, ad, none⟩) (n - 1) (cap - 1) ∧ (n = 1 ∨ ad = 13)
  | 6, v, _ => ∃ ad, v = .slice (some ⟨g, ad, none⟩) (n - 1) (cap - 1) ∧ (n = 1 ∨ ad = 13)
  | 7, v, _ => v = .bool true
  | _, _, _ => True
theorem VewF.mono {R base g n cap : Nat} {qf : Nat → Int × Int × Int} {Lf : Nat → Nat} {Ef : Nat → Nat → Int} {sf : Nat → Value} {B j : Nat} {v : Value} {W W2 : World} (_hB : Below W.heap.size W W2) (h : VewF R base g n cap qf Lf Ef sf B j v W) : VewF R base g n cap qf Lf Ef sf B j v W2 := by
  unfold VewF at *
  split <;> simp only at h <;> first | exact h | trivial
theorem VewF.same {R base g n cap : Nat} {qf : Nat → Int × Int × Int} {Lf : Nat → Nat} {Ef : Nat → Nat → Int} {sf : Nat → Value} {B j : Nat} {v : Value} {W W2 : World} (h : VewF R base g n cap qf Lf Ef sf B j v W) : VewF R base g n cap qf Lf Ef sf B j v W2 := by
  unfold VewF at *
  split <;> simp only at h <;> first | exact h | trivial
def SewF (R base g n cap : Nat) (qf : Nat → Int × Int × Int) (Lf : Nat → Nat) (Ef : Nat → Nat → Int) (sf : Nat → Value) (lz : Array Bool) (_az : Act) (W : World) : Prop := StW 5 R [.int .u64 0, .int .u64 0, .int .u64 0, .int .u64 0, .int .u64 0, .int .u64 0, .int .u64 0, .int .u64 0, .int .u64 0, .int .u64 0, .int .u64 0, .int .u64 0, .slice none 0 0] [.int .u64 (ww3 (qf 0).1), .int .u64 (ww2 (qf 0).1), .int .u64 (ww1 (qf 0).1), .int .u64 (ww0 (qf 0).1), .int .u64 (ww3 (qf 0).2.1), .int .u64 (ww2 (qf 0).2.1), .int .u64 (ww1 (qf 0).2.1), .int .u64 (ww0 (qf 0).2.1), .int .u64 (ww3 (qf 0).2.2), .int .u64 (ww2 (qf 0).2.2), .int .u64 (ww1 (qf 0).2.2), .int .u64 (ww0 (qf 0).2.2), .slice (sOf (sf 0)).1 (Lf 0) (sOf (sf 0)).2] lz W ∧ EvOwn W base (.slice (some ⟨g, 0, none⟩) n cap) n (wq qf) sf Lf Ef

def JewF (R base g n cap : Nat) (qf : Nat → Int × Int × Int) (Lf : Nat → Nat) (Ef : Nat → Nat → Int) (sf : Nat → Value) (w0 : World) (a0 : Act) (lz : Array Bool) (az : Act) (W : World) : Prop := InvQ (R) [some 17, some 18, some 19, some 20, some 21, none, some 3, some 4] (VewF R base g n cap qf Lf Ef sf (R)) w0 a0 lz az W ∧ SewF R base g n cap qf Lf Ef sf lz az W
set_option maxRecDepth 100000 in
set_option maxHeartbeats 4000000 in
theorem ewF {Q : Exit → Act → World → Prop} {R base g n cap : Nat} {qf : Nat → Int × Int × Int} {Lf : Nat → Nat} {Ef : Nat → Nat → Int} {sf : Nat → Value}  {w0 : World} {a0 : Act} {idq : Nat} {t0 t1 t2 t3 t4 t5 t6 t7 : TypeId} {q0 q1 q2 q3 q4 q5 q6 q7 : String}
    (hn0 : 0 < n) (hnI : (n : Int) ≤ 1048576) (hnc : n ≤ cap) (hcm : (1 : Int) ≤ (n : Int)) (hR : R < base) (s0 : Blk w0.drew R [.int .u64 0, .int .u64 0, .int .u64 0, .int .u64 0, .int .u64 0, .int .u64 0, .int .u64 0, .int .u64 0, .int .u64 0, .int .u64 0, .int .u64 0, .int .u64 0, .slice none 0 0]) (s1 : EvOwn w0.drew base (.slice (some ⟨g, 0, none⟩) n cap) n (wq qf) sf Lf Ef) (h2 : a0.tmps[2]? = some (.pointer (some ⟨R, 0, none⟩))) (h5 : a0.tmps[5]? = some (.slice (some ⟨g, 0, none⟩) n cap))  (hz : a0.tmps.size = 22)
    (hQ : ∀ aq W, aq.tmps.size = a0.tmps.size → aq.defers = a0.defers → (∀ e, e ∉ ([17, 18, 19, 20, 21, 3, 4] : List Nat) → aq.tmps[e]? = a0.tmps[e]?) → VewF R base g n cap qf Lf Ef sf (R) 5 undef W → VewF R base g n cap qf Lf Ef sf (R) 6 (aq.tmps.getD 3 undef) W → VewF R base g n cap qf Lf Ef sf (R) 7 (aq.tmps.getD 4 undef) W → Below (R) w0 W → (Blk W R [.int .u64 (ww3 (qf 0).1), .int .u64 (ww2 (qf 0).1), .int .u64 (ww1 (qf 0).1), .int .u64 (ww0 (qf 0).1), .int .u64 (ww3 (qf 0).2.1), .int .u64 (ww2 (qf 0).2.1), .int .u64 (ww1 (qf 0).2.1), .int .u64 (ww0 (qf 0).2.1), .int .u64 (ww3 (qf 0).2.2), .int .u64 (ww2 (qf 0).2.2), .int .u64 (ww1 (qf 0).2.2), .int .u64 (ww0 (qf 0).2.2), .slice (sOf (sf 0)).1 (Lf 0) (sOf (sf 0)).2] ∧ EvOwn W base (.slice (some ⟨g, 0, none⟩) n cap) n (wq qf) sf Lf Ef) → Q .normal aq W) :
    (Code.region idq #[{ dst := some 17, op := Op.move (Operand.tmp 5), type := t0, pos := q0, after := #[], guard := none },
    { dst := some 18, op := Op.indexAddr 45 (Operand.tmp 17) (Operand.const (Value.int IntKind.i64 0)), type := t1, pos := q1, after := #[{ on := 0, ground := Ground.data }], guard := none },
    { dst := some 19, op := Op.load 44 (Operand.tmp 18), type := t2, pos := q2, after := #[{ on := 1, ground := Ground.data }], guard := none },
    { dst := some 20, op := Op.move (Operand.tmp 5), type := t3, pos := q3, after := #[], guard := none },
    { dst := some 21, op := Op.slice 45 (Operand.tmp 20) (some (Operand.const (Value.int IntKind.i64 1))) none none, type := t4, pos := q4, after := #[{ on := 3, ground := Ground.data }], guard := none },
    { dst := none, op := Op.store 44 (Operand.tmp 2) (Operand.tmp 19), type := t5, pos := q5, after := #[{ on := 2, ground := Ground.data }, { on := 0, ground := Ground.phase }, { on := 1, ground := Ground.phase }, { on := 2, ground := Ground.phase }, { on := 3, ground := Ground.textOnly Departure.lateStores }, { on := 4, ground := Ground.textOnly Departure.lateStoresUnsure }], guard := none },
    { dst := some 3, op := Op.assign (Operand.tmp 21), type := t6, pos := q6, after := #[{ on := 4, ground := Ground.data }, { on := 5, ground := Ground.chain }, { on := 0, ground := Ground.phase }, { on := 1, ground := Ground.phase }, { on := 2, ground := Ground.phase }, { on := 3, ground := Ground.phase }, { on := 4, ground := Ground.phase }, { on := 5, ground := Ground.phase }], guard := none },
    { dst := some 4, op := Op.assign (Operand.const (Value.bool true)), type := t7, pos := q7, after := #[{ on := 6, ground := Ground.chain }, { on := 0, ground := Ground.phase }, { on := 1, ground := Ground.phase }, { on := 2, ground := Ground.phase }, { on := 3, ground := Ground.phase }, { on := 4, ground := Ground.phase }, { on := 5, ground := Ground.phase }, { on := 6, ground := Ground.phase }], guard := none }] true).wp Try.prog Q a0 w0 := by
  have hS : distS [some 17, some 18, some 19, some 20, some 21, none, some 3, some 4] = true := rfl
  refine wp_region_inv (by kernel_rfl) (JewF R base g n cap qf Lf Ef sf w0 a0) ⟨⟨rfl, rfl, rfl, fun _ _ => rfl, (Below.refl _ w0).drew, fun j d hj => ?_, fun j hj => ?_⟩, ⟨StW.start s0, s1⟩⟩ ?_ ?_
  · exfalso
    rw [Array.getD_eq_getD_getElem?, Array.getElem?_replicate] at hj
    split at hj <;> simp at hj
  · exfalso
    rw [Array.getD_eq_getD_getElem?, Array.getElem?_replicate] at hj
    split at hj <;> simp at hj
  · intro lq aq W iq oq ⟨hJ, hs⟩ hl ho hall
    have hJ2 := hJ
    obtain ⟨z1, z2, z3, z4, z5, z6, z7⟩ := hJ
    have g2 : aq.tmps.getD 2 undef = .pointer (some ⟨R, 0, none⟩) := by rw [Array.getD_eq_getD_getElem?, z4 2 (by decide), h2]; rfl
    have g5 : aq.tmps.getD 5 undef = .slice (some ⟨g, 0, none⟩) n cap := by rw [Array.getD_eq_getD_getElem?, z4 5 (by decide), h5]; rfl
    match iq, ho with
    | 0, ho =>
      cases ho
      refine wpOp_of rfl rfl ?_
      have hq := (hs.1.quiet 0 (by decide))
      have hK := fun (v : Value) (W2 : World) hW hT hv (hs : SewF R base g n cap qf Lf Ef sf (lq.setIfInBounds 0 true) (aq.put (some 17) v) W2) => show (JewF R base g n cap qf Lf Ef sf w0 a0) (lq.setIfInBounds 0 true) (aq.put (some 17) v) W2 from ⟨hJ2.put hS 0 17 rfl (by omega) (W' := W2) hW hT v hv, hs⟩
      clear ho hall hl hQ
      generalize (JewF R base g n cap qf Lf Ef sf w0 a0) (lq.setIfInBounds 0 true) = K at hK ⊢
      clear hJ2 hS z1 z2 z3 z4 z6 z7
      go_simp
      exact hK _ _ z5 (fun _ _ h => h) rfl (⟨hq, hs.2⟩)
    | 1, ho =>
      cases ho
      refine wpOp_of rfl rfl ?_
      have f0 : (aq.tmps.getD 17 undef) = .slice (some ⟨g, 0, none⟩) n cap := z6 0 17 (hall { on := 0, ground := Ground.data } (by simp) rfl) rfl
      have hq := (hs.1.quiet 1 (by decide))
      have hK := fun (v : Value) (W2 : World) hW hT hv (hs : SewF R base g n cap qf Lf Ef sf (lq.setIfInBounds 1 true) (aq.put (some 18) v) W2) => show (JewF R base g n cap qf Lf Ef sf w0 a0) (lq.setIfInBounds 1 true) (aq.put (some 18) v) W2 from ⟨hJ2.put hS 1 18 rfl (by omega) (W' := W2) hW hT v hv, hs⟩
      clear ho hall hl hQ
      generalize (JewF R base g n cap qf Lf Ef sf w0 a0) (lq.setIfInBounds 1 true) = K at hK ⊢
      clear hJ2 hS z1 z2 z3 z4 z6 z7
      go_simp
      exact hK _ _ z5 (fun _ _ h => h) rfl (⟨hq, hs.2⟩)
    | 2, ho =>
      cases ho
      refine wpOp_of rfl rfl ?_
      have f1 : (aq.tmps.getD 18 undef) = .pointer (some ⟨g, 0, none⟩) := z6 1 18 (hall { on := 1, ground := Ground.data } (by simp) rfl) rfl
      have hq := (hs.1.quiet 2 (by decide))
      obtain ⟨y0, y1, y2, y3, y4, y5, y6, y7, y8, y9, y10, y11, y12⟩ := hs.2.first hn0
      have hK := fun (v : Value) (W2 : World) hW hT hv (hs : SewF R base g n cap qf Lf Ef sf (lq.setIfInBounds 2 true) (aq.put (some 19) v) W2) => show (JewF R base g n cap qf Lf Ef sf w0 a0) (lq.setIfInBounds 2 true) (aq.put (some 19) v) W2 from ⟨hJ2.put hS 2 19 rfl (by omega) (W' := W2) hW hT v hv, hs⟩
      clear ho hall hl hQ
      generalize (JewF R base g n cap qf Lf Ef sf w0 a0) (lq.setIfInBounds 2 true) = K at hK ⊢
      clear hJ2 hS z1 z2 z3 z4 z6 z7
      go_simp
      exact hK _ _ z5 (fun _ _ h => h) rfl (⟨hq, hs.2⟩)
    | 3, ho =>
      cases ho
      refine wpOp_of rfl rfl ?_
      have hq := (hs.1.quiet 3 (by decide))
      have hK := fun (v : Value) (W2 : World) hW hT hv (hs : SewF R base g n cap qf Lf Ef sf (lq.setIfInBounds 3 true) (aq.put (some 20) v) W2) => show (JewF R base g n cap qf Lf Ef sf w0 a0) (lq.setIfInBounds 3 true) (aq.put (some 20) v) W2 from ⟨hJ2.put hS 3 20 rfl (by omega) (W' := W2) hW hT v hv, hs⟩
      clear ho hall hl hQ
      generalize (JewF R base g n cap qf Lf Ef sf w0 a0) (lq.setIfInBounds 3 true) = K at hK ⊢
      clear hJ2 hS z1 z2 z3 z4 z6 z7
      go_simp
      exact hK _ _ z5 (fun _ _ h => h) rfl (⟨hq, hs.2⟩)
    | 4, ho =>
      cases ho
      refine wpOp_of rfl rfl ?_
      have f3 : (aq.tmps.getD 20 undef) = .slice (some ⟨g, 0, none⟩) n cap := z6 3 20 (hall { on := 3, ground := Ground.data } (by simp) rfl) rfl
      have hq := (hs.1.quiet 4 (by decide))
      have hK := fun (v : Value) (W2 : World) hW hT hv (hs : SewF R base g n cap qf Lf Ef sf (lq.setIfInBounds 4 true) (aq.put (some 21) v) W2) => show (JewF R base g n cap qf Lf Ef sf w0 a0) (lq.setIfInBounds 4 true) (aq.put (some 21) v) W2 from ⟨hJ2.put hS 4 21 rfl (by omega) (W' := W2) hW hT v hv, hs⟩
      clear ho hall hl hQ
      generalize (JewF R base g n cap qf Lf Ef sf w0 a0) (lq.setIfInBounds 4 true) = K at hK ⊢
      clear hJ2 hS z1 z2 z3 z4 z6 z7
      go_simp
      by_cases e1 : cap = 1
      · rw [if_pos e1]
        exact hK _ _ z5 (fun _ _ h => h) ⟨0, rfl, .inl (by omega)⟩ ⟨hq, hs.2⟩
      · rw [if_neg e1]
        exact hK _ _ z5 (fun _ _ h => h) ⟨13, rfl, .inr rfl⟩ ⟨hq, hs.2⟩
    | 5, ho =>
      cases ho
      refine wpOp_of rfl rfl ?_
      have f2 : (aq.tmps.getD 19 undef) = .agg #[.int .u64 (ww3 (qf 0).1), .int .u64 (ww2 (qf 0).1), .int .u64 (ww1 (qf 0).1), .int .u64 (ww0 (qf 0).1), .int .u64 (ww3 (qf 0).2.1), .int .u64 (ww2 (qf 0).2.1), .int .u64 (ww1 (qf 0).2.1), .int .u64 (ww0 (qf 0).2.1), .int .u64 (ww3 (qf 0).2.2), .int .u64 (ww2 (qf 0).2.2), .int .u64 (ww1 (qf 0).2.2), .int .u64 (ww0 (qf 0).2.2), .slice (sOf (sf 0)).1 (Lf 0) (sOf (sf 0)).2] := z6 2 19 (hall { on := 2, ground := Ground.data } (by simp) rfl) rfl
      have xR := hs.1.1 (getD_tf hl)
      have rl := xR.lt
      have y0 := xR.c 0 rfl; have g0z := xR.f 0 rfl
      have y1 := xR.c 1 rfl; have g1z := xR.f 1 rfl
      have y2 := xR.c 2 rfl; have g2z := xR.f 2 rfl
      have y3 := xR.c 3 rfl; have g3z := xR.f 3 rfl
      have y4 := xR.c 4 rfl; have g4z := xR.f 4 rfl
      have y5 := xR.c 5 rfl; have g5z := xR.f 5 rfl
      have y6 := xR.c 6 rfl; have g6z := xR.f 6 rfl
      have y7 := xR.c 7 rfl; have g7z := xR.f 7 rfl
      have y8 := xR.c 8 rfl; have g8z := xR.f 8 rfl
      have y9 := xR.c 9 rfl; have g9z := xR.f 9 rfl
      have y10 := xR.c 10 rfl; have g10z := xR.f 10 rfl
      have y11 := xR.c 11 rfl; have g11z := xR.f 11 rfl
      have y12 := xR.c 12 rfl; have g12z := xR.f 12 rfl
      have NB : Blk (((((((((((((W.setCell ⟨R, 0, none⟩ (.int .u64 (ww3 (qf 0).1))).setCell ⟨R, 1, none⟩ (.int .u64 (ww2 (qf 0).1))).setCell ⟨R, 2, none⟩ (.int .u64 (ww1 (qf 0).1))).setCell ⟨R, 3, none⟩ (.int .u64 (ww0 (qf 0).1))).setCell ⟨R, 4, none⟩ (.int .u64 (ww3 (qf 0).2.1))).setCell ⟨R, 5, none⟩ (.int .u64 (ww2 (qf 0).2.1))).setCell ⟨R, 6, none⟩ (.int .u64 (ww1 (qf 0).2.1))).setCell ⟨R, 7, none⟩ (.int .u64 (ww0 (qf 0).2.1))).setCell ⟨R, 8, none⟩ (.int .u64 (ww3 (qf 0).2.2))).setCell ⟨R, 9, none⟩ (.int .u64 (ww2 (qf 0).2.2))).setCell ⟨R, 10, none⟩ (.int .u64 (ww1 (qf 0).2.2))).setCell ⟨R, 11, none⟩ (.int .u64 (ww0 (qf 0).2.2))).setCell ⟨R, 12, none⟩ (.slice (sOf (sf 0)).1 (Lf 0) (sOf (sf 0)).2)) R [.int .u64 (ww3 (qf 0).1), .int .u64 (ww2 (qf 0).1), .int .u64 (ww1 (qf 0).1), .int .u64 (ww0 (qf 0).1), .int .u64 (ww3 (qf 0).2.1), .int .u64 (ww2 (qf 0).2.1), .int .u64 (ww1 (qf 0).2.1), .int .u64 (ww0 (qf 0).2.1), .int .u64 (ww3 (qf 0).2.2), .int .u64 (ww2 (qf 0).2.2), .int .u64 (ww1 (qf 0).2.2), .int .u64 (ww0 (qf 0).2.2), .slice (sOf (sf 0)).1 (Lf 0) (sOf (sf 0)).2] := setAll_blk [.int .u64 (ww3 (qf 0).1), .int .u64 (ww2 (qf 0).1), .int .u64 (ww1 (qf 0).1), .int .u64 (ww0 (qf 0).1), .int .u64 (ww3 (qf 0).2.1), .int .u64 (ww2 (qf 0).2.1), .int .u64 (ww1 (qf 0).2.1), .int .u64 (ww0 (qf 0).2.1), .int .u64 (ww3 (qf 0).2.2), .int .u64 (ww2 (qf 0).2.2), .int .u64 (ww1 (qf 0).2.2), .int .u64 (ww0 (qf 0).2.2), .slice (sOf (sf 0)).1 (Lf 0) (sOf (sf 0)).2] 0 xR (by simp)
      have NL : Below R w0 (((((((((((((W.setCell ⟨R, 0, none⟩ (.int .u64 (ww3 (qf 0).1))).setCell ⟨R, 1, none⟩ (.int .u64 (ww2 (qf 0).1))).setCell ⟨R, 2, none⟩ (.int .u64 (ww1 (qf 0).1))).setCell ⟨R, 3, none⟩ (.int .u64 (ww0 (qf 0).1))).setCell ⟨R, 4, none⟩ (.int .u64 (ww3 (qf 0).2.1))).setCell ⟨R, 5, none⟩ (.int .u64 (ww2 (qf 0).2.1))).setCell ⟨R, 6, none⟩ (.int .u64 (ww1 (qf 0).2.1))).setCell ⟨R, 7, none⟩ (.int .u64 (ww0 (qf 0).2.1))).setCell ⟨R, 8, none⟩ (.int .u64 (ww3 (qf 0).2.2))).setCell ⟨R, 9, none⟩ (.int .u64 (ww2 (qf 0).2.2))).setCell ⟨R, 10, none⟩ (.int .u64 (ww1 (qf 0).2.2))).setCell ⟨R, 11, none⟩ (.int .u64 (ww0 (qf 0).2.2))).setCell ⟨R, 12, none⟩ (.slice (sOf (sf 0)).1 (Lf 0) (sOf (sf 0)).2)) := setAll_below (Nat.le_refl R) [.int .u64 (ww3 (qf 0).1), .int .u64 (ww2 (qf 0).1), .int .u64 (ww1 (qf 0).1), .int .u64 (ww0 (qf 0).1), .int .u64 (ww3 (qf 0).2.1), .int .u64 (ww2 (qf 0).2.1), .int .u64 (ww1 (qf 0).2.1), .int .u64 (ww0 (qf 0).2.1), .int .u64 (ww3 (qf 0).2.2), .int .u64 (ww2 (qf 0).2.2), .int .u64 (ww1 (qf 0).2.2), .int .u64 (ww0 (qf 0).2.2), .slice (sOf (sf 0)).1 (Lf 0) (sOf (sf 0)).2] 0 z5
      have NE : EvOwn (((((((((((((W.setCell ⟨R, 0, none⟩ (.int .u64 (ww3 (qf 0).1))).setCell ⟨R, 1, none⟩ (.int .u64 (ww2 (qf 0).1))).setCell ⟨R, 2, none⟩ (.int .u64 (ww1 (qf 0).1))).setCell ⟨R, 3, none⟩ (.int .u64 (ww0 (qf 0).1))).setCell ⟨R, 4, none⟩ (.int .u64 (ww3 (qf 0).2.1))).setCell ⟨R, 5, none⟩ (.int .u64 (ww2 (qf 0).2.1))).setCell ⟨R, 6, none⟩ (.int .u64 (ww1 (qf 0).2.1))).setCell ⟨R, 7, none⟩ (.int .u64 (ww0 (qf 0).2.1))).setCell ⟨R, 8, none⟩ (.int .u64 (ww3 (qf 0).2.2))).setCell ⟨R, 9, none⟩ (.int .u64 (ww2 (qf 0).2.2))).setCell ⟨R, 10, none⟩ (.int .u64 (ww1 (qf 0).2.2))).setCell ⟨R, 11, none⟩ (.int .u64 (ww0 (qf 0).2.2))).setCell ⟨R, 12, none⟩ (.slice (sOf (sf 0)).1 (Lf 0) (sOf (sf 0)).2)) base (.slice (some ⟨g, 0, none⟩) n cap) n (wq qf) sf Lf Ef := hs.2.heap (fun k hk => setAll_heap (by omega) [.int .u64 (ww3 (qf 0).1), .int .u64 (ww2 (qf 0).1), .int .u64 (ww1 (qf 0).1), .int .u64 (ww0 (qf 0).1), .int .u64 (ww3 (qf 0).2.1), .int .u64 (ww2 (qf 0).2.1), .int .u64 (ww1 (qf 0).2.1), .int .u64 (ww0 (qf 0).2.1), .int .u64 (ww3 (qf 0).2.2), .int .u64 (ww2 (qf 0).2.2), .int .u64 (ww1 (qf 0).2.2), .int .u64 (ww0 (qf 0).2.2), .slice (sOf (sf 0)).1 (Lf 0) (sOf (sf 0)).2] 0)
      have hq := StW.stored (iz := 5) (A := R) (os := [.int .u64 0, .int .u64 0, .int .u64 0, .int .u64 0, .int .u64 0, .int .u64 0, .int .u64 0, .int .u64 0, .int .u64 0, .int .u64 0, .int .u64 0, .int .u64 0, .slice none 0 0]) (ns := [.int .u64 (ww3 (qf 0).1), .int .u64 (ww2 (qf 0).1), .int .u64 (ww1 (qf 0).1), .int .u64 (ww0 (qf 0).1), .int .u64 (ww3 (qf 0).2.1), .int .u64 (ww2 (qf 0).2.1), .int .u64 (ww1 (qf 0).2.1), .int .u64 (ww0 (qf 0).2.1), .int .u64 (ww3 (qf 0).2.2), .int .u64 (ww2 (qf 0).2.2), .int .u64 (ww1 (qf 0).2.2), .int .u64 (ww0 (qf 0).2.2), .slice (sOf (sf 0)).1 (Lf 0) (sOf (sf 0)).2]) hl NB
      clear xR NB
      have hK := fun (W2 : World) hW hT hv (hs : SewF R base g n cap qf Lf Ef sf (lq.setIfInBounds 5 true) aq W2) => show (JewF R base g n cap qf Lf Ef sf w0 a0) (lq.setIfInBounds 5 true) aq W2 from ⟨hJ2.world 5 rfl (W' := W2) hW hT hv, hs⟩
      clear ho hall hl hQ
      generalize (JewF R base g n cap qf Lf Ef sf w0 a0) (lq.setIfInBounds 5 true) = K at hK ⊢
      clear hJ2 hS z1 z2 z3 z4 z6 z7
      clear hs
      go_simp
      exact hK _ NL (fun _ _ h => h.same) trivial ⟨hq, NE⟩
    | 6, ho =>
      cases ho
      refine wpOp_of rfl rfl ?_
      have f4 : ∃ ad, (aq.tmps.getD 21 undef) = .slice (some ⟨g, ad, none⟩) (n - 1) (cap - 1) ∧ (n = 1 ∨ ad = 13) := z6 4 21 (hall { on := 4, ground := Ground.data } (by simp) rfl) rfl
      obtain ⟨ad, f4, had⟩ := f4
      have hq := (hs.1.quiet 6 (by decide))
      have hK := fun (v : Value) (W2 : World) hW hT hv (hs : SewF R base g n cap qf Lf Ef sf (lq.setIfInBounds 6 true) (aq.put (some 3) v) W2) => show (JewF R base g n cap qf Lf Ef sf w0 a0) (lq.setIfInBounds 6 true) (aq.put (some 3) v) W2 from ⟨hJ2.put hS 6 3 rfl (by omega) (W' := W2) hW hT v hv, hs⟩
      clear ho hall hl hQ
      generalize (JewF R base g n cap qf Lf Ef sf w0 a0) (lq.setIfInBounds 6 true) = K at hK ⊢
      clear hJ2 hS z1 z2 z3 z4 z6 z7
      go_simp
      exact hK _ _ z5 (fun _ _ h => h) ⟨ad, rfl, had⟩ (⟨hq, hs.2⟩)
    | 7, ho =>
      cases ho
      refine wpOp_of rfl rfl ?_
      have hq := (hs.1.quiet 7 (by decide))
      have hK := fun (v : Value) (W2 : World) hW hT hv (hs : SewF R base g n cap qf Lf Ef sf (lq.setIfInBounds 7 true) (aq.put (some 4) v) W2) => show (JewF R base g n cap qf Lf Ef sf w0 a0) (lq.setIfInBounds 7 true) (aq.put (some 4) v) W2 from ⟨hJ2.put hS 7 4 rfl (by omega) (W' := W2) hW hT v hv, hs⟩
      clear ho hall hl hQ
      generalize (JewF R base g n cap qf Lf Ef sf w0 a0) (lq.setIfInBounds 7 true) = K at hK ⊢
      clear hJ2 hS z1 z2 z3 z4 z6 z7
      go_simp
      exact hK _ _ z5 (fun _ _ h => h) rfl (⟨hq, hs.2⟩)
    | iq + 8, ho => simp at ho
  · intro lq aq W ⟨hJ, hs⟩ hr
    obtain ⟨z1, z2, z3, z4, z5, z6, z7⟩ := hJ
    have hl := listed_of hr [0, 1, 2, 5, 3, 4, 6, 7] [] (by simp) (by kernel_rfl) (by rw [z1]; decide)
    exact hQ aq W z2 z3 (fun e he => z4 e (by simpa using he)) (z7 5 (hl 5 (by simp)) rfl) (z6 6 3 (hl 6 (by simp)) rfl) (z6 7 4 (hl 7 (by simp)) rfl) z5 (⟨hs.1.2 (hl 5 (by simp)), hs.2⟩)
/-- What is told: the point, how many numbers, how many events are left. -/
def tkP (b : Bool) (q : Nat → Int × Int × Int) : Int × Int × Int := if b = true then q 0 else (0, 0, 0)
def tkM (b : Bool) (L : Nat → Nat) : Nat := if b = true then L 0 else 0
def tkN (b : Bool) (n : Nat) : Nat := if b = true then n - 1 else 0
def tkB (n : Nat) (q : Nat → Int × Int × Int) (L : Nat → Nat) (E : Nat → Nat → Int) : Bool := evB n q L E && decide (0 < n)
theorem evB_pos {n : Nat} {q : Nat → Int × Int × Int} {L : Nat → Nat} {E : Nat → Nat → Int} (h : evB n q L E = true) : n ≤ 200 ∧ ∀ i, i < n → 0 < L i := by
  have h1 := of_decide_eq_true h
  exact ⟨h1.1, fun i hi => by have h2 := of_decide_eq_true (h1.2 i hi).1; exact h2.2.1⟩
set_option maxRecDepth 100000 in
set_option maxHeartbeats 8000000 in
theorem specTake_any (ao : Option Addr) (n cap : Nat) (q : Nat → Int × Int × Int) (S : Nat → Option Addr × Nat) (L : Nat → Nat) (E : Nat → Nat → Int) (w : World) (hS : EvIn w ao n q S L E) (hn : n ≤ 1048576) (hT : ∀ i, i < n → told (q i).1 = true ∧ told (q i).2.1 = true ∧ told (q i).2.2 = true) (hL : ∀ i, i < n → L i ≤ 1048576) : Calls Try.prog 18 #[.slice ao n cap] w (fun r w' => ∃ b so sc vo vc S', b = tkB n q L E ∧ r = .returned (.tuple #[.agg #[.int .u64 (ww3 (tkP b q).1), .int .u64 (ww2 (tkP b q).1), .int .u64 (ww1 (tkP b q).1), .int .u64 (ww0 (tkP b q).1), .int .u64 (ww3 (tkP b q).2.1), .int .u64 (ww2 (tkP b q).2.1), .int .u64 (ww1 (tkP b q).2.1), .int .u64 (ww0 (tkP b q).2.1), .int .u64 (ww3 (tkP b q).2.2), .int .u64 (ww2 (tkP b q).2.2), .int .u64 (ww1 (tkP b q).2.2), .int .u64 (ww0 (tkP b q).2.2), .slice so (tkM b L) sc], .slice vo (tkN b n) vc, .bool b]) ∧ NoIn w' so (tkM b L) (E 0) ∧ EvIn w' vo (tkN b n) (fun i => q (i + 1)) S' (fun i => L (i + 1)) (fun i => E (i + 1)) ∧ Below w.heap.size w w') := by
  have B0 : Blk (w.alloc (.cells #[.int .u64 0, .int .u64 0, .int .u64 0, .int .u64 0, .int .u64 0, .int .u64 0, .int .u64 0, .int .u64 0, .int .u64 0, .int .u64 0, .int .u64 0, .int .u64 0, .slice none 0 0] 44)) w.heap.size [.int .u64 0, .int .u64 0, .int .u64 0, .int .u64 0, .int .u64 0, .int .u64 0, .int .u64 0, .int .u64 0, .int .u64 0, .int .u64 0, .int .u64 0, .int .u64 0, .slice none 0 0] := Blk.new w [.int .u64 0, .int .u64 0, .int .u64 0, .int .u64 0, .int .u64 0, .int .u64 0, .int .u64 0, .int .u64 0, .int .u64 0, .int .u64 0, .int .u64 0, .int .u64 0, .slice none 0 0] 44 rfl
  have HB : Below w.heap.size w (w.alloc (.cells #[.int .u64 0, .int .u64 0, .int .u64 0, .int .u64 0, .int .u64 0, .int .u64 0, .int .u64 0, .int .u64 0, .int .u64 0, .int .u64 0, .int .u64 0, .int .u64 0, .slice none 0 0] 44)) := (Below.refl _ w).alloc (Nat.le_refl _) _
  have hsz : (w.alloc (.cells #[.int .u64 0, .int .u64 0, .int .u64 0, .int .u64 0, .int .u64 0, .int .u64 0, .int .u64 0, .int .u64 0, .int .u64 0, .int .u64 0, .int .u64 0, .int .u64 0, .slice none 0 0] 44)).heap.size = w.heap.size + 1 := by simp
  have hS1 := hS.step HB
  have CE := specEventsOk_any ao n cap q S L E (w.alloc (.cells #[.int .u64 0, .int .u64 0, .int .u64 0, .int .u64 0, .int .u64 0, .int .u64 0, .int .u64 0, .int .u64 0, .int .u64 0, .int .u64 0, .int .u64 0, .int .u64 0, .slice none 0 0] 44)) hS1 hT hL
  have hnI : (n : Int) ≤ 1048576 := by omega
  generalize hb : evB n q L E = b at CE
  by_cases hok : b = true ∧ 0 < n
  · obtain ⟨rfl, hn0⟩ := hok
    have hTK : tkB n q L E = true := by unfold tkB; rw [hb]; simpa using hn0
    obtain ⟨hn2, hL0⟩ := evB_pos hb
    have LC := fun w h => l7Copy_any ao n cap q S L E hn (fun i hi => ⟨hL0 i hi, hL i hi⟩) w h
    have hn0I : (0 : Int) < n := by omega
    clear hS hT hL
    go_enter Try.func18, Try.ntmps18
    go_wp2_with fail
    refine CE.mono ?_
    rintro r w1 ⟨rfl, hB1⟩
    replace hS1 := hS1.step hB1
    replace B0 := B0.step hB1
    replace HB := HB.trans (hB1.mono HB.size)
    have wl1 : w.heap.size + 1 ≤ w1.heap.size := by have := hB1.size; omega
    clear CE hB1 hsz
    go_wp2_with fail
    refine (LC _ hS1).mono ?_
    rintro r w2 ⟨v, s, rfl, HO, hB2⟩
    replace B0 := B0.step hB2
    replace HB := HB.trans (hB2.mono HB.size)
    obtain ⟨g, cp, rfl, hg, _, hcp, _⟩ := ownN_form HO.own hn0
    clear LC hS1
    go_upto_region 4 with fail
    refine ewF (R := w.heap.size) (base := w1.heap.size) (g := g) (n := n) (cap := cp) (qf := q) (Lf := L) (Ef := E) (sf := s) hn0 hnI hcp (by omega) (by omega) B0.drew ⟨HO.own, HO.ins, HO.d1, HO.d2⟩ rfl rfl rfl ?_
    rintro ⟨tm, df⟩ Wz hz hdf hoff _ h3 h4 hBz ⟨BR, HE⟩
    obtain ⟨ad, h3, had⟩ := h3
    simp only at hz hdf hoff
    change tm.getD 3 undef = .slice (some ⟨g, ad, none⟩) (n - 1) (cp - 1) at h3
    change tm.getD 4 undef = .bool true at h4
    subst hdf
    have htm := tmps_fold [17, 18, 19, 20, 21, 3, 4] tm _ hz hoff
    simp only [List.foldl, List.setIfInBounds_toArray, List.set_cons_zero, List.set_cons_succ, h3, h4] at htm
    clear hz hoff
    generalize tm.getD 17 undef = u0, tm.getD 18 undef = u1, tm.getD 19 undef = u2, tm.getD 20 undef = u3, tm.getD 21 undef = u4 at htm
    clear h3 h4
    subst htm
    have HBF := HB.trans hBz
    obtain ⟨vo, vc, e, hI⟩ := HE.row.in
    cases e
    obtain ⟨so, sc, hs0, hN⟩ := (HE.row.in_no hn0)
    have hs1 : (sOf (s 0)).1 = so ∧ (sOf (s 0)).2 = sc := by rw [hs0]; exact ⟨rfl, rfl⟩
    rw [hs1.1, hs1.2] at BR
    have m0 := BR.c 0 rfl; have m1 := BR.c 1 rfl; have m2 := BR.c 2 rfl; have m3 := BR.c 3 rfl; have m4 := BR.c 4 rfl; have m5 := BR.c 5 rfl; have m6 := BR.c 6 rfl; have m7 := BR.c 7 rfl; have m8 := BR.c 8 rfl; have m9 := BR.c 9 rfl; have m10 := BR.c 10 rfl; have m11 := BR.c 11 rfl; have m12 := BR.c 12 rfl
    clear B0 HB hBz BR HO hB2
    go_wp2
    refine bodyPost_ret (v := .tuple #[.agg #[.int .u64 (ww3 (q 0).1), .int .u64 (ww2 (q 0).1), .int .u64 (ww1 (q 0).1), .int .u64 (ww0 (q 0).1), .int .u64 (ww3 (q 0).2.1), .int .u64 (ww2 (q 0).2.1), .int .u64 (ww1 (q 0).2.1), .int .u64 (ww0 (q 0).2.1), .int .u64 (ww3 (q 0).2.2), .int .u64 (ww2 (q 0).2.2), .int .u64 (ww1 (q 0).2.2), .int .u64 (ww0 (q 0).2.2), .slice so (L 0) sc], .slice (some ⟨g, ad, none⟩) (n - 1) (cp - 1), .bool true]) (by simp [results, Try.results18, go_sem, m0, m1, m2, m3, m4, m5, m6, m7, m8, m9, m10, m11, m12]) rfl ?_
    refine ⟨true, so, sc, some ⟨g, ad, none⟩, cp - 1, fun i => sOf (s (i + 1)), hTK.symm, rfl, hN, ?_, HBF⟩
    rcases had with had | had
    · subst had; exact fun i hi => absurd hi (by show ¬ i < 1 - 1; omega)
    · subst had; exact hI.tail
  · have hTK : tkB n q L E = false := by
      unfold tkB
      rw [hb]
      cases b with
      | false => rfl
      | true => simp at hok ⊢; omega
    have hE : ¬ (b = true ∧ 0 < n) := hok
    clear hS hT hL
    go_enter Try.func18, Try.ntmps18
    go_wp2_with fail
    refine CE.mono ?_
    rintro r w1 ⟨rfl, hB1⟩
    replace B0 := B0.step hB1
    replace HB := HB.trans (hB1.mono HB.size)
    have rl := B0.lt
    have y0 := B0.c 0 rfl; have g0z := B0.f 0 rfl; have y1 := B0.c 1 rfl; have g1z := B0.f 1 rfl; have y2 := B0.c 2 rfl; have g2z := B0.f 2 rfl; have y3 := B0.c 3 rfl; have g3z := B0.f 3 rfl; have y4 := B0.c 4 rfl; have g4z := B0.f 4 rfl; have y5 := B0.c 5 rfl; have g5z := B0.f 5 rfl; have y6 := B0.c 6 rfl; have g6z := B0.f 6 rfl; have y7 := B0.c 7 rfl; have g7z := B0.f 7 rfl; have y8 := B0.c 8 rfl; have g8z := B0.f 8 rfl; have y9 := B0.c 9 rfl; have g9z := B0.f 9 rfl; have y10 := B0.c 10 rfl; have g10z := B0.f 10 rfl; have y11 := B0.c 11 rfl; have g11z := B0.f 11 rfl; have y12 := B0.c 12 rfl; have g12z := B0.f 12 rfl
    have NB : Blk (((((((((((((w1.setCell ⟨w.heap.size, 0, none⟩ (.int .u64 0)).setCell ⟨w.heap.size, 1, none⟩ (.int .u64 0)).setCell ⟨w.heap.size, 2, none⟩ (.int .u64 0)).setCell ⟨w.heap.size, 3, none⟩ (.int .u64 0)).setCell ⟨w.heap.size, 4, none⟩ (.int .u64 0)).setCell ⟨w.heap.size, 5, none⟩ (.int .u64 0)).setCell ⟨w.heap.size, 6, none⟩ (.int .u64 0)).setCell ⟨w.heap.size, 7, none⟩ (.int .u64 0)).setCell ⟨w.heap.size, 8, none⟩ (.int .u64 0)).setCell ⟨w.heap.size, 9, none⟩ (.int .u64 0)).setCell ⟨w.heap.size, 10, none⟩ (.int .u64 0)).setCell ⟨w.heap.size, 11, none⟩ (.int .u64 0)).setCell ⟨w.heap.size, 12, none⟩ (.slice none 0 0)) w.heap.size [.int .u64 0, .int .u64 0, .int .u64 0, .int .u64 0, .int .u64 0, .int .u64 0, .int .u64 0, .int .u64 0, .int .u64 0, .int .u64 0, .int .u64 0, .int .u64 0, .slice none 0 0] := setAll_blk [.int .u64 0, .int .u64 0, .int .u64 0, .int .u64 0, .int .u64 0, .int .u64 0, .int .u64 0, .int .u64 0, .int .u64 0, .int .u64 0, .int .u64 0, .int .u64 0, .slice none 0 0] 0 B0 (by simp)
    have NL : Below w.heap.size w (((((((((((((w1.setCell ⟨w.heap.size, 0, none⟩ (.int .u64 0)).setCell ⟨w.heap.size, 1, none⟩ (.int .u64 0)).setCell ⟨w.heap.size, 2, none⟩ (.int .u64 0)).setCell ⟨w.heap.size, 3, none⟩ (.int .u64 0)).setCell ⟨w.heap.size, 4, none⟩ (.int .u64 0)).setCell ⟨w.heap.size, 5, none⟩ (.int .u64 0)).setCell ⟨w.heap.size, 6, none⟩ (.int .u64 0)).setCell ⟨w.heap.size, 7, none⟩ (.int .u64 0)).setCell ⟨w.heap.size, 8, none⟩ (.int .u64 0)).setCell ⟨w.heap.size, 9, none⟩ (.int .u64 0)).setCell ⟨w.heap.size, 10, none⟩ (.int .u64 0)).setCell ⟨w.heap.size, 11, none⟩ (.int .u64 0)).setCell ⟨w.heap.size, 12, none⟩ (.slice none 0 0)) := setAll_below (Nat.le_refl _) [.int .u64 0, .int .u64 0, .int .u64 0, .int .u64 0, .int .u64 0, .int .u64 0, .int .u64 0, .int .u64 0, .int .u64 0, .int .u64 0, .int .u64 0, .int .u64 0, .slice none 0 0] 0 HB
    clear CE hB1 hsz hS1 B0 HB
    have hb2 : b = false ∨ n = 0 := by cases b with | false => exact .inl rfl | true => exact .inr (by simp at hE; omega)
    clear hE hok hb
    rcases hb2 with rfl | rfl
    · go_wp2
      generalize (((((((((((((w1.setCell ⟨w.heap.size, 0, none⟩ (.int .u64 0)).setCell ⟨w.heap.size, 1, none⟩ (.int .u64 0)).setCell ⟨w.heap.size, 2, none⟩ (.int .u64 0)).setCell ⟨w.heap.size, 3, none⟩ (.int .u64 0)).setCell ⟨w.heap.size, 4, none⟩ (.int .u64 0)).setCell ⟨w.heap.size, 5, none⟩ (.int .u64 0)).setCell ⟨w.heap.size, 6, none⟩ (.int .u64 0)).setCell ⟨w.heap.size, 7, none⟩ (.int .u64 0)).setCell ⟨w.heap.size, 8, none⟩ (.int .u64 0)).setCell ⟨w.heap.size, 9, none⟩ (.int .u64 0)).setCell ⟨w.heap.size, 10, none⟩ (.int .u64 0)).setCell ⟨w.heap.size, 11, none⟩ (.int .u64 0)).setCell ⟨w.heap.size, 12, none⟩ (.slice none 0 0)) = W2 at NB NL ⊢
      clear y0 g0z y1 g1z y2 g2z y3 g3z y4 g4z y5 g5z y6 g6z y7 g7z y8 g8z y9 g9z y10 g10z y11 g11z y12 g12z
      have m0 := NB.c 0 rfl; have m1 := NB.c 1 rfl; have m2 := NB.c 2 rfl; have m3 := NB.c 3 rfl; have m4 := NB.c 4 rfl; have m5 := NB.c 5 rfl; have m6 := NB.c 6 rfl; have m7 := NB.c 7 rfl; have m8 := NB.c 8 rfl; have m9 := NB.c 9 rfl; have m10 := NB.c 10 rfl; have m11 := NB.c 11 rfl; have m12 := NB.c 12 rfl
      refine bodyPost_ret (v := .tuple #[.agg #[.int .u64 0, .int .u64 0, .int .u64 0, .int .u64 0, .int .u64 0, .int .u64 0, .int .u64 0, .int .u64 0, .int .u64 0, .int .u64 0, .int .u64 0, .int .u64 0, .slice none 0 0], .slice none 0 0, .bool false]) (by simp [results, Try.results18, go_sem, m0, m1, m2, m3, m4, m5, m6, m7, m8, m9, m10, m11, m12]) rfl ?_
      exact ⟨false, none, 0, none, 0, fun _ => (none, 0), hTK.symm, rfl, fun i hi => absurd hi (by show ¬ i < 0; omega), fun i hi => absurd hi (by show ¬ i < 0; omega), NL⟩
    · cases b
      · go_wp2
        generalize (((((((((((((w1.setCell ⟨w.heap.size, 0, none⟩ (.int .u64 0)).setCell ⟨w.heap.size, 1, none⟩ (.int .u64 0)).setCell ⟨w.heap.size, 2, none⟩ (.int .u64 0)).setCell ⟨w.heap.size, 3, none⟩ (.int .u64 0)).setCell ⟨w.heap.size, 4, none⟩ (.int .u64 0)).setCell ⟨w.heap.size, 5, none⟩ (.int .u64 0)).setCell ⟨w.heap.size, 6, none⟩ (.int .u64 0)).setCell ⟨w.heap.size, 7, none⟩ (.int .u64 0)).setCell ⟨w.heap.size, 8, none⟩ (.int .u64 0)).setCell ⟨w.heap.size, 9, none⟩ (.int .u64 0)).setCell ⟨w.heap.size, 10, none⟩ (.int .u64 0)).setCell ⟨w.heap.size, 11, none⟩ (.int .u64 0)).setCell ⟨w.heap.size, 12, none⟩ (.slice none 0 0)) = W2 at NB NL ⊢
        clear y0 g0z y1 g1z y2 g2z y3 g3z y4 g4z y5 g5z y6 g6z y7 g7z y8 g8z y9 g9z y10 g10z y11 g11z y12 g12z
        have m0 := NB.c 0 rfl; have m1 := NB.c 1 rfl; have m2 := NB.c 2 rfl; have m3 := NB.c 3 rfl; have m4 := NB.c 4 rfl; have m5 := NB.c 5 rfl; have m6 := NB.c 6 rfl; have m7 := NB.c 7 rfl; have m8 := NB.c 8 rfl; have m9 := NB.c 9 rfl; have m10 := NB.c 10 rfl; have m11 := NB.c 11 rfl; have m12 := NB.c 12 rfl
        refine bodyPost_ret (v := .tuple #[.agg #[.int .u64 0, .int .u64 0, .int .u64 0, .int .u64 0, .int .u64 0, .int .u64 0, .int .u64 0, .int .u64 0, .int .u64 0, .int .u64 0, .int .u64 0, .int .u64 0, .slice none 0 0], .slice none 0 0, .bool false]) (by simp [results, Try.results18, go_sem, m0, m1, m2, m3, m4, m5, m6, m7, m8, m9, m10, m11, m12]) rfl ?_
        exact ⟨false, none, 0, none, 0, fun _ => (none, 0), hTK.symm, rfl, fun i hi => absurd hi (by show ¬ i < 0; omega), fun i hi => absurd hi (by show ¬ i < 0; omega), NL⟩
      · go_wp2
        generalize (((((((((((((w1.setCell ⟨w.heap.size, 0, none⟩ (.int .u64 0)).setCell ⟨w.heap.size, 1, none⟩ (.int .u64 0)).setCell ⟨w.heap.size, 2, none⟩ (.int .u64 0)).setCell ⟨w.heap.size, 3, none⟩ (.int .u64 0)).setCell ⟨w.heap.size, 4, none⟩ (.int .u64 0)).setCell ⟨w.heap.size, 5, none⟩ (.int .u64 0)).setCell ⟨w.heap.size, 6, none⟩ (.int .u64 0)).setCell ⟨w.heap.size, 7, none⟩ (.int .u64 0)).setCell ⟨w.heap.size, 8, none⟩ (.int .u64 0)).setCell ⟨w.heap.size, 9, none⟩ (.int .u64 0)).setCell ⟨w.heap.size, 10, none⟩ (.int .u64 0)).setCell ⟨w.heap.size, 11, none⟩ (.int .u64 0)).setCell ⟨w.heap.size, 12, none⟩ (.slice none 0 0)) = W2 at NB NL ⊢
        clear y0 g0z y1 g1z y2 g2z y3 g3z y4 g4z y5 g5z y6 g6z y7 g7z y8 g8z y9 g9z y10 g10z y11 g11z y12 g12z
        have m0 := NB.c 0 rfl; have m1 := NB.c 1 rfl; have m2 := NB.c 2 rfl; have m3 := NB.c 3 rfl; have m4 := NB.c 4 rfl; have m5 := NB.c 5 rfl; have m6 := NB.c 6 rfl; have m7 := NB.c 7 rfl; have m8 := NB.c 8 rfl; have m9 := NB.c 9 rfl; have m10 := NB.c 10 rfl; have m11 := NB.c 11 rfl; have m12 := NB.c 12 rfl
        refine bodyPost_ret (v := .tuple #[.agg #[.int .u64 0, .int .u64 0, .int .u64 0, .int .u64 0, .int .u64 0, .int .u64 0, .int .u64 0, .int .u64 0, .int .u64 0, .int .u64 0, .int .u64 0, .int .u64 0, .slice none 0 0], .slice none 0 0, .bool false]) (by simp [results, Try.results18, go_sem, m0, m1, m2, m3, m4, m5, m6, m7, m8, m9, m10, m11, m12]) rfl ?_
        exact ⟨false, none, 0, none, 0, fun _ => (none, 0), hTK.symm, rfl, fun i hi => absurd hi (by show ¬ i < 0; omega), fun i hi => absurd hi (by show ¬ i < 0; omega), NL⟩
end Go.Proofs.Ytpmnmlhfaoajdaa
