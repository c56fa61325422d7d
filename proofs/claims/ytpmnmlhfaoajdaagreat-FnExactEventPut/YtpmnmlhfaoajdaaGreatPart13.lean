/- Part 13 of the walks that the proof leans on. -/
import Derived.Test.YtpmnmlhfaoajdaaGreatPart12
import Derived.Test.YtpmnmlhfaoajdaaGreatPart6
import Derived.Test.YtpmnmlhfaoajdaaGreatPart3
import Derived.Test.YtpmnmlhfaoajdaaGreatPart7
import Derived.Test.YtpmnmlhfaoajdaaGreatPart5
import Derived.Deep.RegionHeld3
import Derived.Deep.RegionWith
set_option maxRecDepth 100000
set_option maxHeartbeats 16000000
namespace Go.Proofs.YtpmnmlhfaoajdaaGreat
open Go.RowKit
theorem wp_append_at {P : Program} {o : Oper} {a : Act} {w : World} {K : Act → World → Prop} {Q : Exit → Act → World → Prop} (s x : Operand) (t : TypeId)
   (ho : o.op = .call { callee := .builtin .append, args := #[s, x], argTypes := #[t, t] })
   (base : Nat) (e : TypeId) (i : TypeInfo) (z : Value) (size bytes : Nat) (ht : P.underlying t = some (.slice e)) (hi : P.info? e = some i) (hz : i.zero = some z)
   (hsize : i.size = size) (hby : i.bytes = bytes) (hzs : z.cells.size = size) (hsz : 0 < size)
   (v : Value) (n : Nat) (xs : List Value) (hs : a.eval s = v) (hown : w.ownsRow base e size v n xs)
   (ad : Addr) (m c : Nat) (news : List Value) (hx : a.eval x = .slice (some ad) m c) (hl : news.length = m * size) (hnews : ∀ j u, news[j]? = some u → w.cell? (ad.add j) = some u) (h1 : ∀ u ∈ news, u.oneCell' = true)
   (h63 : n + m ≤ maxLen) (hbytes : (n + m) * bytes ≤ 140737488355328) (hbase : base ≤ w.heap.size)
   (h : ∀ v' w', w'.ownsRow base e size v' (n + m) (xs ++ news) → w.grownBy w' v.ownBlock → (v'.ownBlock = v.ownBlock ∨ v'.ownBlock = some w.heap.size) → K (a.put o.dst v') w') : o.wp P a w K Q := by
 obtain ⟨v', w', hr, h2, h3, _, h5⟩ := run_append_own_at (P := P) w base t o.type e i z size bytes ht hi hz hsize hby hzs hsz v n xs hown ad m c news hl hnews h1 h63 hbytes hbase
 unfold Oper.wp execOp
 simp only [ho, resolve, invoke, builtin, Sem.run_bind, Sem.run_pure, Result.andThen_ok, List.map_toArray, List.map_cons, List.map_nil, hs, hx, hr]
 exact h v' w' h2 h3 h5
structure CpS (B4 base c : Nat) (o : Value) (qf : Nat → Int × Int × Int) (Lf : Nat → Nat) (Ef : Nat → Nat → Int) (sf : Nat → Value) (b6 b12 b13 b14 b15 b16 : Bool) (v3 v18 v24 v25 v26 v27 : Value) (W : World) : Prop where
 o1 : b13 = true → b12 = true
 o2 : b14 = true → b13 = true
 o3 : b15 = true → b14 = true
 k3 : b16 = false → v3 = o
 ev : b15 = false → EvOwn W base o c (wq qf) sf Lf Ef
 k18 : b12 = false → b6 = true → ∃ g, v18 = .slice (some ⟨g, 0, none⟩) 0 0 ∧ W.ownsRow B4 2 1 (.slice (some ⟨g, 0, none⟩) 0 0) 0 []
 k24 : b12 = true → b15 = false → ∃ gs cs, v24 = (.slice (some ⟨gs, 0, none⟩) (Lf c) cs) ∧ W.ownsRow B4 2 1 (.slice (some ⟨gs, 0, none⟩) (Lf c) cs) (Lf c) (noL (Lf c) (Ef c))
 k25 : b13 = true → b15 = false → ∃ gs cs, v25 = .agg #[.int .u64 (ww3 (qf c).1), .int .u64 (ww2 (qf c).1), .int .u64 (ww1 (qf c).1), .int .u64 (ww0 (qf c).1), .int .u64 (ww3 (qf c).2.1), .int .u64 (ww2 (qf c).2.1), .int .u64 (ww1 (qf c).2.1), .int .u64 (ww0 (qf c).2.1), .int .u64 (ww3 (qf c).2.2), .int .u64 (ww2 (qf c).2.2), .int .u64 (ww1 (qf c).2.2), .int .u64 (ww0 (qf c).2.2), (.slice (some ⟨gs, 0, none⟩) (Lf c) cs)] ∧ W.ownsRow B4 2 1 (.slice (some ⟨gs, 0, none⟩) (Lf c) cs) (Lf c) (noL (Lf c) (Ef c))
 k26 : b14 = true → b15 = false → ∃ g gs cs, v26 = .slice (some ⟨g, 0, none⟩) 1 1 ∧ Blk W g [.int .u64 (ww3 (qf c).1), .int .u64 (ww2 (qf c).1), .int .u64 (ww1 (qf c).1), .int .u64 (ww0 (qf c).1), .int .u64 (ww3 (qf c).2.1), .int .u64 (ww2 (qf c).2.1), .int .u64 (ww1 (qf c).2.1), .int .u64 (ww0 (qf c).2.1), .int .u64 (ww3 (qf c).2.2), .int .u64 (ww2 (qf c).2.2), .int .u64 (ww1 (qf c).2.2), .int .u64 (ww0 (qf c).2.2), (.slice (some ⟨gs, 0, none⟩) (Lf c) cs)] ∧ W.ownsRow B4 2 1 (.slice (some ⟨gs, 0, none⟩) (Lf c) cs) (Lf c) (noL (Lf c) (Ef c))
 k27 : b15 = true → ∃ s', EvOwn W base v27 (c + 1) (wq qf) s' Lf Ef
 k3b : b16 = true → v3 = v27
theorem CpS.step {B4 base c : Nat} {o : Value} {qf : Nat → Int × Int × Int} {Lf : Nat → Nat} {Ef : Nat → Nat → Int} {sf : Nat → Value} {b6 b12 b13 b14 b15 b16 : Bool} {v3 v18 v24 v25 v26 v27 : Value} {W W2 : World} (h : CpS B4 base c o qf Lf Ef sf b6 b12 b13 b14 b15 b16 v3 v18 v24 v25 v26 v27 W) (hB : Below W.heap.size W W2) : CpS B4 base c o qf Lf Ef sf b6 b12 b13 b14 b15 b16 v3 v18 v24 v25 v26 v27 W2 :=
 ⟨h.o1, h.o2, h.o3, h.k3, fun a => (h.ev a).step hB, fun a b => by obtain ⟨g, e, x⟩ := h.k18 a b; exact ⟨g, e, ownA_step x hB⟩, fun a b => by obtain ⟨g, d, e, x⟩ := h.k24 a b; exact ⟨g, d, e, ownA_step x hB⟩, fun a b => by obtain ⟨g, d, e, x⟩ := h.k25 a b; exact ⟨g, d, e, ownA_step x hB⟩, fun a b => by obtain ⟨g, d, e, f, x, y⟩ := h.k26 a b; exact ⟨g, d, e, f, x.step hB, ownA_step y hB⟩, fun a => by obtain ⟨s, x⟩ := h.k27 a; exact ⟨s, x.step hB⟩, h.k3b⟩
theorem CpS.made {B4 base c : Nat} {o : Value} {qf : Nat → Int × Int × Int} {Lf : Nat → Nat} {Ef : Nat → Nat → Int} {sf : Nat → Value} {b12 b13 b14 b15 b16 : Bool} {v3 v18 v24 v25 v26 v27 : Value} {W : World} (h : CpS B4 base c o qf Lf Ef sf false b12 b13 b14 b15 b16 v3 v18 v24 v25 v26 v27 W) (hb : B4 ≤ W.heap.size) : CpS B4 base c o qf Lf Ef sf true b12 b13 b14 b15 b16 v3 (.slice (some ⟨W.heap.size, 0, none⟩) 0 0) v24 v25 v26 v27 (W.alloc (.cells #[] 2)) := by
 have h2 := h.step ((Below.refl W.heap.size W).alloc (Nat.le_refl _) (.cells #[] 2))
 exact ⟨h2.o1, h2.o2, h2.o3, h2.k3, h2.ev, fun _ _ => ⟨_, rfl, World.ownsRow_made W #[] 0 hb (by decide) rfl⟩, h2.k24, h2.k25, h2.k26, h2.k27, h2.k3b⟩
theorem CpS.app12 {B4 base c : Nat} {o : Value} {qf : Nat → Int × Int × Int} {Lf : Nat → Nat} {Ef : Nat → Nat → Int} {sf : Nat → Value} {b6 b13 b14 b15 b16 : Bool} {v3 v18 v24 v25 v26 v27 u : Value} {W W2 : World} {g : Nat} (h : CpS B4 base c o qf Lf Ef sf b6 false b13 b14 b15 b16 v3 v18 v24 v25 v26 v27 W) (hg : W.grownBy W2 (some g)) (hB : B4 ≤ g) (hv : ∀ k, o.ownBlock = some k → k < B4) (hs : ∀ i, i < c → ∀ k, (sf i).ownBlock = some k → k < B4) (hm : 0 < Lf c)
   (hn : W2.ownsRow B4 2 1 u (Lf c) (noL (Lf c) (Ef c))) : CpS B4 base c o qf Lf Ef sf b6 true b13 b14 b15 b16 v3 v18 u v25 v26 v27 W2 := by
 have h13 : b13 = false := by cases b13 with | false => rfl | true => cases h.o1 rfl
 have h14 : b14 = false := by cases b14 with | false => rfl | true => rw [h.o2 rfl] at h13; cases h13
 have h15 : b15 = false := by cases b15 with | false => rfl | true => rw [h.o3 rfl] at h14; cases h14
 subst h13 h14 h15
 have ev := h.ev rfl
 have kp : ∀ (x : Value), (∀ k, x.ownBlock = some k → k < B4) → x.ownBlock = none ∨ x.ownBlock ≠ some g := fun x hx => by
   cases e : x.ownBlock with
   | none => exact .inl rfl
   | some k => exact .inr fun e2 => by cases e2; have := hx _ e; omega
 refine ⟨fun _ => rfl, (fun a => by cases a), (fun a => by cases a), h.k3, fun _ => ⟨ev.own.kept hg (kp o hv), fun i hi => (ev.ins i hi).kept hg (kp _ (hs i hi)), ev.d1, ev.d2⟩, (fun a => by cases a), fun _ _ => ?_, (fun a => by cases a), (fun a => by cases a), (fun a => by cases a), h.k3b⟩
 obtain ⟨gs, cs, rfl, _⟩ := ownN_form hn hm
 exact ⟨gs, cs, rfl, hn⟩
theorem CpS.built13 {B4 base c : Nat} {o : Value} {qf : Nat → Int × Int × Int} {Lf : Nat → Nat} {Ef : Nat → Nat → Int} {sf : Nat → Value} {b6 b14 b15 b16 : Bool} {v3 v18 v24 v25 v26 v27 : Value} {W : World} {gs cs : Nat} (h : CpS B4 base c o qf Lf Ef sf b6 true false b14 b15 b16 v3 v18 v24 v25 v26 v27 W) (hO : W.ownsRow B4 2 1 (.slice (some ⟨gs, 0, none⟩) (Lf c) cs) (Lf c) (noL (Lf c) (Ef c))) : CpS B4 base c o qf Lf Ef sf b6 true true b14 b15 b16 v3 v18 v24 (.agg #[.int .u64 (ww3 (qf c).1), .int .u64 (ww2 (qf c).1), .int .u64 (ww1 (qf c).1), .int .u64 (ww0 (qf c).1), .int .u64 (ww3 (qf c).2.1), .int .u64 (ww2 (qf c).2.1), .int .u64 (ww1 (qf c).2.1), .int .u64 (ww0 (qf c).2.1), .int .u64 (ww3 (qf c).2.2), .int .u64 (ww2 (qf c).2.2), .int .u64 (ww1 (qf c).2.2), .int .u64 (ww0 (qf c).2.2), (.slice (some ⟨gs, 0, none⟩) (Lf c) cs)]) v26 v27 W :=
 ⟨fun _ => rfl, fun _ => rfl, h.o3, h.k3, h.ev, h.k18, h.k24, fun _ _ => ⟨gs, cs, rfl, hO⟩, h.k26, h.k27, h.k3b⟩
theorem CpS.built14 {B4 base c : Nat} {o : Value} {qf : Nat → Int × Int × Int} {Lf : Nat → Nat} {Ef : Nat → Nat → Int} {sf : Nat → Value} {b6 b12 b15 b16 : Bool} {v3 v18 v24 v25 v26 v27 : Value} {W : World} {gs cs : Nat} (h : CpS B4 base c o qf Lf Ef sf b6 b12 true false b15 b16 v3 v18 v24 v25 v26 v27 W) (hO : W.ownsRow B4 2 1 (.slice (some ⟨gs, 0, none⟩) (Lf c) cs) (Lf c) (noL (Lf c) (Ef c))) : CpS B4 base c o qf Lf Ef sf b6 b12 true true b15 b16 v3 v18 v24 v25 (.slice (some ⟨W.heap.size, 0, none⟩) 1 1) v27 (W.alloc (.cells #[.int .u64 (ww3 (qf c).1), .int .u64 (ww2 (qf c).1), .int .u64 (ww1 (qf c).1), .int .u64 (ww0 (qf c).1), .int .u64 (ww3 (qf c).2.1), .int .u64 (ww2 (qf c).2.1), .int .u64 (ww1 (qf c).2.1), .int .u64 (ww0 (qf c).2.1), .int .u64 (ww3 (qf c).2.2), .int .u64 (ww2 (qf c).2.2), .int .u64 (ww1 (qf c).2.2), .int .u64 (ww0 (qf c).2.2), (.slice (some ⟨gs, 0, none⟩) (Lf c) cs)] 81)) := by
 have hB := (Below.refl W.heap.size W).alloc (Nat.le_refl _) (.cells #[.int .u64 (ww3 (qf c).1), .int .u64 (ww2 (qf c).1), .int .u64 (ww1 (qf c).1), .int .u64 (ww0 (qf c).1), .int .u64 (ww3 (qf c).2.1), .int .u64 (ww2 (qf c).2.1), .int .u64 (ww1 (qf c).2.1), .int .u64 (ww0 (qf c).2.1), .int .u64 (ww3 (qf c).2.2), .int .u64 (ww2 (qf c).2.2), .int .u64 (ww1 (qf c).2.2), .int .u64 (ww0 (qf c).2.2), (.slice (some ⟨gs, 0, none⟩) (Lf c) cs)] 81)
 have h2 := h.step hB
 exact ⟨h2.o1, fun _ => rfl, fun _ => rfl, h2.k3, h2.ev, h2.k18, h2.k24, h2.k25, fun _ _ => ⟨_, gs, cs, rfl, Blk.new W [.int .u64 (ww3 (qf c).1), .int .u64 (ww2 (qf c).1), .int .u64 (ww1 (qf c).1), .int .u64 (ww0 (qf c).1), .int .u64 (ww3 (qf c).2.1), .int .u64 (ww2 (qf c).2.1), .int .u64 (ww1 (qf c).2.1), .int .u64 (ww0 (qf c).2.1), .int .u64 (ww3 (qf c).2.2), .int .u64 (ww2 (qf c).2.2), .int .u64 (ww1 (qf c).2.2), .int .u64 (ww0 (qf c).2.2), (.slice (some ⟨gs, 0, none⟩) (Lf c) cs)] 81 rfl, ownA_step hO hB⟩, h2.k27, h2.k3b⟩
theorem CpS.app15 {B4 base c : Nat} {o : Value} {qf : Nat → Int × Int × Int} {Lf : Nat → Nat} {Ef : Nat → Nat → Int} {sf : Nat → Value} {b6 b12 b13 b16 : Bool} {v3 v18 v24 v25 v26 v27 u : Value} {W W2 : World} (h : CpS B4 base c o qf Lf Ef sf b6 b12 b13 true false b16 v3 v18 v24 v25 v26 v27 W) (hz : b16 = false) (hn : ∃ s', EvOwn W2 base u (c + 1) (wq qf) s' Lf Ef) : CpS B4 base c o qf Lf Ef sf b6 b12 b13 true true b16 v3 v18 v24 v25 v26 u W2 := by
 subst hz
 have h13 := h.o2 rfl
 subst h13
 have h12 := h.o1 rfl
 subst h12
 exact ⟨fun _ => rfl, fun _ => rfl, fun _ => rfl, h.k3, (fun a => by cases a), (fun a => by cases a), (fun _ a => by cases a), (fun _ a => by cases a), (fun _ a => by cases a), fun _ => hn, (fun a => by cases a)⟩
theorem CpS.assigned {B4 base c : Nat} {o : Value} {qf : Nat → Int × Int × Int} {Lf : Nat → Nat} {Ef : Nat → Nat → Int} {sf : Nat → Value} {b6 b12 b13 b14 : Bool} {v3 v18 v24 v25 v26 v27 : Value} {W : World} (h : CpS B4 base c o qf Lf Ef sf b6 b12 b13 b14 true false v3 v18 v24 v25 v26 v27 W) : CpS B4 base c o qf Lf Ef sf b6 b12 b13 b14 true true v27 v18 v24 v25 v26 v27 W :=
 ⟨h.o1, h.o2, h.o3, (fun a => by cases a), h.ev, h.k18, h.k24, h.k25, h.k26, h.k27, fun _ => rfl⟩
def CpI (B4 base c : Nat) (o : Value) (qf : Nat → Int × Int × Int) (Lf : Nat → Nat) (Ef : Nat → Nat → Int) (sf : Nat → Value) (lz : Array Bool) (az : Act) (W : World) : Prop := (lz.getD 16 false = true → ∀ j, j < 17 → lz.getD j false = true) ∧ CpS B4 base c o qf Lf Ef sf (lz.getD 6 false) (lz.getD 12 false) (lz.getD 13 false) (lz.getD 14 false) (lz.getD 15 false) (lz.getD 16 false) (az.tmps.getD 3 undef) (az.tmps.getD 18 undef) (az.tmps.getD 24 undef) (az.tmps.getD 25 undef) (az.tmps.getD 26 undef) (az.tmps.getD 27 undef) W
theorem CpI.off {B4 base c : Nat} {o : Value} {qf : Nat → Int × Int × Int} {Lf : Nat → Nat} {Ef : Nat → Nat → Int} {sf : Nat → Value} {lz : Array Bool} {az : Act} {W : World} (h : CpI B4 base c o qf Lf Ef sf lz az W) {i : Nat} (hi : i < 17) (hl : lz.getD i true = false) : lz.getD 16 false = false := by
 cases hh : lz.getD 16 false with
 | false => rfl
 | true => have := h.1 hh i hi; rw [getD_tf hl] at this; cases this
theorem CpI.start {B4 base c : Nat} {o : Value} {qf : Nat → Int × Int × Int} {Lf : Nat → Nat} {Ef : Nat → Nat → Int} {sf : Nat → Value} {az : Act} {W : World} {m : Nat} (h3 : az.tmps.getD 3 undef = o) (hE : EvOwn W base o c (wq qf) sf Lf Ef) : CpI B4 base c o qf Lf Ef sf (Array.replicate m false) az W := by
 refine ⟨(fun h => by rw [replD] at h; cases h), ?_⟩
 simp only [replD]
 exact ⟨(fun a => by cases a), (fun a => by cases a), (fun a => by cases a), fun _ => h3, fun _ => hE, (fun _ a => by cases a), (fun a => by cases a), (fun a => by cases a), (fun a => by cases a), (fun a => by cases a), (fun a => by cases a)⟩
theorem CpI.quiet {B4 base c : Nat} {o : Value} {qf : Nat → Int × Int × Int} {Lf : Nat → Nat} {Ef : Nat → Nat → Int} {sf : Nat → Value} {lz : Array Bool} {az : Act} {W : World} (h : CpI B4 base c o qf Lf Ef sf lz az W) (i d : Nat) (v : Value) (hi : i < 17) (hl : lz.getD i true = false) (hn : i ∉ [6, 12, 13, 14, 15, 16]) (hd : d ∉ [3, 18, 24, 25, 26, 27]) : CpI B4 base c o qf Lf Ef sf (lz.setIfInBounds i true) (az.put (some d) v) W := by
 have hz := h.off hi hl
 simp only [List.mem_cons, List.not_mem_nil, or_false, not_or] at hn hd
 obtain ⟨n1, n2, n3, n4, n5, n6⟩ := hn
 obtain ⟨d1, d2, d3, d4, d5, d6⟩ := hd
 unfold CpI
 rw [getD_set_neq n1, getD_set_neq n2, getD_set_neq n3, getD_set_neq n4, getD_set_neq n5, getD_set_neq n6, put_getD_ne d1, put_getD_ne d2, put_getD_ne d3, put_getD_ne d4, put_getD_ne d5, put_getD_ne d6]
 exact ⟨(fun a => by rw [hz] at a; cases a), h.2⟩
theorem CpI.put6 {B4 base c : Nat} {o : Value} {qf : Nat → Int × Int × Int} {Lf : Nat → Nat} {Ef : Nat → Nat → Int} {sf : Nat → Value} {lz : Array Bool} {az : Act} {W W2 : World} (h : CpI B4 base c o qf Lf Ef sf lz az W) (hl : lz.getD 6 true = false) (hd : 18 < az.tmps.size) {u : Value} (hc : CpS B4 base c o qf Lf Ef sf true (lz.getD 12 false) (lz.getD 13 false) (lz.getD 14 false) (lz.getD 15 false) (lz.getD 16 false) (az.tmps.getD 3 undef) u (az.tmps.getD 24 undef) (az.tmps.getD 25 undef) (az.tmps.getD 26 undef) (az.tmps.getD 27 undef) W2) : CpI B4 base c o qf Lf Ef sf (lz.setIfInBounds 6 true) (az.put (some 18) u) W2 := by
 have hz := h.off (by decide) hl
 unfold CpI
 rw [getD_set_eq hl, getD_set_neq (i := 6) (j := 12) (by decide), getD_set_neq (i := 6) (j := 13) (by decide), getD_set_neq (i := 6) (j := 14) (by decide), getD_set_neq (i := 6) (j := 15) (by decide), getD_set_neq (i := 6) (j := 16) (by decide), put_getD_ne (show 18 ≠ 3 by decide), put_getD_same hd, put_getD_ne (show 18 ≠ 24 by decide), put_getD_ne (show 18 ≠ 25 by decide), put_getD_ne (show 18 ≠ 26 by decide), put_getD_ne (show 18 ≠ 27 by decide)]
 exact ⟨(fun a => by rw [hz] at a; cases a), hc⟩
theorem CpI.put12 {B4 base c : Nat} {o : Value} {qf : Nat → Int × Int × Int} {Lf : Nat → Nat} {Ef : Nat → Nat → Int} {sf : Nat → Value} {lz : Array Bool} {az : Act} {W W2 : World} (h : CpI B4 base c o qf Lf Ef sf lz az W) (hl : lz.getD 12 true = false) (hd : 24 < az.tmps.size) {u : Value} (hc : CpS B4 base c o qf Lf Ef sf (lz.getD 6 false) true (lz.getD 13 false) (lz.getD 14 false) (lz.getD 15 false) (lz.getD 16 false) (az.tmps.getD 3 undef) (az.tmps.getD 18 undef) u (az.tmps.getD 25 undef) (az.tmps.getD 26 undef) (az.tmps.getD 27 undef) W2) : CpI B4 base c o qf Lf Ef sf (lz.setIfInBounds 12 true) (az.put (some 24) u) W2 := by
 have hz := h.off (by decide) hl
 unfold CpI
 rw [getD_set_neq (i := 12) (j := 6) (by decide), getD_set_eq hl, getD_set_neq (i := 12) (j := 13) (by decide), getD_set_neq (i := 12) (j := 14) (by decide), getD_set_neq (i := 12) (j := 15) (by decide), getD_set_neq (i := 12) (j := 16) (by decide), put_getD_ne (show 24 ≠ 3 by decide), put_getD_ne (show 24 ≠ 18 by decide), put_getD_same hd, put_getD_ne (show 24 ≠ 25 by decide), put_getD_ne (show 24 ≠ 26 by decide), put_getD_ne (show 24 ≠ 27 by decide)]
 exact ⟨(fun a => by rw [hz] at a; cases a), hc⟩
theorem CpI.put13 {B4 base c : Nat} {o : Value} {qf : Nat → Int × Int × Int} {Lf : Nat → Nat} {Ef : Nat → Nat → Int} {sf : Nat → Value} {lz : Array Bool} {az : Act} {W W2 : World} (h : CpI B4 base c o qf Lf Ef sf lz az W) (hl : lz.getD 13 true = false) (hd : 25 < az.tmps.size) {u : Value} (hc : CpS B4 base c o qf Lf Ef sf (lz.getD 6 false) (lz.getD 12 false) true (lz.getD 14 false) (lz.getD 15 false) (lz.getD 16 false) (az.tmps.getD 3 undef) (az.tmps.getD 18 undef) (az.tmps.getD 24 undef) u (az.tmps.getD 26 undef) (az.tmps.getD 27 undef) W2) : CpI B4 base c o qf Lf Ef sf (lz.setIfInBounds 13 true) (az.put (some 25) u) W2 := by
 have hz := h.off (by decide) hl
 unfold CpI
 rw [getD_set_neq (i := 13) (j := 6) (by decide), getD_set_neq (i := 13) (j := 12) (by decide), getD_set_eq hl, getD_set_neq (i := 13) (j := 14) (by decide), getD_set_neq (i := 13) (j := 15) (by decide), getD_set_neq (i := 13) (j := 16) (by decide), put_getD_ne (show 25 ≠ 3 by decide), put_getD_ne (show 25 ≠ 18 by decide), put_getD_ne (show 25 ≠ 24 by decide), put_getD_same hd, put_getD_ne (show 25 ≠ 26 by decide), put_getD_ne (show 25 ≠ 27 by decide)]
 exact ⟨(fun a => by rw [hz] at a; cases a), hc⟩
theorem CpI.put14 {B4 base c : Nat} {o : Value} {qf : Nat → Int × Int × Int} {Lf : Nat → Nat} {Ef : Nat → Nat → Int} {sf : Nat → Value} {lz : Array Bool} {az : Act} {W W2 : World} (h : CpI B4 base c o qf Lf Ef sf lz az W) (hl : lz.getD 14 true = false) (hd : 26 < az.tmps.size) {u : Value} (hc : CpS B4 base c o qf Lf Ef sf (lz.getD 6 false) (lz.getD 12 false) (lz.getD 13 false) true (lz.getD 15 false) (lz.getD 16 false) (az.tmps.getD 3 undef) (az.tmps.getD 18 undef) (az.tmps.getD 24 undef) (az.tmps.getD 25 undef) u (az.tmps.getD 27 undef) W2) : CpI B4 base c o qf Lf Ef sf (lz.setIfInBounds 14 true) (az.put (some 26) u) W2 := by
 have hz := h.off (by decide) hl
 unfold CpI
 rw [getD_set_neq (i := 14) (j := 6) (by decide), getD_set_neq (i := 14) (j := 12) (by decide), getD_set_neq (i := 14) (j := 13) (by decide), getD_set_eq hl, getD_set_neq (i := 14) (j := 15) (by decide), getD_set_neq (i := 14) (j := 16) (by decide), put_getD_ne (show 26 ≠ 3 by decide), put_getD_ne (show 26 ≠ 18 by decide), put_getD_ne (show 26 ≠ 24 by decide), put_getD_ne (show 26 ≠ 25 by decide), put_getD_same hd, put_getD_ne (show 26 ≠ 27 by decide)]
 exact ⟨(fun a => by rw [hz] at a; cases a), hc⟩
theorem CpI.put15 {B4 base c : Nat} {o : Value} {qf : Nat → Int × Int × Int} {Lf : Nat → Nat} {Ef : Nat → Nat → Int} {sf : Nat → Value} {lz : Array Bool} {az : Act} {W W2 : World} (h : CpI B4 base c o qf Lf Ef sf lz az W) (hl : lz.getD 15 true = false) (hd : 27 < az.tmps.size) {u : Value} (hc : CpS B4 base c o qf Lf Ef sf (lz.getD 6 false) (lz.getD 12 false) (lz.getD 13 false) (lz.getD 14 false) true (lz.getD 16 false) (az.tmps.getD 3 undef) (az.tmps.getD 18 undef) (az.tmps.getD 24 undef) (az.tmps.getD 25 undef) (az.tmps.getD 26 undef) u W2) : CpI B4 base c o qf Lf Ef sf (lz.setIfInBounds 15 true) (az.put (some 27) u) W2 := by
 have hz := h.off (by decide) hl
 unfold CpI
 rw [getD_set_neq (i := 15) (j := 6) (by decide), getD_set_neq (i := 15) (j := 12) (by decide), getD_set_neq (i := 15) (j := 13) (by decide), getD_set_neq (i := 15) (j := 14) (by decide), getD_set_eq hl, getD_set_neq (i := 15) (j := 16) (by decide), put_getD_ne (show 27 ≠ 3 by decide), put_getD_ne (show 27 ≠ 18 by decide), put_getD_ne (show 27 ≠ 24 by decide), put_getD_ne (show 27 ≠ 25 by decide), put_getD_ne (show 27 ≠ 26 by decide), put_getD_same hd]
 exact ⟨(fun a => by rw [hz] at a; cases a), hc⟩
theorem CpI.put16 {B4 base c : Nat} {o : Value} {qf : Nat → Int × Int × Int} {Lf : Nat → Nat} {Ef : Nat → Nat → Int} {sf : Nat → Value} {lz : Array Bool} {az : Act} {W : World} (hl : lz.getD 16 true = false) (hd : 3 < az.tmps.size) (hall : ∀ j, j < 17 → j ≠ 16 → lz.getD j false = true) {u : Value} (hc : CpS B4 base c o qf Lf Ef sf (lz.getD 6 false) (lz.getD 12 false) (lz.getD 13 false) (lz.getD 14 false) (lz.getD 15 false) true u (az.tmps.getD 18 undef) (az.tmps.getD 24 undef) (az.tmps.getD 25 undef) (az.tmps.getD 26 undef) (az.tmps.getD 27 undef) W) : CpI B4 base c o qf Lf Ef sf (lz.setIfInBounds 16 true) (az.put (some 3) u) W := by
 unfold CpI
 rw [getD_set_neq (i := 16) (j := 6) (by decide), getD_set_neq (i := 16) (j := 12) (by decide), getD_set_neq (i := 16) (j := 13) (by decide), getD_set_neq (i := 16) (j := 14) (by decide), getD_set_neq (i := 16) (j := 15) (by decide), getD_set_eq hl, put_getD_same hd, put_getD_ne (show 3 ≠ 18 by decide), put_getD_ne (show 3 ≠ 24 by decide), put_getD_ne (show 3 ≠ 25 by decide), put_getD_ne (show 3 ≠ 26 by decide), put_getD_ne (show 3 ≠ 27 by decide)]
 refine ⟨fun _ j hj => ?_, hc⟩
 by_cases e : j = 16
 · subst e; exact getD_set_eq hl
 · rw [getD_set_neq (Ne.symm e)]; exact hall j hj e
def VewD (_B4 _base c : Nat) (o : Value) (qf : Nat → Int × Int × Int) (Lf : Nat → Nat) (_Ef : Nat → Nat → Int) (_sf : Nat → Value) (A off n ca Ab ob mc : Nat) (_B : Nat) : Nat → Value → World → Prop
 | 0, v, _ => v = o
 | 1, v, _ => v = .slice (some ⟨A, off, none⟩) n ca
 | 2, v, _ => v = .int .i64 (c : Int)
 | 3, v, _ => v = .pointer (some ⟨A, off + c * 13, none⟩)
 | 4, v, _ => v = .pointer (some ⟨A, off + c * 13, none⟩)
 | 5, v, _ => v = .agg #[.int .u64 (ww3 (qf c).1), .int .u64 (ww2 (qf c).1), .int .u64 (ww1 (qf c).1), .int .u64 (ww0 (qf c).1), .int .u64 (ww3 (qf c).2.1), .int .u64 (ww2 (qf c).2.1), .int .u64 (ww1 (qf c).2.1), .int .u64 (ww0 (qf c).2.1), .int .u64 (ww3 (qf c).2.2), .int .u64 (ww2 (qf c).2.2), .int .u64 (ww1 (qf c).2.2), .int .u64 (ww0 (qf c).2.2)]
 | 7, v, _ => v = .slice (some ⟨A, off, none⟩) n ca
 | 8, v, _ => v = .int .i64 (c : Int)
 | 9, v, _ => v = .pointer (some ⟨A, off + c * 13, none⟩)
 | 10, v, _ => v = .pointer (some ⟨A, off + c * 13 + 12, none⟩)
 | 11, v, _ => v = .slice (some ⟨Ab, ob, none⟩) (Lf c) mc
 | _, _, _ => True
theorem VewD.same {B4 base c : Nat} {o : Value} {qf : Nat → Int × Int × Int} {Lf : Nat → Nat} {Ef : Nat → Nat → Int} {sf : Nat → Value} {A off n ca Ab ob mc : Nat} {B j : Nat} {v : Value} {W W2 : World} (h : VewD B4 base c o qf Lf Ef sf A off n ca Ab ob mc B j v W) : VewD B4 base c o qf Lf Ef sf A off n ca Ab ob mc B j v W2 := by
 unfold VewD at *
 split <;> simp only at h <;> first | exact h | trivial
def SewD (B4 base c : Nat) (o : Value) (qf : Nat → Int × Int × Int) (Lf : Nat → Nat) (Ef : Nat → Nat → Int) (sf : Nat → Value) (_A _off _n _ca _Ab _ob _mc : Nat) (lz : Array Bool) (az : Act) (W : World) : Prop := CpI B4 base c o qf Lf Ef sf lz az W
def JewD (B4 base c : Nat) (o : Value) (qf : Nat → Int × Int × Int) (Lf : Nat → Nat) (Ef : Nat → Nat → Int) (sf : Nat → Value) (A off n ca Ab ob mc : Nat) (w0 : World) (a0 : Act) (lz : Array Bool) (az : Act) (W : World) : Prop := InvQ (base) [some 12, some 13, some 14, some 15, some 16, some 17, some 18, some 19, some 20, some 21, some 22, some 23, some 24, some 25, some 26, some 27, some 3] (VewD B4 base c o qf Lf Ef sf A off n ca Ab ob mc (base)) w0 a0 lz az W ∧ SewD B4 base c o qf Lf Ef sf A off n ca Ab ob mc lz az W
theorem ewD {Q : Exit → Act → World → Prop} {B4 base c : Nat} {o : Value} {qf : Nat → Int × Int × Int} {Lf : Nat → Nat} {Ef : Nat → Nat → Int} {sf : Nat → Value} {A off n ca Ab ob mc : Nat} {i0 j0 : TypeInfo}  {w0 : World} {a0 : Act} {idq : Nat} {t0 t1 t2 t3 t4 t5 t6 t7 t8 t9 t10 t11 t12 t13 t14 t15 t16 : TypeId} {q0 q1 q2 q3 q4 q5 q6 q7 q8 q9 q10 q11 q12 q13 q14 q15 q16 : String}
   (hi : Tryz.prog.info? 81 = some i0) (hz0 : i0.zero = some (.agg #[.int .u64 0, .int .u64 0, .int .u64 0, .int .u64 0, .int .u64 0, .int .u64 0, .int .u64 0, .int .u64 0, .int .u64 0, .int .u64 0, .int .u64 0, .int .u64 0, .slice none 0 0])) (hz1 : i0.size = 13) (hz2 : i0.bytes = 120) (hj : Tryz.prog.info? 2 = some j0) (hj0 : j0.zero = some (.int .i64 0)) (hj1 : j0.size = 1) (hj2 : j0.bytes = 8)
   (hcI : (c : Int) < (n : Int)) (hcn : c ≤ 1048576) (hB4 : B4 ≤ w0.heap.size) (hB5 : w0.heap.size ≤ B4) (hb0 : base ≤ B4) (hbB : base ≤ B4) (hm0 : 0 < Lf c) (hm1 : Lf c ≤ 1048576) (hN : NoIn w0 (some ⟨Ab, ob, none⟩) (Lf c) (Ef c)) (hAb : Ab < base) (hv : ∀ k, o.ownBlock = some k → k < B4) (hsf : ∀ i, i < c → ∀ k, (sf i).ownBlock = some k → k < B4) (s3 : a0.tmps.getD 3 undef = o) (s0 : EvOwn w0.drew base o c (wq qf) sf Lf Ef) (h0 : a0.tmps[0]? = some (.slice (some ⟨A, off, none⟩) n ca)) (h4 : a0.tmps[4]? = some (.int .i64 (c : Int))) (k0 : w0.cell? ⟨A, off + c * 13, none⟩ = some (.int .u64 (ww3 (qf c).1))) (l0 : (⟨A, off + c * 13, none⟩ : Addr).block < base) (k1 : w0.cell? ⟨A, off + c * 13 + 1, none⟩ = some (.int .u64 (ww2 (qf c).1))) (l1 : (⟨A, off + c * 13 + 1, none⟩ : Addr).block < base) (k2 : w0.cell? ⟨A, off + c * 13 + 2, none⟩ = some (.int .u64 (ww1 (qf c).1))) (l2 : (⟨A, off + c * 13 + 2, none⟩ : Addr).block < base) (k3 : w0.cell? ⟨A, off + c * 13 + 3, none⟩ = some (.int .u64 (ww0 (qf c).1))) (l3 : (⟨A, off + c * 13 + 3, none⟩ : Addr).block < base) (k4 : w0.cell? ⟨A, off + c * 13 + 4, none⟩ = some (.int .u64 (ww3 (qf c).2.1))) (l4 : (⟨A, off + c * 13 + 4, none⟩ : Addr).block < base) (k5 : w0.cell? ⟨A, off + c * 13 + 5, none⟩ = some (.int .u64 (ww2 (qf c).2.1))) (l5 : (⟨A, off + c * 13 + 5, none⟩ : Addr).block < base) (k6 : w0.cell? ⟨A, off + c * 13 + 6, none⟩ = some (.int .u64 (ww1 (qf c).2.1))) (l6 : (⟨A, off + c * 13 + 6, none⟩ : Addr).block < base) (k7 : w0.cell? ⟨A, off + c * 13 + 7, none⟩ = some (.int .u64 (ww0 (qf c).2.1))) (l7 : (⟨A, off + c * 13 + 7, none⟩ : Addr).block < base) (k8 : w0.cell? ⟨A, off + c * 13 + 8, none⟩ = some (.int .u64 (ww3 (qf c).2.2))) (l8 : (⟨A, off + c * 13 + 8, none⟩ : Addr).block < base) (k9 : w0.cell? ⟨A, off + c * 13 + 9, none⟩ = some (.int .u64 (ww2 (qf c).2.2))) (l9 : (⟨A, off + c * 13 + 9, none⟩ : Addr).block < base) (k10 : w0.cell? ⟨A, off + c * 13 + 10, none⟩ = some (.int .u64 (ww1 (qf c).2.2))) (l10 : (⟨A, off + c * 13 + 10, none⟩ : Addr).block < base) (k11 : w0.cell? ⟨A, off + c * 13 + 11, none⟩ = some (.int .u64 (ww0 (qf c).2.2))) (l11 : (⟨A, off + c * 13 + 11, none⟩ : Addr).block < base) (k12 : w0.cell? ⟨A, off + c * 13 + 12, none⟩ = some (.slice (some ⟨Ab, ob, none⟩) (Lf c) mc)) (l12 : (⟨A, off + c * 13 + 12, none⟩ : Addr).block < base) (hz : a0.tmps.size = 29)
   (hQ : ∀ aq W, aq.tmps.size = a0.tmps.size → aq.defers = a0.defers → (∀ e, e ∉ ([12, 13, 14, 15, 16, 17, 18, 19, 20, 21, 22, 23, 24, 25, 26, 27, 3] : List Nat) → aq.tmps[e]? = a0.tmps[e]?) → VewD B4 base c o qf Lf Ef sf A off n ca Ab ob mc (base) 16 (aq.tmps.getD 3 undef) W → Below (base) w0 W → (∃ s', EvOwn W base (aq.tmps.getD 3 undef) (c + 1) (wq qf) s' Lf Ef) → Q .normal aq W) :
   (Code.region idq #[{ dst := some 12, op := Op.move (.tmp 3), type := t0, pos := q0, after := #[], guard := none },
   { dst := some 13, op := Op.move (.tmp 0), type := t1, pos := q1, after := #[], guard := none },
   { dst := some 14, op := Op.move (.tmp 4), type := t2, pos := q2, after := #[], guard := none },
   { dst := some 15, op := Op.indexAddr 44 (.tmp 13) (.tmp 14), type := t3, pos := q3, after := #[⟨1, .data⟩, ⟨2, .data⟩], guard := none },
   { dst := some 16, op := Op.fieldAddr 81 (.tmp 15) 0, type := t4, pos := q4, after := #[⟨3, .data⟩], guard := none },
   { dst := some 17, op := Op.load 35 (.tmp 16), type := t5, pos := q5, after := #[⟨4, .data⟩], guard := none },
   { dst := some 18, op := Op.buildSlice 29 0 #[], type := t6, pos := q6, after := #[], guard := none },
   { dst := some 19, op := Op.move (.tmp 0), type := t7, pos := q7, after := #[], guard := none },
   { dst := some 20, op := Op.move (.tmp 4), type := t8, pos := q8, after := #[], guard := none },
   { dst := some 21, op := Op.indexAddr 44 (.tmp 19) (.tmp 20), type := t9, pos := q9, after := #[⟨7, .data⟩, ⟨8, .data⟩], guard := none },
   { dst := some 22, op := Op.fieldAddr 81 (.tmp 21) 1, type := t10, pos := q10, after := #[⟨9, .data⟩], guard := none },
   { dst := some 23, op := Op.load 29 (.tmp 22), type := t11, pos := q11, after := #[⟨10, .data⟩], guard := none },
   { dst := some 24, op := Op.call { callee := Callee.builtin Builtin.append, args := #[.tmp 18, .tmp 23], argTypes := #[29, 29] }, type := t12, pos := q12, after := #[⟨6, .data⟩, ⟨11, .data⟩], guard := none },
   { dst := some 25, op := Op.build 81 #[(0, .tmp 17), (1, .tmp 24)], type := t13, pos := q13, after := #[⟨5, .data⟩, ⟨12, .data⟩], guard := none },
   { dst := some 26, op := Op.buildSlice 44 1 #[(0, .tmp 25)], type := t14, pos := q14, after := #[⟨13, .data⟩], guard := none },
   { dst := some 27, op := Op.call { callee := Callee.builtin Builtin.append, args := #[.tmp 12, .tmp 26], argTypes := #[44, 44] }, type := t15, pos := q15, after := #[⟨0, .data⟩, ⟨14, .data⟩, ⟨12, .chain⟩], guard := none },
   { dst := some 3, op := Op.assign (.tmp 27), type := t16, pos := q16, after := #[⟨15, .data⟩, ⟨15, .chain⟩, ⟨0, .phase⟩, ⟨1, .phase⟩, ⟨2, .phase⟩, ⟨3, .phase⟩, ⟨4, .phase⟩, ⟨5, .phase⟩, ⟨6, .phase⟩, ⟨7, .phase⟩, ⟨8, .phase⟩, ⟨9, .phase⟩, ⟨10, .phase⟩, ⟨11, .phase⟩, ⟨12, .phase⟩, ⟨13, .phase⟩, ⟨14, .phase⟩, ⟨15, .phase⟩], guard := none }] true).wp Tryz.prog Q a0 w0 := by
 have hS : distS [some 12, some 13, some 14, some 15, some 16, some 17, some 18, some 19, some 20, some 21, some 22, some 23, some 24, some 25, some 26, some 27, some 3] = true := rfl
 refine wp_region_inv (by kernel_rfl) (JewD B4 base c o qf Lf Ef sf A off n ca Ab ob mc w0 a0) ⟨⟨rfl, rfl, rfl, fun _ _ => rfl, (Below.refl _ w0).drew, fun j d hj => ?_, fun j hj => ?_⟩, CpI.start s3 s0⟩ ?_ ?_
 · exfalso
   rw [Array.getD_eq_getD_getElem?, Array.getElem?_replicate] at hj
   split at hj <;> simp at hj
 · exfalso
   rw [Array.getD_eq_getD_getElem?, Array.getElem?_replicate] at hj
   split at hj <;> simp at hj
 · intro lq aq W iq oq ⟨hJ, hs⟩ hl ho hall
   have hJ2 := hJ
   obtain ⟨z1, z2, z3, z4, z5, z6, z7⟩ := hJ
   have g0 : aq.tmps.getD 0 undef = .slice (some ⟨A, off, none⟩) n ca := by rw [Array.getD_eq_getD_getElem?, z4 0 (by decide), h0]; rfl
   have g4 : aq.tmps.getD 4 undef = .int .i64 (c : Int) := by rw [Array.getD_eq_getD_getElem?, z4 4 (by decide), h4]; rfl
   have c0 : W.cell? ⟨A, off + c * 13, none⟩ = some (.int .u64 (ww3 (qf c).1)) := (z5.cell l0).trans k0
   have c1 : W.cell? ⟨A, off + c * 13 + 1, none⟩ = some (.int .u64 (ww2 (qf c).1)) := (z5.cell l1).trans k1
   have c2 : W.cell? ⟨A, off + c * 13 + 2, none⟩ = some (.int .u64 (ww1 (qf c).1)) := (z5.cell l2).trans k2
   have c3 : W.cell? ⟨A, off + c * 13 + 3, none⟩ = some (.int .u64 (ww0 (qf c).1)) := (z5.cell l3).trans k3
   have c4 : W.cell? ⟨A, off + c * 13 + 4, none⟩ = some (.int .u64 (ww3 (qf c).2.1)) := (z5.cell l4).trans k4
   have c5 : W.cell? ⟨A, off + c * 13 + 5, none⟩ = some (.int .u64 (ww2 (qf c).2.1)) := (z5.cell l5).trans k5
   have c6 : W.cell? ⟨A, off + c * 13 + 6, none⟩ = some (.int .u64 (ww1 (qf c).2.1)) := (z5.cell l6).trans k6
   have c7 : W.cell? ⟨A, off + c * 13 + 7, none⟩ = some (.int .u64 (ww0 (qf c).2.1)) := (z5.cell l7).trans k7
   have c8 : W.cell? ⟨A, off + c * 13 + 8, none⟩ = some (.int .u64 (ww3 (qf c).2.2)) := (z5.cell l8).trans k8
   have c9 : W.cell? ⟨A, off + c * 13 + 9, none⟩ = some (.int .u64 (ww2 (qf c).2.2)) := (z5.cell l9).trans k9
   have c10 : W.cell? ⟨A, off + c * 13 + 10, none⟩ = some (.int .u64 (ww1 (qf c).2.2)) := (z5.cell l10).trans k10
   have c11 : W.cell? ⟨A, off + c * 13 + 11, none⟩ = some (.int .u64 (ww0 (qf c).2.2)) := (z5.cell l11).trans k11
   have c12 : W.cell? ⟨A, off + c * 13 + 12, none⟩ = some (.slice (some ⟨Ab, ob, none⟩) (Lf c) mc) := (z5.cell l12).trans k12
   match iq, ho with
   | 0, ho =>
     cases ho
     refine wpOp_of rfl rfl ?_
     have hq := fun (v : Value) => hs.quiet 0 12 v (by decide) hl (by decide) (by decide)
     have f3 := hs.2.k3 (hs.off (by decide) hl)
     have hK := fun (v : Value) (W2 : World) hW hT hv (hs : SewD B4 base c o qf Lf Ef sf A off n ca Ab ob mc (lq.setIfInBounds 0 true) (aq.put (some 12) v) W2) => show (JewD B4 base c o qf Lf Ef sf A off n ca Ab ob mc w0 a0) (lq.setIfInBounds 0 true) (aq.put (some 12) v) W2 from ⟨hJ2.put hS 0 12 rfl (by omega) (W' := W2) hW hT v hv, hs⟩
     clear ho hall hl hQ
     generalize (JewD B4 base c o qf Lf Ef sf A off n ca Ab ob mc w0 a0) (lq.setIfInBounds 0 true) = K at hK ⊢
     clear hJ2 hS z1 z2 z3 z4 z6 z7
     go_simp
     exact hK _ _ z5 (fun _ _ h => h) rfl (hq _)
   | 1, ho =>
     cases ho
     refine wpOp_of rfl rfl ?_
     have hq := fun (v : Value) => hs.quiet 1 13 v (by decide) hl (by decide) (by decide)
     have hK := fun (v : Value) (W2 : World) hW hT hv (hs : SewD B4 base c o qf Lf Ef sf A off n ca Ab ob mc (lq.setIfInBounds 1 true) (aq.put (some 13) v) W2) => show (JewD B4 base c o qf Lf Ef sf A off n ca Ab ob mc w0 a0) (lq.setIfInBounds 1 true) (aq.put (some 13) v) W2 from ⟨hJ2.put hS 1 13 rfl (by omega) (W' := W2) hW hT v hv, hs⟩
     clear ho hall hl hQ
     generalize (JewD B4 base c o qf Lf Ef sf A off n ca Ab ob mc w0 a0) (lq.setIfInBounds 1 true) = K at hK ⊢
     clear hJ2 hS z1 z2 z3 z4 z6 z7
     go_simp
     exact hK _ _ z5 (fun _ _ h => h) rfl (hq _)
   | 2, ho =>
     cases ho
     refine wpOp_of rfl rfl ?_
     have hq := fun (v : Value) => hs.quiet 2 14 v (by decide) hl (by decide) (by decide)
     have hK := fun (v : Value) (W2 : World) hW hT hv (hs : SewD B4 base c o qf Lf Ef sf A off n ca Ab ob mc (lq.setIfInBounds 2 true) (aq.put (some 14) v) W2) => show (JewD B4 base c o qf Lf Ef sf A off n ca Ab ob mc w0 a0) (lq.setIfInBounds 2 true) (aq.put (some 14) v) W2 from ⟨hJ2.put hS 2 14 rfl (by omega) (W' := W2) hW hT v hv, hs⟩
     clear ho hall hl hQ
     generalize (JewD B4 base c o qf Lf Ef sf A off n ca Ab ob mc w0 a0) (lq.setIfInBounds 2 true) = K at hK ⊢
     clear hJ2 hS z1 z2 z3 z4 z6 z7
     go_simp
     exact hK _ _ z5 (fun _ _ h => h) rfl (hq _)
   | 3, ho =>
     cases ho
     refine wpOp_of rfl rfl ?_
     have f1 : (aq.tmps.getD 13 undef) = .slice (some ⟨A, off, none⟩) n ca := z6 1 13 (hall ⟨1, .data⟩ (by simp) rfl) rfl
     have f2 : (aq.tmps.getD 14 undef) = .int .i64 (c : Int) := z6 2 14 (hall ⟨2, .data⟩ (by simp) rfl) rfl
     have hq := fun (v : Value) => hs.quiet 3 15 v (by decide) hl (by decide) (by decide)
     have hK := fun (v : Value) (W2 : World) hW hT hv (hs : SewD B4 base c o qf Lf Ef sf A off n ca Ab ob mc (lq.setIfInBounds 3 true) (aq.put (some 15) v) W2) => show (JewD B4 base c o qf Lf Ef sf A off n ca Ab ob mc w0 a0) (lq.setIfInBounds 3 true) (aq.put (some 15) v) W2 from ⟨hJ2.put hS 3 15 rfl (by omega) (W' := W2) hW hT v hv, hs⟩
     clear ho hall hl hQ
     generalize (JewD B4 base c o qf Lf Ef sf A off n ca Ab ob mc w0 a0) (lq.setIfInBounds 3 true) = K at hK ⊢
     clear hJ2 hS z1 z2 z3 z4 z6 z7
     go_simp
     exact hK _ _ z5 (fun _ _ h => h) rfl (hq _)
   | 4, ho =>
     cases ho
     refine wpOp_of rfl rfl ?_
     have f3 : (aq.tmps.getD 15 undef) = .pointer (some ⟨A, off + c * 13, none⟩) := z6 3 15 (hall ⟨3, .data⟩ (by simp) rfl) rfl
     have hq := fun (v : Value) => hs.quiet 4 16 v (by decide) hl (by decide) (by decide)
     have hK := fun (v : Value) (W2 : World) hW hT hv (hs : SewD B4 base c o qf Lf Ef sf A off n ca Ab ob mc (lq.setIfInBounds 4 true) (aq.put (some 16) v) W2) => show (JewD B4 base c o qf Lf Ef sf A off n ca Ab ob mc w0 a0) (lq.setIfInBounds 4 true) (aq.put (some 16) v) W2 from ⟨hJ2.put hS 4 16 rfl (by omega) (W' := W2) hW hT v hv, hs⟩
     clear ho hall hl hQ
     generalize (JewD B4 base c o qf Lf Ef sf A off n ca Ab ob mc w0 a0) (lq.setIfInBounds 4 true) = K at hK ⊢
     clear hJ2 hS z1 z2 z3 z4 z6 z7
     go_simp
     exact hK _ _ z5 (fun _ _ h => h) rfl (hq _)
   | 5, ho =>
     cases ho
     refine wpOp_of rfl rfl ?_
     have f4 : (aq.tmps.getD 16 undef) = .pointer (some ⟨A, off + c * 13, none⟩) := z6 4 16 (hall ⟨4, .data⟩ (by simp) rfl) rfl
     have hq := fun (v : Value) => hs.quiet 5 17 v (by decide) hl (by decide) (by decide)
     have hK := fun (v : Value) (W2 : World) hW hT hv (hs : SewD B4 base c o qf Lf Ef sf A off n ca Ab ob mc (lq.setIfInBounds 5 true) (aq.put (some 17) v) W2) => show (JewD B4 base c o qf Lf Ef sf A off n ca Ab ob mc w0 a0) (lq.setIfInBounds 5 true) (aq.put (some 17) v) W2 from ⟨hJ2.put hS 5 17 rfl (by omega) (W' := W2) hW hT v hv, hs⟩
     clear ho hall hl hQ
     generalize (JewD B4 base c o qf Lf Ef sf A off n ca Ab ob mc w0 a0) (lq.setIfInBounds 5 true) = K at hK ⊢
     clear hJ2 hS z1 z2 z3 z4 z6 z7
     go_simp
     exact hK _ _ z5 (fun _ _ h => h) rfl (hq _)
   | 6, ho =>
     cases ho
     refine wpOp_of rfl rfl ?_
     have hq := hs.put6 hl (by rw [z2, hz]; decide) (u := .slice (some ⟨W.heap.size, 0, none⟩) 0 0) (W2 := W.alloc (.cells #[] 2)) (by have := hs.2; rw [getD_tf hl] at this; exact this.made (Nat.le_trans hB4 z5.size))
     have zs := z5.size
     have hK := fun (v : Value) (W2 : World) hW hT hv (hs : SewD B4 base c o qf Lf Ef sf A off n ca Ab ob mc (lq.setIfInBounds 6 true) (aq.put (some 18) v) W2) => show (JewD B4 base c o qf Lf Ef sf A off n ca Ab ob mc w0 a0) (lq.setIfInBounds 6 true) (aq.put (some 18) v) W2 from ⟨hJ2.put hS 6 18 rfl (by omega) (W' := W2) hW hT v hv, hs⟩
     clear ho hall hl hQ
     generalize (JewD B4 base c o qf Lf Ef sf A off n ca Ab ob mc w0 a0) (lq.setIfInBounds 6 true) = K at hK ⊢
     clear hJ2 hS z1 z2 z3 z4 z6 z7
     clear hs
     go_simp
     exact hK _ _ (z5.alloc (by omega) _) (fun _ _ h => h.same) trivial hq
   | 7, ho =>
     cases ho
     refine wpOp_of rfl rfl ?_
     have hq := fun (v : Value) => hs.quiet 7 19 v (by decide) hl (by decide) (by decide)
     have hK := fun (v : Value) (W2 : World) hW hT hv (hs : SewD B4 base c o qf Lf Ef sf A off n ca Ab ob mc (lq.setIfInBounds 7 true) (aq.put (some 19) v) W2) => show (JewD B4 base c o qf Lf Ef sf A off n ca Ab ob mc w0 a0) (lq.setIfInBounds 7 true) (aq.put (some 19) v) W2 from ⟨hJ2.put hS 7 19 rfl (by omega) (W' := W2) hW hT v hv, hs⟩
     clear ho hall hl hQ
     generalize (JewD B4 base c o qf Lf Ef sf A off n ca Ab ob mc w0 a0) (lq.setIfInBounds 7 true) = K at hK ⊢
     clear hJ2 hS z1 z2 z3 z4 z6 z7
     go_simp
     exact hK _ _ z5 (fun _ _ h => h) rfl (hq _)
   | 8, ho =>
     cases ho
     refine wpOp_of rfl rfl ?_
     have hq := fun (v : Value) => hs.quiet 8 20 v (by decide) hl (by decide) (by decide)
     have hK := fun (v : Value) (W2 : World) hW hT hv (hs : SewD B4 base c o qf Lf Ef sf A off n ca Ab ob mc (lq.setIfInBounds 8 true) (aq.put (some 20) v) W2) => show (JewD B4 base c o qf Lf Ef sf A off n ca Ab ob mc w0 a0) (lq.setIfInBounds 8 true) (aq.put (some 20) v) W2 from ⟨hJ2.put hS 8 20 rfl (by omega) (W' := W2) hW hT v hv, hs⟩
     clear ho hall hl hQ
     generalize (JewD B4 base c o qf Lf Ef sf A off n ca Ab ob mc w0 a0) (lq.setIfInBounds 8 true) = K at hK ⊢
     clear hJ2 hS z1 z2 z3 z4 z6 z7
     go_simp
     exact hK _ _ z5 (fun _ _ h => h) rfl (hq _)
   | 9, ho =>
     cases ho
     refine wpOp_of rfl rfl ?_
     have f7 : (aq.tmps.getD 19 undef) = .slice (some ⟨A, off, none⟩) n ca := z6 7 19 (hall ⟨7, .data⟩ (by simp) rfl) rfl
     have f8 : (aq.tmps.getD 20 undef) = .int .i64 (c : Int) := z6 8 20 (hall ⟨8, .data⟩ (by simp) rfl) rfl
     have hq := fun (v : Value) => hs.quiet 9 21 v (by decide) hl (by decide) (by decide)
     have hK := fun (v : Value) (W2 : World) hW hT hv (hs : SewD B4 base c o qf Lf Ef sf A off n ca Ab ob mc (lq.setIfInBounds 9 true) (aq.put (some 21) v) W2) => show (JewD B4 base c o qf Lf Ef sf A off n ca Ab ob mc w0 a0) (lq.setIfInBounds 9 true) (aq.put (some 21) v) W2 from ⟨hJ2.put hS 9 21 rfl (by omega) (W' := W2) hW hT v hv, hs⟩
     clear ho hall hl hQ
     generalize (JewD B4 base c o qf Lf Ef sf A off n ca Ab ob mc w0 a0) (lq.setIfInBounds 9 true) = K at hK ⊢
     clear hJ2 hS z1 z2 z3 z4 z6 z7
     go_simp
     exact hK _ _ z5 (fun _ _ h => h) rfl (hq _)
   | 10, ho =>
     cases ho
     refine wpOp_of rfl rfl ?_
     have f9 : (aq.tmps.getD 21 undef) = .pointer (some ⟨A, off + c * 13, none⟩) := z6 9 21 (hall ⟨9, .data⟩ (by simp) rfl) rfl
     have hq := fun (v : Value) => hs.quiet 10 22 v (by decide) hl (by decide) (by decide)
     have hK := fun (v : Value) (W2 : World) hW hT hv (hs : SewD B4 base c o qf Lf Ef sf A off n ca Ab ob mc (lq.setIfInBounds 10 true) (aq.put (some 22) v) W2) => show (JewD B4 base c o qf Lf Ef sf A off n ca Ab ob mc w0 a0) (lq.setIfInBounds 10 true) (aq.put (some 22) v) W2 from ⟨hJ2.put hS 10 22 rfl (by omega) (W' := W2) hW hT v hv, hs⟩
     clear ho hall hl hQ
     generalize (JewD B4 base c o qf Lf Ef sf A off n ca Ab ob mc w0 a0) (lq.setIfInBounds 10 true) = K at hK ⊢
     clear hJ2 hS z1 z2 z3 z4 z6 z7
     go_simp
     exact hK _ _ z5 (fun _ _ h => h) rfl (hq _)
   | 11, ho =>
     cases ho
     refine wpOp_of rfl rfl ?_
     have f10 : (aq.tmps.getD 22 undef) = .pointer (some ⟨A, off + c * 13 + 12, none⟩) := z6 10 22 (hall ⟨10, .data⟩ (by simp) rfl) rfl
     have hq := fun (v : Value) => hs.quiet 11 23 v (by decide) hl (by decide) (by decide)
     have hK := fun (v : Value) (W2 : World) hW hT hv (hs : SewD B4 base c o qf Lf Ef sf A off n ca Ab ob mc (lq.setIfInBounds 11 true) (aq.put (some 23) v) W2) => show (JewD B4 base c o qf Lf Ef sf A off n ca Ab ob mc w0 a0) (lq.setIfInBounds 11 true) (aq.put (some 23) v) W2 from ⟨hJ2.put hS 11 23 rfl (by omega) (W' := W2) hW hT v hv, hs⟩
     clear ho hall hl hQ
     generalize (JewD B4 base c o qf Lf Ef sf A off n ca Ab ob mc w0 a0) (lq.setIfInBounds 11 true) = K at hK ⊢
     clear hJ2 hS z1 z2 z3 z4 z6 z7
     go_simp
     exact hK _ _ z5 (fun _ _ h => h) rfl (hq _)
   | 12, ho =>
     cases ho
     refine wpOp_of rfl rfl ?_
     have f11 : (aq.tmps.getD 23 undef) = .slice (some ⟨Ab, ob, none⟩) (Lf c) mc := z6 11 23 (hall ⟨11, .data⟩ (by simp) rfl) rfl
     have l6 := hall ⟨6, .data⟩ (by simp) rfl
     have H := hs.2
     rw [getD_tf hl, l6] at H
     obtain ⟨g6, f18, ow⟩ := H.k18 rfl rfl
     have hq := fun (u : Value) (W2 : World) hg hn => hs.put12 hl (by rw [z2, hz]; decide) (u := u) (W2 := W2) (by rw [l6]; exact H.app12 (u := u) (W2 := W2) (g := g6) hg (ow.lt g6 rfl).1 hv hsf hm0 hn)
     have zs := z5.size
     have hK := fun (v : Value) (W2 : World) hW hT hv (hs : SewD B4 base c o qf Lf Ef sf A off n ca Ab ob mc (lq.setIfInBounds 12 true) (aq.put (some 24) v) W2) => show (JewD B4 base c o qf Lf Ef sf A off n ca Ab ob mc w0 a0) (lq.setIfInBounds 12 true) (aq.put (some 24) v) W2 from ⟨hJ2.put hS 12 24 rfl (by omega) (W' := W2) hW hT v hv, hs⟩
     clear ho hall hl hQ
     generalize (JewD B4 base c o qf Lf Ef sf A off n ca Ab ob mc w0 a0) (lq.setIfInBounds 12 true) = K at hK ⊢
     clear hJ2 hS z1 z2 z3 z4 z6 z7
     refine wp_append_at (.tmp 18) (.tmp 23) 29 rfl B4 2 j0 (.int .i64 0) 1 8 Tryz.underlying29 hj hj0 hj1 hj2 rfl (by decide) _ 0 [] f18 ow ⟨Ab, ob, none⟩ (Lf c) mc (noL (Lf c) (Ef c)) f11 (by rw [noL_len]; omega) (noL_cell (noIn_below hN z5 hAb)) (noL_one _ _) (by unfold maxLen; omega) (by omega) (by omega) ?_
     intro v' w' hown hgrow _
     rw [Nat.zero_add, List.nil_append] at hown
     exact hK _ _ (z5.grown hgrow (by omega) (fun k hk => by have h1 : some g6 = some k := hk; cases h1; have := (ow.lt g6 rfl).1; omega)) (fun _ _ h => h.same) trivial (hq _ _ hgrow hown)
   | 13, ho =>
     cases ho
     refine wpOp_of rfl rfl ?_
     have f5 : (aq.tmps.getD 17 undef) = .agg #[.int .u64 (ww3 (qf c).1), .int .u64 (ww2 (qf c).1), .int .u64 (ww1 (qf c).1), .int .u64 (ww0 (qf c).1), .int .u64 (ww3 (qf c).2.1), .int .u64 (ww2 (qf c).2.1), .int .u64 (ww1 (qf c).2.1), .int .u64 (ww0 (qf c).2.1), .int .u64 (ww3 (qf c).2.2), .int .u64 (ww2 (qf c).2.2), .int .u64 (ww1 (qf c).2.2), .int .u64 (ww0 (qf c).2.2)] := z6 5 17 (hall ⟨5, .data⟩ (by simp) rfl) rfl
     have l12 := hall ⟨12, .data⟩ (by simp) rfl
     have H := hs.2
     rw [getD_tf hl, l12] at H
     have l15 : lq.getD 15 false = false := by cases e15 : lq.getD 15 false with | false => rfl | true => have := H.o2 (H.o3 e15); cases this
     obtain ⟨gs, cs, f24, ow⟩ := H.k24 rfl l15
     have hq := hs.put13 hl (by rw [z2, hz]; decide) (u := .agg #[.int .u64 (ww3 (qf c).1), .int .u64 (ww2 (qf c).1), .int .u64 (ww1 (qf c).1), .int .u64 (ww0 (qf c).1), .int .u64 (ww3 (qf c).2.1), .int .u64 (ww2 (qf c).2.1), .int .u64 (ww1 (qf c).2.1), .int .u64 (ww0 (qf c).2.1), .int .u64 (ww3 (qf c).2.2), .int .u64 (ww2 (qf c).2.2), .int .u64 (ww1 (qf c).2.2), .int .u64 (ww0 (qf c).2.2), (.slice (some ⟨gs, 0, none⟩) (Lf c) cs)]) (W2 := W) (by rw [l12]; exact H.built13 ow)
     rw [Array.getD_eq_getD_getElem?] at f24 f5
     have hK := fun (v : Value) (W2 : World) hW hT hv (hs : SewD B4 base c o qf Lf Ef sf A off n ca Ab ob mc (lq.setIfInBounds 13 true) (aq.put (some 25) v) W2) => show (JewD B4 base c o qf Lf Ef sf A off n ca Ab ob mc w0 a0) (lq.setIfInBounds 13 true) (aq.put (some 25) v) W2 from ⟨hJ2.put hS 13 25 rfl (by omega) (W' := W2) hW hT v hv, hs⟩
     clear ho hall hl hQ
     generalize (JewD B4 base c o qf Lf Ef sf A off n ca Ab ob mc w0 a0) (lq.setIfInBounds 13 true) = K at hK ⊢
     clear hJ2 hS z1 z2 z3 z4 z6 z7
     clear hs H
     go_simp
     exact hK _ _ z5 (fun _ _ h => h.same) trivial hq
   | 14, ho =>
     cases ho
     refine wpOp_of rfl rfl ?_
     have l13 := hall ⟨13, .data⟩ (by simp) rfl
     have H := hs.2
     rw [getD_tf hl, l13] at H
     have l15 : lq.getD 15 false = false := by cases e15 : lq.getD 15 false with | false => rfl | true => have := H.o3 e15; cases this
     obtain ⟨gs, cs, f25, ow⟩ := H.k25 rfl l15
     have hq := hs.put14 hl (by rw [z2, hz]; decide) (u := .slice (some ⟨W.heap.size, 0, none⟩) 1 1) (W2 := W.alloc (.cells #[.int .u64 (ww3 (qf c).1), .int .u64 (ww2 (qf c).1), .int .u64 (ww1 (qf c).1), .int .u64 (ww0 (qf c).1), .int .u64 (ww3 (qf c).2.1), .int .u64 (ww2 (qf c).2.1), .int .u64 (ww1 (qf c).2.1), .int .u64 (ww0 (qf c).2.1), .int .u64 (ww3 (qf c).2.2), .int .u64 (ww2 (qf c).2.2), .int .u64 (ww1 (qf c).2.2), .int .u64 (ww0 (qf c).2.2), (.slice (some ⟨gs, 0, none⟩) (Lf c) cs)] 81)) (by rw [l13]; exact H.built14 ow)
     have zs := z5.size
     rw [Array.getD_eq_getD_getElem?] at f25
     have hK := fun (v : Value) (W2 : World) hW hT hv (hs : SewD B4 base c o qf Lf Ef sf A off n ca Ab ob mc (lq.setIfInBounds 14 true) (aq.put (some 26) v) W2) => show (JewD B4 base c o qf Lf Ef sf A off n ca Ab ob mc w0 a0) (lq.setIfInBounds 14 true) (aq.put (some 26) v) W2 from ⟨hJ2.put hS 14 26 rfl (by omega) (W' := W2) hW hT v hv, hs⟩
     clear ho hall hl hQ
     generalize (JewD B4 base c o qf Lf Ef sf A off n ca Ab ob mc w0 a0) (lq.setIfInBounds 14 true) = K at hK ⊢
     clear hJ2 hS z1 z2 z3 z4 z6 z7
     clear hs H
     go_simp
     exact hK _ _ (z5.alloc (by omega) _) (fun _ _ h => h.same) trivial hq
   | 15, ho =>
     cases ho
     refine wpOp_of rfl rfl ?_
     have f0 : (aq.tmps.getD 12 undef) = o := z6 0 12 (hall ⟨0, .data⟩ (by simp) rfl) rfl
     have l14 := hall ⟨14, .data⟩ (by simp) rfl
     have H := hs.2
     rw [getD_tf hl, l14] at H
     have evo := H.ev rfl
     obtain ⟨ge, gs, cs, f26, XB, ow⟩ := H.k26 rfl rfl
     have lz16 := hs.off (by decide) hl
     have hq := fun (u : Value) (W2 : World) hn => hs.put15 hl (by rw [z2, hz]; decide) (u := u) (W2 := W2) (by rw [l14]; exact H.app15 lz16 hn)
     have zs := z5.size
     have hK := fun (v : Value) (W2 : World) hW hT hv (hs : SewD B4 base c o qf Lf Ef sf A off n ca Ab ob mc (lq.setIfInBounds 15 true) (aq.put (some 27) v) W2) => show (JewD B4 base c o qf Lf Ef sf A off n ca Ab ob mc w0 a0) (lq.setIfInBounds 15 true) (aq.put (some 27) v) W2 from ⟨hJ2.put hS 15 27 rfl (by omega) (W' := W2) hW hT v hv, hs⟩
     clear ho hall hl hQ
     generalize (JewD B4 base c o qf Lf Ef sf A off n ca Ab ob mc w0 a0) (lq.setIfInBounds 15 true) = K at hK ⊢
     clear hJ2 hS z1 z2 z3 z4 z6 z7
     refine wp_append_at (.tmp 12) (.tmp 26) 44 rfl base 81 i0 (.agg #[.int .u64 0, .int .u64 0, .int .u64 0, .int .u64 0, .int .u64 0, .int .u64 0, .int .u64 0, .int .u64 0, .int .u64 0, .int .u64 0, .int .u64 0, .int .u64 0, .slice none 0 0]) 13 120 Tryz.underlying44 hi hz0 hz1 hz2 rfl (by decide) _ c _ f0 evo.own ⟨ge, 0, none⟩ 1 1 (ev13 (qf c) (.slice (some ⟨gs, 0, none⟩) (Lf c) cs)) f26 rfl (fun j u hj => by rw [Addr.add_lit, Nat.zero_add]; exact XB.c j hj) (ev13_one _ _ _ _) (by unfold maxLen; omega) (by omega) (by omega) ?_
     intro v' w' hown hgrow hob
     exact hK _ _ (z5.grown hgrow (by omega) (fun k hk => (evo.own.lt k hk).1)) (fun _ _ h => h.same) trivial (hq _ _ ⟨_, evo.app _ ow hbB hv hsf hgrow hown hob⟩)
   | 16, ho =>
     cases ho
     refine wpOp_of rfl rfl ?_
     have l15 := hall ⟨15, .data⟩ (by simp) rfl
     have H := hs.2
     rw [getD_tf hl, l15] at H
     have hq := CpI.put16 (u := aq.tmps.getD 27 undef) hl (by rw [z2, hz]; decide) (fun j hj hn => match j, hj, hn with | 0, _, _ => hall ⟨0, .phase⟩ (by simp) rfl | 1, _, _ => hall ⟨1, .phase⟩ (by simp) rfl | 2, _, _ => hall ⟨2, .phase⟩ (by simp) rfl | 3, _, _ => hall ⟨3, .phase⟩ (by simp) rfl | 4, _, _ => hall ⟨4, .phase⟩ (by simp) rfl | 5, _, _ => hall ⟨5, .phase⟩ (by simp) rfl | 6, _, _ => hall ⟨6, .phase⟩ (by simp) rfl | 7, _, _ => hall ⟨7, .phase⟩ (by simp) rfl | 8, _, _ => hall ⟨8, .phase⟩ (by simp) rfl | 9, _, _ => hall ⟨9, .phase⟩ (by simp) rfl | 10, _, _ => hall ⟨10, .phase⟩ (by simp) rfl | 11, _, _ => hall ⟨11, .phase⟩ (by simp) rfl | 12, _, _ => hall ⟨12, .phase⟩ (by simp) rfl | 13, _, _ => hall ⟨13, .phase⟩ (by simp) rfl | 14, _, _ => hall ⟨14, .phase⟩ (by simp) rfl | 15, _, _ => hall ⟨15, .data⟩ (by simp) rfl | 16, _, hn => absurd rfl hn | j + 17, hj, _ => absurd hj (by omega)) (by rw [l15]; exact H.assigned)
     have hK := fun (v : Value) (W2 : World) hW hT hv (hs : SewD B4 base c o qf Lf Ef sf A off n ca Ab ob mc (lq.setIfInBounds 16 true) (aq.put (some 3) v) W2) => show (JewD B4 base c o qf Lf Ef sf A off n ca Ab ob mc w0 a0) (lq.setIfInBounds 16 true) (aq.put (some 3) v) W2 from ⟨hJ2.put hS 16 3 rfl (by omega) (W' := W2) hW hT v hv, hs⟩
     clear ho hall hl hQ
     generalize (JewD B4 base c o qf Lf Ef sf A off n ca Ab ob mc w0 a0) (lq.setIfInBounds 16 true) = K at hK ⊢
     clear hJ2 hS z1 z2 z3 z4 z6 z7
     clear hs H
     rw [Array.getD_eq_getD_getElem?] at hq
     go_simp
     exact hK _ _ z5 (fun _ _ h => h.same) trivial hq
   | iq + 17, ho => simp at ho
 · intro lq aq W ⟨hJ, hs⟩ hr
   obtain ⟨z1, z2, z3, z4, z5, z6, z7⟩ := hJ
   have hl := listed_of hr [0, 1, 2, 3, 4, 5, 6, 7, 8, 9, 10, 11, 12, 13, 14, 15, 16] [] (by simp) (by kernel_rfl) (by rw [z1]; decide)
   exact hQ aq W z2 z3 (fun e he => z4 e (by simpa using he)) (z6 16 3 (hl 16 (by simp)) rfl) z5 (by have h16 := hl 16 (by simp); have h15 := hl 15 (by simp); rw [hs.2.k3b h16]; exact hs.2.k27 h15)
theorem l7Copy_any (ao : Option Addr) (n cap : Nat) (q : Nat → Int × Int × Int) (S : Nat → Option Addr × Nat) (L : Nat → Nat) (E : Nat → Nat → Int) (hn : n ≤ 1048576) (hL : ∀ i, i < n → 0 < L i ∧ L i ≤ 1048576) (w : World) (hS : EvIn w ao n q S L E) : Calls Tryz.prog 35 #[.slice ao n cap] w (fun r w' => ∃ v s, r = .returned v ∧ EvOwn w' w.heap.size v n (wq q) s L E ∧ Below w.heap.size w w') := by
 obtain ⟨i0, hi, hz0, hz1, hz2⟩ := info_ev
 obtain ⟨j0, hj, hj0, hj1, hj2⟩ := info_parts Tryz.infoNo
 have HS : Hid (EvIn w ao n q S L E) := hS
 have HL : Hid (∀ i, i < n → 0 < L i ∧ L i ≤ 1048576) := hL
 clear hS hL
 have hnI : (n : Int) ≤ 1048576 := by omega
 have HM := EvOwn.made w w.heap.size (Nat.le_refl _) (wq q) (fun _ => .slice none 0 0) L E
 have HB0 : Below w.heap.size w (w.alloc (.cells #[] 81)) := (Below.refl _ w).alloc (Nat.le_refl _) _
 go_enter Tryz.func35, Tryz.ntmps35
 go_wp2_with fail
 go_loopw [3, 4] (fun o i wr => ∃ (c : Nat) (s : Nat → Value), c ≤ n ∧ i = .int .i64 c ∧ EvOwn wr w.heap.size o c (wq q) s L E ∧ Below w.heap.size w wr) (fun _ i _ => n - (intOf i).toNat)
 case atStart => exact ⟨0, fun _ => .slice none 0 0, by omega, rfl, HM, HB0⟩
 case round =>
   clear HM HB0
   obtain ⟨c, s, hc, rfl, HO, HB⟩ := hrel
   by_cases hcn : c < n
   · obtain ⟨A, off, rfl, hA, q0, q1, q2, q3, q4, q5, q6, q7, q8, q9, q10, q11, q12, hrow⟩ := HS.out.step HB c hcn
     have hA0 : A < w.heap.size := by obtain ⟨A', off', e, h, _⟩ := HS.out c hcn; cases e; exact h
     obtain ⟨hl0, hl1⟩ := HL.out c hcn
     obtain ⟨Ab, ob, hSb, _⟩ := hrow 0 hl0
     have hAb : Ab < w.heap.size := by obtain ⟨_, _, _, _, _, _, _, _, _, _, _, _, _, _, _, _, _, h⟩ := HS.out c hcn; obtain ⟨A', o', e, h, _⟩ := h 0 hl0; rw [hSb] at e; cases e; exact h
     have hcI : (c : Int) < n := by omega
     rw [hSb] at hrow q12
     go_upto_region 5 with fail
     refine ewD (i0 := i0) (j0 := j0) (B4 := wr.heap.size) (base := w.heap.size) (c := c) (o := u3) (qf := q) (Lf := L) (Ef := E) (sf := s) (A := A) (off := off) (n := n) (ca := cap) (Ab := Ab) (ob := ob) (mc := (S c).2) hi hz0 hz1 hz2 hj hj0 hj1 hj2 hcI (by omega) (Nat.le_refl _) (Nat.le_refl _) HB.size HB.size hl0 hl1 hrow hAb (fun k hk => (HO.own.lt k hk).2) (fun i hi k hk => ((HO.ins i hi).lt k hk).2) rfl ⟨HO.own, HO.ins, HO.d1, HO.d2⟩ rfl rfl q0 hA0 q1 hA0 q2 hA0 q3 hA0 q4 hA0 q5 hA0 q6 hA0 q7 hA0 q8 hA0 q9 hA0 q10 hA0 q11 hA0 q12 hA0 rfl ?_
     rintro ⟨tm, df⟩ Wz hz hdf hoff _ hBz ⟨s2, HN⟩
     simp only at hz hdf hoff
     change EvOwn Wz w.heap.size (tm.getD 3 undef) (c + 1) (wq q) s2 L E at HN
     subst hdf
     generalize h3 : tm.getD 3 undef = o3 at HN
     have htm := tmps_fold [12, 13, 14, 15, 16, 17, 18, 19, 20, 21, 22, 23, 24, 25, 26, 27, 3] tm _ hz hoff
     simp only [List.foldl, List.setIfInBounds_toArray, List.set_cons_zero, List.set_cons_succ, h3] at htm
     clear hz hoff
     generalize tm.getD 12 undef = u0, tm.getD 13 undef = u1, tm.getD 14 undef = u2, tm.getD 15 undef = u3, tm.getD 16 undef = u4, tm.getD 17 undef = u5, tm.getD 18 undef = u6, tm.getD 19 undef = u7, tm.getD 20 undef = u8, tm.getD 21 undef = u9, tm.getD 22 undef = u10, tm.getD 23 undef = u11, tm.getD 24 undef = u12, tm.getD 25 undef = u13, tm.getD 26 undef = u14, tm.getD 27 undef = u15 at htm
     clear h3
     subst htm
     have HBN := HB.trans hBz
     clear q0 q1 q2 q3 q4 q5 q6 q7 q8 q9 q10 q11 q12 hrow HO HB hBz
     go_wp2
     go_roundw
     case rel => exact ⟨c + 1, _, by omega, by go_num, HN, HBN⟩
     case measure => simp [intOf]; omega
   · obtain rfl : c = n := by omega
     go_wp2
     go_ret
     exact ⟨_, s, rfl, HO, HB⟩
def inE (e : Nat → Int) (j : Nat) (x : Int) (tw : Bool) (i : Nat) : Int := if i < j then e i else if i = j then x else if tw = true then e i else e (i - 1)
def inM (m : Nat) (tw : Bool) : Nat := if tw = true then m else m + 1
def inC (j : Nat) (tw : Bool) (c : Nat) : Nat := if c ≤ j then c else if tw = true then c else c + 1
theorem noL_more (k : Nat) (f : Nat → Int) : noL (k + 1) f = noL k f ++ [.int .i64 (f k)] := by simp [noL, List.range_succ]
theorem noL_app {w : World} {base : Nat} {v : Value} {k k2 : Nat} {f : Nat → Int} {x : Int} (h : w.ownsRow base 2 1 v (k + 1) (noL k f ++ [.int .i64 x])) (hx : f k = x) (hk : k2 = k + 1) : w.ownsRow base 2 1 v k2 (noL k2 f) := by
 subst hk
 rw [noL_more, hx]
 exact h
theorem one_cellI (x : Int) : ∀ u ∈ [Value.int .i64 x], u.oneCell' = true := by
 intro u hu
 simp only [List.mem_singleton] at hu
 subst hu
 rfl
theorem l7With_any (ao : Option Addr) (m cap j : Nat) (e : Nat → Int) (x : Int) (tw : Bool) (hm : m ≤ 1048576) (hj : j ≤ m) (hlo : ∀ i, i < j → e i < x) (htw : tw = true → j < m ∧ e j = x) (hnt : tw = false → j < m → x < e j) (hhi : ∀ i, j < i → i < m → x < e i) (w : World) (hS : NoIn w ao m e) : Calls Tryz.prog 37 #[.slice ao m cap, .int .i64 x] w (fun r w' => ∃ v, r = .returned v ∧ w'.ownsRow w.heap.size 2 1 v (inM m tw) (noL (inM m tw) (inE e j x tw)) ∧ Below w.heap.size w w') := by
 obtain ⟨i0, hi, hz0, hz1, hz2⟩ := info_parts Tryz.infoNo
 have HS : Hid (NoIn w ao m e) := hS
 have HX : Hid ((∀ i, i < j → e i < x) ∧ (tw = true → j < m ∧ e j = x) ∧ (tw = false → j < m → x < e j) ∧ (∀ i, j < i → i < m → x < e i)) := ⟨hlo, htw, hnt, hhi⟩
 clear hS hlo htw hnt hhi
 have hmI : (m : Int) ≤ 1048576 := by omega
 have HM : (w.alloc (.cells #[] 2)).ownsRow w.heap.size 2 1 (.slice (some ⟨w.heap.size, 0, none⟩) 0 0) 0 [] := World.ownsRow_made w #[] 0 (Nat.le_refl _) (by decide) rfl
 have HB0 : Below w.heap.size w (w.alloc (.cells #[] 2)) := (Below.refl _ w).alloc (Nat.le_refl _) _
 go_enter Tryz.func37, Tryz.ntmps37
 go_wp2_with fail
 go_loopw [5, 6, 7] (fun o d i wr => ∃ c : Nat, c ≤ m ∧ i = .int .i64 c ∧ d = .bool (decide (j < c)) ∧ wr.ownsRow w.heap.size 2 1 o (inC j tw c) (noL (inC j tw c) (inE e j x tw)) ∧ Below w.heap.size w wr) (fun _ _ i _ => m - (intOf i).toNat)
 case atStart => exact ⟨0, by omega, rfl, by simp, by unfold inC; rw [if_pos (by omega)]; exact HM, HB0⟩
 case round =>
   clear HM HB0
   obtain ⟨c, hc, rfl, rfl, HO, HB⟩ := hrel
   by_cases hcm : c < m
   · obtain ⟨A, off, rfl, hA, hcell⟩ := HS.out.step HB c hcm
     have hcI : (c : Int) < m := by omega
     rcases Nat.lt_trichotomy c j with h1 | h1 | h1
     · have hd : decide (j < c) = false := decide_eq_false (by omega)
       have hx : e c < x := HX.out.1 c h1
       have hne : ¬ (e c = x) := by omega
       have hcn : inC j tw c = c := by unfold inC; rw [if_pos (by omega)]
       rw [hd]
       rw [hcn] at HO
       clear hd hcn
       go_wp2_with (at_builtin; refine wpList_append_own _ rfl _ _ 29 rfl w.heap.size 2 i0 (.int .i64 0) 1 8 Tryz.underlying29 hi hz0 hz1 hz2 rfl (by decide) _ _ _ rfl (ownA_step HO ((Below.refl _ _).alloc (Nat.le_refl _) _)) ⟨wr.heap.size, 0, none⟩ 1 1 [.int .i64 (e c)] rfl rfl (cell_one_new _ _ _) (one_cellI _) (by unfold maxLen; omega) (by omega) (by have := HB.size; simp; omega) ?_)
       intro v1 w1 hown1 hgrow1 _
       have HBN : Below w.heap.size w w1 := (HB.alloc HB.size _).grown hgrow1 (by have := HB.size; simp; omega) (fun k hk => (HO.lt k hk).1)
       have HN := noL_app (k2 := inC j tw (c + 1)) hown1 (by unfold inE; rw [if_pos h1]) (by unfold inC; rw [if_pos (by omega)])
       clear HO HB hown1 hgrow1 hcell hx hne
       go_wp2
       go_roundw
       case rel => exact ⟨c + 1, by omega, by go_num, congrArg Value.bool (decide_eq_false (by omega)).symm, HN, HBN⟩
       case measure => simp [intOf]; omega
     · subst h1
       have hd : decide (c < c) = false := decide_eq_false (by omega)
       have hcn : inC c tw c = c := by unfold inC; rw [if_pos (by omega)]
       rw [hd]
       rw [hcn] at HO
       clear hd hcn
       cases tw with
       | true =>
         have hx : e c = x := (HX.out.2.1 rfl).2
         subst hx
         go_wp2_with (at_builtin; refine wpList_append_own _ rfl _ _ 29 rfl w.heap.size 2 i0 (.int .i64 0) 1 8 Tryz.underlying29 hi hz0 hz1 hz2 rfl (by decide) _ _ _ rfl (ownA_step HO ((Below.refl _ _).alloc (Nat.le_refl _) _)) ⟨wr.heap.size, 0, none⟩ 1 1 [.int .i64 (e c)] rfl rfl (cell_one_new _ _ _) (one_cellI _) (by unfold maxLen; omega) (by omega) (by have := HB.size; simp; omega) ?_)
         intro v1 w1 hown1 hgrow1 _
         have HBN : Below w.heap.size w w1 := (HB.alloc HB.size _).grown hgrow1 (by have := HB.size; simp; omega) (fun k hk => (HO.lt k hk).1)
         have HN := noL_app (k2 := inC c true (c + 1)) hown1 (by unfold inE; rw [if_neg (by omega), if_pos rfl]) (by unfold inC; rw [if_neg (by omega), if_pos rfl])
         clear HO HB hown1 hgrow1
         have hcell1 : w1.cell? ⟨A, off + c, none⟩ = some (.int .i64 (e c)) := by
           obtain ⟨A', off', e', _, hc'⟩ := HS.out.step HBN c hcm
           cases e'
           exact hc'
         clear hcell
         go_wp2
         go_roundw
         case rel => exact ⟨c + 1, by omega, by go_num, congrArg Value.bool (decide_eq_true (by omega)).symm, HN, HBN⟩
         case measure => simp [intOf]; omega
       | false =>
         have hx : x < e c := HX.out.2.2.1 rfl hcm
         have hne : ¬ (e c = x) := by omega
         go_wp2_with (at_builtin; refine wpList_append_own _ rfl _ _ 29 rfl w.heap.size 2 i0 (.int .i64 0) 1 8 Tryz.underlying29 hi hz0 hz1 hz2 rfl (by decide) _ _ _ rfl (ownA_step HO ((Below.refl _ _).alloc (Nat.le_refl _) _)) ⟨wr.heap.size, 0, none⟩ 1 1 [.int .i64 (x)] rfl rfl (cell_one_new _ _ _) (one_cellI _) (by unfold maxLen; omega) (by omega) (by have := HB.size; simp; omega) ?_)
         intro v1 w1 hown1 hgrow1 _
         have HBN : Below w.heap.size w w1 := (HB.alloc HB.size _).grown hgrow1 (by have := HB.size; simp; omega) (fun k hk => (HO.lt k hk).1)
         have HN := noL_app (k2 := c + 1) hown1 (by unfold inE; rw [if_neg (by omega), if_pos rfl]) rfl
         clear HO HB hown1 hgrow1
         have hcell1 : w1.cell? ⟨A, off + c, none⟩ = some (.int .i64 (e c)) := by
           obtain ⟨A', off', e', _, hc'⟩ := HS.out.step HBN c hcm
           cases e'
           exact hc'
         clear hcell
         go_wp2_with (at_builtin; refine wpList_append_own _ rfl _ _ 29 rfl w.heap.size 2 i0 (.int .i64 0) 1 8 Tryz.underlying29 hi hz0 hz1 hz2 rfl (by decide) _ _ _ rfl (ownA_step HN ((Below.refl _ _).alloc (Nat.le_refl _) _)) ⟨w1.heap.size, 0, none⟩ 1 1 [.int .i64 (e c)] rfl rfl (cell_one_new _ _ _) (one_cellI _) (by unfold maxLen; omega) (by omega) (by have := HBN.size; simp; omega) ?_)
         intro v2 w2 hown2 hgrow2 _
         have HBN2 : Below w.heap.size w w2 := (HBN.alloc HBN.size _).grown hgrow2 (by have := HBN.size; simp; omega) (fun k hk => (HN.lt k hk).1)
         have HN2 := noL_app (k2 := inC c false (c + 1)) hown2 (by unfold inE; rw [if_neg (by omega), if_neg (by omega), if_neg (by simp), Nat.add_sub_cancel]) (by unfold inC; rw [if_neg (by omega), if_neg (by simp)])
         clear HN HBN hown2 hgrow2 hcell1 hx hne
         go_wp2
         go_roundw
         case rel => exact ⟨c + 1, by omega, by go_num, congrArg Value.bool (decide_eq_true (by omega)).symm, HN2, HBN2⟩
         case measure => simp [intOf]; omega
     · have hd : decide (j < c) = true := decide_eq_true h1
       have hx : x < e c := HX.out.2.2.2 c h1 hcm
       have hne : ¬ (e c = x) := by omega
       have hcl : inC j tw c ≤ c + 1 := by unfold inC; split; omega; split <;> omega
       rw [hd]
       clear hd
       obtain ⟨k, hk⟩ : ∃ k, inC j tw c = k := ⟨_, rfl⟩
       rw [hk] at HO hcl
       have HK : Hid (inC j tw c = k) := hk
       clear hk
       go_wp2_with (at_builtin; refine wpList_append_own _ rfl _ _ 29 rfl w.heap.size 2 i0 (.int .i64 0) 1 8 Tryz.underlying29 hi hz0 hz1 hz2 rfl (by decide) _ _ _ rfl (ownA_step HO ((Below.refl _ _).alloc (Nat.le_refl _) _)) ⟨wr.heap.size, 0, none⟩ 1 1 [.int .i64 (e c)] rfl rfl (cell_one_new _ _ _) (one_cellI _) (by unfold maxLen; omega) (by omega) (by have := HB.size; simp; omega) ?_)
       intro v1 w1 hown1 hgrow1 _
       have HBN : Below w.heap.size w w1 := (HB.alloc HB.size _).grown hgrow1 (by have := HB.size; simp; omega) (fun k hk => (HO.lt k hk).1)
       have HN := noL_app (k2 := inC j tw (c + 1)) hown1 (by
         have := HK.out
         unfold inC at this
         rw [if_neg (by omega)] at this
         unfold inE
         cases tw with
         | true => simp only [if_true] at this; subst this; rw [if_neg (by omega), if_neg (by omega), if_pos rfl]
         | false => simp only [Bool.false_eq_true, if_false] at this; subst this; rw [if_neg (by omega), if_neg (by omega), if_neg (by simp), Nat.add_sub_cancel]) (by
         have := HK.out
         unfold inC at this ⊢
         rw [if_neg (by omega)] at this ⊢
         split at this <;> simp_all)
       clear HO HB hown1 hgrow1 hcell hx hne hcl
       go_wp2
       go_roundw
       case rel => exact ⟨c + 1, by omega, by go_num, congrArg Value.bool (decide_eq_true (by omega)).symm, HN, HBN⟩
       case measure => simp [intOf]; omega
   · obtain rfl : c = m := by omega
     by_cases hjm : j < c
     · have hd : decide (j < c) = true := decide_eq_true hjm
       have hcn : inC j tw c = inM c tw := by unfold inC inM; rw [if_neg (by omega)]
       rw [hd]
       rw [hcn] at HO
       clear hd
       go_wp2
       go_ret
       exact ⟨_, rfl, HO, HB⟩
     · obtain rfl : j = c := by omega
       have hd : decide (j < j) = false := decide_eq_false (by omega)
       have htf : tw = false := by cases tw with | false => rfl | true => have := (HX.out.2.1 rfl).1; omega
       subst htf
       have hcn : inC j false j = j := by unfold inC; rw [if_pos (by omega)]
       rw [hd]
       rw [hcn] at HO
       clear hd hcn
       go_wp2_with (at_builtin; refine wpList_append_own _ rfl _ _ 29 rfl w.heap.size 2 i0 (.int .i64 0) 1 8 Tryz.underlying29 hi hz0 hz1 hz2 rfl (by decide) _ _ _ rfl (ownA_step HO ((Below.refl _ _).alloc (Nat.le_refl _) _)) ⟨wr.heap.size, 0, none⟩ 1 1 [.int .i64 (x)] rfl rfl (cell_one_new _ _ _) (one_cellI _) (by unfold maxLen; omega) (by omega) (by have := HB.size; simp; omega) ?_)
       intro v1 w1 hown1 hgrow1 _
       have HBN : Below w.heap.size w w1 := (HB.alloc HB.size _).grown hgrow1 (by have := HB.size; simp; omega) (fun k hk => (HO.lt k hk).1)
       have HN := noL_app (k2 := inM j false) hown1 (by unfold inE; rw [if_neg (by omega), if_pos rfl]) rfl
       clear HO HB hown1 hgrow1
       go_wp2
       go_ret
       exact ⟨_, rfl, HN, HBN⟩
theorem cmpI_zero {a b : Int} : cmpI a b = 0 ↔ a = b := by
 unfold cmpI
 split
 · constructor <;> intro h <;> omega
 · split
   · constructor <;> intro h <;> omega
   · constructor <;> intro h <;> omega
theorem ptB_gcd {x y z : Int} (h : ptB x y z = true) : 0 < z ∧ Int.gcd (Int.gcd x y) z = 1 := by
 unfold ptB at h
 simp at h
 exact ⟨h.1.1, h.2⟩
theorem dvd3 {x y z t : Int} (hg : Int.gcd (Int.gcd x y) z = 1) {d : Int} (h1 : d ∣ x * t) (h2 : d ∣ y * t) (h3 : d ∣ z * t) : d ∣ t := by
 have e1 : (Int.gcd (x * t) (y * t) : Int) = Int.gcd x y * (t.natAbs : Int) := by rw [Int.gcd_mul_right]; simp
 have d1 : d ∣ (Int.gcd (x * t) (y * t) : Int) := Int.dvd_coe_gcd h1 h2
 rw [e1] at d1
 have d2 : d ∣ z * (t.natAbs : Int) := by
   rcases Int.natAbs_eq t with h | h
   · rw [← h]; exact h3
   · have e : (t.natAbs : Int) = -t := by omega
     rw [e, Int.mul_neg]; exact Int.dvd_neg.2 h3
 have d3 := Int.dvd_coe_gcd d1 d2
 rw [Int.gcd_mul_right, hg] at d3
 exact Int.dvd_natAbs.1 (by simpa using d3)
theorem ord_zero {x y z u v t : Int} (h1 : ptB x y z = true) (h2 : ptB u v t = true) : ordI x y z u v t = 0 ↔ x = u ∧ y = v ∧ z = t := by
 obtain ⟨pz, g1⟩ := ptB_gcd h1
 obtain ⟨pt, g2⟩ := ptB_gcd h2
 constructor
 · intro h
   unfold ordI at h
   by_cases hc : cmpI (x * t) (u * z) = 0
   · rw [if_pos hc] at h
     have e1 := cmpI_zero.1 hc
     have e2 := cmpI_zero.1 h
     have d1 : z ∣ t := dvd3 g1 (by rw [e1]; exact Int.dvd_mul_left _ _) (by rw [e2]; exact Int.dvd_mul_left _ _) (Int.dvd_mul_right _ _)
     have d2 : t ∣ z := dvd3 g2 (by rw [← e1]; exact Int.dvd_mul_left _ _) (by rw [← e2]; exact Int.dvd_mul_left _ _) (Int.dvd_mul_right _ _)
     have l1 := Int.le_of_dvd pt d1
     have l2 := Int.le_of_dvd pz d2
     have ez : z = t := by omega
     subst ez
     exact ⟨Int.eq_of_mul_eq_mul_right (by omega) e1, Int.eq_of_mul_eq_mul_right (by omega) e2, rfl⟩
   · rw [if_neg hc] at h
     exact absurd h hc
 · rintro ⟨rfl, rfl, rfl⟩
   unfold ordI
   rw [if_pos (cmpI_zero.2 rfl)]
   exact cmpI_zero.2 rfl
theorem frac_trans {x z a c u t : Int} (hz : 0 < z) (ht : 0 < t) (hc : 0 < c) (h1 : x * c ≤ a * z) (h2 : a * t ≤ u * c) : x * t ≤ u * z ∧ (x * c < a * z ∨ a * t < u * c → x * t < u * z) := by
 have e1 : x * c * t ≤ a * z * t := Int.mul_le_mul_of_nonneg_right h1 (by omega)
 have e2 : a * t * z ≤ u * c * z := Int.mul_le_mul_of_nonneg_right h2 (by omega)
 have r1 : x * c * t = x * t * c := Int.mul_right_comm x c t
 have r2 : a * z * t = a * t * z := Int.mul_right_comm a z t
 have r3 : u * c * z = u * z * c := Int.mul_right_comm u c z
 refine ⟨Int.le_of_mul_le_mul_right (show x * t * c ≤ u * z * c by omega) hc, ?_⟩
 rintro (h | h)
 · have e3 : x * c * t < a * z * t := Int.mul_lt_mul_of_pos_right h ht
   exact Int.lt_of_mul_lt_mul_right (show x * t * c < u * z * c by omega) (by omega)
 · have e3 : a * t * z < u * c * z := Int.mul_lt_mul_of_pos_right h hz
   exact Int.lt_of_mul_lt_mul_right (show x * t * c < u * z * c by omega) (by omega)
theorem cmpI_val (a b : Int) : (a < b ∧ cmpI a b = -1) ∨ (a = b ∧ cmpI a b = 0) ∨ (b < a ∧ cmpI a b = 1) := by
 rcases Int.lt_trichotomy a b with h | h | h
 · exact .inl ⟨h, cmpI_lt h⟩
 · exact .inr (.inl ⟨h, cmpI_eq h⟩)
 · exact .inr (.inr ⟨h, cmpI_gt h⟩)
theorem ord_le (x y z u v t : Int) : ordI x y z u v t ≤ 0 ↔ x * t < u * z ∨ (x * t = u * z ∧ y * t ≤ v * z) := by
 unfold ordI
 rcases cmpI_val (x * t) (u * z) with ⟨h, e⟩ | ⟨h, e⟩ | ⟨h, e⟩ <;> rcases cmpI_val (y * t) (v * z) with ⟨h', e'⟩ | ⟨h', e'⟩ | ⟨h', e'⟩ <;> rw [e] <;> simp [e'] <;> omega
theorem ord_in (x y z u v t : Int) : ordI x y z u v t = -1 ∨ ordI x y z u v t = 0 ∨ ordI x y z u v t = 1 := by
 unfold ordI
 rcases cmpI_val (x * t) (u * z) with ⟨h, e⟩ | ⟨h, e⟩ | ⟨h, e⟩ <;> rcases cmpI_val (y * t) (v * z) with ⟨h', e'⟩ | ⟨h', e'⟩ | ⟨h', e'⟩ <;> rw [e] <;> simp [e']
theorem cmp_turned (a b : Int) : cmpI b a = -cmpI a b := by
 rcases Int.lt_trichotomy a b with h | h | h
 · rw [cmpI_lt h, cmpI_gt h]; rfl
 · rw [cmpI_eq h, cmpI_eq h.symm]; rfl
 · rw [cmpI_gt h, cmpI_lt h]
theorem ord_turned (x y z u v t : Int) : ordI u v t x y z = -ordI x y z u v t := by
 unfold ordI
 rw [cmp_turned (x * t) (u * z), cmp_turned (y * t) (v * z)]
 split <;> split <;> omega
theorem ord_trans {x y z u v t a b c : Int} (hz : 0 < z) (ht : 0 < t) (hc : 0 < c) (h1 : ordI x y z a b c ≤ 0) (h2 : ordI a b c u v t ≤ 0) : ordI x y z u v t ≤ 0 := by
 rw [ord_le] at *
 have f := frac_trans (x := x) (z := z) (a := a) (c := c) (u := u) (t := t) hz ht hc (by omega) (by omega)
 rcases Int.lt_or_eq_of_le f.1 with h | h
 · exact .inl h
 · right
   have n1 : ¬ (x * c < a * z ∨ a * t < u * c) := fun k => by have := f.2 k; omega
   have g := frac_trans (x := y) (z := z) (a := b) (c := c) (u := v) (t := t) hz ht hc (by omega) (by omega)
   exact ⟨h, g.1⟩
theorem ownE_set {w : World} {base g n cap : Nat} {e : TypeId} {size : Nat} {xs : List Value} (h : w.ownsRow base e size (.slice (some ⟨g, 0, none⟩) n cap) n xs) (j : Nat) (u : Value) : (w.setCell ⟨g, j, none⟩ u).ownsRow base e size (.slice (some ⟨g, 0, none⟩) n cap) n (xs.set j u) := by
 refine ⟨by rw [List.length_set]; exact h.1, ?_⟩
 rcases h.2 with ⟨h', _⟩ | ⟨g', cap', cur, h', hb, hg, h1, h2, h3, h4⟩
 · cases h'
 · cases h'
   refine .inr ⟨g, cap, cur.setIfInBounds j u, rfl, hb, ?_, h1, h2, by simpa using h3, ?_⟩
   · simp [World.setCell, Array.getElem?_modify, hg]
   · rw [← h4]
     simp [List.take_set]
def insF {α : Type} (j : Nat) (f : Nat → α) (a : α) (i : Nat) : α := if i < j then f i else if i = j then a else f (i - 1)
def setF {α : Type} (f : Nat → α) (j : Nat) (a : α) (i : Nat) : α := if i = j then a else f i
theorem insF_lo {α : Type} {j : Nat} {f : Nat → α} {a : α} {i : Nat} (h : i < j) : insF j f a i = f i := if_pos h
theorem insF_at {α : Type} {j : Nat} {f : Nat → α} {a : α} : insF j f a j = a := by unfold insF; rw [if_neg (by omega), if_pos rfl]
theorem insF_hi {α : Type} {j : Nat} {f : Nat → α} {a : α} {i : Nat} (h : j < i) : insF j f a i = f (i - 1) := by unfold insF; rw [if_neg (by omega), if_neg (by omega)]
theorem setF_at {α : Type} {j : Nat} {f : Nat → α} {a : α} : setF f j a j = a := if_pos rfl
theorem setF_ne {α : Type} {j : Nat} {f : Nat → α} {a : α} {i : Nat} (h : i ≠ j) : setF f j a i = f i := if_neg h
def ordP (a b : Int × Int × Int) : Int := ordI a.1 a.2.1 a.2.2 b.1 b.2.1 b.2.2
theorem first_ex (P : Nat → Prop) : ∀ n, ∃ j, j ≤ n ∧ (∀ i, i < j → P i) ∧ (j < n → ¬ P j)
 | 0 => ⟨0, Nat.le_refl _, fun _ h => absurd h (by omega), fun h => absurd h (by omega)⟩
 | n + 1 => by
   obtain ⟨j, h1, h2, h3⟩ := first_ex P n
   by_cases e : j < n
   · exact ⟨j, by omega, h2, fun _ => h3 e⟩
   · obtain rfl : j = n := by omega
     by_cases hp : P j
     · exact ⟨j + 1, by omega, fun i hi => by
         by_cases e2 : i = j
         · subst e2; exact hp
         · exact h2 i (by omega), fun h => absurd h (by omega)⟩
     · exact ⟨j, by omega, h2, fun _ => hp⟩
structure NumAt (m : Nat) (e : Nat → Int) (x : Int) (j : Nat) (tw : Bool) : Prop where
 le : j ≤ m
 lo : ∀ i, i < j → e i < x
 t1 : tw = true → j < m ∧ e j = x
 t0 : tw = false → j < m → x < e j
 hi : ∀ i, j < i → i < m → x < e i
theorem endB_rise {m : Nat} {e : Nat → Int} (h : endB m e = true) : ∀ d i, i + d + 1 < m → e i < e (i + d + 1)
 | 0, i, hi => by
   have h1 := of_decide_eq_true (of_decide_eq_true h (i + 1) (by omega))
   exact h1.2 (by omega)
 | d + 1, i, hi => by
   have h1 := of_decide_eq_true (of_decide_eq_true h (i + (d + 1) + 1) (by omega))
   have h2 := h1.2 (by omega)
   have h3 := endB_rise h d i (by omega)
   rw [Nat.add_sub_cancel, ← Nat.add_assoc] at h2
   exact Int.lt_trans h3 h2
theorem numAt_ex {m : Nat} {e : Nat → Int} (h : endB m e = true) (x : Int) : ∃ j tw, NumAt m e x j tw := by
 obtain ⟨j, h1, h2, h3⟩ := first_ex (fun i => e i < x) m
 refine ⟨j, decide (j < m ∧ e j = x), h1, h2, fun t => of_decide_eq_true t, fun t hj => ?_, fun i hi him => ?_⟩
 · have t2 := of_decide_eq_false t
   have := h3 hj
   have t3 : ¬ e j = x := fun e2 => t2 ⟨hj, e2⟩
   omega
 · have := h3 (by omega)
   have r := endB_rise h (i - j - 1) j (by omega)
   rw [show j + (i - j - 1) + 1 = i by omega] at r
   omega
structure PutAt (n : Nat) (q : Nat → Int × Int × Int) (p : Int × Int × Int) (j : Nat) (th : Bool) : Prop where
 le : j ≤ n
 lo : ∀ i, i < j → ordP (q i) p < 0
 hi : ∀ i, j ≤ i → i < n → 0 ≤ ordP (q i) p
 t1 : th = true → j < n ∧ q j = p
 t0 : th = false → j < n → 0 < ordP (q j) p ∧ q j ≠ p
theorem evB_pt {n : Nat} {q : Nat → Int × Int × Int} {L : Nat → Nat} {E : Nat → Nat → Int} (h : evB n q L E = true) {i : Nat} (hi : i < n) : ptB (q i).1 (q i).2.1 (q i).2.2 = true := (of_decide_eq_true ((of_decide_eq_true h).2 i hi).1).1
theorem evB_end {n : Nat} {q : Nat → Int × Int × Int} {L : Nat → Nat} {E : Nat → Nat → Int} (h : evB n q L E = true) {i : Nat} (hi : i < n) : endB (L i) (E i) = true := ((of_decide_eq_true h).2 i hi).2
theorem evB_next {n : Nat} {q : Nat → Int × Int × Int} {L : Nat → Nat} {E : Nat → Nat → Int} (h : evB n q L E = true) {i : Nat} (hi : i + 1 < n) : ordP (q i) (q (i + 1)) < 0 := (of_decide_eq_true ((of_decide_eq_true h).2 (i + 1) hi).1).2.2 (by omega)
theorem ordP_lt {a b c : Int × Int × Int} (ha : 0 < a.2.2) (hb : 0 < b.2.2) (hc : 0 < c.2.2) (h1 : ordP a b < 0) (h2 : ordP b c < 0) : ordP a c < 0 := by
 unfold ordP at *
 have t1 := ord_trans (x := a.1) (y := a.2.1) ha hc hb (by omega) (show ordI b.1 b.2.1 b.2.2 c.1 c.2.1 c.2.2 ≤ 0 by omega)
 rcases ord_in a.1 a.2.1 a.2.2 c.1 c.2.1 c.2.2 with h | h | h
 · omega
 · have h3 : ordI c.1 c.2.1 c.2.2 a.1 a.2.1 a.2.2 ≤ 0 := by rw [ord_turned]; omega
   have t2 := ord_trans (x := c.1) (y := c.2.1) hc hb ha h3 (show ordI a.1 a.2.1 a.2.2 b.1 b.2.1 b.2.2 ≤ 0 by omega)
   rw [ord_turned b.1 b.2.1 b.2.2 c.1 c.2.1 c.2.2] at t2
   omega
 · omega
theorem evB_rise {n : Nat} {q : Nat → Int × Int × Int} {L : Nat → Nat} {E : Nat → Nat → Int} (h : evB n q L E = true) : ∀ d i, i + d + 1 < n → ordP (q i) (q (i + d + 1)) < 0
 | 0, _, hi => evB_next h hi
 | d + 1, i, hi => ordP_lt (ptB_small (evB_pt h (show i < n by omega))).1 (ptB_small (evB_pt h (show i + d + 1 < n by omega))).1 (ptB_small (evB_pt h hi)).1 (evB_rise h d i (by omega)) (evB_next h (i := i + d + 1) (by omega))
theorem putAt_ex {n : Nat} {q : Nat → Int × Int × Int} {L : Nat → Nat} {E : Nat → Nat → Int} (h : evB n q L E = true) {p : Int × Int × Int} (hp : ptB p.1 p.2.1 p.2.2 = true) : ∃ j th, PutAt n q p j th := by
 obtain ⟨j, h1, h2, h3⟩ := first_ex (fun i => ordP (q i) p < 0) n
 have hz := fun (hj : j < n) => ord_zero (evB_pt h hj) hp
 refine ⟨j, decide (j < n ∧ q j = p), h1, h2, fun i hji hi => ?_, fun t => of_decide_eq_true t, fun t hj => ?_⟩
 · have := h3 (by omega)
   rcases Nat.eq_or_lt_of_le hji with e | e
   · subst e; omega
   · refine Int.not_lt.1 fun hlt => ?_
     have r := evB_rise h (i - j - 1) j (by omega)
     rw [show j + (i - j - 1) + 1 = i by omega] at r
     have := ordP_lt (ptB_small (evB_pt h (show j < n by omega))).1 (ptB_small (evB_pt h hi)).1 (ptB_small hp).1 r hlt
     omega
 · have t2 := of_decide_eq_false t
   have t3 : q j ≠ p := fun e2 => t2 ⟨hj, e2⟩
   refine ⟨?_, t3⟩
   have := h3 hj
   have t4 : ordP (q j) p ≠ 0 := fun e0 => t3 (by
     have := (hz hj).1 e0
     exact Prod.ext this.1 (Prod.ext this.2.1 this.2.2))
   omega
theorem ev13_at (p : Int × Int × Int) (u : Value) {k : Nat} (hk : k < 12) : (ev13 p u)[k]? = some (.int .u64 (w12 p k)) := by
 rcases (show k = 0 ∨ k = 1 ∨ k = 2 ∨ k = 3 ∨ k = 4 ∨ k = 5 ∨ k = 6 ∨ k = 7 ∨ k = 8 ∨ k = 9 ∨ k = 10 ∨ k = 11 by omega) with h | h | h | h | h | h | h | h | h | h | h | h <;> subst h <;> rfl
theorem evCs_ins {n j : Nat} (hj : j ≤ n) (q : Nat → Int × Int × Int) (s : Nat → Value) (p : Int × Int × Int) (u : Value) : evCs (n + 1) (wq (insF j q p)) (insF j s u) = (evCs n (wq q) s).take (j * 13) ++ ev13 p u ++ (evCs n (wq q) s).drop (j * 13) := by
 have l1 : ((evCs n (wq q) s).take (j * 13)).length = j * 13 := by rw [List.length_take, evCs_len]; omega
 have l2 : (ev13 p u).length = 13 := rfl
 apply List.ext_getElem?
 intro k
 by_cases h : k < j * 13
 · rw [List.append_assoc, List.getElem?_append_left (by omega), List.getElem?_take_of_lt h, evCs_at (by omega), evCs_at (by omega)]
   unfold evC wq
   rw [insF_lo (show k / 13 < j by omega), insF_lo (show k / 13 < j by omega)]
 · by_cases h2 : k < j * 13 + 13
   · rw [List.append_assoc, List.getElem?_append_right (by omega), List.getElem?_append_left (by omega), evCs_at (by omega), l1]
     obtain ⟨i, rfl⟩ : ∃ i, k = j * 13 + i := ⟨k - j * 13, by omega⟩
     rw [Nat.add_sub_cancel_left]
     by_cases e : i = 12
     · subst e
       rw [evC_12, insF_at]
       rfl
     · rw [evC_at _ _ _ _ (by omega), wq_at _ _ _ (by omega), insF_at, ev13_at _ _ (by omega)]
   · rw [List.getElem?_append_right (by simp only [List.length_append]; omega), List.getElem?_drop, List.length_append, l1, l2]
     by_cases h3 : k < (n + 1) * 13
     · rw [evCs_at h3, evCs_at (by omega)]
       unfold evC wq
       rw [insF_hi (show j < k / 13 by omega), insF_hi (show j < k / 13 by omega), show (j * 13 + (k - (j * 13 + 13))) % 13 = k % 13 by omega, show (j * 13 + (k - (j * 13 + 13))) / 13 = k / 13 - 1 by omega]
     · rw [List.getElem?_eq_none (by rw [evCs_len]; omega), List.getElem?_eq_none (by rw [evCs_len]; omega)]
theorem evCs_set {n j : Nat} (x : Nat → Int) (s : Nat → Value) (u : Value) : (evCs n x s).set (j * 13 + 12) u = evCs n x (setS s j u) := by
 apply List.ext_getElem?
 intro k
 by_cases h : k < n * 13
 · by_cases e : k = j * 13 + 12
   · subst e
     rw [List.getElem?_set_self (by rw [evCs_len]; exact h), evCs_at h, evC_12]
     simp [setS]
   · rw [List.getElem?_set_ne (by omega), evCs_at h, evCs_at h]
     unfold evC setS
     by_cases e2 : k % 13 = 12
     · rw [if_pos e2, if_pos e2, if_neg (show ¬ k / 13 = j by omega)]
     · rw [if_neg e2, if_neg e2]
 · rw [List.getElem?_eq_none (by rw [List.length_set, evCs_len]; omega), List.getElem?_eq_none (by rw [evCs_len]; omega)]
theorem EvOwn.ins_ {w w' : World} {base : Nat} {v v' : Value} {n j : Nat} {q : Nat → Int × Int × Int} {s : Nat → Value} {L : Nat → Nat} {E : Nat → Nat → Int} {p : Int × Int × Int} {u : Value} {e : Nat → Int} {m : Nat} (h : EvOwn w base v n (wq q) s L E) (hj : j ≤ n)
   (hu : w'.ownsRow base 2 1 u m (noL m e)) (hk : ∀ i, i < n → w'.ownsRow base 2 1 (s i) (L i) (noL (L i) (E i)))
   (hn : w'.ownsRow base 81 13 v' (n + 1) ((evCs n (wq q) s).take (j * 13) ++ ev13 p u ++ (evCs n (wq q) s).drop (j * 13)))
   (dv : ∀ i, i < n → ∀ k, (s i).ownBlock = some k → v'.ownBlock ≠ some k) (du : ∀ k, u.ownBlock = some k → v'.ownBlock ≠ some k ∧ ∀ i, i < n → (s i).ownBlock ≠ some k) : EvOwn w' base v' (n + 1) (wq (insF j q p)) (insF j s u) (insF j L m) (insF j E e) := by
 refine ⟨by rw [evCs_ins hj]; exact hn, fun i hi => ?_, fun i hi k hk' => ?_, fun i i2 hi hi2 hne k hk' => ?_⟩
 · rcases Nat.lt_trichotomy i j with c | c | c
   · rw [insF_lo c, insF_lo c, insF_lo c]; exact hk i (by omega)
   · subst c; rw [insF_at, insF_at, insF_at]; exact hu
   · rw [insF_hi c, insF_hi c, insF_hi c]; exact hk (i - 1) (by omega)
 · rcases Nat.lt_trichotomy i j with c | c | c
   · rw [insF_lo c] at hk'; exact dv i (by omega) k hk'
   · subst c; rw [insF_at] at hk'; exact (du k hk').1
   · rw [insF_hi c] at hk'; exact dv (i - 1) (by omega) k hk'
 · rcases Nat.lt_trichotomy i j with c | c | c
   · rw [insF_lo c] at hk'
     rcases Nat.lt_trichotomy i2 j with d | d | d
     · rw [insF_lo d]; exact h.d2 i i2 (by omega) (by omega) hne k hk'
     · subst d; rw [insF_at]; exact fun e => (du k e).2 i (by omega) hk'
     · rw [insF_hi d]; exact h.d2 i (i2 - 1) (by omega) (by omega) (by omega) k hk'
   · subst c
     rw [insF_at] at hk'
     rcases Nat.lt_trichotomy i2 i with d | d | d
     · rw [insF_lo d]; exact (du k hk').2 i2 (by omega)
     · omega
     · rw [insF_hi d]; exact (du k hk').2 (i2 - 1) (by omega)
   · rw [insF_hi c] at hk'
     rcases Nat.lt_trichotomy i2 j with d | d | d
     · rw [insF_lo d]; exact h.d2 (i - 1) i2 (by omega) (by omega) (by omega) k hk'
     · subst d; rw [insF_at]; exact fun e => (du k e).2 (i - 1) (by omega) hk'
     · rw [insF_hi d]; exact h.d2 (i - 1) (i2 - 1) (by omega) (by omega) (by omega) k hk'
theorem setS_ne {s : Nat → Value} {j i : Nat} {u : Value} (h : i ≠ j) : setS s j u i = s i := if_neg h
theorem setS_at {s : Nat → Value} {j : Nat} {u : Value} : setS s j u j = u := if_pos rfl
theorem EvOwn.put_ {w w' : World} {base g n cap : Nat} {j : Nat} {x : Nat → Int} {s : Nat → Value} {L : Nat → Nat} {E : Nat → Nat → Int} {u : Value} {e : Nat → Int} {m : Nat} (h : EvOwn w base (.slice (some ⟨g, 0, none⟩) n cap) n x s L E) (hj : j < n)
   (hu : w'.ownsRow base 2 1 u m (noL m e)) (hkb : ∀ k, k < w.heap.size → (s j).ownBlock ≠ some k → w'.heap[k]? = w.heap[k]?) (hub : ∀ k, u.ownBlock = some k → (s j).ownBlock = some k ∨ w.heap.size ≤ k) : EvOwn (w'.setCell ⟨g, j * 13 + 12, none⟩ u) base (.slice (some ⟨g, 0, none⟩) n cap) n x (setS s j u) (setF L j m) (setF E j e) := by
 have hgs : g < w.heap.size := (h.own.lt g rfl).2
 have hgj : (s j).ownBlock ≠ some g := fun e => h.d1 j hj g e rfl
 have hug : u.ownBlock ≠ some g := fun e => by
   rcases hub g e with c | c
   · exact hgj c
   · omega
 have setO : ∀ {v : Value} {a : Nat} {xs : List Value}, w'.ownsRow base 2 1 v a xs → v.ownBlock ≠ some g → (w'.setCell ⟨g, j * 13 + 12, none⟩ u).ownsRow base 2 1 v a xs := fun {v a xs} hv hne => by
   rcases hv with ⟨h0, h1 | ⟨b, c, cur, h1, h2, h3, h4⟩⟩
   · exact ⟨h0, .inl h1⟩
   · refine ⟨h0, .inr ⟨b, c, cur, h1, h2, ?_, h4⟩⟩
     have hbg : b ≠ g := fun e => hne (by subst h1; subst e; rfl)
     rw [← h3]
     exact heap_setCell_other _ _ _ _ hbg
 have kin : ∀ i, i < n → i ≠ j → w'.ownsRow base 2 1 (s i) (L i) (noL (L i) (E i)) := fun i hi hne => by
   have hv := h.ins i hi
   rcases hv with ⟨h0, h1 | ⟨b, c, cur, h1, h2, h3, h4⟩⟩
   · exact ⟨h0, .inl h1⟩
   · refine ⟨h0, .inr ⟨b, c, cur, h1, h2, ?_, h4⟩⟩
     have hbs : b < w.heap.size := (Array.getElem?_eq_some_iff.1 h3).1
     rw [← h3]
     exact hkb b hbs (h.d2 i j hi hj hne b (by rw [h1]; rfl))
 have own' : w'.ownsRow base 81 13 (.slice (some ⟨g, 0, none⟩) n cap) n (evCs n x s) := by
   rcases h.own with ⟨h0, h1 | ⟨b, c, cur, h1, h2, h3, h4⟩⟩
   · exact ⟨h0, .inl h1⟩
   · cases h1
     exact ⟨h0, .inr ⟨g, cap, cur, rfl, h2, (hkb g hgs hgj).trans h3, h4⟩⟩
 refine ⟨?_, fun i hi => ?_, fun i hi k hk => ?_, fun i i2 hi hi2 hne k hk => ?_⟩
 · rw [← evCs_set]
   exact ownE_set own' _ _
 · by_cases c : i = j
   · subst c; rw [setS_at, setF_at, setF_at]; exact setO hu hug
   · rw [setS_ne c, setF_ne c, setF_ne c]; exact setO (kin i hi c) (fun e => h.d1 i hi g e rfl)
 · by_cases c : i = j
   · subst c; rw [setS_at] at hk; intro e; cases e; exact hug hk
   · rw [setS_ne c] at hk; exact h.d1 i hi k hk
 · by_cases c : i = j
   · subst c
     rw [setS_at] at hk
     rw [setS_ne (Ne.symm hne)]
     intro e
     rcases hub k hk with d | d
     · exact h.d2 i2 i hi2 hi (Ne.symm hne) k e d
     · have := ((h.ins i2 hi2).lt k e).2; omega
   · rw [setS_ne c] at hk
     by_cases c2 : i2 = j
     · subst c2
       rw [setS_at]
       intro e
       rcases hub k e with d | d
       · exact h.d2 i i2 hi hi2 hne k hk d
       · have := ((h.ins i hi).lt k hk).2; omega
     · rw [setS_ne c2]; exact h.d2 i i2 hi hi2 hne k hk
theorem evB_pos {n : Nat} {q : Nat → Int × Int × Int} {L : Nat → Nat} {E : Nat → Nat → Int} (h : evB n q L E = true) : n ≤ 200 ∧ ∀ i, i < n → 0 < L i := by
 have h1 := of_decide_eq_true h
 exact ⟨h1.1, fun i hi => by have h2 := of_decide_eq_true (h1.2 i hi).1; exact h2.2.1⟩
end Go.Proofs.YtpmnmlhfaoajdaaGreat
