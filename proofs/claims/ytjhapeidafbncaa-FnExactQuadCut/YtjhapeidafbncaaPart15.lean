/- Part 15 of the walks that the proof leans on. -/
import Derived.Test.YtjhapeidafbncaaPart10
import Derived.Test.YtjhapeidafbncaaPart12
import Derived.Test.YtjhapeidafbncaaPart13
import Derived.Deep.DeepAppendRoom
import Derived.Deep.RegionLaw
import Derived.Test.YtjhapeidafbncaaPart14
import Derived.Test.YtjhapeidafbncaaPart1
namespace Go.Proofs.Ytjhapeidafbncaa
open Go.RowKit
def okI (ok : Nat → Prop) (lo hi b : Nat) : Prop := ok b ∨ (lo ≤ b ∧ b < hi)
def SetP (Q : QD) (m : Int) (t : QT) (x y s lv : Int) (g : Nat) (ok : Nat → Prop) (w : World) (r : Ending) (w' : World) : Prop :=
 r = .returned (.tuple #[]) ∧ STr (okI ok w.heap.size w'.heap.size) w' (setT Q m t x y s) x y s lv g ∧ Frm ok w w'
set_option maxRecDepth 100000 in
set_option maxHeartbeats 8000000 in
theorem settle_leaf (Q : QD) (m d : Int) (gq : Nat) (io : Option Addr) (ic : Nat) (pv : Value) (h6 : Its6 Q (List.range Q.m)) (hm : Q.m ≤ 1048576) (g : Nat) (x y s lv : Int) (ids : Value) (ko : Option Addr) (kn kc : Nat) (hk : (ko = none ∧ kn = 0 ∧ kc = 0) ∨ ((∃ A, ko = some ⟨A, 0, none⟩) ∧ kn = 4 ∧ ((canL Q x y s).length : Int) ≤ m)) (hq : Sq x y s) (w : World) (B0 : BkB w g x y s lv ids (.slice ko kn kc)) (BQ : Blk w gq [.int .i64 m, .int .i64 d, .slice io Q.m ic, pv]) (hgq : gq ≠ g) (hS : ItIn Q w io (List.range Q.m)) : Calls Try.prog 49 #[.pointer (some ⟨gq, 0, none⟩), .pointer (some ⟨g, 0, none⟩)] w (fun r w' => r = .returned (.tuple #[]) ∧ STr (okB g w.heap.size) w' (.leaf (canL Q x y s)) x y s lv g ∧ w.grownBy w' (some g)) := by
 have q := fun (w : World) (a : Option Addr) (n c n' c' : Nat) => Lib.run_eql_slice_nil (P := Try.prog) w _ _ a n c n' c' Try.underlying96
 have FL := fill_any Q g x y s lv _ _ io ic (List.range Q.m) hq h6 (by rw [List.length_range]; exact hm) w B0 hS
 rw [show (List.range Q.m).length = Q.m from List.length_range] at FL
 have hgl := B0.lt
 have q2 := BQ.c 2 rfl
 go_enter Try.func49, Try.ntmps49
 go_wp2_with fail
 refine FL.mono ?_
 rintro r w4 ⟨rfl, v4, B4, ⟨ao4, c4, rfl, _, _, _⟩, HO4, HG4⟩
 clear FL q2
 obtain ⟨n1, hn1⟩ : ∃ n1, (flQ Q (List.range Q.m) x y s).length = n1 := ⟨_, rfl⟩
 have HN1 : Hid ((canL Q x y s).length = n1) := by show _ = _; rw [← canF_len]; exact hn1
 have hn1l : n1 ≤ 1048576 := by
   rw [← hn1]
   exact Nat.le_trans (List.length_filter_le _ _) (by rw [List.length_range]; exact hm)
 have HNF : Hid ((flQ Q (List.range Q.m) x y s).length = n1) := hn1
 rw [hn1] at B4 HO4
 clear hn1
 have BQ4 := BQ.grown HG4 (fun e => hgq (Option.some.inj e))
 have hs4 := HG4.size
 have hn1I : (n1 : Int) ≤ 1048576 := by omega
 have k0 := BQ4.c 0 rfl; have m4 := B4.c 4 rfl; have m5 := B4.c 5 rfl; have y5 := B4.f 5 rfl
 have HL : Hid (∀ W : World, w4.heap.size ≤ W.heap.size → (∀ b, b < w4.heap.size → b ≠ g → W.heap[b]? = w4.heap[b]?) → BkB W g x y s lv (.slice ao4 n1 c4) (.slice none 0 0) → STr (okB g w.heap.size) W (.leaf (canL Q x y s)) x y s lv g) := fun W hW hb BW => by
   refine leaf_of BW ?_ hgl
   rw [HNF.out]
   exact ownQ_heap HO4 (fun b hb2 => hb b (HO4.lt b hb2).2 (fun e => by have := (HO4.lt b hb2).1; omega))
 clear HO4 hS BQ BQ4
 rcases hk with ⟨rfl, rfl, rfl⟩ | ⟨⟨A, rfl⟩, rfl, hle⟩
 · go_wp2_with fail
   refine wp_region_qw (by kernel_rfl) (by kernel_rfl) ?_
   intro W qN qS
   repeat (refine qS _ _ _ (fun K hK => ?_); go_simp; refine hK _ ?_; clear hK K)
   refine qN _ (fun nq => ?_)
   clear qN qS
   have hDN : Below w4.heap.size w4 (w4.drewN nq) := below_drewN (Below.refl _ _) nq
   have B5 := B4.step hDN
   have HGA : w.grownBy (w4.drewN nq) (some g) := grown_trans HG4 (grown_of hDN _)
   have hb5 : Hid (∀ b, b < w4.heap.size → (w4.drewN nq).heap[b]? = w4.heap[b]?) := fun b hb => hDN.block b hb
   have hs5 := hDN.size
   generalize (w4.drewN nq) = W5 at *
   clear m4 m5 y5 k0 hDN HG4 B4
   have y5 := B5.f 5 rfl; have z5 := B5.c 5 rfl
   have BN : BkB (W5.setCell ⟨g, 5, none⟩ (.slice none 0 0)) g x y s lv (.slice ao4 n1 c4) (.slice none 0 0) := B5.setI 5 (by simp) _
   have HGN : w.grownBy (W5.setCell ⟨g, 5, none⟩ (.slice none 0 0)) (some g) := grown_trans HGA (grown_set (Below.refl _ _) 5 _)
   have HLN := HL.out _ (show w4.heap.size ≤ (W5.setCell ⟨g, 5, none⟩ (.slice none 0 0)).heap.size by simp [World.setCell]; omega) (fun b hb hne => (Below.heap_setCell _ _ _ _ hne).trans (hb5.out b hb)) BN
   clear B5 HGA BN HL hb5
   go_wp2
   refine bodyPost_ret (v := .tuple #[]) (by simp [results, Try.results49, go_sem]) rfl ?_
   exact ⟨rfl, HLN, HGN⟩
 · have hle2 : (n1 : Int) ≤ m := by rw [← HN1.out]; exact hle
   clear hle
   go_wp2_with fail
   refine wp_region_qw (by kernel_rfl) (by kernel_rfl) ?_
   intro W qN qS
   repeat (refine qS _ _ _ (fun K hK => ?_); go_simp; refine hK _ ?_; clear hK K)
   refine qN _ (fun nq => ?_)
   clear qN qS
   have hDN : Below w4.heap.size w4 (w4.drewN nq) := below_drewN (Below.refl _ _) nq
   have B5 := B4.step hDN
   have HGA : w.grownBy (w4.drewN nq) (some g) := grown_trans HG4 (grown_of hDN _)
   have hb5 : Hid (∀ b, b < w4.heap.size → (w4.drewN nq).heap[b]? = w4.heap[b]?) := fun b hb => hDN.block b hb
   have hs5 := hDN.size
   generalize (w4.drewN nq) = W5 at *
   clear m4 m5 y5 k0 hDN HG4 B4
   have y5 := B5.f 5 rfl; have z5 := B5.c 5 rfl
   have BN : BkB (W5.setCell ⟨g, 5, none⟩ (.slice none 0 0)) g x y s lv (.slice ao4 n1 c4) (.slice none 0 0) := B5.setI 5 (by simp) _
   have HGN : w.grownBy (W5.setCell ⟨g, 5, none⟩ (.slice none 0 0)) (some g) := grown_trans HGA (grown_set (Below.refl _ _) 5 _)
   have HLN := HL.out _ (show w4.heap.size ≤ (W5.setCell ⟨g, 5, none⟩ (.slice none 0 0)).heap.size by simp [World.setCell]; omega) (fun b hb hne => (Below.heap_setCell _ _ _ _ hne).trans (hb5.out b hb)) BN
   clear B5 HGA BN HL hb5
   go_wp2
   refine bodyPost_ret (v := .tuple #[]) (by simp [results, Try.results49, go_sem]) rfl ?_
   exact ⟨rfl, HLN, HGN⟩
theorem okB_okI {ok : Nat → Prop} {g lo hi b : Nat} (h : okB g lo b) (hg : ok g) (hb : b < hi) : okI ok lo hi b := by
 rcases h with h | h
 · exact .inl (by rw [h]; exact hg)
 · exact .inr ⟨h, hb⟩
theorem Frm.of_grown {ok : Nat → Prop} {w w' : World} {g : Nat} (h : w.grownBy w' (some g)) (hg : ok g) : Frm ok w w' := (Frm.refl ok w).grown h (.inl hg)
set_option maxRecDepth 100000 in
set_option maxHeartbeats 16000000 in
theorem settle_any (Q : QD) (m d : Int) (gq : Nat) (io : Option Addr) (ic : Nat) (pv : Value) (h6 : Its6 Q (List.range Q.m)) (hm : Q.m ≤ 1048576) (t : QT) : ∀ (ok : Nat → Prop) (x y s lv : Int) (g : Nat) (w : World), Sq x y s → STr ok w t x y s lv g → Blk w gq [.int .i64 m, .int .i64 d, .slice io Q.m ic, pv] → ¬ ok gq → ItIn Q w io (List.range Q.m) → (∀ A o sp, io = some ⟨A, o, sp⟩ → ¬ ok A ∧ A < w.heap.size) → Calls Try.prog 49 #[.pointer (some ⟨gq, 0, none⟩), .pointer (some ⟨g, 0, none⟩)] w (SetP Q m t x y s lv g ok w) := by
 have leaf : ∀ (t : QT) (ok : Nat → Prop) (x y s lv : Int) (g : Nat) (w : World) (ids : Value) (ko : Option Addr) (kn kc : Nat), setT Q m t x y s = .leaf (canL Q x y s) → ((ko = none ∧ kn = 0 ∧ kc = 0) ∨ ((∃ A, ko = some ⟨A, 0, none⟩) ∧ kn = 4 ∧ ((canL Q x y s).length : Int) ≤ m)) → ok g → Sq x y s → BkB w g x y s lv ids (.slice ko kn kc) → Blk w gq [.int .i64 m, .int .i64 d, .slice io Q.m ic, pv] → ¬ ok gq → ItIn Q w io (List.range Q.m) → Calls Try.prog 49 #[.pointer (some ⟨gq, 0, none⟩), .pointer (some ⟨g, 0, none⟩)] w (SetP Q m t x y s lv g ok w) := fun t ok x y s lv g w ids ko kn kc he hk hg hq B0 BQ hgq hS => by
   refine (settle_leaf Q m d gq io ic pv h6 hm g x y s lv ids ko kn kc hk hq w B0 BQ (fun e => hgq (by rw [e]; exact hg)) hS).mono ?_
   rintro r w' ⟨rfl, hst, hgr⟩
   refine ⟨rfl, ?_, Frm.of_grown hgr hg⟩
   rw [he]
   exact STr.keep (Nat.le_refl _) (fun _ _ _ => rfl) (fun b hb hl => okB_okI hb hg hl) hst
 induction t with
 | leaf l =>
   intro ok x y s lv g w hq hT BQ hgq hS hio
   obtain ⟨hg, iv, B0, _⟩ := hT
   exact leaf _ ok x y s lv g w iv none 0 0 rfl (.inl ⟨rfl, rfl, rfl⟩) hg hq B0 BQ hgq hS
 | node K ih =>
   intro ok x y s lv g w hq hT BQ hgq0 hS hio
   obtain ⟨hg, A, kc, gs, oks, B0, hA, hoA, hAg, hin, hap, hk⟩ := hT
   by_cases hle : ((canL Q x y s).length : Int) ≤ m
   · exact leaf _ ok x y s lv g w _ (some ⟨A, 0, none⟩) 4 kc (by unfold setT; rw [if_pos hle]) (.inr ⟨⟨A, rfl⟩, rfl, hle⟩) hg hq B0 BQ hgq0 hS
   clear leaf
   have hgq : gq ≠ g := fun e => hgq0 (by rw [e]; exact hg)
   have HSET : Hid (setT Q m (.node K) x y s = .node (fun k => if k < 4 then setT Q m (K k) (kX x (s / 2) k) (kY y (s / 2) k) (s / 2) else K k)) := by show _ = _; rw [setT, if_neg hle]
   have HIN : Hid (∀ k b, k < 4 → oks k b → ok b ∧ b ≠ g ∧ b ≠ A) := hin
   have HAP : Hid (∀ i j b, i < 4 → j < 4 → i ≠ j → oks i b → ¬ oks j b) := hap
   have HK : Hid (∀ k, k < 4 → w.cell? ⟨A, k, none⟩ = some (.pointer (some ⟨gs k, 0, none⟩)) ∧ STr (oks k) w (K k) (kX x (s / 2) k) (kY y (s / 2) k) (s / 2) (lv + 1) (gs k)) := hk
   have HIO : Hid (∀ A o sp, io = some ⟨A, o, sp⟩ → ¬ ok A ∧ A < w.heap.size) := hio
   have HS0 : Hid (ItIn Q w io (List.range Q.m)) := hS
   have HBQ : Hid (Blk w gq [.int .i64 m, .int .i64 d, .slice io Q.m ic, pv]) := BQ
   clear hin hap hk hio
   have q := fun (w : World) (a : Option Addr) (n c n' c' : Nat) => Lib.run_eql_slice_nil (P := Try.prog) w _ _ a n c n' c' Try.underlying96
   have FL := fill_any Q g x y s lv _ _ io ic (List.range Q.m) hq h6 (by rw [List.length_range]; exact hm) w B0 hS
   rw [show (List.range Q.m).length = Q.m from List.length_range] at FL
   have hgl := B0.lt
   have q2 := BQ.c 2 rfl
   go_enter Try.func49, Try.ntmps49
   go_wp2_with fail
   refine FL.mono ?_
   rintro r w4 ⟨rfl, v4, B4, ⟨ao4, c4, rfl, _, _, _⟩, HO4, HG4⟩
   clear FL q2
   obtain ⟨n1, hn1⟩ : ∃ n1, (flQ Q (List.range Q.m) x y s).length = n1 := ⟨_, rfl⟩
   have HN1 : Hid ((canL Q x y s).length = n1) := by show _ = _; rw [← canF_len]; exact hn1
   have hn1l : n1 ≤ 1048576 := by
     rw [← hn1]
     exact Nat.le_trans (List.length_filter_le _ _) (by rw [List.length_range]; exact hm)
   have HNF : Hid ((flQ Q (List.range Q.m) x y s).length = n1) := hn1
   rw [hn1] at B4 HO4
   clear hn1
   have BQ4 := BQ.grown HG4 (fun e => hgq (Option.some.inj e))
   have hs4 := HG4.size
   have hn1I : (n1 : Int) ≤ 1048576 := by omega
   have hgt : decide ((n1 : Int) ≤ m) = false := decide_eq_false (by rw [← HN1.out]; omega)
   have hgt2 : ¬ ((n1 : Int) ≤ m) := by rw [← HN1.out]; omega
   clear hle
   have k0 := BQ4.c 0 rfl; have m4 := B4.c 4 rfl; have m5 := B4.c 5 rfl
   clear HO4 hS BQ BQ4 B0
   go_wp2_with fail
   refine wp_region_qw (by kernel_rfl) (by kernel_rfl) ?_
   intro W qN qS
   repeat (refine qS _ _ _ (fun K hK => ?_); go_simp; refine hK _ ?_; clear hK K)
   refine qN _ (fun nq => ?_)
   clear qN qS
   have hDN : Below w4.heap.size w4 (w4.drewN nq) := below_drewN (Below.refl _ _) nq
   have B5 := B4.step hDN
   have HGA : w.grownBy (w4.drewN nq) (some g) := grown_trans HG4 (grown_of hDN _)
   have hs5 := hDN.size
   generalize (w4.drewN nq) = W5 at *
   clear m4 m5 k0 hDN HG4 B4
   have y4 := B5.f 4 rfl; have z4 := B5.c 4 rfl; have z5 := B5.c 5 rfl
   have B6 : BkB (W5.setCell ⟨g, 4, none⟩ (.slice none 0 0)) g x y s lv (.slice none 0 0) (.slice (some ⟨A, 0, none⟩) 4 kc) := B5.setI 4 (by simp) _
   have HG6 : w.grownBy (W5.setCell ⟨g, 4, none⟩ (.slice none 0 0)) (some g) := grown_trans HGA (grown_set (Below.refl _ _) 4 _)
   clear HGA B5
   go_upto_region 4 with fail
   clear y4 z4 z5
   generalize (W5.setCell ⟨g, 4, none⟩ (.slice none 0 0)) = W6 at *
   have hs6 := HG6.size
   have hb6 : ∀ b, b < w.heap.size → b ≠ g → W6.heap[b]? = w.heap[b]? := fun b hb hne => HG6.block b hb (fun e => hne (Option.some.inj e))
   have HK6 : Hid (∀ k, k < 4 → W6.cell? ⟨A, k, none⟩ = some (.pointer (some ⟨gs k, 0, none⟩)) ∧ STr (fun b => oks k b ∧ b < w.heap.size) W6 (K k) (kX x (s / 2) k) (kY y (s / 2) k) (s / 2) (lv + 1) (gs k)) := fun k hk4 => by
     obtain ⟨c0, h1⟩ := HK.out k hk4
     exact ⟨(World.cell?_of_block (w := w) (a := ⟨A, k, none⟩) (hb6 A hA hAg)).trans c0, STr.keep hs6 (fun b hb hl => hb6 b hl (HIN.out k b hk4 hb).2.1) (fun b hb hl => ⟨hb, hl⟩) h1⟩
   have HBQ6 : Hid (Blk W6 gq [.int .i64 m, .int .i64 d, .slice io Q.m ic, pv]) := HBQ.out.grown HG6 (fun e => hgq (Option.some.inj e))
   have HS6 : Hid (ItIn Q W6 io (List.range Q.m)) := HS0.out.grown HG6 (fun A' o sp e e2 => (HIO.out A' o sp e).1 (by rw [e2]; exact hg))
   have hA6 : A < W6.heap.size := by omega
   have n5 := B6.c 5 rfl
   have HAPN : Hid (∀ i j b, i < 4 → j < 4 → i ≠ j → (oks i b ∧ b < w.heap.size) → ¬ (oks j b ∧ b < w.heap.size)) := fun i j b hi hj hne h1 h2 => HAP.out i j b hi hj hne h1.1 h2.1
   go_wp2_with fail
   go_loopw [40] (fun ic wr => ∃ (c : Nat) (okc : Nat → Nat → Prop), c ≤ 4 ∧ ic = .int .i64 c ∧ Frm (fun b => ∃ k, k < 4 ∧ oks k b ∧ b < w.heap.size) W6 wr ∧ (∀ k b, k < 4 → okc k b → (oks k b ∧ b < w.heap.size) ∨ (W6.heap.size ≤ b ∧ b < wr.heap.size)) ∧ (∀ i j b, i < 4 → j < 4 → i ≠ j → okc i b → ¬ okc j b) ∧ (∀ k, c ≤ k → k < 4 → okc k = fun b => oks k b ∧ b < w.heap.size) ∧ (∀ k, k < 4 → STr (okc k) wr (if k < c then setT Q m (K k) (kX x (s / 2) k) (kY y (s / 2) k) (s / 2) else K k) (kX x (s / 2) k) (kY y (s / 2) k) (s / 2) (lv + 1) (gs k))) (fun i _ => 4 - (intOf i).toNat)
   case atStart => exact ⟨0, fun k b => oks k b ∧ b < w.heap.size, by omega, rfl, Frm.refl _ _, fun k b _ h => .inl h, HAPN.out, fun _ _ _ => rfl, fun k hk4 => by rw [if_neg (by omega)]; exact (HK6.out k hk4).2⟩
   case round =>
     obtain ⟨c, okc, hc, rfl, hF, hOk, hDj, hRest, hTr⟩ := hrel
     have hsr := hF.size
     have hAr : ∀ i, wr.cell? ⟨A, i, none⟩ = W6.cell? ⟨A, i, none⟩ := fun i => World.cell?_of_block (w := W6) (a := ⟨A, i, none⟩) (hF.block A hA6 (fun ⟨k, hk4, hb, _⟩ => (HIN.out k A hk4 hb).2.2 rfl))
     by_cases hc4 : c < 4
     · have hcI : (c : Int) < 4 := by omega
       have e0 := (hAr c).trans (HK6.out c hc4).1
       have hTc := hTr c hc4
       rw [if_neg (Nat.lt_irrefl c), hRest c (Nat.le_refl _) hc4] at hTc
       have C := ih c (fun b => oks c b ∧ b < w.heap.size) (kX x (s / 2) c) (kY y (s / 2) c) (s / 2) (lv + 1) (gs c) wr (hq.kid hc4) hTc (hF.blk HBQ6.out (fun ⟨k, hk4, hb, _⟩ => hgq0 (HIN.out k gq hk4 hb).1)) (fun h => hgq0 (HIN.out c gq hc4 h.1).1) (hF.items HS6.out (fun A' o sp e ⟨k, hk4, hb, _⟩ => (HIO.out A' o sp e).1 (HIN.out k A' hk4 hb).1)) (fun A' o sp e => ⟨fun h => (HIO.out A' o sp e).1 (HIN.out c A' hc4 h.1).1, by have := (HIO.out A' o sp e).2; omega⟩)
       have HTR : Hid (∀ k, k < 4 → STr (okc k) wr (if k < c then setT Q m (K k) (kX x (s / 2) k) (kY y (s / 2) k) (s / 2) else K k) (kX x (s / 2) k) (kY y (s / 2) k) (s / 2) (lv + 1) (gs k)) := hTr
       have HOKC : Hid (∀ k b, k < 4 → okc k b → (oks k b ∧ b < w.heap.size) ∨ (W6.heap.size ≤ b ∧ b < wr.heap.size)) := hOk
       have HDJ : Hid (∀ i j b, i < 4 → j < 4 → i ≠ j → okc i b → ¬ okc j b) := hDj
       have HRS : Hid (∀ k, c ≤ k → k < 4 → okc k = fun b => oks k b ∧ b < w.heap.size) := hRest
       have HFR : Hid (Frm (fun b => ∃ k, k < 4 ∧ oks k b ∧ b < w.heap.size) W6 wr) := hF
       clear hTr hOk hDj hRest hF hTc hAr
       go_wp2_with fail
       refine C.mono ?_
       rintro r w1 ⟨rfl, hst, hF1⟩
       have hs1 := hF1.size
       have hlt : ∀ k b, k < 4 → okc k b → b < wr.heap.size := fun k b hk4 hb => by
         rcases HOKC.out k b hk4 hb with h | h <;> omega
       have hoc : ∀ b, (oks c b ∧ b < w.heap.size) → okc c b := fun b hb => by rw [HRS.out c (Nat.le_refl _) hc4]; exact hb
       have HN : Hid (∃ okc' : Nat → Nat → Prop, (∀ k b, k < 4 → okc' k b → (oks k b ∧ b < w.heap.size) ∨ (W6.heap.size ≤ b ∧ b < w1.heap.size)) ∧ (∀ i j b, i < 4 → j < 4 → i ≠ j → okc' i b → ¬ okc' j b) ∧ (∀ k, c + 1 ≤ k → k < 4 → okc' k = fun b => oks k b ∧ b < w.heap.size) ∧ (∀ k, k < 4 → STr (okc' k) w1 (if k < c + 1 then setT Q m (K k) (kX x (s / 2) k) (kY y (s / 2) k) (s / 2) else K k) (kX x (s / 2) k) (kY y (s / 2) k) (s / 2) (lv + 1) (gs k))) := by
         have hci : ∀ i j b, i < 4 → j < 4 → i ≠ j → i = c → okI (fun b => oks c b ∧ b < w.heap.size) wr.heap.size w1.heap.size b → ¬ okc j b := fun i j b hi hj hne e h1 h2 => by
           rcases h1 with h1 | h1
           · exact HDJ.out c j b hc4 hj (by omega) (hoc b h1) h2
           · have := hlt j b hj h2; omega
         refine ⟨fun k b => if k = c then okI (fun b => oks c b ∧ b < w.heap.size) wr.heap.size w1.heap.size b else okc k b, fun k b hk4 hb => ?_, fun i j b hi hj hne h1 h2 => ?_, fun k hk hk4 => ?_, fun k hk4 => ?_⟩
         · by_cases e : k = c
           · simp only [if_pos e] at hb
             rcases hb with hb | hb
             · exact .inl (by rw [e]; exact hb)
             · exact .inr (by omega)
           · simp only [if_neg e] at hb
             rcases HOKC.out k b hk4 hb with h | h
             · exact .inl h
             · exact .inr (by omega)
         · by_cases e1 : i = c
           · have e2 : ¬ j = c := by omega
             simp only [if_pos e1] at h1
             simp only [if_neg e2] at h2
             exact hci i j b hi hj hne e1 h1 h2
           · simp only [if_neg e1] at h1
             by_cases e2 : j = c
             · simp only [if_pos e2] at h2
               exact hci j i b hj hi (fun e => hne e.symm) e2 h2 h1
             · simp only [if_neg e2] at h2
               exact HDJ.out i j b hi hj hne h1 h2
         · have e : ¬ k = c := by omega
           simp only [if_neg e]
           exact HRS.out k (by omega) hk4
         · by_cases e : k = c
           · subst e
             simp only [if_true]
             rw [if_pos (Nat.lt_succ_self k)]
             exact hst
           · simp only [if_neg e]
             have h1 := HTR.out k hk4
             have h2 : (if k < c + 1 then setT Q m (K k) (kX x (s / 2) k) (kY y (s / 2) k) (s / 2) else K k) = (if k < c then setT Q m (K k) (kX x (s / 2) k) (kY y (s / 2) k) (s / 2) else K k) := by
               by_cases h3 : k < c
               · rw [if_pos h3, if_pos (by omega)]
               · rw [if_neg h3, if_neg (by omega)]
             rw [h2]
             exact STr.keep hs1 (fun b hb hl => hF1.block b hl (fun h4 => HDJ.out c k b hc4 hk4 (fun e5 => e e5.symm) (hoc b h4) hb)) (fun b hb _ => hb) h1
       have HF1 : Hid (Frm (fun b => ∃ k, k < 4 ∧ oks k b ∧ b < w.heap.size) W6 w1) := HFR.out.andThen (hF1.mono (fun b hb => ⟨c, hc4, hb⟩))
       clear C hst hF1 hlt hoc HTR HOKC HDJ HRS HFR e0
       go_wp2
       go_roundw
       case rel =>
         obtain ⟨okc', n1', n2', n3', n4'⟩ := HN.out
         exact ⟨c + 1, okc', by omega, by go_num, HF1.out, n1', n2', n3', n4'⟩
       case measure => simp [intOf]; omega
     · obtain rfl : c = 4 := by omega
       have HE : Hid (SetP Q m (.node K) x y s lv g ok w (.returned (.tuple #[])) wr) := by
         refine ⟨rfl, ?_, ?_⟩
         · rw [HSET.out]
           refine ⟨.inl hg, A, kc, gs, okc, hF.blk B6 (fun ⟨k, hk4, hb, _⟩ => (HIN.out k g hk4 hb).2.1 rfl), by omega, .inl hoA, hAg, fun k b hk4 hb => ?_, hDj, fun k hk4 => ⟨(hAr k).trans (HK6.out k hk4).1, hTr k hk4⟩⟩
           rcases hOk k b hk4 hb with h | h
           · obtain ⟨a1, a2⟩ := HIN.out k b hk4 h.1
             exact ⟨.inl a1, a2⟩
           · exact ⟨.inr (by omega), by omega, by omega⟩
         · exact (Frm.of_grown HG6 hg).andThen (hF.mono (fun b ⟨k, hk4, hb, _⟩ => (HIN.out k b hk4 hb).1))
       clear hF hOk hDj hRest hTr hAr
       go_wp2
       go_end0
       exact HE.out
theorem step_append_run {P : Program} {ops : Array Oper} {o : Oper} {a : Act} {w : World} {K : Act → World → Prop} {Q : Exit → Act → World → Prop} {E : Prop}
   (hgd : o.guard = none) (s x : Operand) (t : TypeId) (ho : o.op = Op.call { callee := Callee.builtin Builtin.append, args := #[s, x], argTypes := #[t, t] })
   (vs vx v' : Value) (w' : World) (hs : a.eval s = vs) (hx : a.eval x = vx) (hr : (Builtin.append_ #[t, t] o.type #[vs, vx]).run P w = .ok v' w') (hK : K (a.put o.dst v') w') :
   if Region.wanted o (yielded ops a.tmps) = true then Oper.wp P o a w K Q else E := by
 have hw : Region.wanted o (yielded ops a.tmps) = true := by simp [Region.wanted, hgd]
 rw [if_pos hw]
 unfold Oper.wp execOp
 simp only [ho, resolve, invoke, builtin, Sem.run_bind, Sem.run_pure, Result.andThen_ok, List.map_toArray, List.map_cons, List.map_nil, hs, hx, hr]
 exact hK
def z5L : List Value := [.int .i64 0, .int .i64 0, .int .i64 0, .int .i64 0, .int .i64 0]
open Go.Lib in
theorem clear_row5 (w : World) (ty : TypeId) (g o cap n : Nat) (hn : n = 1) (cur : Array Value) (t : TypeId) (hg : w.heap[g]? = some (.cells cur t (0, 0))) (hfit : o + 5 ≤ cur.size) : (Builtin.clear_ #[31] ty #[.slice (some ⟨g, o, none⟩) n cap]).run Try.prog w = .ok (.tuple #[]) (w.setRow g (cur.toList.take o ++ z5L ++ cur.toList.drop (o + 5)).toArray) := by
 subst hn
 obtain ⟨i0, hi0, hz0, hzs, hzb⟩ := info_item
 have hst := run_storeCells_at Try.prog g o t z5L 0 cur w hg (by simpa [z5L] using hfit) (fun v hv => by unfold z5L at hv; simp only [List.mem_cons, List.not_mem_nil, or_false] at hv; rcases hv with h | h | h | h | h <;> subst h <;> rfl)
 have hv : (zeroValue 59).run Try.prog w = .ok (.agg #[.int .i64 0, .int .i64 0, .int .i64 0, .int .i64 0, .int .i64 0]) w := by
   simp [zeroValue, typeInfo, hi0, hz0]
 have hzc : (Builtin.zeroCells #[.int .i64 0, .int .i64 0, .int .i64 0, .int .i64 0, .int .i64 0] 1).toList = z5L := by kernel_rfl
 simp only [Nat.add_zero] at hst
 rw [show z5L.length = 5 from rfl] at hst
 simp [Builtin.clear_, run_underlying Try.underlying31, hv, Value.cells, hzc, hst]
set_option maxRecDepth 100000 in
set_option maxHeartbeats 4000000 in
theorem delIt_any (base b n c i : Nat) (xs : List Value) (w : World) (hi : i < n) (hn : n ≤ 1048576) (hO : w.ownsRow base 59 5 (.slice (some ⟨b, 0, none⟩) n c) n xs) (h1x : ∀ v ∈ xs, v.oneCell' = true) : Calls Try.prog 48 #[.slice (some ⟨b, 0, none⟩) n c, .int .i64 (i : Int), .int .i64 ((i : Int) + 1)] w (fun r w' => r = .returned (.slice (some ⟨b, 0, none⟩) (n - 1) c) ∧ w'.ownsRow base 59 5 (.slice (some ⟨b, 0, none⟩) (n - 1) c) (n - 1) (xs.take (i * 5) ++ xs.drop ((i + 1) * 5)) ∧ w.grownBy w' (some b)) := by
 obtain ⟨i0, hi0, hz0, hzs, hzb⟩ := info_item
 obtain ⟨hxl, hcase⟩ := hO
 rcases hcase with ⟨e, _⟩ | ⟨g, cap, cur, e, hbg, hg, hnc, hcm, hcs, hct⟩
 · cases e
 cases e
 have hxc : ∀ j v, xs[j]? = some v → w.cell? ⟨b, j, none⟩ = some v := fun j v hj => by
   rw [← hct] at hj
   rw [List.getElem?_take] at hj
   split at hj
   · simp [World.cell?, hg]; simpa using hj
   · cases hj
 have hnI : (n : Int) ≤ 1048576 := by omega
 have hc63 : c ≤ 9223372036854775807 := by have := hcm; unfold maxLen at this; omega
 obtain ⟨news, hnews⟩ : ∃ news, news = xs.drop ((i + 1) * 5) := ⟨_, rfl⟩
 have s1 : Hid (news.length = (n - (i + 1)) * 5) := by show _ = _; rw [hnews, List.length_drop, hxl]; omega
 have s2 : Hid (∀ u ∈ news, u.oneCell' = true) := fun u hu => h1x u (by rw [hnews] at hu; exact List.mem_of_mem_drop hu)
 obtain ⟨A, hA, hsrc⟩ : ∃ A : Addr, (if c = i + 1 then (some (⟨b, 0, none⟩ : Addr)) else some ⟨b, (i + 1) * 5, none⟩) = some A ∧ Hid (∀ t u, news[t]? = some u → w.drew.cell? (A.add t) = some u) := by
   by_cases h : c = i + 1
   · refine ⟨⟨b, 0, none⟩, by simp [h], fun t u hu => ?_⟩
     have h0 : news.length = 0 := by rw [s1.out]; omega
     rw [List.length_eq_zero_iff.1 h0] at hu
     simp at hu
   · refine ⟨⟨b, (i + 1) * 5, none⟩, by simp [h], fun t u hu => ?_⟩
     rw [hnews, List.getElem?_drop] at hu
     rw [Addr.add_lit]
     exact hxc _ _ hu
 have hpre : w.drew.ownsRow base 59 5 (.slice (some ⟨b, 0, none⟩) i c) i (xs.take (i * 5)) := by
   refine ⟨by rw [List.length_take, hxl]; omega, .inr ⟨b, c, cur, rfl, hbg, hg, by omega, hcm, hcs, ?_⟩⟩
   rw [← hct, List.take_take]
   congr 1
   omega
 have hlist : Hid (xs.take (i * 5) ++ news = xs.take (i * 5) ++ xs.drop ((i + 1) * 5)) := by show _ = _; rw [hnews]
 have hne : ¬ ((i : Int) = ((i + 1 : Nat) : Int)) := by omega
 have hic : i ≤ c := by omega
 have hjc : i + 1 ≤ c := by omega
 have hin : i + 1 ≤ n := by omega
 have hle1 : i ≤ i + 1 := by omega
 have hi1 : (i : Int) + 1 ≤ (n : Int) := by omega
 have hi0I : 0 ≤ (i : Int) + 1 := by omega
 obtain ⟨lo, hlo⟩ : ∃ lo, i + (n - (i + 1)) = lo := ⟨_, rfl⟩
 have HLO : Hid (n = lo + 1) := by show _ = _; omega
 have hcl : ∀ (w1 : World) (cur1 : Array Value) ty, w1.heap[b]? = some (.cells cur1 59 (0, 0)) → cur1.size = c * 5 → (Builtin.clear_ #[31] ty #[.slice (some ⟨b, lo * 5, none⟩) (n - lo) (c - lo)]).run Try.prog w1 = .ok (.tuple #[]) (w1.setRow b (cur1.toList.take (lo * 5) ++ z5L ++ cur1.toList.drop (lo * 5 + 5)).toArray) := fun w1 cur1 ty h1 h2 => clear_row5 w1 ty b (lo * 5) _ _ (by have := HLO.out; omega) cur1 _ h1 (by rw [h2]; have := HLO.out; omega)
 rw [show ((i : Int) + 1) = ((i + 1 : Nat) : Int) by omega, show n - 1 = lo by omega]
 obtain ⟨w1, hr0, hown1, hgrow1⟩ := run_append_own_spare (P := Try.prog) w.drew base 31 31 59 i0 5 Try.underlying31 hi0 hzs b i c (xs.take (i * 5)) hpre A (n - (i + 1)) (c - (i + 1)) news s1.out hsrc.out s2.out (by omega)
 rw [hlo] at hr0 hown1
 have hr : Hid ((Builtin.append_ #[31, 31] 31 #[.slice (some ⟨b, 0, none⟩) i c, .slice (some A) (n - (i + 1)) (c - (i + 1))]).run Try.prog w.drew = .ok (.slice (some ⟨b, 0, none⟩) lo c) w1) := hr0
 clear hnews hxc hct hcs hg hxl h1x hr0
 have mixed : Try.prog.follows .mixedOrders = true := by kernel_rfl
 go_enter Try.func48, Try.ntmps48
 go_wp2_with fail
 go_region_law_o (refine step_append_run rfl (.tmp 22) (.tmp 25) 31 rfl (.slice (some ⟨b, 0, none⟩) i c) (.slice (some A) (n - (i + 1)) (c - (i + 1))) (.slice (some ⟨b, 0, none⟩) lo c) w1 (by simp [Act.eval, Act.put]) (by simp [Act.eval, Act.put]) hr.out ?_)
 rcases hown1.2 with ⟨e, _⟩ | ⟨g1, cap1, cur1, e, _, hg1, hlc, _, hcs1, hct1⟩
 · cases e
 cases e
 have hcl1 := fun ty => hcl w1 cur1 ty hg1 hcs1
 have hlo1 : Hid (w1.heap[b]? = some (.cells cur1 59 (0, 0))) := hg1
 have hll : lo ≤ n := by have := HLO.out; omega
 have hllI : (lo : Int) ≤ (n : Int) := by omega
 have hncI : (n : Int) ≤ (c : Int) := by omega
 have hlne : ¬ (c = lo) := by have := HLO.out; omega
 obtain ⟨w2, hw2⟩ : ∃ w2, w2 = w1.setRow b (cur1.toList.take (lo * 5) ++ z5L ++ cur1.toList.drop (lo * 5 + 5)).toArray := ⟨_, rfl⟩
 have HW2 : Hid (w2 = w1.setRow b (cur1.toList.take (lo * 5) ++ z5L ++ cur1.toList.drop (lo * 5 + 5)).toArray) := hw2
 rw [← hw2] at hcl1
 have HCT : Hid (cur1.toList.take (lo * 5) = xs.take (i * 5) ++ news) := hct1
 have HCS : Hid (cur1.size = c * 5) := hcs1
 clear hcl hw2 hg1 hct1 hcs1 hr
 go_wp2
 go_ret
 refine ⟨rfl, ⟨?_, .inr ⟨b, c, _, rfl, hbg, by rw [HW2.out]; exact setRow_heap w1 b cur1 _ _ _ hlo1.out, hlc, hcm, ?_, ?_⟩⟩, ?_⟩
 · rw [← hlist.out]; exact hown1.1
 · have h1 : (cur1.toList.take (lo * 5)).length = lo * 5 := by rw [List.length_take, Array.length_toList, HCS.out]; have := HLO.out; omega
   simp only [List.size_toArray, List.length_append, h1, List.length_drop, Array.length_toList, HCS.out]
   have h2 : z5L.length = 5 := rfl
   have := HLO.out
   omega
 · have h1 : (cur1.toList.take (lo * 5)).length = lo * 5 := by rw [List.length_take, Array.length_toList, HCS.out]; have := HLO.out; omega
   rw [List.append_assoc, List.take_append_of_le_length (by rw [h1]; exact Nat.le_refl _), List.take_of_length_le (by rw [h1]; exact Nat.le_refl _), HCT.out, hlist.out]
 · have h3 : w.drew.grownBy w1 (some b) := hgrow1
   rw [HW2.out]
   exact ⟨h3.os, h3.tape, h3.output, by have := h3.size; simp [World.setRow]; exact this, fun k hk hne2 => (setRow_other w1 b k _ (fun e => hne2 (congrArg some e))).trans (h3.block k hk hne2)⟩
def CutG (Q : QD) (m d id : Int) (w : World) (r : Ending) (w' : World) : Prop :=
 Below w.heap.size w w' ∧ ((cutB Q m d id = false ∧ r = .returned (.tuple #[.agg #[.int .i64 0, .int .i64 0, .slice none 0 0, .slice none 0 0], .bool false])) ∨ (cutB Q m d id = true ∧ ∃ j, j < Q.m ∧ Q.I j = id ∧ ∃ v u I, r = .returned (.tuple #[.agg #[.int .i64 m, .int .i64 d, v, u], .bool true]) ∧ w'.ownsRow w.heap.size 59 5 v (Q.m - 1) (itCs (delQ Q j) (List.range (Q.m - 1))) ∧ w'.ownsRow w.heap.size 55 5 u (cutL Q m d j).length (wbCs (cutL Q m d j) I) ∧ IsP (fun b => w.heap.size ≤ b ∧ v.ownBlock ≠ some b ∧ u.ownBlock ≠ some b) w' (cutL Q m d j) I ∧ ∀ b, v.ownBlock = some b → u.ownBlock ≠ some b))
theorem itCs_takeD {Q : QD} {j : Nat} : ∀ n, (itCs Q (List.range (j + n))).take (j * 5) = itCs Q (List.range j)
 | 0 => List.take_of_length_le (by rw [itCs_len, List.length_range]; exact Nat.le_refl _)
 | n + 1 => by
   rw [← Nat.add_assoc, itCs_more, List.take_append_of_le_length (by rw [itCs_len, List.length_range]; omega), itCs_takeD n]
theorem itCs_del2 {Q : QD} {j : Nat} : ∀ n, (itCs Q (List.range (j + 1 + n))).take (j * 5) ++ (itCs Q (List.range (j + 1 + n))).drop ((j + 1) * 5) = itCs (delQ Q j) (List.range (j + n))
 | 0 => by
   rw [show j + 1 + 0 = j + 1 from rfl, itCs_takeD 1, List.drop_of_length_le (by rw [itCs_len, List.length_range]; exact Nat.le_refl _), List.append_nil, Nat.add_zero, itCs_del j (Nat.le_refl _)]
 | n + 1 => by
   have h := itCs_del2 (Q := Q) (j := j) n
   have hl : (itCs Q (List.range (j + 1 + n))).length = (j + 1 + n) * 5 := by rw [itCs_len, List.length_range]
   rw [← Nat.add_assoc, ← Nat.add_assoc, itCs_dgt (Nat.le_add_right j n), ← h, itCs_more, show j + n + 1 = j + 1 + n by omega, List.take_append_of_le_length (by rw [hl]; omega), List.drop_append_of_le_length (by rw [hl]; omega), List.append_assoc]
theorem itCs_delete {Q : QD} {j : Nat} (hj : j < Q.m) : (itCs Q (List.range Q.m)).take (j * 5) ++ (itCs Q (List.range Q.m)).drop ((j + 1) * 5) = itCs (delQ Q j) (List.range (Q.m - 1)) := by
 have h := itCs_del2 (Q := Q) (j := j) (Q.m - 1 - j)
 rwa [show j + 1 + (Q.m - 1 - j) = Q.m by omega, show j + (Q.m - 1 - j) = Q.m - 1 by omega] at h
theorem delQ_its6 {Q : QD} {j : Nat} (h6 : Its6 Q (List.range Q.m)) (hj : j < Q.m) : Its6 (delQ Q j) (List.range (Q.m - 1)) := fun i hi => by
 have hi2 := List.mem_range.1 hi
 by_cases h : i < j
 · rw [(delQ_lt h).2]
   exact h6 i (List.mem_range.2 (by omega))
 · rw [(delQ_ge (by omega)).2]
   exact h6 (i + 1) (List.mem_range.2 (by omega))
set_option maxRecDepth 100000 in
set_option maxHeartbeats 16000000 in
theorem implQuadCut_any (w : World) (Q : QD) (ao bo : Option Addr) (cap bcap A off : Nat) (so : Nat → Option Addr × Nat) (m d : Int) (hm : Q.m ≤ 1048576) (hN : Q.N ≤ 1048576) (hcap : Q.N ≤ bcap) (hL : ∀ i, i < Q.N → Q.L i ≤ 1048576) (hbo : 0 < Q.N → bo = some ⟨A, off, none⟩) (hao : ∀ A o sp, ao = some ⟨A, o, sp⟩ → A < w.heap.size) (hS : ItIn Q w ao (List.range Q.m)) (hBl : BlIn Q w A off so) (id : Int) : Calls Try.prog 16 #[.agg #[.int .i64 m, .int .i64 d, .slice ao Q.m cap, .slice bo Q.N bcap], .int .i64 id] w (CutG Q m d id w) := by
 have B2 : Blk ((w.alloc (.cells #[.int .i64 m, .int .i64 d, .slice ao Q.m cap, .slice bo Q.N bcap] 34)).alloc (.cells #[.int .i64 0, .int .i64 0, .slice none 0 0, .slice none 0 0] 34)) (w.heap.size + 1) [.int .i64 0, .int .i64 0, .slice none 0 0, .slice none 0 0] := Blk.new (w.alloc (.cells #[.int .i64 m, .int .i64 d, .slice ao Q.m cap, .slice bo Q.N bcap] 34)) [.int .i64 0, .int .i64 0, .slice none 0 0, .slice none 0 0] 34 (by simp)
 have B0 : Blk ((w.alloc (.cells #[.int .i64 m, .int .i64 d, .slice ao Q.m cap, .slice bo Q.N bcap] 34)).alloc (.cells #[.int .i64 0, .int .i64 0, .slice none 0 0, .slice none 0 0] 34)) w.heap.size [.int .i64 m, .int .i64 d, .slice ao Q.m cap, .slice bo Q.N bcap] := (Blk.new w [.int .i64 m, .int .i64 d, .slice ao Q.m cap, .slice bo Q.N bcap] 34 rfl).alloc _
 have HB : Below w.heap.size w ((w.alloc (.cells #[.int .i64 m, .int .i64 d, .slice ao Q.m cap, .slice bo Q.N bcap] 34)).alloc (.cells #[.int .i64 0, .int .i64 0, .slice none 0 0, .slice none 0 0] 34)) := ((Below.refl _ w).alloc (Nat.le_refl _) _).alloc (by simp) _
 have C := quadOf_any ((w.alloc (.cells #[.int .i64 m, .int .i64 d, .slice ao Q.m cap, .slice bo Q.N bcap] 34)).alloc (.cells #[.int .i64 0, .int .i64 0, .slice none 0 0, .slice none 0 0] 34)) Q ao bo cap bcap A off so m d hm hN hcap hL hbo (fun A o sp e => Nat.lt_of_lt_of_le (hao A o sp e) HB.size) (hS.step HB) (hBl.below HB)
 have hmI : (Q.m : Int) ≤ 1048576 := by omega
 clear hS hBl hao
 go_enter Try.func16, Try.ntmps16
 go_upto_region 1 with fail
 generalize ((w.alloc (.cells #[.int .i64 m, .int .i64 d, .slice ao Q.m cap, .slice bo Q.N bcap] 34)).alloc (.cells #[.int .i64 0, .int .i64 0, .slice none 0 0, .slice none 0 0] 34)) = W1 at *
 have c0 := B0.c 0 rfl; have c1 := B0.c 1 rfl; have c2 := B0.c 2 rfl; have c3 := B0.c 3 rfl
 go_wp2_with fail
 refine C.mono ?_
 rintro r w1 ⟨pv, rfl, hB1, hQT⟩
 have hP2 : w.heap.size + 1 < W1.heap.size := B2.lt
 have hW1 := hB1.size
 replace B2 := B2.step hB1
 replace HB := HB.trans (hB1.mono HB.size)
 clear C c0 c1 c2 c3 hB1 B0
 cases hq : qOk Q m d with
 | false =>
   have HP : Hid (cutB Q m d id = false) := by show _ = _; unfold cutB; rw [hq]; rfl
   clear hq hQT
   have y0 := B2.f 0 rfl; have y1 := B2.f 1 rfl; have y2 := B2.f 2 rfl; have y3 := B2.f 3 rfl; have z0 := B2.c 0 rfl; have z1 := B2.c 1 rfl; have z2 := B2.c 2 rfl; have z3 := B2.c 3 rfl
   have BF := set4_blk B2 (.int .i64 0) (.int .i64 0) (.slice none 0 0) (.slice none 0 0)
   have HF := set4_below HB (show w.heap.size ≤ w.heap.size + 1 by omega) (.int .i64 0) (.int .i64 0) (.slice none 0 0) (.slice none 0 0)
   go_wp2
   have r0 := BF.out.c 0 rfl; have r1 := BF.out.c 1 rfl; have r2 := BF.out.c 2 rfl; have r3 := BF.out.c 3 rfl
   refine bodyPost_ret (v := .tuple #[.agg #[.int .i64 0, .int .i64 0, .slice none 0 0, .slice none 0 0], .bool false]) (by simp [results, Try.results16, go_sem, r0, r1, r2, r3]) rfl ?_
   exact ⟨HF, .inl ⟨HP.out, rfl⟩⟩
 | true =>
   obtain ⟨gq, io, ic, gr, rfl, BQ, hIt, hbq, hST, hOI, hneq⟩ := hQT hq
   have HQ : Hid (qOk Q m d = true) := hq
   obtain ⟨⟨hm1, hm8⟩, ⟨hd0, hd8⟩, hits, _⟩ := qOk_all hq
   have h6 := its6_of hits
   have hri := rise_of hits
   have h40 : Q.m ≤ 40 := (of_decide_eq_true hits).1
   clear hq hits hQT
   obtain ⟨j, hj, hlo, hhi⟩ := place_ex hri id Q.m (Nat.le_refl _)
   have HLO : Hid (∀ i, i < j → Q.I i < id) := hlo
   have HHI : Hid (∀ i, j ≤ i → i < Q.m → id ≤ Q.I i) := hhi
   obtain ⟨th, hth⟩ : ∃ th, decide (j < Q.m ∧ Q.I j = id) = th := ⟨_, rfl⟩
   have HTH : Hid (decide (j < Q.m ∧ Q.I j = id) = th) := hth
   have CP := place_any Q gq ic io m d id (.pointer (some ⟨gr, 0, none⟩)) j th hm hj hlo hhi (by rw [← hth]; simp) w1 BQ hIt
   clear hlo hhi hth
   go_wp2_with fail
   refine CP.mono ?_
   rintro r w5 ⟨rfl, hB5⟩
   clear CP
   replace B2 := B2.step hB5
   replace HB := HB.trans (hB5.mono HB.size)
   replace BQ := BQ.step hB5
   replace hIt := hIt.step hB5
   replace hST := hST.step hB5
   replace hOI := ownA_step hOI hB5
   have hw5 := hB5.size
   clear hB5
   cases th with
   | false =>
     have HP : Hid (cutB Q m d id = false) := by
       show _ = _
       have h4 : ¬ (j < Q.m ∧ Q.I j = id) := of_decide_eq_false HTH.out
       have hn : ∀ i, i < Q.m → Q.I i ≠ id := fun i hi e => by
         rcases Nat.lt_or_ge i j with h | h
         · have := HLO.out i h; omega
         · have h5 := HHI.out j (Nat.le_refl _) (by omega)
           rcases Nat.eq_or_lt_of_le h with h7 | h7
           · subst h7; exact h4 ⟨hi, e⟩
           · have h8 := rise_to hri h7 hi; omega
       unfold cutB
       rw [decide_eq_true hn]
       simp
     have y0 := B2.f 0 rfl; have y1 := B2.f 1 rfl; have y2 := B2.f 2 rfl; have y3 := B2.f 3 rfl; have z0 := B2.c 0 rfl; have z1 := B2.c 1 rfl; have z2 := B2.c 2 rfl; have z3 := B2.c 3 rfl
     have BF := set4_blk B2 (.int .i64 0) (.int .i64 0) (.slice none 0 0) (.slice none 0 0)
     have HF := set4_below HB (show w.heap.size ≤ w.heap.size + 1 by omega) (.int .i64 0) (.int .i64 0) (.slice none 0 0) (.slice none 0 0)
     go_wp2
     have r0 := BF.out.c 0 rfl; have r1 := BF.out.c 1 rfl; have r2 := BF.out.c 2 rfl; have r3 := BF.out.c 3 rfl
     refine bodyPost_ret (v := .tuple #[.agg #[.int .i64 0, .int .i64 0, .slice none 0 0, .slice none 0 0], .bool false]) (by simp [results, Try.results16, go_sem, r0, r1, r2, r3]) rfl ?_
     exact ⟨HF, .inl ⟨HP.out, rfl⟩⟩
   | true =>
     obtain ⟨hjm, hji⟩ := of_decide_eq_true HTH.out
     have HJI : Hid (Q.I j = id) := hji
     have HP : Hid (cutB Q m d id = true) := by show _ = _; unfold cutB; rw [HQ.out, decide_eq_false (fun h => h j hjm hji)]; rfl
     have HLEN : Hid ((cutL Q m d j).length ≤ 2000) := (cut_tree HQ.out hjm).2.1
     clear HTH HHI HLO hji
     obtain ⟨gi, ic', e9, hgi1, hgi2, hnc, _⟩ := ownQ_form hOI (by omega)
     cases e9
     have hgqi : gi ≠ gq := hneq gi rfl
     have hgq5 : gq < w5.heap.size := BQ.lt
     have hjI : (j : Int) < (Q.m : Int) := by omega
     have hj1I : (j : Int) + 1 ≤ (Q.m : Int) := by omega
     have DI := delIt_any W1.heap.size gi Q.m ic j (itCs Q (List.range Q.m)) w5 hjm hm hOI (itCs_one Q _)
     rw [itCs_delete hjm] at DI
     have q2 := BQ.c 2 rfl
     go_wp2_with fail
     refine DI.mono ?_
     rintro r w7 ⟨rfl, hO7, hG7⟩
     clear DI q2
     have BQ7 := BQ.grown hG7 (fun e => hgqi (Option.some.inj e).symm)
     have hG7s := hG7.size
     have hsz : (w7.setCell ⟨gq, 2, none⟩ (.slice (some ⟨gi, 0, none⟩) (Q.m - 1) ic)).heap.size = w7.heap.size := by simp [World.setCell]
     have hne : ∀ b, b ≠ gq → (w7.setCell ⟨gq, 2, none⟩ (.slice (some ⟨gi, 0, none⟩) (Q.m - 1) ic)).heap[b]? = w7.heap[b]? := fun b hb => Below.heap_setCell _ _ _ _ hb
     have hB7 : ∀ b, b < w5.heap.size → b ≠ gi → b ≠ gq → (w7.setCell ⟨gq, 2, none⟩ (.slice (some ⟨gi, 0, none⟩) (Q.m - 1) ic)).heap[b]? = w5.heap[b]? := fun b hb h1 h2 => (hne b h2).trans (hG7.block b hb (fun e => h1 (Option.some.inj e)))
     have BQX : Blk (w7.setCell ⟨gq, 2, none⟩ (.slice (some ⟨gi, 0, none⟩) (Q.m - 1) ic)) gq [.int .i64 m, .int .i64 d, .slice (some ⟨gi, 0, none⟩) (Q.m - 1) ic, .pointer (some ⟨gr, 0, none⟩)] := BQ7.setI 2 (by simp) _
     have B2X : Blk (w7.setCell ⟨gq, 2, none⟩ (.slice (some ⟨gi, 0, none⟩) (Q.m - 1) ic)) (w.heap.size + 1) [.int .i64 0, .int .i64 0, .slice none 0 0, .slice none 0 0] := B2.keep (by omega) (hB7 _ (by omega) (by omega) (by omega))
     have HBX : Below w.heap.size w (w7.setCell ⟨gq, 2, none⟩ (.slice (some ⟨gi, 0, none⟩) (Q.m - 1) ic)) := (HB.grown hG7 HB.size (fun c e => by have := Option.some.inj e; omega)).setCell (p := ⟨gq, 2, none⟩) (by show w.heap.size ≤ gq; omega) _
     have hSTX : STr (fun b => (W1.heap.size ≤ b ∧ b < w5.heap.size) ∧ b ≠ gq ∧ b ≠ gi) (w7.setCell ⟨gq, 2, none⟩ (.slice (some ⟨gi, 0, none⟩) (Q.m - 1) ic)) (trQ Q d.toNat 0 (-1048576) (-1048576) 2097152) (-1048576) (-1048576) 2097152 0 gr := STr.keep (by omega) (fun b hb hl => hB7 b hl (hb.2.2 gi rfl) hb.2.1) (fun b hb hl => ⟨⟨hb.1, hl⟩, hb.2.1, hb.2.2 gi rfl⟩) hST
     have hOX : (w7.setCell ⟨gq, 2, none⟩ (.slice (some ⟨gi, 0, none⟩) (Q.m - 1) ic)).ownsRow W1.heap.size 59 5 (.slice (some ⟨gi, 0, none⟩) (Q.m - 1) ic) (Q.m - 1) (itCs (delQ Q j) (List.range (Q.m - 1))) := ownQ_heap hO7 (fun k hk => hne k (fun e => hgqi ((Option.some.inj hk).trans e)))
     have f27 := BQ7.f 2 rfl; have q27 := BQ7.c 2 rfl
     clear BQ B2 HB hST hOI hIt hB7 hG7 hO7 hne BQ7 hneq
     go_upto_region 8 with fail
     clear f27 q27
     have hszw : w5.heap.size ≤ (w7.setCell ⟨gq, 2, none⟩ (.slice (some ⟨gi, 0, none⟩) (Q.m - 1) ic)).heap.size := by omega
     clear hsz hG7s
     generalize (w7.setCell ⟨gq, 2, none⟩ (.slice (some ⟨gi, 0, none⟩) (Q.m - 1) ic)) = WY at *
     have hIt : ItIn (delQ Q j) WY (some ⟨gi, 0, none⟩) (List.range (Q.m - 1)) := by
       obtain ⟨ao9, cap9, e9, hI9⟩ := ItIn.of (Q := delQ Q j) (l := List.range (Q.m - 1)) (by rw [List.length_range]; exact hOX)
       rw [List.length_range] at e9
       cases e9
       exact hI9
     have SE := settle_any (delQ Q j) m d gq (some ⟨gi, 0, none⟩) ic (.pointer (some ⟨gr, 0, none⟩)) (delQ_its6 h6 hjm) (show Q.m - 1 ≤ 1048576 by omega) (trQ Q d.toNat 0 (-1048576) (-1048576) 2097152) (fun b => (W1.heap.size ≤ b ∧ b < w5.heap.size) ∧ b ≠ gq ∧ b ≠ gi) (-1048576) (-1048576) 2097152 0 gr WY root_sq hSTX BQX (fun h => h.2.1 rfl) hIt (fun A o sp e => by
       cases e
       exact ⟨fun h => h.2.2 rfl, by omega⟩)
     have q3 := BQX.c 3 rfl
     clear hSTX hIt
     go_wp2_with fail
     refine SE.mono ?_
     rintro r w9 ⟨rfl, hS9, hF9⟩
     clear SE q3
     have hB9 : Below W1.heap.size WY w9 := hF9.below (by omega) (fun b h => h.1.1)
     have hs9 := hF9.size
     have HB9 := HBX.trans (hB9.mono (by omega))
     have B29 := B2X.below hB9 (by omega)
     have BQ9 := hF9.blk BQX (fun h => h.2.1 rfl)
     have hO9 := ownQ_heap hOX (fun k hk => hF9.block k (World.ownsRow.lt hOX k hk).2 (fun h => h.2.2 (Option.some.inj hk).symm))
     have TO := toldS_any _ gq gr (Q.m - 1) ic (some ⟨gi, 0, none⟩) m d _ w9 (by have := HLEN.out; unfold cutL at this; omega) BQ9 hS9
     change Calls _ _ _ _ (ToldP m d (.slice (some ⟨gi, 0, none⟩) (Q.m - 1) ic) (okI (fun b => (W1.heap.size ≤ b ∧ b < w5.heap.size) ∧ b ≠ gq ∧ b ≠ gi) WY.heap.size w9.heap.size) (cutL Q m d j) w9) at TO
     clear hB9 hF9 hS9 BQX B2X HBX hOX
     go_wp2_with fail
     refine TO.mono ?_
     rintro r wx ⟨hBx, hTx⟩
     clear TO
     have HBF := HB9.trans (hBx.mono HB9.size)
     have hOF := ownA_step hO9 hBx
     have BRF := B29.step hBx
     have hsx := hBx.size
     rcases hTx with ⟨h2000, _⟩ | ⟨_, u, I, rfl, hU, hIs⟩
     · exact absurd HLEN.out (by omega)
     · obtain ⟨uo, uc, rfl⟩ := ownQ_slice hU
       obtain ⟨un, hun⟩ : ∃ un, (cutL Q m d j).length = un := ⟨_, rfl⟩
       have HUN : Hid ((cutL Q m d j).length = un) := hun
       rw [hun] at hU ⊢
       clear hun
       have HOF : Hid (((((wx.setCell ⟨w.heap.size + 1, 0, none⟩ (.int .i64 m)).setCell ⟨w.heap.size + 1, 1, none⟩ (.int .i64 d)).setCell ⟨w.heap.size + 1, 2, none⟩ (.slice (some ⟨gi, 0, none⟩) (Q.m - 1) ic)).setCell ⟨w.heap.size + 1, 3, none⟩ (.slice uo un uc)).ownsRow w.heap.size 59 5 (.slice (some ⟨gi, 0, none⟩) (Q.m - 1) ic) (Q.m - 1) (itCs (delQ Q j) (List.range (Q.m - 1))) ∧ ((((wx.setCell ⟨w.heap.size + 1, 0, none⟩ (.int .i64 m)).setCell ⟨w.heap.size + 1, 1, none⟩ (.int .i64 d)).setCell ⟨w.heap.size + 1, 2, none⟩ (.slice (some ⟨gi, 0, none⟩) (Q.m - 1) ic)).setCell ⟨w.heap.size + 1, 3, none⟩ (.slice uo un uc)).ownsRow w.heap.size 55 5 (.slice uo un uc) (cutL Q m d j).length (wbCs (cutL Q m d j) I) ∧ IsP (fun b => w.heap.size ≤ b ∧ (Value.slice (some ⟨gi, 0, none⟩) (Q.m - 1) ic).ownBlock ≠ some b ∧ (Value.slice uo un uc).ownBlock ≠ some b) ((((wx.setCell ⟨w.heap.size + 1, 0, none⟩ (.int .i64 m)).setCell ⟨w.heap.size + 1, 1, none⟩ (.int .i64 d)).setCell ⟨w.heap.size + 1, 2, none⟩ (.slice (some ⟨gi, 0, none⟩) (Q.m - 1) ic)).setCell ⟨w.heap.size + 1, 3, none⟩ (.slice uo un uc)) (cutL Q m d j) I ∧ ∀ b, (Value.slice (some ⟨gi, 0, none⟩) (Q.m - 1) ic).ownBlock = some b → (Value.slice uo un uc).ownBlock ≠ some b) := by
         have hb9 : ∀ b, okI (fun b => (W1.heap.size ≤ b ∧ b < w5.heap.size) ∧ b ≠ gq ∧ b ≠ gi) WY.heap.size w9.heap.size b → b < w9.heap.size → W1.heap.size ≤ b ∧ gi ≠ b := fun b hb hl => by
           rcases hb with h | h
           · exact ⟨h.1.1, fun e => h.2.2 e.symm⟩
           · exact ⟨by omega, fun e => by omega⟩
         refine ⟨ownQ_mono2 (ownQ_heap hOF (fun k hk => set4_heap (by have h9 : gi = k := Option.some.inj hk; omega))) (by omega), ?_, ?_, fun b e e2 => ?_⟩
         · rw [HUN.out]
           exact ownQ_mono2 (ownQ_heap hU (fun k hk => set4_heap (by have := (World.ownsRow.lt hU k hk).1; omega))) (by omega)
         · refine IsP.keep (fun b hb hl => (set4_heap (by have := (hb9 b hb hl).1; omega)).trans (hBx.block b hl)) (fun b hb hl => ⟨by have := (hb9 b hb hl).1; omega, fun e => (hb9 b hb hl).2 (Option.some.inj e), fun e => by have := (World.ownsRow.lt hU b e).1; omega⟩) hIs
         · have h9 : gi = b := Option.some.inj e
           have := (World.ownsRow.lt hU b e2).1
           omega
       have y0 := BRF.f 0 rfl; have y1 := BRF.f 1 rfl; have y2 := BRF.f 2 rfl; have y3 := BRF.f 3 rfl; have z0 := BRF.c 0 rfl; have z1 := BRF.c 1 rfl; have z2 := BRF.c 2 rfl; have z3 := BRF.c 3 rfl
       have BF := set4_blk BRF (.int .i64 m) (.int .i64 d) (.slice (some ⟨gi, 0, none⟩) (Q.m - 1) ic) (.slice uo un uc)
       have HF := set4_below HBF (show w.heap.size ≤ w.heap.size + 1 by omega) (.int .i64 m) (.int .i64 d) (.slice (some ⟨gi, 0, none⟩) (Q.m - 1) ic) (.slice uo un uc)
       clear hOF hU hIs hBx hO9
       go_wp2
       have r0 := BF.out.c 0 rfl; have r1 := BF.out.c 1 rfl; have r2 := BF.out.c 2 rfl; have r3 := BF.out.c 3 rfl
       refine bodyPost_ret (v := .tuple #[.agg #[.int .i64 m, .int .i64 d, .slice (some ⟨gi, 0, none⟩) (Q.m - 1) ic, .slice uo un uc], .bool true]) (by simp [results, Try.results16, go_sem, r0, r1, r2, r3]) rfl ?_
       exact ⟨HF, .inr ⟨HP.out, j, hjm, HJI.out, _, _, I, rfl, HOF.out⟩⟩
def CutJ (Q : QD) (id : Int) (j : Nat) : Prop := j < Q.m ∧ Q.I j = id
theorem CutJ.one {Q : QD} {id : Int} {j k : Nat} (h : CutJ Q id j) (h' : CutJ Q id k) (hr : riseI Q) : j = k := by
 rcases Nat.lt_trichotomy j k with e | e | e
 · have := rise_to hr e h'.1; have := h.2; have := h'.2; omega
 · exact e
 · have := rise_to hr e h.1; have := h.2; have := h'.2; omega
theorem setT_l2 {Q : QD} {mx : Int} : ∀ (t : QT) (x y s : Int), llB Q.m (setT Q mx t x y s)
 | .leaf _, x, y, s => canL_len Q x y s
 | .node K, x, y, s => by
   unfold setT
   split
   · exact canL_len Q x y s
   · intro k hk
     simp only [if_pos hk]
     exact setT_l2 (K k) _ _ _
theorem cutL_ll {Q : QD} {m d : Int} {j : Nat} (h : qOk Q m d = true) : ∀ q ∈ cutL Q m d j, q.l.length ≤ 41 := by
 have h40 : Q.m ≤ 40 := (of_decide_eq_true (qOk_all h).2.2.1).1
 intro q hq
 have h5 := wrT_ll (n := Q.m - 1) (setT_l2 (Q := delQ Q j) (trQ Q d.toNat 0 (-1048576) (-1048576) 2097152) (-1048576) (-1048576) 2097152) q hq
 omega
def CnS (okn : Bool) (Q : QD) (m d id : Int) (u : Value) (lo hi : Nat) (W : World) : Prop :=
 (okn = false ∧ u = .agg #[.int .i64 0, .int .i64 0, .slice none 0 0, .slice none 0 0]) ∨ (okn = true ∧ ∃ j, CutJ Q id j ∧ (cutL Q m d j).length ≤ 2000 ∧ ∃ io ic A bc I, u = .agg #[.int .i64 m, .int .i64 d, .slice io (Q.m - 1) ic, .slice (some ⟨A, 0, none⟩) (cutL Q m d j).length bc] ∧ W.ownsRow lo 59 5 (.slice io (Q.m - 1) ic) (Q.m - 1) (itCs (delQ Q j) (List.range (Q.m - 1))) ∧ W.ownsRow lo 55 5 (.slice (some ⟨A, 0, none⟩) (cutL Q m d j).length bc) (cutL Q m d j).length (wbCs (cutL Q m d j) I) ∧ IvP (fun b => lo ≤ b ∧ b < hi) W (cutL Q m d j) I ∧ (∀ b, (Value.slice io (Q.m - 1) ic).ownBlock = some b → b < hi) ∧ A < hi)
def CnG (okn : Bool) (Q : QD) (m d id : Int) (u : Value) (lo hi : Nat) (W : World) : Prop :=
 (okn = false ∧ u = .agg #[.int .i64 0, .int .i64 0, .slice none 0 0, .slice none 0 0]) ∨ (okn = true ∧ ∃ j, CutJ Q id j ∧ (cutL Q m d j).length ≤ 2000 ∧ ∃ io ic A bc I, u = .agg #[.int .i64 m, .int .i64 d, .slice io (Q.m - 1) ic, .slice (some ⟨A, 0, none⟩) (cutL Q m d j).length bc] ∧ W.ownsRow lo 59 5 (.slice io (Q.m - 1) ic) (Q.m - 1) (itCs (delQ Q j) (List.range (Q.m - 1))) ∧ W.ownsRow lo 55 5 (.slice (some ⟨A, 0, none⟩) (cutL Q m d j).length bc) (cutL Q m d j).length (wbCs (cutL Q m d j) I) ∧ IsP (fun b => (lo ≤ b ∧ b < hi) ∧ (Value.slice io (Q.m - 1) ic).ownBlock ≠ some b ∧ A ≠ b) W (cutL Q m d j) I ∧ (∀ b, (Value.slice io (Q.m - 1) ic).ownBlock = some b → b < hi ∧ A ≠ b) ∧ A < hi)
theorem CnG.s {okn : Bool} {Q : QD} {m d id : Int} {u : Value} {lo hi : Nat} {W : World} (h : CnG okn Q m d id u lo hi W) : CnS okn Q m d id u lo hi W := by
 rcases h with h | ⟨h1, j, h2, h3, io, ic, A, bc, I, e, h4, h5, h6, h7, h8⟩
 · exact .inl h
 · exact .inr ⟨h1, j, h2, h3, io, ic, A, bc, I, e, h4, h5, IvP.keep (Nat.le_refl _) (fun _ _ _ => rfl) (fun b hb _ => hb.1) h6.toI, fun b e => (h7 b e).1, h8⟩
theorem CnS.keep {okn : Bool} {Q : QD} {m d id : Int} {u : Value} {lo hi : Nat} {W W2 : World} (h : CnS okn Q m d id u lo hi W) (hs : W.heap.size ≤ W2.heap.size) (hk : ∀ b, lo ≤ b → b < hi → W2.heap[b]? = W.heap[b]?) : CnS okn Q m d id u lo hi W2 := by
 rcases h with h | ⟨h1, j, h2, h3, io, ic, A, bc, I, e, h4, h5, h6, h7, h8⟩
 · exact .inl h
 · exact .inr ⟨h1, j, h2, h3, io, ic, A, bc, I, e, ownQ_heap h4 (fun k e => hk k (World.ownsRow.lt h4 k e).1 (h7 k e)), ownQ_heap h5 (fun k e => by have h9 := (World.ownsRow.lt h5 k e).1; cases e; exact hk _ h9 h8), IvP.keep hs (fun b hb _ => hk b hb.1 hb.2) (fun _ h _ => h) h6, h7, h8⟩
theorem CnG.keep {okn : Bool} {Q : QD} {m d id : Int} {u : Value} {lo hi : Nat} {W W2 : World} (h : CnG okn Q m d id u lo hi W) (hk : ∀ b, lo ≤ b → b < hi → W2.heap[b]? = W.heap[b]?) : CnG okn Q m d id u lo hi W2 := by
 rcases h with h | ⟨h1, j, h2, h3, io, ic, A, bc, I, e, h4, h5, h6, h7, h8⟩
 · exact .inl h
 · exact .inr ⟨h1, j, h2, h3, io, ic, A, bc, I, e, ownQ_heap h4 (fun k e => hk k (World.ownsRow.lt h4 k e).1 (h7 k e).1), ownQ_heap h5 (fun k e => by have h9 := (World.ownsRow.lt h5 k e).1; cases e; exact hk _ h9 h8), IsP.keep (fun b hb _ => hk b hb.1.1 hb.1.2) (fun _ h _ => h) h6, h7, h8⟩
theorem CnS.form {okn : Bool} {Q : QD} {m d id : Int} {u : Value} {lo hi : Nat} {W : World} (h : CnS okn Q m d id u lo hi W) : ∃ m' d' io n ic bo N bc, u = .agg #[.int .i64 m', .int .i64 d', .slice io n ic, .slice bo N bc] := by
 rcases h with ⟨_, h⟩ | ⟨h1, j, h2, h3, io, ic, A, bc, I, e, h4⟩
 · exact ⟨_, _, _, _, _, _, _, _, h⟩
 · exact ⟨_, _, _, _, _, _, _, _, e⟩
theorem eqCn_any {okn : Bool} {Q : QD} {m d id : Int} (hok : okn = true → qOk Q m d = true) {u u2 : Value} {lo hi lo2 hi2 : Nat} (W : World) (h : CnS okn Q m d id u lo hi W) (h' : CnS okn Q m d id u2 lo2 hi2 W) : Calls Try.prog 12 #[u, u2] W (VP (.bool true) W) := by
 rcases h with ⟨h1, rfl⟩ | ⟨h1, j, h2, h3, io, ic, A, bc, I, rfl, h4, h5, h6, h7, h8⟩
 · rcases h' with ⟨_, rfl⟩ | ⟨k1, _⟩
   · exact eqQuad_any ⟨0, 0, fun _ => 0, fun _ => (0, 0, 0, 0), fun _ => 0, fun _ => 0, fun _ => 0, fun _ => false, fun _ => 0, fun _ _ => 0⟩ 0 0 none none none none 0 0 0 0 0 0 0 0 (fun _ => (none, 0)) (fun _ => (none, 0)) (Nat.zero_le _) (Nat.zero_le _) (fun i hi => absurd hi (Nat.not_lt_zero i)) W (fun h => absurd h (Nat.not_lt_zero 0)) (fun h => absurd h (Nat.not_lt_zero 0)) qz_it qz_it qz_bl qz_bl
   · rw [h1] at k1; cases k1
 · rcases h' with ⟨k1, _⟩ | ⟨k1, j', k2, k3, io', ic', A', bc', I', rfl, k4, k5, k6, k7, k8⟩
   · rw [h1] at k1; cases k1
   · obtain rfl := k2.one h2 (rise_of (qOk_all (hok h1)).2.2.1)
     have hm : Q.m ≤ 40 := (of_decide_eq_true (qOk_all (hok h1)).2.2.1).1
     have hit : ∀ {io9 : Option Addr} {ic9 lo9 : Nat}, W.ownsRow lo9 59 5 (.slice io9 (Q.m - 1) ic9) (Q.m - 1) (itCs (delQ Q j') (List.range (Q.m - 1))) → ItIn (qdOf (delQ Q j') (cutL Q m d j')) W io9 (List.range (Q.m - 1)) := fun h9 => by
       obtain ⟨ao9, cap9, e9, hI9⟩ := ItIn.of (Q := delQ Q j') (l := List.range (Q.m - 1)) (by rw [List.length_range]; exact h9)
       rw [List.length_range] at e9
       cases e9
       exact hI9
     have hL : ∀ i, i < (cutL Q m d j').length → ((cutL Q m d j').getD i ⟨0, 0, 0, false, []⟩).l.length ≤ 1048576 := fun i hi => by
       have h9 := cutL_ll (j := j') (hok h1) ((cutL Q m d j').getD i ⟨0, 0, 0, false, []⟩) (by rw [List.getD_eq_getElem?_getD, List.getElem?_eq_getElem hi]; exact List.getElem_mem hi)
       omega
     exact eqQuad_any (qdOf (delQ Q j') (cutL Q m d j')) m d io (some ⟨A, 0, none⟩) io' (some ⟨A', 0, none⟩) ic bc ic' bc' A 0 A' 0 (soL I) (soL I') (by show Q.m - 1 ≤ _; omega) (by show (cutL Q m d j').length ≤ _; omega) hL W (fun _ => rfl) (fun _ => rfl) (hit h4) (hit k4) (blIn_of h5 h6) (blIn_of k5 k6)
theorem CnG.quG {okn : Bool} {Q : QD} {m d id : Int} (hok : okn = true → qOk Q m d = true) {u : Value} {lo hi : Nat} {W : World} (h : CnG okn Q m d id u lo hi W) : QuG u lo hi W := by
 rcases h with ⟨h1, rfl⟩ | ⟨h1, j, h2, h3, io, ic, A, bc, I, rfl, h4, h5, h6, h7, h8⟩
 · exact quG_zero
 · have hm : Q.m ≤ 40 := (of_decide_eq_true (qOk_all (hok h1)).2.2.1).1
   have hL : ∀ i, i < (cutL Q m d j).length → ((cutL Q m d j).getD i ⟨0, 0, 0, false, []⟩).l.length ≤ 1048576 := fun i hi => by
     have h9 := cutL_ll (j := j) (hok h1) ((cutL Q m d j).getD i ⟨0, 0, 0, false, []⟩) (by rw [List.getD_eq_getElem?_getD, List.getElem?_eq_getElem hi]; exact List.getElem_mem hi)
     omega
   have hid : ∀ i b, i < (cutL Q m d j).length → (I.getD i undef).ownBlock = some b → (lo ≤ b ∧ b < hi) ∧ (Value.slice io (Q.m - 1) ic).ownBlock ≠ some b ∧ A ≠ b := fun i b hi hb => (isP_at h6 hi).2 b hb
   refine ⟨m, d, io, ic, Q.m - 1, some ⟨A, 0, none⟩, bc, (cutL Q m d j).length, _, fun k => (wbCs (cutL Q m d j) I).getD k undef, fun i => I.getD i undef, fun i => ((cutL Q m d j).getD i ⟨0, 0, 0, false, []⟩).l.length, fun i k => ((((cutL Q m d j).getD i ⟨0, 0, 0, false, []⟩).l).map (Value.int .i64)).getD k undef, rfl, by omega, by omega, hL, ⟨RwN.own h4, ⟨(RwN.own h5).congr (fun k hk => ?_), fun i hi => RwN.own (isP_at h6 hi).1, fun i b hi hb e => ?_, fun i k b hi hk hne hb => ?_⟩, fun b hb h9 => ?_⟩, fun b hb => ?_⟩
   · unfold bkC
     by_cases e : k % 5 = 4
     · rw [if_pos e]
       have h9 := wbCs_at (i := k / 5) (k := 4) h6.toI (by omega) (by omega)
       rw [show k / 5 * 5 + 4 = k by omega] at h9
       rw [List.getD_eq_getElem?_getD, h9]
       rfl
     · rw [if_neg e]
   · exact (hid i b hi hb).2.2 (Option.some.inj e)
   · rcases Nat.lt_or_gt_of_ne hne with h | h
     · exact isP_apart h6 h hk b hb
     · exact fun e => isP_apart h6 h hi b e hb
   · rcases h9 with h9 | ⟨i, hi, h9⟩
     · exact (h7 b hb).2 (Option.some.inj h9)
     · exact (hid i b hi h9).2.1 hb
   · rcases hb with hb | hb | ⟨i, hi, hb⟩
     · exact ⟨(World.ownsRow.lt h4 b hb).1, (h7 b hb).1⟩
     · have := (World.ownsRow.lt h5 b hb).1
       have e := Option.some.inj hb
       exact ⟨this, by rw [← e]; exact h8⟩
     · exact (hid i b hi hb).1
theorem cn_of_g {okn : Bool} {Q : QD} {m d id : Int} (hok : cutB Q m d id = okn) {W W2 : World} {r : Ending} (h : CutG Q m d id W r W2) : ∃ u, r = .returned (.tuple #[u, .bool okn]) ∧ CnG okn Q m d id u W.heap.size W2.heap.size W2 ∧ Below W.heap.size W W2 := by
 obtain ⟨hB, ⟨h1, rfl⟩ | ⟨h1, j, hj, hji, v, u, I, rfl, h3, h4, h5, h6⟩⟩ := h
 · have : okn = false := hok.symm.trans h1
   exact ⟨_, by rw [this], .inl ⟨this, rfl⟩, hB⟩
 · have : okn = true := hok.symm.trans h1
   have h2 : (cutL Q m d j).length ≤ 2000 := (cut_tree (by unfold cutB at h1; rw [Bool.and_eq_true] at h1; exact h1.1) hj).2.1
   obtain ⟨io, ic, rfl⟩ := ownQ_slice h3
   obtain ⟨A, bc, rfl, _⟩ := ownQ_form h4 (wrT_pos _ _ _ _)
   refine ⟨_, by rw [this], .inr ⟨this, j, ⟨hj, hji⟩, h2, io, ic, A, bc, I, rfl, h3, h4, IsP.keep (fun _ _ _ => rfl) (fun b hb hl => ⟨⟨hb.1, hl⟩, hb.2.1, fun e => hb.2.2 (by rw [e]; rfl)⟩) h5, fun b e => ⟨(World.ownsRow.lt h3 b e).2, fun e2 => h6 b e (by rw [e2]; rfl)⟩, (World.ownsRow.lt h4 A rfl).2⟩, hB⟩
theorem cn_of_s {okn : Bool} {Q : QD} {m d id : Int} (hok : cutB Q m d id = okn) {W W2 : World} {r : Ending} (h : CutS Q m d id W r W2) : ∃ u, r = .returned (.tuple #[u, .bool okn]) ∧ CnS okn Q m d id u W.heap.size W2.heap.size W2 ∧ Below W.heap.size W W2 := by
 obtain ⟨hB, ⟨h1, rfl⟩ | ⟨h1, j, hj, hji, v, u, I, rfl, h3, h4, h5⟩⟩ := h
 · have : okn = false := hok.symm.trans h1
   exact ⟨_, by rw [this], .inl ⟨this, rfl⟩, hB⟩
 · have : okn = true := hok.symm.trans h1
   have h2 : (cutL Q m d j).length ≤ 2000 := (cut_tree (by unfold cutB at h1; rw [Bool.and_eq_true] at h1; exact h1.1) hj).2.1
   obtain ⟨io, ic, rfl⟩ := ownQ_slice h3
   obtain ⟨A, bc, rfl, _⟩ := ownQ_form h4 (wrT_pos _ _ _ _)
   exact ⟨_, by rw [this], .inr ⟨this, j, ⟨hj, hji⟩, h2, io, ic, A, bc, I, rfl, h3, h4, IvP.keep (Nat.le_refl _) (fun _ _ _ => rfl) (fun b hb hl => ⟨hb, hl⟩) h5, fun b e => (World.ownsRow.lt h3 b e).2, (World.ownsRow.lt h4 A rfl).2⟩, hB⟩
open Go.ChangeShapes Go.WideShapes Go.ChangeAt Go.RowKit Go.Joins
theorem Try.cellsSpot : Try.prog.cellsOf 27 = 2 := by kernel_rfl
theorem Try.cellsSeg : Try.prog.cellsOf 29 = 4 := by kernel_rfl
abbrev Wf (x : Int) : Prop := (Lit.int .i64 x).wf = true
abbrev SpD {H : Type} (x y : Int) : DataW H := .agg [.lit (.int .i64 x), .lit (.int .i64 y)]
theorem trod_spot {H : Type} {enc : TypeId × Value → H} {w : World} {base : Nat} {spare : TypeId → Bool} {held : Bool} {n : Nat} {c0 c1 : Value} {y : DataW H × List MemPlace} (h : DataW.trod enc Try.prog w base spare held n 27 [c0, c1] = some y) :
   ∃ a b : Int, c0 = .int .i64 a ∧ c1 = .int .i64 b ∧ y = (SpD a b, []) ∧ Wf a ∧ Wf b := by
 obtain ⟨y0, y1, m, hx, _, h0, h1⟩ := trod_struct2 Try.underlying27 h
 obtain ⟨a, e0, rfl, wa⟩ := DataW.trod_int Try.underlying2 h0
 obtain ⟨b, e1, rfl, wb⟩ := DataW.trod_int Try.underlying2 h1
 have k : Try.prog.cellsOf 2 = 1 := by kernel_rfl
 simp [k] at e0 e1
 exact ⟨a, b, e0, e1, hx, wa, wb⟩
def QuE (Q : QD) (m d : Int) (v : Value) (W : World) : Prop := ∃ gi gb S, v = .agg #[.int .i64 m, .int .i64 d, .slice (some ⟨gi, 0, none⟩) Q.m Q.m, .slice (some ⟨gb, 0, none⟩) Q.N Q.N] ∧ QuRow Q W 0 gi gb S
theorem QuE.step {Q : QD} {m d : Int} {v : Value} {W W2 : World} (h : QuE Q m d v W) (hB : Below W.heap.size W W2) : QuE Q m d v W2 := by
 obtain ⟨gi, gb, S, h1, h2⟩ := h
 exact ⟨gi, gb, S, h1, h2.step hB⟩
theorem QuRow.zero {Q : QD} {w : World} {b gi gb : Nat} {S : Nat → Nat} (h : QuRow Q w b gi gb S) : QuRow Q w 0 gi gb S :=
 ⟨h.its, Nat.zero_le _, ⟨h.bls.row, Nat.zero_le _, fun j hj => ⟨Nat.zero_le _, (h.bls.ids j hj).2⟩, h.bls.up⟩, h.d1, h.d2⟩
def VqaE (Qd : QD) (m d : Int) (ao bo : Option Addr) (cap bcap gi gb : Nat) (_B : Nat) : Nat → Value → World → Prop
 | 0, v, _ => v = .agg #[.int .i64 m, .int .i64 d, .slice (some ⟨gi, 0, none⟩) Qd.m Qd.m, .slice (some ⟨gb, 0, none⟩) Qd.N Qd.N]
 | 1, v, _ => v = .agg #[.int .i64 m, .int .i64 d, .slice ao Qd.m cap, .slice bo Qd.N bcap]
 | 2, v, W => QuE Qd m d v W
 | 3, v, _ => v = .bool true
 | 4, v, _ => v = .bool false
 | _, _, _ => True
theorem VqaE.mono {Qd : QD} {m d : Int} {ao bo : Option Addr} {cap bcap gi gb : Nat} {B j : Nat} {v : Value} {W W2 : World} (hB : Below W.heap.size W W2) (h : VqaE Qd m d ao bo cap bcap gi gb B j v W) : VqaE Qd m d ao bo cap bcap gi gb B j v W2 := by
 unfold VqaE at *
 split <;> simp only at h <;> first | exact h | exact h.step hB | trivial
set_option maxRecDepth 100000 in
set_option maxHeartbeats 4000000 in
theorem qaE {Q : Exit → Act → World → Prop} {Qd : QD} {m d : Int} {ao bo : Option Addr} {cap bcap gi gb : Nat} {P X A off : Nat} {so : Nat → Option Addr × Nat} {S : Nat → Nat} {w0 : World} {a0 : Act} {idq : Nat} {t0 t1 t2 t3 t4 : TypeId} {q0 q1 q2 q3 q4 : String}
   (hm : Qd.m ≤ 1048576) (hN : Qd.N ≤ 1048576) (hL : ∀ i, i < Qd.N → Qd.L i ≤ 1048576) (hbo : 0 < Qd.N → bo = some ⟨A, off, none⟩) (hIt : ItIn Qd w0 ao (List.range Qd.m)) (hBl : BlIn Qd w0 A off so) (hR : QuRow Qd w0 0 gi gb S) (h3 : a0.tmps[2]? = some (.pointer (some ⟨P, 0, none⟩))) (h10 : a0.tmps[8]? = some (.pointer (some ⟨X, 0, none⟩))) (k0 : w0.cell? ⟨P, 0, none⟩ = some (.int .i64 m)) (l0 : (⟨P, 0, none⟩ : Addr).block < w0.heap.size) (k1 : w0.cell? ⟨P, 1, none⟩ = some (.int .i64 d)) (l1 : (⟨P, 1, none⟩ : Addr).block < w0.heap.size) (k2 : w0.cell? ⟨P, 2, none⟩ = some (.slice ao Qd.m cap)) (l2 : (⟨P, 2, none⟩ : Addr).block < w0.heap.size) (k3 : w0.cell? ⟨P, 3, none⟩ = some (.slice bo Qd.N bcap)) (l3 : (⟨P, 3, none⟩ : Addr).block < w0.heap.size) (k4 : w0.cell? ⟨X, 0, none⟩ = some (.int .i64 m)) (l4 : (⟨X, 0, none⟩ : Addr).block < w0.heap.size) (k5 : w0.cell? ⟨X, 1, none⟩ = some (.int .i64 d)) (l5 : (⟨X, 1, none⟩ : Addr).block < w0.heap.size) (k6 : w0.cell? ⟨X, 2, none⟩ = some (.slice (some ⟨gi, 0, none⟩) Qd.m Qd.m)) (l6 : (⟨X, 2, none⟩ : Addr).block < w0.heap.size) (k7 : w0.cell? ⟨X, 3, none⟩ = some (.slice (some ⟨gb, 0, none⟩) Qd.N Qd.N)) (l7 : (⟨X, 3, none⟩ : Addr).block < w0.heap.size) (hz : a0.tmps.size = 101)
   (hQ : ∀ aq W, aq.tmps.size = a0.tmps.size → aq.defers = a0.defers → (∀ e, e ∉ ([45, 46, 47, 48, 49] : List Nat) → aq.tmps[e]? = a0.tmps[e]?) → VqaE Qd m d ao bo cap bcap gi gb w0.heap.size 4 (aq.tmps.getD 49 undef) W → Below w0.heap.size w0 W → Q .normal aq W) :
   (Code.region idq #[{ dst := some 45, op := Op.load 34 (Operand.tmp 8), type := t0, pos := q0, after := #[], guard := none },
   { dst := some 46, op := Op.load 25 (Operand.tmp 2), type := t1, pos := q1, after := #[], guard := none },
   { dst := some 47, op := Op.call { callee := Callee.value (Operand.func 9), args := #[Operand.tmp 46], argTypes := #[25] }, type := t2, pos := q2, after := #[{ on := 1, ground := Ground.data }], guard := none },
   { dst := some 48, op := Op.call { callee := Callee.value (Operand.func 12), args := #[Operand.tmp 45, Operand.tmp 47], argTypes := #[34, 34] }, type := t3, pos := q3, after := #[{ on := 0, ground := Ground.data }, { on := 2, ground := Ground.data }, { on := 2, ground := Ground.chain }], guard := none },
   { dst := some 49, op := Op.unOp UnOp.not 4 (Operand.tmp 48), type := t4, pos := q4, after := #[{ on := 3, ground := Ground.data }], guard := none }] true).wp Try.prog Q a0 w0 := by
 have hS : distS [some 45, some 46, some 47, some 48, some 49] = true := rfl
 refine wp_region_q (by kernel_rfl) w0.heap.size [some 45, some 46, some 47, some 48, some 49] (VqaE Qd m d ao bo cap bcap gi gb w0.heap.size) rfl ?_ ?_
 · intro Q lq aq W iq oq hJ hl ho hall
   have hJ2 := hJ
   obtain ⟨z1, z2, z3, z4, z5, z6, z7⟩ := hJ
   have g3 : aq.tmps.getD 2 undef = .pointer (some ⟨P, 0, none⟩) := by rw [Array.getD_eq_getD_getElem?, z4 2 (by decide), h3]; rfl
   have g10 : aq.tmps.getD 8 undef = .pointer (some ⟨X, 0, none⟩) := by rw [Array.getD_eq_getD_getElem?, z4 8 (by decide), h10]; rfl
   have c0 : W.cell? ⟨P, 0, none⟩ = some (.int .i64 m) := (z5.cell l0).trans k0
   have c1 : W.cell? ⟨P, 1, none⟩ = some (.int .i64 d) := (z5.cell l1).trans k1
   have c2 : W.cell? ⟨P, 2, none⟩ = some (.slice ao Qd.m cap) := (z5.cell l2).trans k2
   have c3 : W.cell? ⟨P, 3, none⟩ = some (.slice bo Qd.N bcap) := (z5.cell l3).trans k3
   have c4 : W.cell? ⟨X, 0, none⟩ = some (.int .i64 m) := (z5.cell l4).trans k4
   have c5 : W.cell? ⟨X, 1, none⟩ = some (.int .i64 d) := (z5.cell l5).trans k5
   have c6 : W.cell? ⟨X, 2, none⟩ = some (.slice (some ⟨gi, 0, none⟩) Qd.m Qd.m) := (z5.cell l6).trans k6
   have c7 : W.cell? ⟨X, 3, none⟩ = some (.slice (some ⟨gb, 0, none⟩) Qd.N Qd.N) := (z5.cell l7).trans k7
   match iq, ho with
   | 0, ho =>
     cases ho
     refine wpOp_of rfl rfl ?_
     have hK := fun (v : Value) (W2 : World) hW hT hv => hJ2.put hS 0 45 rfl (by omega) (W' := W2) hW hT v hv
     clear ho hall hl hQ
     generalize InvQ _ _ _ w0 a0 (lq.setIfInBounds 0 true) = K at hK ⊢
     clear hJ2 hS z1 z2 z3 z4 z6 z7
     go_simp
     exact hK _ _ z5 (fun _ _ h => h) rfl
   | 1, ho =>
     cases ho
     refine wpOp_of rfl rfl ?_
     have hK := fun (v : Value) (W2 : World) hW hT hv => hJ2.put hS 1 46 rfl (by omega) (W' := W2) hW hT v hv
     clear ho hall hl hQ
     generalize InvQ _ _ _ w0 a0 (lq.setIfInBounds 1 true) = K at hK ⊢
     clear hJ2 hS z1 z2 z3 z4 z6 z7
     go_simp
     exact hK _ _ z5 (fun _ _ h => h) rfl
   | 2, ho =>
     cases ho
     refine wpOp_of rfl rfl ?_
     have f1 : (aq.tmps.getD 46 undef) = .agg #[.int .i64 m, .int .i64 d, .slice ao Qd.m cap, .slice bo Qd.N bcap] := z6 1 46 (hall { on := 1, ground := Ground.data } (by simp) rfl) rfl
     have hK := fun (v : Value) (W2 : World) hW hT hv => hJ2.put hS 2 47 rfl (by omega) (W' := W2) hW hT v hv
     clear ho hall hl hQ
     generalize InvQ _ _ _ w0 a0 (lq.setIfInBounds 2 true) = K at hK ⊢
     clear hJ2 hS z1 z2 z3 z4 z6 z7
     go_simp
     refine (toQuad_any Qd ao bo cap bcap A off so m d hm hN hL hbo W (hIt.step z5) (hBl.below z5)).mono ?_
     rintro r v1 ⟨gi2, gb2, S2, rfl, R2, hBv⟩
     exact hK _ _ (z5.trans (hBv.mono z5.size)) (fun _ _ h => h.mono hBv) ⟨gi2, gb2, S2, rfl, R2.zero⟩
   | 3, ho =>
     cases ho
     refine wpOp_of rfl rfl ?_
     have f0 : (aq.tmps.getD 45 undef) = .agg #[.int .i64 m, .int .i64 d, .slice (some ⟨gi, 0, none⟩) Qd.m Qd.m, .slice (some ⟨gb, 0, none⟩) Qd.N Qd.N] := z6 0 45 (hall { on := 0, ground := Ground.data } (by simp) rfl) rfl
     have f2 : QuE Qd m d (aq.tmps.getD 47 undef) W := z6 2 47 (hall { on := 2, ground := Ground.data } (by simp) rfl) rfl
     obtain ⟨gi2, gb2, S2, f2, R2⟩ := f2
     have hK := fun (v : Value) (W2 : World) hW hT hv => hJ2.put hS 3 48 rfl (by omega) (W' := W2) hW hT v hv
     clear ho hall hl hQ
     generalize InvQ _ _ _ w0 a0 (lq.setIfInBounds 3 true) = K at hK ⊢
     clear hJ2 hS z1 z2 z3 z4 z6 z7
     go_simp
     refine (eqQuad_any Qd m d _ _ _ _ _ _ _ _ gb 0 gb2 0 _ _ hm hN hL W (fun _ => rfl) (fun _ => rfl) (hR.step z5).items R2.items (hR.step z5).bls.in R2.bls.in).mono ?_
     rintro r v1 ⟨rfl, hBv⟩
     exact hK _ _ (z5.trans (hBv.mono z5.size)) (fun _ _ h => h.mono hBv) rfl
   | 4, ho =>
     cases ho
     refine wpOp_of rfl rfl ?_
     have f3 : (aq.tmps.getD 48 undef) = .bool true := z6 3 48 (hall { on := 3, ground := Ground.data } (by simp) rfl) rfl
     have hK := fun (v : Value) (W2 : World) hW hT hv => hJ2.put hS 4 49 rfl (by omega) (W' := W2) hW hT v hv
     clear ho hall hl hQ
     generalize InvQ _ _ _ w0 a0 (lq.setIfInBounds 4 true) = K at hK ⊢
     clear hJ2 hS z1 z2 z3 z4 z6 z7
     go_simp
     exact hK _ _ z5 (fun _ _ h => h) rfl
   | iq + 5, ho => simp at ho
 · intro lq aq W hJ hr
   obtain ⟨z1, z2, z3, z4, z5, z6, z7⟩ := hJ
   have hl := listed_of hr [0, 1, 2, 3, 4] [] (by simp) (by kernel_rfl) (by rw [z1]; decide)
   exact hQ aq W z2 z3 (fun e he => z4 e (by simpa using he)) (z6 4 49 (hl 4 (by simp)) rfl) z5
set_option maxRecDepth 100000 in
set_option maxHeartbeats 16000000 in
theorem lawQuadCut_any (Q : QD) (ao bo : Option Addr) (cap bcap A off : Nat) (so : Nat → Option Addr × Nat) (m d : Int) (hm : Q.m ≤ 9223372036854775807) (hN : Q.N ≤ 9223372036854775807) (hL : ∀ i, i < Q.N → Q.L i ≤ 9223372036854775807) (hbo : 0 < Q.N → bo = some ⟨A, off, none⟩) (id : Int) (w : World) (hS : ItIn Q w ao (List.range Q.m)) (hBl : BlIn Q w A off so) : Calls Try.prog 4 #[.agg #[.int .i64 m, .int .i64 d, .slice ao Q.m cap, .slice bo Q.N bcap], .int .i64 id] w (BoolP true w) := by
 obtain ⟨okn, hok⟩ : ∃ okn, cutB Q m d id = okn := ⟨_, rfl⟩
 have HOKQ : Hid (okn = true → qOk Q m d = true) := fun h => by
   rw [h] at hok
   unfold cutB at hok
   rw [Bool.and_eq_true] at hok
   exact hok.1
 have B0 : Blk (w.alloc (.cells #[.int .i64 m, .int .i64 d, .slice ao Q.m cap, .slice bo Q.N bcap] 25)) w.heap.size [.int .i64 m, .int .i64 d, .slice ao Q.m cap, .slice bo Q.N bcap] := Blk.new w [.int .i64 m, .int .i64 d, .slice ao Q.m cap, .slice bo Q.N bcap] 25 rfl
 have HB : Below w.heap.size w (w.alloc (.cells #[.int .i64 m, .int .i64 d, .slice ao Q.m cap, .slice bo Q.N bcap] 25)) := (Below.refl _ w).alloc (Nat.le_refl _) _
 have SZ := fun w h => szQuad_any Q ao bo cap bcap A off so m d hm hN hL hbo w h
 have HS : Hid (ItIn Q w ao (List.range Q.m)) := hS
 have HBL : Hid (BlIn Q w A off so) := hBl
 clear hS hBl hm hN hL
 go_enter Try.func4, Try.ntmps4
 go_upto_region 1 with fail
 generalize (w.alloc (.cells #[.int .i64 m, .int .i64 d, .slice ao Q.m cap, .slice bo Q.N bcap] 25)) = W1 at *
 have qB00 := B0.c 0 rfl; have qB01 := B0.c 1 rfl; have qB02 := B0.c 2 rfl; have qB03 := B0.c 3 rfl
 go_wp2_with fail
 refine (SZ _ (HBL.out.below HB)).mono ?_
 rintro e w1 ⟨z, rfl, z0, hz, hB⟩
 replace HB := HB.trans (hB.mono HB.size)
 replace B0 := B0.step hB
 clear hB SZ qB00 qB01 qB02 qB03
 by_cases hz0 : 0 ≤ z
 · obtain ⟨hm, hN, hL⟩ := hz hz0
   have HM : Hid (Q.m ≤ 1048576) := hm
   have HN : Hid (Q.N ≤ 1048576) := hN
   have HL : Hid (∀ i, i < Q.N → Q.L i ≤ 1048576) := hL
   have HBO : Hid (0 < Q.N → bo = some ⟨A, off, none⟩) := hbo
   have SP1 : ∀ gi gb S W, QuRow Q W 0 gi gb S → Calls Try.prog 15 #[.agg #[.int .i64 m, .int .i64 d, .slice (some ⟨gi, 0, none⟩) Q.m Q.m, .slice (some ⟨gb, 0, none⟩) Q.N Q.N], .int .i64 id] W (fun r w' => ∃ u, r = .returned (.tuple #[u, .bool okn]) ∧ CnS okn Q m d id u W.heap.size w'.heap.size w' ∧ Below W.heap.size W w') := fun gi gb S W R => (specQuadCut_any W Q (some ⟨gi, 0, none⟩) (some ⟨gb, 0, none⟩) Q.m Q.N gb 0 _ m d hm hN hL (fun _ => rfl) (fun _ _ h => by cases h) R.items R.bls.in id).mono (fun r w' h => cn_of_s hok h)
   have SPI : ∀ gi gb S W, QuRow Q W 0 gi gb S → Calls Try.prog 16 #[.agg #[.int .i64 m, .int .i64 d, .slice (some ⟨gi, 0, none⟩) Q.m Q.m, .slice (some ⟨gb, 0, none⟩) Q.N Q.N], .int .i64 id] W (fun r w' => ∃ u, r = .returned (.tuple #[u, .bool okn]) ∧ CnG okn Q m d id u W.heap.size w'.heap.size w' ∧ Below W.heap.size W w') := fun gi gb S W R => (implQuadCut_any W Q (some ⟨gi, 0, none⟩) (some ⟨gb, 0, none⟩) Q.m Q.N gb 0 _ m d hm hN (Nat.le_refl _) hL (fun _ => rfl) (fun A o sp e => by cases e; exact R.its.lt) R.items R.bls.in id).mono (fun r w' h => cn_of_g hok h)
   clear hz hm hN hL hbo hok
   have qB00 := B0.c 0 rfl; have qB01 := B0.c 1 rfl; have qB02 := B0.c 2 rfl; have qB03 := B0.c 3 rfl
   go_wp2_with fail
   refine (toQuad_any Q ao bo cap bcap A off so m d HM.out HN.out HL.out HBO.out _ (HS.out.step HB) (HBL.out.below HB)).mono ?_
   rintro e w2 ⟨gi0, gb0, S0, rfl, R0, hB⟩
   clear qB00 qB01 qB02 qB03
   replace HB := HB.trans (hB.mono HB.size)
   replace B0 := B0.step hB
   clear hB
   have hPw2 : w.heap.size < w2.heap.size := B0.lt
   go_wp2_with fail
   refine (SP1 gi0 gb0 S0 w2 R0.zero).mono ?_
   rintro e w3 ⟨u8, rfl, T8, hB⟩
   replace HB := HB.trans (hB.mono HB.size)
   replace B0 := B0.step hB
   have h23 := hB.size
   clear hB
   clear R0
   obtain ⟨m8, d8, io8, n8, ic8, bo8, N8, bc8, rfl⟩ := T8.form
   have hc8 : w3.heap.size ≤ w3.heap.size := Nat.le_refl _
   have hB : Below w3.heap.size w3 (w3.alloc (.cells #[.int .i64 m8, .int .i64 d8, .slice io8 n8 ic8, .slice bo8 N8 bc8] 34)) := (Below.refl _ w3).alloc (Nat.le_refl _) _
   replace HB := HB.trans (hB.mono HB.size)
   replace B0 := B0.step hB
   replace T8 := CnS.keep T8 hB.size (fun b _ h2 => hB.block b (Nat.lt_of_lt_of_le h2 hc8))
   replace hc8 := Nat.le_trans hc8 hB.size
   have G8 : Blk (w3.alloc (.cells #[.int .i64 m8, .int .i64 d8, .slice io8 n8 ic8, .slice bo8 N8 bc8] 34)) w3.heap.size [.int .i64 m8, .int .i64 d8, .slice io8 n8 ic8, .slice bo8 N8 bc8] := Blk.new w3 [.int .i64 m8, .int .i64 d8, .slice io8 n8 ic8, .slice bo8 N8 bc8] 34 rfl
   clear hB
   go_upto_region 6 with fail
   generalize (w3.alloc (.cells #[.int .i64 m8, .int .i64 d8, .slice io8 n8 ic8, .slice bo8 N8 bc8] 34)) = W4 at *
   have hl8 : w3.heap.size < W4.heap.size := G8.lt
   have qB00 := B0.c 0 rfl; have qB01 := B0.c 1 rfl; have qB02 := B0.c 2 rfl; have qB03 := B0.c 3 rfl
   go_wp2_with fail
   refine (toQuad_any Q ao bo cap bcap A off so m d HM.out HN.out HL.out HBO.out _ (HS.out.step HB) (HBL.out.below HB)).mono ?_
   rintro e w5 ⟨gi, gb, S2, rfl, R2, hB⟩
   clear qB00 qB01 qB02 qB03
   replace HB := HB.trans (hB.mono HB.size)
   replace B0 := B0.step hB
   replace G8 := G8.step hB
   replace T8 := CnS.keep T8 hB.size (fun b _ h2 => hB.block b (Nat.lt_of_lt_of_le h2 hc8))
   replace hc8 := Nat.le_trans hc8 hB.size
   have h45 := hB.size
   clear hB
   have HX := R2.quG m d HM.out HN.out HL.out
   have hcX : w5.heap.size ≤ w5.heap.size := Nat.le_refl _
   have BX : Blk (w5.alloc (.cells #[.int .i64 m, .int .i64 d, .slice (some ⟨gi, 0, none⟩) Q.m Q.m, .slice (some ⟨gb, 0, none⟩) Q.N Q.N] 34)) w5.heap.size [.int .i64 m, .int .i64 d, .slice (some ⟨gi, 0, none⟩) Q.m Q.m, .slice (some ⟨gb, 0, none⟩) Q.N Q.N] := Blk.new w5 [.int .i64 m, .int .i64 d, .slice (some ⟨gi, 0, none⟩) Q.m Q.m, .slice (some ⟨gb, 0, none⟩) Q.N Q.N] 34 rfl
   have hB : Below w5.heap.size w5 (w5.alloc (.cells #[.int .i64 m, .int .i64 d, .slice (some ⟨gi, 0, none⟩) Q.m Q.m, .slice (some ⟨gb, 0, none⟩) Q.N Q.N] 34)) := (Below.refl _ w5).alloc (Nat.le_refl _) _
   replace HB := HB.trans (hB.mono HB.size)
   replace B0 := B0.step hB
   replace G8 := G8.step hB
   replace T8 := CnS.keep T8 hB.size (fun b _ h2 => hB.block b (Nat.lt_of_lt_of_le h2 hc8))
   replace hc8 := Nat.le_trans hc8 hB.size
   replace R2 := R2.step hB
   replace HX := QuG.keep HX (fun b _ h2 => hB.block b (Nat.lt_of_lt_of_le h2 hcX))
   replace hcX := Nat.le_trans hcX hB.size
   clear hB
   go_upto_region 7 with fail
   generalize (w5.alloc (.cells #[.int .i64 m, .int .i64 d, .slice (some ⟨gi, 0, none⟩) Q.m Q.m, .slice (some ⟨gb, 0, none⟩) Q.N Q.N] 34)) = W6 at *
   have h56 : w5.heap.size < W6.heap.size := BX.lt
   have qBX0 := BX.c 0 rfl; have qBX1 := BX.c 1 rfl; have qBX2 := BX.c 2 rfl; have qBX3 := BX.c 3 rfl
   go_wp2_with fail
   refine (SPI gi gb S2 _ R2.zero).mono ?_
   rintro e w7 ⟨u11, rfl, T11, hB⟩
   clear qBX0 qBX1 qBX2 qBX3
   replace HB := HB.trans (hB.mono HB.size)
   replace B0 := B0.step hB
   replace G8 := G8.step hB
   replace BX := BX.step hB
   replace T8 := CnS.keep T8 hB.size (fun b _ h2 => hB.block b (Nat.lt_of_lt_of_le h2 hc8))
   replace hc8 := Nat.le_trans hc8 hB.size
   replace R2 := R2.step hB
   replace HX := QuG.keep HX (fun b _ h2 => hB.block b (Nat.lt_of_lt_of_le h2 hcX))
   replace hcX := Nat.le_trans hcX hB.size
   have h67 := hB.size
   clear hB
   obtain ⟨m11, d11, io11, n11, ic11, bo11, N11, bc11, rfl⟩ := T11.s.form
   have hc11 : w7.heap.size ≤ w7.heap.size := Nat.le_refl _
   have hB : Below w7.heap.size w7 (w7.alloc (.cells #[.int .i64 m11, .int .i64 d11, .slice io11 n11 ic11, .slice bo11 N11 bc11] 34)) := (Below.refl _ w7).alloc (Nat.le_refl _) _
   replace HB := HB.trans (hB.mono HB.size)
   replace B0 := B0.step hB
   replace G8 := G8.step hB
   replace BX := BX.step hB
   replace T8 := CnS.keep T8 hB.size (fun b _ h2 => hB.block b (Nat.lt_of_lt_of_le h2 hc8))
   replace hc8 := Nat.le_trans hc8 hB.size
   replace R2 := R2.step hB
   replace HX := QuG.keep HX (fun b _ h2 => hB.block b (Nat.lt_of_lt_of_le h2 hcX))
   replace hcX := Nat.le_trans hcX hB.size
   replace T11 := CnG.keep T11 (fun b _ h2 => hB.block b (Nat.lt_of_lt_of_le h2 hc11))
   replace hc11 := Nat.le_trans hc11 hB.size
   have G11 : Blk (w7.alloc (.cells #[.int .i64 m11, .int .i64 d11, .slice io11 n11 ic11, .slice bo11 N11 bc11] 34)) w7.heap.size [.int .i64 m11, .int .i64 d11, .slice io11 n11 ic11, .slice bo11 N11 bc11] := Blk.new w7 [.int .i64 m11, .int .i64 d11, .slice io11 n11 ic11, .slice bo11 N11 bc11] 34 rfl
   clear hB
   go_upto_region 8 with fail
   generalize (w7.alloc (.cells #[.int .i64 m11, .int .i64 d11, .slice io11 n11 ic11, .slice bo11 N11 bc11] 34)) = W8 at *
   have hl11 : w7.heap.size < W8.heap.size := G11.lt
   have qG110 := G11.c 0 rfl; have qG111 := G11.c 1 rfl; have qG112 := G11.c 2 rfl; have qG113 := G11.c 3 rfl; have qG80 := G8.c 0 rfl; have qG81 := G8.c 1 rfl; have qG82 := G8.c 2 rfl; have qG83 := G8.c 3 rfl
   go_wp2_with fail
   refine (eqCn_any HOKQ.out _ T11.s T8).mono ?_
   rintro e w9 ⟨rfl, hB⟩
   clear qG110 qG111 qG112 qG113 qG80 qG81 qG82 qG83
   replace HB := HB.trans (hB.mono HB.size)
   replace B0 := B0.step hB
   replace G8 := G8.step hB
   replace BX := BX.step hB
   replace G11 := G11.step hB
   replace T8 := CnS.keep T8 hB.size (fun b _ h2 => hB.block b (Nat.lt_of_lt_of_le h2 hc8))
   replace hc8 := Nat.le_trans hc8 hB.size
   replace T11 := CnG.keep T11 (fun b _ h2 => hB.block b (Nat.lt_of_lt_of_le h2 hc11))
   replace hc11 := Nat.le_trans hc11 hB.size
   replace R2 := R2.step hB
   replace HX := QuG.keep HX (fun b _ h2 => hB.block b (Nat.lt_of_lt_of_le h2 hcX))
   replace hcX := Nat.le_trans hcX hB.size
   clear hB
   go_upto_region 10 with fail
   have hp0 := B0.lt; have hpx := BX.lt
   refine qaE (Qd := Q) (m := m) (d := d) (ao := ao) (bo := bo) (cap := cap) (bcap := bcap) (gi := gi) (gb := gb) (P := w.heap.size) (X := w5.heap.size) (A := A) (off := off) (so := so) (S := S2) HM.out HN.out HL.out HBO.out (HS.out.step HB) (HBL.out.below HB) R2.zero rfl rfl (B0.c 0 rfl) hp0 (B0.c 1 rfl) hp0 (B0.c 2 rfl) hp0 (B0.c 3 rfl) hp0 (BX.c 0 rfl) hpx (BX.c 1 rfl) hpx (BX.c 2 rfl) hpx (BX.c 3 rfl) hpx rfl ?_
   rintro ⟨tm, df⟩ w10 hz hdf hoff h55 hB
   simp only at hz hdf hoff h55
   change tm.getD 49 undef = .bool false at h55
   subst hdf
   have htm := tmps_fold [45, 46, 47, 48, 49] tm _ hz hoff
   simp only [List.foldl, List.setIfInBounds_toArray, List.set_cons_zero, List.set_cons_succ, h55] at htm
   clear hz hoff
   generalize tm.getD 45 undef = py0, tm.getD 46 undef = py1, tm.getD 47 undef = py2, tm.getD 48 undef = py3 at htm
   clear h55
   subst htm
   clear hp0 hpx
   replace HB := HB.trans (hB.mono HB.size)
   replace B0 := B0.step hB
   replace G8 := G8.step hB
   replace BX := BX.step hB
   replace G11 := G11.step hB
   replace T8 := CnS.keep T8 hB.size (fun b _ h2 => hB.block b (Nat.lt_of_lt_of_le h2 hc8))
   replace hc8 := Nat.le_trans hc8 hB.size
   replace T11 := CnG.keep T11 (fun b _ h2 => hB.block b (Nat.lt_of_lt_of_le h2 hc11))
   replace hc11 := Nat.le_trans hc11 hB.size
   replace R2 := R2.step hB
   replace HX := QuG.keep HX (fun b _ h2 => hB.block b (Nat.lt_of_lt_of_le h2 hcX))
   replace hcX := Nat.le_trans hcX hB.size
   clear hB R2
   have qBX0 := BX.c 0 rfl; have qBX1 := BX.c 1 rfl; have qBX2 := BX.c 2 rfl; have qBX3 := BX.c 3 rfl
   go_wp2_with fail
   refine (markG_any _ HX).mono ?_
   rintro e w11 ⟨zx, hzx, rfl, _, hF⟩
   clear qBX0 qBX1 qBX2 qBX3 HX hcX
   have hzx0 : ¬ ((zx : Int) < 0) := by omega
   replace HB := HB.trans (hF.below (B := w.heap.size) HB.size (fun b hb => by have := hb.1; omega))
   replace B0 := hF.blk B0 (fun hb => by have h1 := hb.1; have h2 := hb.2; omega)
   replace G8 := hF.blk G8 (fun hb => by have h1 := hb.1; have h2 := hb.2; omega)
   replace G11 := hF.blk G11 (fun hb => by have h1 := hb.1; have h2 := hb.2; omega)
   replace T8 := CnS.keep T8 hF.size (fun b h1 h2 => hF.block b (Nat.lt_of_lt_of_le h2 hc8) (fun hb => by have h3 := hb.1; have h4 := hb.2; omega))
   replace hc8 := Nat.le_trans hc8 hF.size
   replace T11 := CnG.keep T11 (fun b h1 h2 => hF.block b (Nat.lt_of_lt_of_le h2 hc11) (fun hb => by have h3 := hb.1; have h4 := hb.2; omega))
   replace hc11 := Nat.le_trans hc11 hF.size
   clear hF BX
   have qG110 := G11.c 0 rfl; have qG111 := G11.c 1 rfl; have qG112 := G11.c 2 rfl; have qG113 := G11.c 3 rfl; have qG80 := G8.c 0 rfl; have qG81 := G8.c 1 rfl; have qG82 := G8.c 2 rfl; have qG83 := G8.c 3 rfl
   go_wp2_with fail
   refine (eqCn_any HOKQ.out _ T11.s T8).mono ?_
   rintro e w12 ⟨rfl, hB⟩
   clear qG110 qG111 qG112 qG113 qG80 qG81 qG82 qG83
   replace HB := HB.trans (hB.mono HB.size)
   replace B0 := B0.step hB
   replace G8 := G8.step hB
   replace G11 := G11.step hB
   replace T8 := CnS.keep T8 hB.size (fun b _ h2 => hB.block b (Nat.lt_of_lt_of_le h2 hc8))
   replace hc8 := Nat.le_trans hc8 hB.size
   replace T11 := CnG.keep T11 (fun b _ h2 => hB.block b (Nat.lt_of_lt_of_le h2 hc11))
   replace hc11 := Nat.le_trans hc11 hB.size
   clear hB
   clear hzx0
   have qG110 := G11.c 0 rfl; have qG111 := G11.c 1 rfl; have qG112 := G11.c 2 rfl; have qG113 := G11.c 3 rfl
   have HG := T11.quG HOKQ.out
   go_wp2_with fail
   refine (markG_any _ HG).mono ?_
   rintro e w13 ⟨z, hzz, rfl, HM9, hF⟩
   clear qG110 qG111 qG112 qG113 HG
   have hz0 : ¬ ((z : Int) < 0) := by omega
   replace hc11 := Nat.le_trans hc11 hF.size
   replace HB := HB.trans (hF.below (B := w.heap.size) HB.size (fun b hb => by have := hb.1; omega))
   replace B0 := hF.blk B0 (fun hb => by have h1 := hb.1; have h2 := hb.2; omega)
   replace G8 := hF.blk G8 (fun hb => by have h1 := hb.1; have h2 := hb.2; omega)
   replace G11 := hF.blk G11 (fun hb => by have h1 := hb.1; have h2 := hb.2; omega)
   replace T8 := CnS.keep T8 hF.size (fun b h1 h2 => hF.block b (Nat.lt_of_lt_of_le h2 hc8) (fun hb => by have h3 := hb.1; have h4 := hb.2; omega))
   replace hc8 := Nat.le_trans hc8 hF.size
   clear hF T11
   have qG110 := G11.c 0 rfl; have qG111 := G11.c 1 rfl; have qG112 := G11.c 2 rfl; have qG113 := G11.c 3 rfl
   go_wp2_with fail
   refine (heldG_any _ HM9).mono ?_
   rintro e w14 ⟨rfl, hB⟩
   clear qG110 qG111 qG112 qG113
   replace HB := HB.trans (hB.mono HB.size)
   replace B0 := B0.step hB
   replace G8 := G8.step hB
   replace G11 := G11.step hB
   replace T8 := CnS.keep T8 hB.size (fun b _ h2 => hB.block b (Nat.lt_of_lt_of_le h2 hc8))
   replace hc8 := Nat.le_trans hc8 hB.size
   replace HM9 := MkG.keep HM9 (fun b _ h2 => hB.block b (Nat.lt_of_lt_of_le h2 hc11))
   replace hc11 := Nat.le_trans hc11 hB.size
   clear hB
   have qB00 := B0.c 0 rfl; have qB01 := B0.c 1 rfl; have qB02 := B0.c 2 rfl; have qB03 := B0.c 3 rfl
   go_wp2_with fail
   refine (toQuad_any Q ao bo cap bcap A off so m d HM.out HN.out HL.out HBO.out _ (HS.out.step HB) (HBL.out.below HB)).mono ?_
   rintro e w15 ⟨gi3, gb3, S3, rfl, R3, hB⟩
   clear qB00 qB01 qB02 qB03
   replace HB := HB.trans (hB.mono HB.size)
   replace B0 := B0.step hB
   replace G8 := G8.step hB
   replace G11 := G11.step hB
   replace T8 := CnS.keep T8 hB.size (fun b _ h2 => hB.block b (Nat.lt_of_lt_of_le h2 hc8))
   replace hc8 := Nat.le_trans hc8 hB.size
   replace HM9 := MkG.keep HM9 (fun b _ h2 => hB.block b (Nat.lt_of_lt_of_le h2 hc11))
   replace hc11 := Nat.le_trans hc11 hB.size
   clear hB
   go_wp2_with fail
   refine (SPI gi3 gb3 S3 w15 R3.zero).mono ?_
   rintro e w16 ⟨u16, rfl, T16, hB⟩
   replace HB := HB.trans (hB.mono HB.size)
   replace B0 := B0.step hB
   replace G8 := G8.step hB
   replace G11 := G11.step hB
   replace T8 := CnS.keep T8 hB.size (fun b _ h2 => hB.block b (Nat.lt_of_lt_of_le h2 hc8))
   replace hc8 := Nat.le_trans hc8 hB.size
   replace HM9 := MkG.keep HM9 (fun b _ h2 => hB.block b (Nat.lt_of_lt_of_le h2 hc11))
   replace hc11 := Nat.le_trans hc11 hB.size
   clear hB
   clear R3
   obtain ⟨m16, d16, io16, n16, ic16, bo16, N16, bc16, rfl⟩ := T16.s.form
   have hc16 : w16.heap.size ≤ w16.heap.size := Nat.le_refl _
   have hB : Below w16.heap.size w16 (w16.alloc (.cells #[.int .i64 m16, .int .i64 d16, .slice io16 n16 ic16, .slice bo16 N16 bc16] 34)) := (Below.refl _ w16).alloc (Nat.le_refl _) _
   replace HB := HB.trans (hB.mono HB.size)
   replace B0 := B0.step hB
   replace G8 := G8.step hB
   replace G11 := G11.step hB
   replace T8 := CnS.keep T8 hB.size (fun b _ h2 => hB.block b (Nat.lt_of_lt_of_le h2 hc8))
   replace hc8 := Nat.le_trans hc8 hB.size
   replace HM9 := MkG.keep HM9 (fun b _ h2 => hB.block b (Nat.lt_of_lt_of_le h2 hc11))
   replace hc11 := Nat.le_trans hc11 hB.size
   replace T16 := CnG.keep T16 (fun b _ h2 => hB.block b (Nat.lt_of_lt_of_le h2 hc16))
   replace hc16 := Nat.le_trans hc16 hB.size
   have G16 : Blk (w16.alloc (.cells #[.int .i64 m16, .int .i64 d16, .slice io16 n16 ic16, .slice bo16 N16 bc16] 34)) w16.heap.size [.int .i64 m16, .int .i64 d16, .slice io16 n16 ic16, .slice bo16 N16 bc16] := Blk.new w16 [.int .i64 m16, .int .i64 d16, .slice io16 n16 ic16, .slice bo16 N16 bc16] 34 rfl
   clear hB
   go_upto_region 25 with fail
   generalize (w16.alloc (.cells #[.int .i64 m16, .int .i64 d16, .slice io16 n16 ic16, .slice bo16 N16 bc16] 34)) = W17 at *
   have hl16 : w16.heap.size < W17.heap.size := G16.lt
   have qG160 := G16.c 0 rfl; have qG161 := G16.c 1 rfl; have qG162 := G16.c 2 rfl; have qG163 := G16.c 3 rfl; have qG80 := G8.c 0 rfl; have qG81 := G8.c 1 rfl; have qG82 := G8.c 2 rfl; have qG83 := G8.c 3 rfl
   go_wp2_with fail
   refine (eqCn_any HOKQ.out _ T16.s T8).mono ?_
   rintro e w18 ⟨rfl, hB⟩
   clear qG160 qG161 qG162 qG163 qG80 qG81 qG82 qG83
   replace HB := HB.trans (hB.mono HB.size)
   replace B0 := B0.step hB
   replace G8 := G8.step hB
   replace G11 := G11.step hB
   replace T8 := CnS.keep T8 hB.size (fun b _ h2 => hB.block b (Nat.lt_of_lt_of_le h2 hc8))
   replace hc8 := Nat.le_trans hc8 hB.size
   replace HM9 := MkG.keep HM9 (fun b _ h2 => hB.block b (Nat.lt_of_lt_of_le h2 hc11))
   replace hc11 := Nat.le_trans hc11 hB.size
   clear hB
   clear G16 T16 hc16 hl16
   have qG110 := G11.c 0 rfl; have qG111 := G11.c 1 rfl; have qG112 := G11.c 2 rfl; have qG113 := G11.c 3 rfl
   go_wp2_with fail
   refine (heldG_any _ HM9).mono ?_
   rintro e w19 ⟨rfl, hB⟩
   clear qG110 qG111 qG112 qG113
   replace HB := HB.trans (hB.mono HB.size)
   replace B0 := B0.step hB
   replace G8 := G8.step hB
   replace G11 := G11.step hB
   replace T8 := CnS.keep T8 hB.size (fun b _ h2 => hB.block b (Nat.lt_of_lt_of_le h2 hc8))
   replace hc8 := Nat.le_trans hc8 hB.size
   replace HM9 := MkG.keep HM9 (fun b _ h2 => hB.block b (Nat.lt_of_lt_of_le h2 hc11))
   replace hc11 := Nat.le_trans hc11 hB.size
   clear hB
   go_wp2
   go_ret
   exact ⟨rfl, HB⟩
 · have hz' : z < 0 := by omega
   clear hz hbo HS HBL
   go_wp2
   go_ret
   exact ⟨rfl, HB⟩
end Go.Proofs.Ytjhapeidafbncaa
