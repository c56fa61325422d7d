/- Part 1 of the walks that the proof leans on. -/
import Derived.Test.YtjhapeidafbncaaRows
import Derived.WalkKit
import Derived.WalkSpells
import Derived.WalkLawsBesides
import Derived.Laws.Bits64b
import Derived.Deep.QuietTactic
import Derived.BigQuiet
import Derived.Laws.Externs
import Derived.Shelf.Spec.BitsCarry
import Derived.BigRegion
import Derived.Deep.CutBlock
import Derived.Deep.DeepCutAuto
import Derived.Deep.RegionWith
import Derived.Shelf.Bits.Mul64
import Derived.Deep.RegionHeld3
import Derived.Deep.LoopGhost
import Derived.WalkMore
import Derived.Deep.MidRow
import Derived.ProofKit
import Derived.Lib.SmallJoins
import Derived.Deep.Strs
import Derived.Deep.OwnRows
set_option maxRecDepth 100000
set_option maxHeartbeats 16000000
namespace Go.Proofs.Ytjhapeidafbncaa
def val:List Int→Int
 | []=>0
 | d::t=>d+4294967296*val t
open Go.RowKit
theorem cell_alloc {w:World} {o:Obj} {b off:Nat} {v:Value} (hb:b<w.heap.size) (h:w.cell? ⟨b,off,none⟩=some v):(w.alloc o).cell? ⟨b,off,none⟩=some v:=by
 rw[((Below.refl w.heap.size w).alloc (Nat.le_refl _) o).cell (p:=⟨b,off,none⟩) hb];exact h
theorem ret_int {k:IntKind} {a b:Int} (h:b=a):Ending.returned (.int k a)= .returned (.int k b):=by rw[h]
theorem bcell {W w1:World} (hb:Below W.heap.size W w1):(∀b o,b<W.heap.size→w1.cell? ⟨b,o,none⟩=W.cell? ⟨b,o,none⟩)∧(∀b o,b<W.heap.size→w1.frozen? ⟨b,o,none⟩=W.frozen? ⟨b,o,none⟩):=
 ⟨fun b o h=>hb.cell (p:=⟨b,o,none⟩) h,fun b o h=>hb.frozen (p:=⟨b,o,none⟩) h⟩
def IntP (z:Int) (w:World) (e:Ending) (w' :World):Prop:=e= .returned (.int .i64 z)∧Below w.heap.size w w'
def Word (x:Int):Prop:=0≤x∧x<18446744073709551616
def told (z:Int):Bool:=decide (-57896044618658097711785492504343953926634992332820282019728792003956564819968≤z∧z<57896044618658097711785492504343953926634992332820282019728792003956564819968)
def eight (ds:List Int) (k:Nat):List Value:=(List.range 8).map fun i=> .int .u64 (if i<k then ds.getD i 0 else 0)
def val64:List Int→Int
 | []=>0
 | d::t=>d+18446744073709551616*val64 t
def Blk (W:World) (g:Nat) (vs:List Value):Prop:=g<W.heap.size∧∀i v,vs[i]? =some v→W.cell? ⟨g,i,none⟩=some v∧W.frozen? ⟨g,i,none⟩=false
theorem Blk.lt {W:World} {g:Nat} {vs:List Value} (h:Blk W g vs):g<W.heap.size:=h.1
theorem Blk.c {W:World} {g:Nat} {vs:List Value} (h:Blk W g vs) (i:Nat) {v:Value} (hi:vs[i]? =some v):W.cell? ⟨g,i,none⟩=some v:=(h.2 i v hi).1
theorem Blk.f {W:World} {g:Nat} {vs:List Value} (h:Blk W g vs) (i:Nat) {v:Value} (hi:vs[i]? =some v):W.frozen? ⟨g,i,none⟩=false:=(h.2 i v hi).2
theorem Blk.cs2 {W:World} {g:Nat} {v0 v1:Value} {vs:List Value} (h:Blk W g (v0::v1::vs)):W.cell? ⟨g,0,none⟩=some v0∧W.cell? ⟨g,1,none⟩=some v1:=⟨h.c 0 rfl,h.c 1 rfl⟩
theorem Blk.cf2 {W:World} {g:Nat} {v0 v1:Value} {vs:List Value} (h:Blk W g (v0::v1::vs)):W.cell? ⟨g,0,none⟩=some v0∧W.frozen? ⟨g,0,none⟩=false∧W.cell? ⟨g,1,none⟩=some v1∧W.frozen? ⟨g,1,none⟩=false:=⟨h.c 0 rfl,h.f 0 rfl,h.c 1 rfl,h.f 1 rfl⟩
theorem Blk.cs4 {W:World} {g:Nat} {v0 v1 v2 v3:Value} {vs:List Value} (h:Blk W g (v0::v1::v2::v3::vs)):W.cell? ⟨g,0,none⟩=some v0∧W.cell? ⟨g,1,none⟩=some v1∧W.cell? ⟨g,2,none⟩=some v2∧W.cell? ⟨g,3,none⟩=some v3:=⟨h.c 0 rfl,h.c 1 rfl,h.c 2 rfl,h.c 3 rfl⟩
theorem Blk.below {W W' :World} {B g:Nat} {vs:List Value} (h:Blk W g vs) (hB:Below B W W') (hg:g<B):Blk W' g vs:=
 ⟨Nat.lt_of_lt_of_le h.1 hB.size,fun i _ hi=>⟨(hB.cell (p:=⟨g,i,none⟩) hg).trans (h.c i hi),(hB.frozen (p:=⟨g,i,none⟩) hg).trans (h.f i hi)⟩⟩
theorem Blk.step {W W' :World} {g:Nat} {vs:List Value} (h:Blk W g vs) (hB:Below W.heap.size W W'):Blk W' g vs:=h.below hB h.1
theorem Blk.alloc {W:World} {g:Nat} {vs:List Value} (h:Blk W g vs) (o:Obj):Blk (W.alloc o) g vs:=h.step ((Below.refl W.heap.size W).alloc (Nat.le_refl _) o)
theorem Blk.drew {W:World} {g:Nat} {vs:List Value} (h:Blk W g vs):Blk W.drew g vs:=h
theorem Blk.new (W:World) (vs:List Value) (t:TypeId) {g:Nat} (hg:g=W.heap.size):Blk (W.alloc (.cells vs.toArray t)) g vs:=by
 subst hg
 refine⟨by simp,fun i v hi=>⟨?_,by simp[go_sem]⟩⟩
 simp[go_sem,hi]
theorem Blk.setO {W:World} {g:Nat} {vs:List Value} (h:Blk W g vs) {p:Addr} (hne:g≠p.block) (u:Value):Blk (W.setCell p u) g vs:=by
 have hh:(W.setCell p u).heap[g]? =W.heap[g]? :=Below.heap_setCell _ _ _ _ hne
 refine⟨by simpa [World.setCell] using h.1,fun i v hi=>⟨?_,?_⟩⟩
 · have:=h.c i hi
   unfold World.cell? at *
   simpa [hh] using this
 · have:=h.f i hi
   unfold World.frozen? at *
   simpa [hh] using this
theorem Blk.setI {W:World} {g:Nat} {vs:List Value} (h:Blk W g vs) (j:Nat) (hj:j<vs.length) (u:Value):Blk (W.setCell ⟨g,j,none⟩ u) g (vs.set j u):=by
 refine⟨by simpa [World.setCell] using h.1,fun i v hi=>?_⟩
 by_cases e:i=j
 · subst e
   have hv:v=u:=by simpa [hj] using hi.symm
   subst hv
   exact⟨by simp[go_sem,h.c i (List.getElem?_eq_getElem hj)],by simp[go_sem,h.f i (List.getElem?_eq_getElem hj)]⟩
 · have hi' :vs[i]? =some v:=by simpa [List.getElem?_set,Ne.symm e] using hi
   exact⟨(World.cell?_setCell_other _ _ _ _ (by simp)).trans (h.c i hi'),by simp[go_sem,h.f i hi']⟩
def ArgsB (w W:World) (vss:List (List Value)):Prop:=Below w.heap.size w W∧∀j vs,vss[j]? =some vs→Blk W (w.heap.size+j) vs
theorem ArgsB.below {w W:World} {vss:List (List Value)} (h:ArgsB w W vss):Below w.heap.size w W:=h.1
theorem ArgsB.b {w W:World} {vss:List (List Value)} (h:ArgsB w W vss) (j:Nat) {vs:List Value} (hj:vss[j]? =some vs):Blk W (w.heap.size+j) vs:=h.2 j vs hj
theorem ArgsB.step {w W W' :World} {vss:List (List Value)} (h:ArgsB w W vss) (hB:Below W.heap.size W W'):ArgsB w W' vss:=⟨h.1.trans (hB.mono h.1.size),fun j vs hj=>(h.2 j vs hj).step hB⟩
theorem ArgsB.alloc {w W:World} {vss:List (List Value)} (h:ArgsB w W vss) (o:Obj):ArgsB w (W.alloc o) vss:=h.step ((Below.refl W.heap.size W).alloc (Nat.le_refl _) o)
theorem ArgsB.drew {w W:World} {vss:List (List Value)} (h:ArgsB w W vss):ArgsB w W.drew vss:=⟨h.1.drew,h.2⟩
def agg (xs:List Int):Value:= .agg (xs.map (Value.int .u64)).toArray
def BoolP (b:Bool) (w:World) (e:Ending) (w' :World):Prop:=e= .returned (.bool b)∧Below w.heap.size w w'
open Go.RowKit Go.Shelf
def sl (x0 x1 x2 x3 x4 x5 x6 x7:Int):Int:=val64 [x0,x1,x2,x3,x4,x5,x6,x7]-(if x7<9223372036854775808 then 0 else 13407807929942597099574024998205846127479365820592393377723561443721764030073546976801874298166903427690031858186486050853753882811946569946433649006084096)
def put (rs:List Int) (place:Nat) (zs:List Int):List Int:=rs.take place ++(zs ++rs.drop (place+zs.length))
structure Two (w W:World) (A0 A1 B0 B1:Value):Prop where
 a0:W.cell? ⟨w.heap.size,0,none⟩=some A0
 a1:W.cell? ⟨w.heap.size,1,none⟩=some A1
 b0:W.cell? ⟨w.heap.size+1,0,none⟩=some B0
 b1:W.cell? ⟨w.heap.size+1,1,none⟩=some B1
 r0:W.cell? ⟨w.heap.size+1+1,0,none⟩=some (.bool false)
 r1:W.cell? ⟨w.heap.size+1+1,1,none⟩=some (.slice none 0 0)
 f0:W.frozen? ⟨w.heap.size+1+1,0,none⟩=false
 f1:W.frozen? ⟨w.heap.size+1+1,1,none⟩=false
 sz:w.heap.size+1+1<W.heap.size
 below:Below w.heap.size w W
structure Wd (W:World) (g:Nat) (a3 a2 a1 a0:Int):Prop where
 c0:W.cell? ⟨g,0,none⟩=some (.int .u64 a3)
 c1:W.cell? ⟨g,1,none⟩=some (.int .u64 a2)
 c2:W.cell? ⟨g,2,none⟩=some (.int .u64 a1)
 c3:W.cell? ⟨g,3,none⟩=some (.int .u64 a0)
 f0:W.frozen? ⟨g,0,none⟩=false
 f1:W.frozen? ⟨g,1,none⟩=false
 f2:W.frozen? ⟨g,2,none⟩=false
 f3:W.frozen? ⟨g,3,none⟩=false
 lt:g<W.heap.size
def ww0 (z:Int):Int:=z%18446744073709551616
def ww1 (z:Int):Int:=z / 18446744073709551616%18446744073709551616
def ww2 (z:Int):Int:=z / 340282366920938463463374607431768211456%18446744073709551616
def ww3 (z:Int):Int:=z / 6277101735386680763835789423207666416102355444464034512896%18446744073709551616
abbrev W4 (z:Int):Value:= .agg #[.int .u64 (ww3 z),.int .u64 (ww2 z),.int .u64 (ww1 z),.int .u64 (ww0 z)]
def VP (v:Value) (w:World) (e:Ending) (w' :World):Prop:=e= .returned v∧Below w.heap.size w w'
theorem ret_bool {a b:Bool} (h:b=a):Ending.returned (.bool a)= .returned (.bool b):=by rw[h]
def small (z:Int):Bool:=decide ((z.natAbs:Int)<1208925819614629174706176)
open Go.ChangeShapes Go.WideShapes Go.ChangeAt Go.RowKit Go.Joins
theorem Try.own:ownKnob Try.prog.godebug=none:=by kernel_rfl
open Go.ChangeShapes Go.WideShapes Go.ChangeAt Go.RowKit Go.Joins
abbrev WdD {H:Type} (a3 a2 a1 a0:Int):DataW H:= .agg [.lit (.int .u64 a3),.lit (.int .u64 a2),.lit (.int .u64 a1),.lit (.int .u64 a0)]
abbrev PtD {H:Type} (x y z:Int):DataW H:= .agg [WdD (ww3 x) (ww2 x) (ww1 x) (ww0 x),WdD (ww3 y) (ww2 y) (ww1 y) (ww0 y),WdD (ww3 z) (ww2 z) (ww1 z) (ww0 z)]
def SpotP (x y:Int) (w:World) (e:Ending) (w' :World):Prop:=e= .returned (.agg #[.int .i64 x,.int .i64 y])∧Below w.heap.size w w'
abbrev Sp (x y:Int):Value:= .agg #[.int .i64 x,.int .i64 y]
def spotOk (x y:Int):Bool:=decide (-1000000≤x∧x≤1000000∧-1000000≤y∧y≤1000000)
theorem l1In_any (x a b:Int) (c:Bool) (hc:decide (a≤x∧x≤b)=c) (w:World):Calls Try.prog 27 #[.int .i64 x,.int .i64 a,.int .i64 b] w (BoolP c w):=by
 go_enter Try.func27,Try.ntmps27
 go_wp2
 all_goals go_ret
 all_goals exact⟨ret_bool (by subst hc;simp;try omega),Below.refl _ _⟩
theorem implSpotOk_any (x y:Int) (c:Bool) (hc:spotOk x y=c) (w:World):Calls Try.prog 72 #[Sp x y] w (BoolP c w):=by
 go_enter Try.func72,Try.ntmps72
 go_wp2
 all_goals go_ret
 all_goals exact⟨ret_bool (by subst hc;unfold spotOk;simp[*];try omega),(Below.refl _ _).alloc (Nat.le_refl _) _⟩
theorem specSpotOk_any (x y:Int) (c:Bool) (hc:spotOk x y=c) (w:World):Calls Try.prog 60 #[Sp x y] w (BoolP c w):=by
 by_cases hx: -1000000≤x∧x≤1000000
 · go_enter Try.func60,Try.ntmps60
   go_wp2_with fail
   refine(l1In_any _ _ _ true (by simpa using hx) _).mono ?_
   rintro e w1 ⟨rfl,hB⟩
   obtain⟨hq,_⟩:=bcell hB
   have HB:Below w.heap.size w w1:=((Below.refl _ _).alloc (Nat.le_refl _) _).trans (hB.mono (by simp))
   clear hB
   go_wp2_with fail
   refine(l1In_any _ _ _ c (by subst hc;unfold spotOk;simp[hx]) _).mono ?_
   rintro e w2 ⟨rfl,hB⟩
   go_wp2
   go_ret
   exact⟨rfl,HB.trans (hB.mono HB.size)⟩
 · go_enter Try.func60,Try.ntmps60
   go_wp2_with fail
   refine(l1In_any _ _ _ false (by simpa using hx) _).mono ?_
   rintro e w1 ⟨rfl,hB⟩
   have HB:Below w.heap.size w w1:=((Below.refl _ _).alloc (Nat.le_refl _) _).trans (hB.mono (by simp))
   clear hB
   go_wp2
   go_ret
   exact⟨ret_bool (by subst hc;unfold spotOk;simp;omega),HB⟩
def lessI (x y u v:Int):Bool:=decide (x<u∨x=u∧y<v)
theorem l4Less_any (x y u v:Int) (c:Bool) (hc:lessI x y u v=c) (w:World):Calls Try.prog 61 #[Sp x y,Sp u v] w (BoolP c w):=by
 go_enter Try.func61,Try.ntmps61
 go_wp2
 all_goals go_ret
 all_goals exact⟨ret_bool (by subst hc;unfold lessI;simp[*];try omega),((Below.refl _ _).alloc (Nat.le_refl _) _).alloc (by simp) _⟩
theorem isAhead_any (x y u v:Int) (c:Bool) (hc:lessI x y u v=c) (w:World):Calls Try.prog 73 #[Sp x y,Sp u v] w (BoolP c w):=by
 go_enter Try.func73,Try.ntmps73
 go_wp2
 all_goals go_ret
 all_goals exact⟨ret_bool (by subst hc;unfold lessI;simp[*];try omega),((Below.refl _ _).alloc (Nat.le_refl _) _).alloc (by simp) _⟩
abbrev Sg (a b c d:Int):Value:= .agg #[.int .i64 a,.int .i64 b,.int .i64 c,.int .i64 d]
structure Quad (W:World) (g:Nat) (v0 v1 v2 v3:Value):Prop where
 c0:W.cell? ⟨g,0,none⟩=some v0
 c1:W.cell? ⟨g,1,none⟩=some v1
 c2:W.cell? ⟨g,2,none⟩=some v2
 c3:W.cell? ⟨g,3,none⟩=some v3
 f0:W.frozen? ⟨g,0,none⟩=false
 f1:W.frozen? ⟨g,1,none⟩=false
 f2:W.frozen? ⟨g,2,none⟩=false
 f3:W.frozen? ⟨g,3,none⟩=false
 lt:g<W.heap.size
theorem Quad.below {W W' :World} {B g:Nat} {v0 v1 v2 v3:Value} (h:Quad W g v0 v1 v2 v3) (hB:Below B W W') (hg:g<B):Quad W' g v0 v1 v2 v3:=
 ⟨(hB.cell (p:=⟨g,0,none⟩) hg).trans h.c0,(hB.cell (p:=⟨g,1,none⟩) hg).trans h.c1,(hB.cell (p:=⟨g,2,none⟩) hg).trans h.c2,(hB.cell (p:=⟨g,3,none⟩) hg).trans h.c3,
  (hB.frozen (p:=⟨g,0,none⟩) hg).trans h.f0,(hB.frozen (p:=⟨g,1,none⟩) hg).trans h.f1,(hB.frozen (p:=⟨g,2,none⟩) hg).trans h.f2,(hB.frozen (p:=⟨g,3,none⟩) hg).trans h.f3,Nat.lt_of_lt_of_le h.lt hB.size⟩
theorem Quad.new (W:World) (v0 v1 v2 v3:Value) (t:TypeId) {g:Nat} (hg:g=W.heap.size):Quad (W.alloc (.cells #[v0,v1,v2,v3] t)) g v0 v1 v2 v3:=by
 subst hg
 constructor<;>simp[go_sem]
def segOk (a b c d:Int):Bool:=spotOk a b&&spotOk c d&&lessI a b c d
theorem specSegOk_any (a b c d:Int) (z:Bool) (hz:segOk a b c d=z) (w:World):Calls Try.prog 28 #[Sg a b c d] w (BoolP z w):=by
 have HB0:Below w.heap.size w (w.alloc (.cells #[.int .i64 a,.int .i64 b,.int .i64 c,.int .i64 d] 40)):=(Below.refl _ _).alloc (Nat.le_refl _) _
 by_cases hx:spotOk a b=true
 · by_cases hy:spotOk c d=true
   · go_enter Try.func28,Try.ntmps28
     go_wp2_with fail
     refine(specSpotOk_any _ _ true hx _).mono ?_
     rintro e w1 ⟨rfl,hB⟩
     have HB:Below w.heap.size w w1:=HB0.trans (hB.mono (by simp))
     have q0:Quad w1 w.heap.size _ _ _ _:=(Quad.new w (.int .i64 a) (.int .i64 b) (.int .i64 c) (.int .i64 d) _ rfl).below hB (by simp)
     obtain⟨q00,q01,q02,q03,-,-,-,-,q08⟩:=id q0
     clear hB
     go_wp2_with fail
     refine(specSpotOk_any _ _ true hy _).mono ?_
     rintro e w2 ⟨rfl,hB⟩
     have HB2:Below w.heap.size w w2:=HB.trans (hB.mono HB.size)
     have q2:=q0.below hB q0.lt
     clear q00 q01 q02 q03 q08
     obtain⟨q00,q01,q02,q03,-,-,-,-,q08⟩:=q2
     clear hB HB
     go_wp2_with fail
     refine(l4Less_any _ _ _ _ z (by rw[←hz];simp[segOk,hx,hy]) _).mono ?_
     rintro e w3 ⟨rfl,hB⟩
     go_wp2
     go_ret
     exact⟨rfl,HB2.trans (hB.mono HB2.size)⟩
   · have hy:=Bool.eq_false_iff.2 hy
     go_enter Try.func28,Try.ntmps28
     go_wp2_with fail
     refine(specSpotOk_any _ _ true hx _).mono ?_
     rintro e w1 ⟨rfl,hB⟩
     have HB:Below w.heap.size w w1:=HB0.trans (hB.mono (by simp))
     have q0:Quad w1 w.heap.size _ _ _ _:=(Quad.new w (.int .i64 a) (.int .i64 b) (.int .i64 c) (.int .i64 d) _ rfl).below hB (by simp)
     obtain⟨q00,q01,q02,q03,-,-,-,-,q08⟩:=id q0
     clear hB
     go_wp2_with fail
     refine(specSpotOk_any _ _ false hy _).mono ?_
     rintro e w2 ⟨rfl,hB⟩
     have HB2:Below w.heap.size w w2:=HB.trans (hB.mono HB.size)
     clear hB HB
     go_wp2
     go_ret
     exact⟨ret_bool (by rw[←hz];simp[segOk,hx,hy]),HB2⟩
 · have hx:=Bool.eq_false_iff.2 hx
   go_enter Try.func28,Try.ntmps28
   go_wp2_with fail
   refine(specSpotOk_any _ _ false hx _).mono ?_
   rintro e w1 ⟨rfl,hB⟩
   have HB:Below w.heap.size w w1:=HB0.trans (hB.mono (by simp))
   clear hB
   go_wp2
   go_ret
   exact⟨ret_bool (by rw[←hz];simp[segOk,hx]),HB⟩
theorem implSegOk_any (a b c d:Int) (z:Bool) (hz:segOk a b c d=z) (w:World):Calls Try.prog 36 #[Sg a b c d] w (BoolP z w):=by
 have HB0:Below w.heap.size w (w.alloc (.cells #[.int .i64 a,.int .i64 b,.int .i64 c,.int .i64 d] 40)):=(Below.refl _ _).alloc (Nat.le_refl _) _
 by_cases hx:spotOk a b=true
 · by_cases hy:spotOk c d=true
   · go_enter Try.func36,Try.ntmps36
     go_wp2_with fail
     refine(implSpotOk_any _ _ true hx _).mono ?_
     rintro e w1 ⟨rfl,hB⟩
     have HB:Below w.heap.size w w1:=HB0.trans (hB.mono (by simp))
     have q0:Quad w1 w.heap.size _ _ _ _:=(Quad.new w (.int .i64 a) (.int .i64 b) (.int .i64 c) (.int .i64 d) _ rfl).below hB (by simp)
     obtain⟨q00,q01,q02,q03,-,-,-,-,q08⟩:=id q0
     clear hB
     go_wp2_with fail
     refine(implSpotOk_any _ _ true hy _).mono ?_
     rintro e w2 ⟨rfl,hB⟩
     have HB2:Below w.heap.size w w2:=HB.trans (hB.mono HB.size)
     have q2:=q0.below hB q0.lt
     clear q00 q01 q02 q03 q08
     obtain⟨q00,q01,q02,q03,-,-,-,-,q08⟩:=q2
     clear hB HB
     go_wp2_with fail
     refine(isAhead_any _ _ _ _ z (by rw[←hz];simp[segOk,hx,hy]) _).mono ?_
     rintro e w3 ⟨rfl,hB⟩
     go_wp2
     go_ret
     exact⟨rfl,HB2.trans (hB.mono HB2.size)⟩
   · have hy:=Bool.eq_false_iff.2 hy
     go_enter Try.func36,Try.ntmps36
     go_wp2_with fail
     refine(implSpotOk_any _ _ true hx _).mono ?_
     rintro e w1 ⟨rfl,hB⟩
     have HB:Below w.heap.size w w1:=HB0.trans (hB.mono (by simp))
     have q0:Quad w1 w.heap.size _ _ _ _:=(Quad.new w (.int .i64 a) (.int .i64 b) (.int .i64 c) (.int .i64 d) _ rfl).below hB (by simp)
     obtain⟨q00,q01,q02,q03,-,-,-,-,q08⟩:=id q0
     clear hB
     go_wp2_with fail
     refine(implSpotOk_any _ _ false hy _).mono ?_
     rintro e w2 ⟨rfl,hB⟩
     have HB2:Below w.heap.size w w2:=HB.trans (hB.mono HB.size)
     clear hB HB
     go_wp2
     go_ret
     exact⟨ret_bool (by rw[←hz];simp[segOk,hx,hy]),HB2⟩
 · have hx:=Bool.eq_false_iff.2 hx
   go_enter Try.func36,Try.ntmps36
   go_wp2_with fail
   refine(implSpotOk_any _ _ false hx _).mono ?_
   rintro e w1 ⟨rfl,hB⟩
   have HB:Below w.heap.size w w1:=HB0.trans (hB.mono (by simp))
   clear hB
   go_wp2
   go_ret
   exact⟨ret_bool (by rw[←hz];simp[segOk,hx]),HB⟩
def NoIn (w:World) (ao:Option Addr) (n:Nat) (x:Nat→Int):Prop:=
 ∀i,i<n→∃A off,ao=some ⟨A,off,none⟩∧A<w.heap.size∧w.cell? ⟨A,off+i,none⟩=some (.int .i64 (x i))
theorem NoIn.step {w w' :World} {ao:Option Addr} {n:Nat} {x:Nat→Int} (h:NoIn w ao n x) (hB:Below w.heap.size w w'):NoIn w' ao n x:=fun i hi=>by
 obtain⟨A,off,e,hA,hc⟩:=h i hi
 exact⟨A,off,e,Nat.lt_of_lt_of_le hA hB.size,(hB.cell (p:=⟨A,off+i,none⟩) hA).trans hc⟩
theorem Try.infoNo:(Try.prog.info? 2).map (fun i=>(i.zero,i.size,i.bytes))=some (some (.int .i64 0),1,8):=by kernel_rfl
def In6 (x:Int):Prop:=-1048576≤x∧x≤1048576
theorem mul_inS {p q M N:Int} (h1: -M≤p) (h2:p≤M) (h3: -N≤q) (h4:q≤N): -(M*N)≤p*q∧p*q≤M*N:=by
 have hM:0≤M:=by omega
 have hN:0≤N:=by omega
 have a1:0≤(M-p)*(N-q):=Int.mul_nonneg (by omega) (by omega)
 have a2:0≤(M+p)*(N+q):=Int.mul_nonneg (by omega) (by omega)
 have a3:0≤(M-p)*(N+q):=Int.mul_nonneg (by omega) (by omega)
 have a4:0≤(M+p)*(N-q):=Int.mul_nonneg (by omega) (by omega)
 constructor<;>grind
theorem minusSp_any (x y u v:Int) (hx:In6 x) (hy:In6 y) (hu:In6 u) (hv:In6 v) (w:World):Calls Try.prog 114 #[Sp x y,Sp u v] w (SpotP (x-u) (y-v) w):=by
 obtain⟨x1,x2⟩:=hx;obtain⟨y1,y2⟩:=hy;obtain⟨u1,u2⟩:=hu;obtain⟨v1,v2⟩:=hv
 go_enter Try.func114,Try.ntmps114
 go_wp2
 refine bodyPost_ret (v:=Sp (x-u) (y-v)) (by simp[results,Try.results114,go_sem]) rfl ?_
 exact⟨rfl,(((Below.refl _ _).alloc (Nat.le_refl _) _).alloc (by simp) _).alloc (by simp;omega) _⟩
theorem crossSp_any (x y u v p q:Int) (hp:x*v=p) (hq:y*u=q) (hpb: -4398046511104≤p∧p≤4398046511104) (hqb: -4398046511104≤q∧q≤4398046511104) (w:World):Calls Try.prog 115 #[Sp x y,Sp u v] w (IntP (p-q) w):=by
 obtain⟨p1,p2⟩:=hpb;obtain⟨q1,q2⟩:=hqb
 go_enter Try.func115,Try.ntmps115
 go_wp2
 go_ret
 exact⟨rfl,((Below.refl _ _).alloc (Nat.le_refl _) _).alloc (by simp) _⟩
def turnSp (a b c d x y:Int):Int:=(c-a)*(y-b)-(d-b)*(x-a)
def sgnSp (z:Int):Int:=if z<0 then -1 else if 0<z then 1 else 0
theorem l4Turn_any (a b c d x y:Int) (ha:In6 a) (hb:In6 b) (hc:In6 c) (hd:In6 d) (hx:In6 x) (hy:In6 y) (w:World) :
   Calls Try.prog 108 #[Sp a b,Sp c d,Sp x y] w (IntP (sgnSp (turnSp a b c d x y)) w):=by
 have HR:turnSp a b c d x y=(c-a)*(y-b)-(d-b)*(x-a):=rfl
 obtain⟨a1,a2⟩:=ha;obtain⟨b1,b2⟩:=hb;obtain⟨c1,c2⟩:=hc;obtain⟨d1,d2⟩:=hd;obtain⟨x1,x2⟩:=hx;obtain⟨y1,y2⟩:=hy
 obtain⟨p1,p2⟩:=mul_inS (p:=c-a) (q:=y-b) (M:=2097152) (N:=2097152) (by omega) (by omega) (by omega) (by omega)
 obtain⟨q1,q2⟩:=mul_inS (p:=d-b) (q:=x-a) (M:=2097152) (N:=2097152) (by omega) (by omega) (by omega) (by omega)
 obtain⟨p,hp⟩:∃p,(c-a)*(y-b)=p:=⟨_,rfl⟩
 obtain⟨q,hq⟩:∃q,(d-b)*(x-a)=q:=⟨_,rfl⟩
 rw[hp] at p1 p2 HR
 rw[hq] at q1 q2 HR
 rw[HR]
 clear HR
 go_enter Try.func108,Try.ntmps108
 go_wp2
 all_goals go_ret
 all_goals exact⟨ret_int (by unfold sgnSp;split<;>(try split)<;>omega),(((Below.refl _ _).alloc (Nat.le_refl _) _).alloc (by simp) _).alloc (by simp;omega) _⟩
theorem turnTo_cells {a b c d x y:Int} {w W:World} (h:ArgsB w W [[.int .i64 a,.int .i64 b,.int .i64 c,.int .i64 d],[.int .i64 x,.int .i64 y]]):(fun w' =>w'.cell? ⟨w.heap.size,0,none⟩=some (.int .i64 a)∧w'.cell? ⟨w.heap.size,1,none⟩=some (.int .i64 b)∧w'.cell? ⟨w.heap.size,2,none⟩=some (.int .i64 c)∧w'.cell? ⟨w.heap.size,3,none⟩=some (.int .i64 d)∧w'.cell? ⟨w.heap.size+1,0,none⟩=some (.int .i64 x)∧w'.cell? ⟨w.heap.size+1,1,none⟩=some (.int .i64 y)) W:=
 ⟨(h.b 0 rfl).c 0 rfl,(h.b 0 rfl).c 1 rfl,(h.b 0 rfl).c 2 rfl,(h.b 0 rfl).c 3 rfl,(h.b 1 rfl).c 0 rfl,(h.b 1 rfl).c 1 rfl⟩
theorem turnTo_start (a b c d x y:Int) (w:World):ArgsB w ((w.alloc (.cells #[.int .i64 a,.int .i64 b,.int .i64 c,.int .i64 d] 40)).alloc (.cells #[.int .i64 x,.int .i64 y] 38)) [[.int .i64 a,.int .i64 b,.int .i64 c,.int .i64 d],[.int .i64 x,.int .i64 y]]:=by
 refine⟨((Below.refl _ _).alloc (Nat.le_refl _) _).alloc (by simp) _,fun j vs hj=>?_⟩
 match j,hj with
 | 0,hj=>cases hj;exact(Blk.new w [.int .i64 a,.int .i64 b,.int .i64 c,.int .i64 d] 40 rfl).alloc _
 | 1,hj=>cases hj;exact Blk.new (w.alloc (.cells #[.int .i64 a,.int .i64 b,.int .i64 c,.int .i64 d] 40)) [.int .i64 x,.int .i64 y] 38 (by simp)
 | j+2,hj=>simp at hj
theorem turnTo_any (a b c d x y:Int) (ha:In6 a) (hb:In6 b) (hc:In6 c) (hd:In6 d) (hx:In6 x) (hy:In6 y) (w:World) :
   Calls Try.prog 113 #[Sg a b c d,Sp x y] w (IntP (turnSp a b c d x y) w):=by
 have HP: -4398046511104≤(c-a)*(y-b)∧(c-a)*(y-b)≤4398046511104:=mul_inS (M:=2097152) (N:=2097152) (by have:=ha.1;have:=ha.2;have:=hc.1;have:=hc.2;omega) (by have:=ha.1;have:=ha.2;have:=hc.1;have:=hc.2;omega) (by have:=hb.1;have:=hb.2;have:=hy.1;have:=hy.2;omega) (by have:=hb.1;have:=hb.2;have:=hy.1;have:=hy.2;omega)
 have HQ: -4398046511104≤(d-b)*(x-a)∧(d-b)*(x-a)≤4398046511104:=mul_inS (M:=2097152) (N:=2097152) (by have:=hb.1;have:=hb.2;have:=hd.1;have:=hd.2;omega) (by have:=hb.1;have:=hb.2;have:=hd.1;have:=hd.2;omega) (by have:=ha.1;have:=ha.2;have:=hx.1;have:=hx.2;omega) (by have:=ha.1;have:=ha.2;have:=hx.1;have:=hx.2;omega)
 have T0:=turnTo_start a b c d x y w
 have tok1:True:=trivial
 go_enter Try.func113,Try.ntmps113
 go_upto_region 1 with fail
 generalize ((w.alloc (.cells #[.int .i64 a,.int .i64 b,.int .i64 c,.int .i64 d] 40)).alloc (.cells #[.int .i64 x,.int .i64 y] 38))=W at *
 go_region_held3 (fun w' =>w'.cell? ⟨w.heap.size,0,none⟩=some (.int .i64 a)∧w'.cell? ⟨w.heap.size,1,none⟩=some (.int .i64 b)∧w'.cell? ⟨w.heap.size,2,none⟩=some (.int .i64 c)∧w'.cell? ⟨w.heap.size,3,none⟩=some (.int .i64 d)∧w'.cell? ⟨w.heap.size+1,0,none⟩=some (.int .i64 x)∧w'.cell? ⟨w.heap.size+1,1,none⟩=some (.int .i64 y)) (first | (with_reducible exact turnTo_cells T0) | (with_reducible exact turnTo_cells T0.drew))
   (first
     | (go_at_call 114;have _t:=tok1;refine(minusSp_any c d a b hc hd ha hb _).mono ?_;rintro e w1 ⟨rfl,hB⟩;(first | (have T1:=T0.step hB) | (have T1:=T0.drew.step hB));clear T0;have T0:=T1;clear T1;clear hB tok1 _t)
     | (go_at_call 114;refine(minusSp_any x y a b hx hy ha hb _).mono ?_;rintro e w2 ⟨rfl,hB⟩;(first | (have T1:=T0.step hB) | (have T1:=T0.drew.step hB));clear T0;have T0:=T1;clear T1;clear hB)
     | (go_at_call 115;refine(crossSp_any (c-a) (d-b) (x-a) (y-b) _ _ rfl rfl HP HQ _).mono ?_;rintro e w3 ⟨rfl,hB⟩;(first | (have T1:=T0.step hB) | (have T1:=T0.drew.step hB));clear T0;have T0:=T1;clear T1;clear hB))
 all_goals go_wp2
 all_goals go_ret
 all_goals first | exact⟨rfl,T0.below⟩ | exact⟨rfl,T0.drew.below⟩
structure PartI (w wr:World) (g:Nat) (sg sl:List Value):Prop where
 below:Below w.heap.size w wr
 seg:Blk wr w.heap.size sg
 row:Blk wr g sl
theorem PartI.step {w wr wr' :World} {g:Nat} {sg sl:List Value} (h:PartI w wr g sg sl) (hB:Below wr.heap.size wr wr'):PartI w wr' g sg sl:=⟨h.below.trans (hB.mono h.below.size),h.seg.step hB,h.row.step hB⟩
theorem PartI.alloc {w wr:World} {g:Nat} {sg sl:List Value} (h:PartI w wr g sg sl) (o:Obj):PartI w (wr.alloc o) g sg sl:=h.step ((Below.refl _ _).alloc (Nat.le_refl _) o)
def lefts (ts:List Int) (k:Nat):Bool:=(ts.take k).any (fun t=>decide (0≤t))
def rights (ts:List Int) (k:Nat):Bool:=(ts.take k).any (fun t=>decide (t≤0))
theorem lefts_succ (ts:List Int) (k:Nat) (t:Int) (h:ts[k]? =some t):lefts ts (k+1)=(lefts ts k||decide (0≤t)):=by
 unfold lefts
 rw[List.take_add_one,h]
 simp
theorem rights_succ (ts:List Int) (k:Nat) (t:Int) (h:ts[k]? =some t):rights ts (k+1)=(rights ts k||decide (t≤0)):=by
 unfold rights
 rw[List.take_add_one,h]
 simp
theorem parts_any (a b c d x0 y0 x1 y1 x2 y2 x3 y3:Int) (ha:In6 a) (hb:In6 b) (hc:In6 c) (hd:In6 d) (hx0:In6 x0) (hy0:In6 y0) (hx1:In6 x1) (hy1:In6 y1) (hx2:In6 x2) (hy2:In6 y2) (hx3:In6 x3) (hy3:In6 y3) (g:Nat) (w:World) (hS:Blk w g [.int .i64 x0,.int .i64 y0,.int .i64 x1,.int .i64 y1,.int .i64 x2,.int .i64 y2,.int .i64 x3,.int .i64 y3]) :
   Calls Try.prog 111 #[Sg a b c d,.slice (some ⟨g,0,none⟩) 4 4] w (BoolP (lefts [turnSp a b c d x0 y0,turnSp a b c d x1 y1,turnSp a b c d x2 y2,turnSp a b c d x3 y3] 4&&rights [turnSp a b c d x0 y0,turnSp a b c d x1 y1,turnSp a b c d x2 y2,turnSp a b c d x3 y3] 4) w):=by
 obtain⟨ts,hts⟩:∃ts,[turnSp a b c d x0 y0,turnSp a b c d x1 y1,turnSp a b c d x2 y2,turnSp a b c d x3 y3]=ts:=⟨_,rfl⟩
 rw[hts]
 have I0:PartI w (w.alloc (.cells #[.int .i64 a,.int .i64 b,.int .i64 c,.int .i64 d] 40)) g [.int .i64 a,.int .i64 b,.int .i64 c,.int .i64 d] [.int .i64 x0,.int .i64 y0,.int .i64 x1,.int .i64 y1,.int .i64 x2,.int .i64 y2,.int .i64 x3,.int .i64 y3]:=
   ⟨(Below.refl _ _).alloc (Nat.le_refl _) _,Blk.new w [.int .i64 a,.int .i64 b,.int .i64 c,.int .i64 d] 40 rfl,hS.alloc _⟩
 go_enter Try.func111,Try.ntmps111
 go_wp2
 generalize (w.alloc (.cells #[.int .i64 a,.int .i64 b,.int .i64 c,.int .i64 d] 40))=W at *
 go_loopw [5,6,12] (fun l r i wr=>∃k:Nat,k≤4∧i= .int .i64 k∧l= .bool (lefts ts k)∧r= .bool (rights ts k)∧PartI w wr g [.int .i64 a,.int .i64 b,.int .i64 c,.int .i64 d] [.int .i64 x0,.int .i64 y0,.int .i64 x1,.int .i64 y1,.int .i64 x2,.int .i64 y2,.int .i64 x3,.int .i64 y3]) (fun _ _ i _=>4-(intOf i).toNat)
 case atStart=>exact⟨0,by omega,rfl,rfl,rfl,I0⟩
 case round=>
   clear I0
   obtain⟨k,hk,rfl,rfl,rfl,I0⟩:=hrel
   have ca0:=I0.seg.c 0 rfl;have ca1:=I0.seg.c 1 rfl;have ca2:=I0.seg.c 2 rfl;have ca3:=I0.seg.c 3 rfl;have calt:=I0.seg.lt
   rcases(by omega:k=0∨k=1∨k=2∨k=3∨k=4) with rfl | rfl | rfl | rfl | rfl
   · have e1:=I0.row.c 0 rfl;have e2:=I0.row.c 1 rfl
     have K1:=lefts_succ ts 0 (turnSp a b c d x0 y0) (by rw[←hts];rfl)
     have K2:=rights_succ ts 0 (turnSp a b c d x0 y0) (by rw[←hts];rfl)
     obtain⟨L,hL⟩:∃L,lefts ts 0=L:=⟨_,rfl⟩
     obtain⟨R,hR⟩:∃R,rights ts 0=R:=⟨_,rfl⟩
     rw[hL] at K1⊢;rw[hR] at K2⊢
     clear hL hR hts hS
     go_wp2_with fail
     refine(turnTo_any a b c d x0 y0 ha hb hc hd hx0 hy0 _).mono ?_
     rintro e w1 ⟨rfl,hB⟩
     replace I0:=(I0.alloc _).step hB
     clear ca0 ca1 ca2 ca3 calt e1 e2 hB
     generalize turnSp a b c d x0 y0=t at *
     cases L<;>cases R
     all_goals go_wp2
     all_goals go_roundw
     all_goals first | exact⟨0+1,by omega,rfl,by rw[K1];simp,by rw[K2];simp,I0⟩ | simp[intOf]
   · have e1:=I0.row.c 2 rfl;have e2:=I0.row.c 3 rfl
     have K1:=lefts_succ ts 1 (turnSp a b c d x1 y1) (by rw[←hts];rfl)
     have K2:=rights_succ ts 1 (turnSp a b c d x1 y1) (by rw[←hts];rfl)
     obtain⟨L,hL⟩:∃L,lefts ts 1=L:=⟨_,rfl⟩
     obtain⟨R,hR⟩:∃R,rights ts 1=R:=⟨_,rfl⟩
     rw[hL] at K1⊢;rw[hR] at K2⊢
     clear hL hR hts hS
     go_wp2_with fail
     refine(turnTo_any a b c d x1 y1 ha hb hc hd hx1 hy1 _).mono ?_
     rintro e w1 ⟨rfl,hB⟩
     replace I0:=(I0.alloc _).step hB
     clear ca0 ca1 ca2 ca3 calt e1 e2 hB
     generalize turnSp a b c d x1 y1=t at *
     cases L<;>cases R
     all_goals go_wp2
     all_goals go_roundw
     all_goals first | exact⟨1+1,by omega,rfl,by rw[K1];simp,by rw[K2];simp,I0⟩ | simp[intOf]
   · have e1:=I0.row.c 4 rfl;have e2:=I0.row.c 5 rfl
     have K1:=lefts_succ ts 2 (turnSp a b c d x2 y2) (by rw[←hts];rfl)
     have K2:=rights_succ ts 2 (turnSp a b c d x2 y2) (by rw[←hts];rfl)
     obtain⟨L,hL⟩:∃L,lefts ts 2=L:=⟨_,rfl⟩
     obtain⟨R,hR⟩:∃R,rights ts 2=R:=⟨_,rfl⟩
     rw[hL] at K1⊢;rw[hR] at K2⊢
     clear hL hR hts hS
     go_wp2_with fail
     refine(turnTo_any a b c d x2 y2 ha hb hc hd hx2 hy2 _).mono ?_
     rintro e w1 ⟨rfl,hB⟩
     replace I0:=(I0.alloc _).step hB
     clear ca0 ca1 ca2 ca3 calt e1 e2 hB
     generalize turnSp a b c d x2 y2=t at *
     cases L<;>cases R
     all_goals go_wp2
     all_goals go_roundw
     all_goals first | exact⟨2+1,by omega,rfl,by rw[K1];simp,by rw[K2];simp,I0⟩ | simp[intOf]
   · have e1:=I0.row.c 6 rfl;have e2:=I0.row.c 7 rfl
     have K1:=lefts_succ ts 3 (turnSp a b c d x3 y3) (by rw[←hts];rfl)
     have K2:=rights_succ ts 3 (turnSp a b c d x3 y3) (by rw[←hts];rfl)
     obtain⟨L,hL⟩:∃L,lefts ts 3=L:=⟨_,rfl⟩
     obtain⟨R,hR⟩:∃R,rights ts 3=R:=⟨_,rfl⟩
     rw[hL] at K1⊢;rw[hR] at K2⊢
     clear hL hR hts hS
     go_wp2_with fail
     refine(turnTo_any a b c d x3 y3 ha hb hc hd hx3 hy3 _).mono ?_
     rintro e w1 ⟨rfl,hB⟩
     replace I0:=(I0.alloc _).step hB
     clear ca0 ca1 ca2 ca3 calt e1 e2 hB
     generalize turnSp a b c d x3 y3=t at *
     cases L<;>cases R
     all_goals go_wp2
     all_goals go_roundw
     all_goals first | exact⟨3+1,by omega,rfl,by rw[K1];simp,by rw[K2];simp,I0⟩ | simp[intOf]
   · obtain⟨L,hL⟩:∃L,lefts ts 4=L:=⟨_,rfl⟩
     obtain⟨R,hR⟩:∃R,rights ts 4=R:=⟨_,rfl⟩
     rw[hL,hR]
     clear hts hS
     cases L<;>cases R
     all_goals go_wp2
     all_goals go_ret
     all_goals exact⟨ret_bool (by rw[hL,hR];rfl),I0.below⟩
def boxOut (a b c d x y u v:Int):Bool:=decide (c<x∨u<a∨(b<y∧d<y)∨(v<b∧v<d))
def ups (ts:List Int) (k:Nat):Nat:=(ts.take k).countP (fun t=>decide (0<t))
def downs (ts:List Int) (k:Nat):Nat:=(ts.take k).countP (fun t=>decide (t<0))
theorem ups_succ (ts:List Int) (k:Nat) (t:Int) (h:ts[k]? =some t):ups ts (k+1)=ups ts k+(if 0<t then 1 else 0):=by
 unfold ups
 rw[List.take_add_one,h]
 simp[List.countP_append,List.countP_cons]
theorem downs_succ (ts:List Int) (k:Nat) (t:Int) (h:ts[k]? =some t):downs ts (k+1)=downs ts k+(if t<0 then 1 else 0):=by
 unfold downs
 rw[List.take_add_one,h]
 simp[List.countP_append,List.countP_cons]
theorem ups_le (ts:List Int) (k:Nat):ups ts k≤k:=by
 unfold ups
 exact Nat.le_trans List.countP_le_length (by simp;omega)
theorem downs_le (ts:List Int) (k:Nat):downs ts k≤k:=by
 unfold downs
 exact Nat.le_trans List.countP_le_length (by simp;omega)
theorem ups_four (p q r s:Int):decide (ups [p,q,r,s] 4<4)=rights [p,q,r,s] 4:=by
 unfold ups rights
 by_cases h0:0<p<;>by_cases h1:0<q<;>by_cases h2:0<r<;>by_cases h3:0<s<;>simp[h0,h1,h2,h3]<;>omega
theorem downs_four (p q r s:Int):decide (downs [p,q,r,s] 4<4)=lefts [p,q,r,s] 4:=by
 unfold downs lefts
 by_cases h0:p<0<;>by_cases h1:q<0<;>by_cases h2:r<0<;>by_cases h3:s<0<;>simp[h0,h1,h2,h3]<;>omega
theorem box_start (a b c d x y u v:Int) (w:World) (t1 t2 t3:TypeId):ArgsB w (((w.alloc (.cells #[.int .i64 a,.int .i64 b,.int .i64 c,.int .i64 d] t1)).alloc (.cells #[.int .i64 x,.int .i64 y] t2)).alloc (.cells #[.int .i64 u,.int .i64 v] t3)) [[.int .i64 a,.int .i64 b,.int .i64 c,.int .i64 d],[.int .i64 x,.int .i64 y],[.int .i64 u,.int .i64 v]]:=by
 refine⟨(((Below.refl _ _).alloc (Nat.le_refl _) _).alloc (by simp) _).alloc (by simp;omega) _,fun j vs hj=>?_⟩
 match j,hj with
 | 0,hj=>cases hj;exact((Blk.new w [.int .i64 a,.int .i64 b,.int .i64 c,.int .i64 d] t1 rfl).alloc _).alloc _
 | 1,hj=>cases hj;exact(Blk.new (w.alloc (.cells #[.int .i64 a,.int .i64 b,.int .i64 c,.int .i64 d] t1)) [.int .i64 x,.int .i64 y] t2 (by simp)).alloc _
 | 2,hj=>cases hj;exact Blk.new ((w.alloc (.cells #[.int .i64 a,.int .i64 b,.int .i64 c,.int .i64 d] t1)).alloc (.cells #[.int .i64 x,.int .i64 y] t2)) [.int .i64 u,.int .i64 v] t3 (by simp)
 | j+3,hj=>simp at hj
theorem l4MeetsBox_any (a b c d x y u v:Int) (ha:In6 a) (hb:In6 b) (hc:In6 c) (hd:In6 d) (hx:In6 x) (hy:In6 y) (hu:In6 u) (hv:In6 v) (w:World) :
   Calls Try.prog 94 #[Sg a b c d,Sp x y,Sp u v] w (BoolP (!boxOut a b c d x y u v&&(lefts [turnSp a b c d x y,turnSp a b c d u v,turnSp a b c d x v,turnSp a b c d u y] 4&&rights [turnSp a b c d x y,turnSp a b c d u v,turnSp a b c d x v,turnSp a b c d u y] 4)) w):=by
 obtain⟨ts,hts⟩:∃ts,[turnSp a b c d x y,turnSp a b c d u v,turnSp a b c d x v,turnSp a b c d u y]=ts:=⟨_,rfl⟩
 have HF1:=ups_four (turnSp a b c d x y) (turnSp a b c d u v) (turnSp a b c d x v) (turnSp a b c d u y)
 have HF2:=downs_four (turnSp a b c d x y) (turnSp a b c d u v) (turnSp a b c d x v) (turnSp a b c d u y)
 rw[hts] at HF1 HF2⊢
 have T0:=box_start a b c d x y u v w 40 38 38
 go_enter Try.func94,Try.ntmps94
 go_upto_region 1 with fail
 generalize (((w.alloc (.cells #[.int .i64 a,.int .i64 b,.int .i64 c,.int .i64 d] 40)).alloc (.cells #[.int .i64 x,.int .i64 y] 38)).alloc (.cells #[.int .i64 u,.int .i64 v] 38))=W at *
 go_cut [56] (fun q wx=>q= .bool (boxOut a b c d x y u v)∧ArgsB w wx [[.int .i64 a,.int .i64 b,.int .i64 c,.int .i64 d],[.int .i64 x,.int .i64 y],[.int .i64 u,.int .i64 v]])
 case first=>
   have a0:=(T0.b 0 rfl).c 0 rfl;have a1:=(T0.b 0 rfl).c 1 rfl;have a2:=(T0.b 0 rfl).c 2 rfl;have a3:=(T0.b 0 rfl).c 3 rfl;have b0:=(T0.b 1 rfl).c 0 rfl;have b1:=(T0.b 1 rfl).c 1 rfl;have c0:=(T0.b 2 rfl).c 0 rfl;have c1:=(T0.b 2 rfl).c 1 rfl;have alt:=(T0.b 2 rfl).lt
   simp only[Nat.add_zero] at a0 a1 a2 a3
   go_wp2
   all_goals go_meet
   all_goals refine⟨?_,T0⟩
   all_goals (apply congrArg Value.bool;unfold boxOut;rw[Bool.eq_iff_iff];simp;try omega)
 case rest=>
   clear T0
   obtain⟨hq,T0⟩:=hcut
   subst hq
   have a0:=(T0.b 0 rfl).c 0 rfl;have a1:=(T0.b 0 rfl).c 1 rfl;have a2:=(T0.b 0 rfl).c 2 rfl;have a3:=(T0.b 0 rfl).c 3 rfl;have b0:=(T0.b 1 rfl).c 0 rfl;have b1:=(T0.b 1 rfl).c 1 rfl;have c0:=(T0.b 2 rfl).c 0 rfl;have c1:=(T0.b 2 rfl).c 1 rfl;have alt:=(T0.b 2 rfl).lt
   simp only[Nat.add_zero] at a0 a1 a2 a3
   obtain⟨O,hO⟩:∃O,boxOut a b c d x y u v=O:=⟨_,rfl⟩
   rw[hO]
   cases O
   · go_wp2
     have I0:PartI w (wc.alloc (.cells #[.int .i64 x,.int .i64 y,.int .i64 u,.int .i64 v,.int .i64 x,.int .i64 v,.int .i64 u,.int .i64 y] 38)) wc.heap.size [.int .i64 a,.int .i64 b,.int .i64 c,.int .i64 d] [.int .i64 x,.int .i64 y,.int .i64 u,.int .i64 v,.int .i64 x,.int .i64 v,.int .i64 u,.int .i64 y]:=
       ⟨T0.below.alloc T0.below.size _,(T0.b 0 rfl).alloc _,Blk.new wc [.int .i64 x,.int .i64 y,.int .i64 u,.int .i64 v,.int .i64 x,.int .i64 v,.int .i64 u,.int .i64 y] 38 rfl⟩
     clear a0 a1 a2 a3 b0 b1 c0 c1 alt T0
     generalize wc.alloc (.cells #[.int .i64 x,.int .i64 y,.int .i64 u,.int .i64 v,.int .i64 x,.int .i64 v,.int .i64 u,.int .i64 y] 38)=W1 at *
     generalize wc.heap.size=g at *
     go_loopw [7,8,71] (fun o p i wr=>∃k:Nat,k≤4∧i= .int .i64 k∧o= .int .i64 (ups ts k)∧p= .int .i64 (downs ts k)∧PartI w wr g [.int .i64 a,.int .i64 b,.int .i64 c,.int .i64 d] [.int .i64 x,.int .i64 y,.int .i64 u,.int .i64 v,.int .i64 x,.int .i64 v,.int .i64 u,.int .i64 y]) (fun _ _ i _=>4-(intOf i).toNat)
     case atStart=>exact⟨0,by omega,rfl,rfl,rfl,I0⟩
     case round=>
       clear I0
       obtain⟨k,hk,rfl,rfl,rfl,I0⟩:=hrel
       have ca0:=I0.seg.c 0 rfl;have ca1:=I0.seg.c 1 rfl;have ca2:=I0.seg.c 2 rfl;have ca3:=I0.seg.c 3 rfl;have calt:=I0.seg.lt
       have U:=ups_le ts k
       have D:=downs_le ts k
       rcases(by omega:k=0∨k=1∨k=2∨k=3∨k=4) with rfl | rfl | rfl | rfl | rfl
       · have e1:=I0.row.c 0 rfl;have e2:=I0.row.c 1 rfl
         have K1:=ups_succ ts 0 (turnSp a b c d x y) (by rw[←hts];rfl)
         have K2:=downs_succ ts 0 (turnSp a b c d x y) (by rw[←hts];rfl)
         obtain⟨L,hL⟩:∃L,ups ts 0=L:=⟨_,rfl⟩
         obtain⟨R,hR⟩:∃R,downs ts 0=R:=⟨_,rfl⟩
         rw[hL] at K1 U⊢;rw[hR] at K2 D⊢
         clear hL hR hts HF1 HF2
         go_wp2_with fail
         refine(l4Turn_any a b c d x y ha hb hc hd hx hy _).mono ?_
         rintro e w1 ⟨rfl,hB⟩
         replace I0:=(I0.alloc _).step hB
         clear ca0 ca1 ca2 ca3 calt e1 e2 hB
         generalize turnSp a b c d x y=t at *
         rcases Int.lt_trichotomy t 0 with ht | ht | ht
         · have hs:sgnSp t= -1:=by unfold sgnSp;rw[if_pos ht]
           rw[if_neg (by omega)] at K1;rw[if_pos ht] at K2
           rw[hs]
           go_wp2
           all_goals go_roundw
           all_goals first | exact⟨0+1,by omega,rfl,by rw[K1];simp,by rw[K2];simp,I0⟩ | simp[intOf]
         · have hs:sgnSp t=0:=by unfold sgnSp;rw[if_neg (by omega),if_neg (by omega)]
           rw[if_neg (by omega)] at K1;rw[if_neg (by omega)] at K2
           rw[hs]
           go_wp2
           all_goals go_roundw
           all_goals first | exact⟨0+1,by omega,rfl,by rw[K1];simp,by rw[K2];simp,I0⟩ | simp[intOf]
         · have hs:sgnSp t=1:=by unfold sgnSp;rw[if_neg (by omega),if_pos ht]
           rw[if_pos ht] at K1;rw[if_neg (by omega)] at K2
           rw[hs]
           go_wp2
           all_goals go_roundw
           all_goals first | exact⟨0+1,by omega,rfl,by rw[K1];simp,by rw[K2];simp,I0⟩ | simp[intOf]
       · have e1:=I0.row.c 2 rfl;have e2:=I0.row.c 3 rfl
         have K1:=ups_succ ts 1 (turnSp a b c d u v) (by rw[←hts];rfl)
         have K2:=downs_succ ts 1 (turnSp a b c d u v) (by rw[←hts];rfl)
         obtain⟨L,hL⟩:∃L,ups ts 1=L:=⟨_,rfl⟩
         obtain⟨R,hR⟩:∃R,downs ts 1=R:=⟨_,rfl⟩
         rw[hL] at K1 U⊢;rw[hR] at K2 D⊢
         clear hL hR hts HF1 HF2
         go_wp2_with fail
         refine(l4Turn_any a b c d u v ha hb hc hd hu hv _).mono ?_
         rintro e w1 ⟨rfl,hB⟩
         replace I0:=(I0.alloc _).step hB
         clear ca0 ca1 ca2 ca3 calt e1 e2 hB
         generalize turnSp a b c d u v=t at *
         rcases Int.lt_trichotomy t 0 with ht | ht | ht
         · have hs:sgnSp t= -1:=by unfold sgnSp;rw[if_pos ht]
           rw[if_neg (by omega)] at K1;rw[if_pos ht] at K2
           rw[hs]
           go_wp2
           all_goals go_roundw
           all_goals first | exact⟨1+1,by omega,rfl,by rw[K1];simp,by rw[K2];simp,I0⟩ | simp[intOf]
         · have hs:sgnSp t=0:=by unfold sgnSp;rw[if_neg (by omega),if_neg (by omega)]
           rw[if_neg (by omega)] at K1;rw[if_neg (by omega)] at K2
           rw[hs]
           go_wp2
           all_goals go_roundw
           all_goals first | exact⟨1+1,by omega,rfl,by rw[K1];simp,by rw[K2];simp,I0⟩ | simp[intOf]
         · have hs:sgnSp t=1:=by unfold sgnSp;rw[if_neg (by omega),if_pos ht]
           rw[if_pos ht] at K1;rw[if_neg (by omega)] at K2
           rw[hs]
           go_wp2
           all_goals go_roundw
           all_goals first | exact⟨1+1,by omega,rfl,by rw[K1];simp,by rw[K2];simp,I0⟩ | simp[intOf]
       · have e1:=I0.row.c 4 rfl;have e2:=I0.row.c 5 rfl
         have K1:=ups_succ ts 2 (turnSp a b c d x v) (by rw[←hts];rfl)
         have K2:=downs_succ ts 2 (turnSp a b c d x v) (by rw[←hts];rfl)
         obtain⟨L,hL⟩:∃L,ups ts 2=L:=⟨_,rfl⟩
         obtain⟨R,hR⟩:∃R,downs ts 2=R:=⟨_,rfl⟩
         rw[hL] at K1 U⊢;rw[hR] at K2 D⊢
         clear hL hR hts HF1 HF2
         go_wp2_with fail
         refine(l4Turn_any a b c d x v ha hb hc hd hx hv _).mono ?_
         rintro e w1 ⟨rfl,hB⟩
         replace I0:=(I0.alloc _).step hB
         clear ca0 ca1 ca2 ca3 calt e1 e2 hB
         generalize turnSp a b c d x v=t at *
         rcases Int.lt_trichotomy t 0 with ht | ht | ht
         · have hs:sgnSp t= -1:=by unfold sgnSp;rw[if_pos ht]
           rw[if_neg (by omega)] at K1;rw[if_pos ht] at K2
           rw[hs]
           go_wp2
           all_goals go_roundw
           all_goals first | exact⟨2+1,by omega,rfl,by rw[K1];simp,by rw[K2];simp,I0⟩ | simp[intOf]
         · have hs:sgnSp t=0:=by unfold sgnSp;rw[if_neg (by omega),if_neg (by omega)]
           rw[if_neg (by omega)] at K1;rw[if_neg (by omega)] at K2
           rw[hs]
           go_wp2
           all_goals go_roundw
           all_goals first | exact⟨2+1,by omega,rfl,by rw[K1];simp,by rw[K2];simp,I0⟩ | simp[intOf]
         · have hs:sgnSp t=1:=by unfold sgnSp;rw[if_neg (by omega),if_pos ht]
           rw[if_pos ht] at K1;rw[if_neg (by omega)] at K2
           rw[hs]
           go_wp2
           all_goals go_roundw
           all_goals first | exact⟨2+1,by omega,rfl,by rw[K1];simp,by rw[K2];simp,I0⟩ | simp[intOf]
       · have e1:=I0.row.c 6 rfl;have e2:=I0.row.c 7 rfl
         have K1:=ups_succ ts 3 (turnSp a b c d u y) (by rw[←hts];rfl)
         have K2:=downs_succ ts 3 (turnSp a b c d u y) (by rw[←hts];rfl)
         obtain⟨L,hL⟩:∃L,ups ts 3=L:=⟨_,rfl⟩
         obtain⟨R,hR⟩:∃R,downs ts 3=R:=⟨_,rfl⟩
         rw[hL] at K1 U⊢;rw[hR] at K2 D⊢
         clear hL hR hts HF1 HF2
         go_wp2_with fail
         refine(l4Turn_any a b c d u y ha hb hc hd hu hy _).mono ?_
         rintro e w1 ⟨rfl,hB⟩
         replace I0:=(I0.alloc _).step hB
         clear ca0 ca1 ca2 ca3 calt e1 e2 hB
         generalize turnSp a b c d u y=t at *
         rcases Int.lt_trichotomy t 0 with ht | ht | ht
         · have hs:sgnSp t= -1:=by unfold sgnSp;rw[if_pos ht]
           rw[if_neg (by omega)] at K1;rw[if_pos ht] at K2
           rw[hs]
           go_wp2
           all_goals go_roundw
           all_goals first | exact⟨3+1,by omega,rfl,by rw[K1];simp,by rw[K2];simp,I0⟩ | simp[intOf]
         · have hs:sgnSp t=0:=by unfold sgnSp;rw[if_neg (by omega),if_neg (by omega)]
           rw[if_neg (by omega)] at K1;rw[if_neg (by omega)] at K2
           rw[hs]
           go_wp2
           all_goals go_roundw
           all_goals first | exact⟨3+1,by omega,rfl,by rw[K1];simp,by rw[K2];simp,I0⟩ | simp[intOf]
         · have hs:sgnSp t=1:=by unfold sgnSp;rw[if_neg (by omega),if_pos ht]
           rw[if_pos ht] at K1;rw[if_neg (by omega)] at K2
           rw[hs]
           go_wp2
           all_goals go_roundw
           all_goals first | exact⟨3+1,by omega,rfl,by rw[K1];simp,by rw[K2];simp,I0⟩ | simp[intOf]
       · obtain⟨L,hL⟩:∃L,ups ts 4=L:=⟨_,rfl⟩
         obtain⟨R,hR⟩:∃R,downs ts 4=R:=⟨_,rfl⟩
         rw[hL] at HF1 U⊢;rw[hR] at HF2 D⊢
         clear hL hR hts
         go_wp2
         all_goals go_ret
         all_goals exact⟨ret_bool (by first | (rw[hO,←HF1,←HF2,Bool.eq_iff_iff];simp;done) | (rw[hO,←HF1,←HF2,Bool.eq_iff_iff];simp;omega) | (rw[←HF1,←HF2,Bool.eq_iff_iff];simp;done) | (rw[←HF1,←HF2,Bool.eq_iff_iff];simp;omega)),I0.below⟩
   · go_wp2
     go_ret
     exact⟨ret_bool (by rw[hO];rfl),T0.below⟩
theorem in6_of_spot {x y:Int} (h:spotOk x y=true):In6 x∧In6 y:=by
 unfold spotOk at h
 simp at h
 exact⟨⟨by omega,by omega⟩,⟨by omega,by omega⟩⟩
theorem spots_of_seg {a b c d:Int} (h:segOk a b c d=true):spotOk a b=true∧spotOk c d=true:=by
 unfold segOk at h
 simp at h
 exact⟨h.1.1,h.1.2⟩
theorem meetsBox_any (a b c d x y u v:Int) (ha:In6 a) (hb:In6 b) (hc:In6 c) (hd:In6 d) (hx:In6 x) (hy:In6 y) (hu:In6 u) (hv:In6 v) (w:World):Calls Try.prog 101 #[Sg a b c d,Sp x y,Sp u v] w (BoolP (!boxOut a b c d x y u v&&(lefts [turnSp a b c d x y,turnSp a b c d u v,turnSp a b c d x v,turnSp a b c d u y] 4&&rights [turnSp a b c d x y,turnSp a b c d u v,turnSp a b c d x v,turnSp a b c d u y] 4)) w):=by
 have T0:=box_start a b c d x y u v w 40 38 38
 go_enter Try.func101,Try.ntmps101
 go_upto_region 1 with fail
 generalize (((w.alloc (.cells #[.int .i64 a,.int .i64 b,.int .i64 c,.int .i64 d] 40)).alloc (.cells #[.int .i64 x,.int .i64 y] 38)).alloc (.cells #[.int .i64 u,.int .i64 v] 38))=W at *
 have a0:=(T0.b 0 rfl).c 0 rfl;have a1:=(T0.b 0 rfl).c 1 rfl;have a2:=(T0.b 0 rfl).c 2 rfl;have a3:=(T0.b 0 rfl).c 3 rfl;have b0:=(T0.b 1 rfl).c 0 rfl;have b1:=(T0.b 1 rfl).c 1 rfl;have c0:=(T0.b 2 rfl).c 0 rfl;have c1:=(T0.b 2 rfl).c 1 rfl;have alt:=(T0.b 2 rfl).lt;simp only[Nat.add_zero] at a0 a1 a2 a3
 go_cut [44] (fun q wx=>q= .bool (boxOut a b c d x y u v)∧ArgsB w wx [[.int .i64 a,.int .i64 b,.int .i64 c,.int .i64 d],[.int .i64 x,.int .i64 y],[.int .i64 u,.int .i64 v]])
 case first=>
   go_wp2
   all_goals go_meet
   all_goals refine⟨?_,T0⟩
   all_goals (apply congrArg Value.bool;unfold boxOut;rw[Bool.eq_iff_iff];simp;try omega)
 case rest=>
   clear a0 a1 a2 a3 b0 b1 c0 c1 alt T0
   obtain⟨hq,T0⟩:=hcut
   subst hq
   have a0:=(T0.b 0 rfl).c 0 rfl;have a1:=(T0.b 0 rfl).c 1 rfl;have a2:=(T0.b 0 rfl).c 2 rfl;have a3:=(T0.b 0 rfl).c 3 rfl;have b0:=(T0.b 1 rfl).c 0 rfl;have b1:=(T0.b 1 rfl).c 1 rfl;have c0:=(T0.b 2 rfl).c 0 rfl;have c1:=(T0.b 2 rfl).c 1 rfl;have alt:=(T0.b 2 rfl).lt;simp only[Nat.add_zero] at a0 a1 a2 a3
   obtain⟨M,hM⟩:∃M,boxOut a b c d x y u v=M:=⟨_,rfl⟩
   rw[hM]
   cases M
   · go_wp2_with fail
     refine(parts_any a b c d x y u v x v u y ha hb hc hd hx hy hu hv hx hv hu hy wc.heap.size _ (Blk.new wc [.int .i64 x,.int .i64 y,.int .i64 u,.int .i64 v,.int .i64 x,.int .i64 v,.int .i64 u,.int .i64 y] 38 rfl)).mono ?_
     rintro e w4 ⟨rfl,hB⟩
     have HB:Below w.heap.size w w4:=(T0.alloc _).below.trans (hB.mono (T0.alloc _).below.size)
     clear hB a0 a1 a2 a3 b0 b1 c0 c1 alt T0
     go_wp2
     go_ret
     exact⟨ret_bool (by simp[hM]),HB⟩
   · have HBF:=T0.below
     clear a0 a1 a2 a3 b0 b1 c0 c1 alt T0
     go_wp2
     go_ret
     exact⟨ret_bool (by simp[hM]),HBF⟩
def hitB (a b c d x y u v:Int):Bool:=!boxOut a b c d x y u v&&(lefts [turnSp a b c d x y,turnSp a b c d u v,turnSp a b c d x v,turnSp a b c d u y] 4&&rights [turnSp a b c d x y,turnSp a b c d u v,turnSp a b c d x v,turnSp a b c d u y] 4)
theorem turn_parts (a b c d X Y P Q:Int):turnSp a b c d P Q=turnSp a b c d X Y+(c-a)*(Q-Y)+(d-b)*(X-P):=by
 unfold turnSp
 grind
theorem mul_nn {p q:Int} (hp:0≤p) (hq:0≤q):0≤p*q:=Int.mul_nonneg hp hq
theorem mul_pp {p q:Int} (hp:p≤0) (hq:q≤0):0≤p*q:=Int.mul_nonneg_of_nonpos_of_nonpos hp hq
theorem mul_np {p q:Int} (hp:0≤p) (hq:q≤0):p*q≤0:=Int.mul_nonpos_of_nonneg_of_nonpos hp hq
theorem mul_pn {p q:Int} (hp:p≤0) (hq:0≤q):p*q≤0:=Int.mul_nonpos_of_nonpos_of_nonneg hp hq
theorem turn_up {a b c d X Y x y u v:Int} (h1:x≤X) (h2:X≤u) (h3:y≤Y) (h4:Y≤v) (h:0≤turnSp a b c d X Y):0≤turnSp a b c d x y∨0≤turnSp a b c d u v∨0≤turnSp a b c d x v∨0≤turnSp a b c d u y:=by
 rcases Int.le_total 0 (c-a) with hA | hA<;>rcases Int.le_total 0 (d-b) with hD | hD
 · refine .inr (.inr (.inl ?_))
   rw[turn_parts a b c d X Y]
   have:=mul_nn hA (show 0≤v-Y by omega)
   have:=mul_nn hD (show 0≤X-x by omega)
   omega
 · refine .inr (.inl ?_)
   rw[turn_parts a b c d X Y]
   have:=mul_nn hA (show 0≤v-Y by omega)
   have:=mul_pp hD (show X-u≤0 by omega)
   omega
 · refine .inl ?_
   rw[turn_parts a b c d X Y]
   have:=mul_pp hA (show y-Y≤0 by omega)
   have:=mul_nn hD (show 0≤X-x by omega)
   omega
 · refine .inr (.inr (.inr ?_))
   rw[turn_parts a b c d X Y]
   have:=mul_pp hA (show y-Y≤0 by omega)
   have:=mul_pp hD (show X-u≤0 by omega)
   omega
theorem turn_down {a b c d X Y x y u v:Int} (h1:x≤X) (h2:X≤u) (h3:y≤Y) (h4:Y≤v) (h:turnSp a b c d X Y≤0):turnSp a b c d x y≤0∨turnSp a b c d u v≤0∨turnSp a b c d x v≤0∨turnSp a b c d u y≤0:=by
 rcases Int.le_total 0 (c-a) with hA | hA<;>rcases Int.le_total 0 (d-b) with hD | hD
 · refine .inr (.inr (.inr ?_))
   rw[turn_parts a b c d X Y]
   have:=mul_np hA (show y-Y≤0 by omega)
   have:=mul_np hD (show X-u≤0 by omega)
   omega
 · refine .inl ?_
   rw[turn_parts a b c d X Y]
   have:=mul_np hA (show y-Y≤0 by omega)
   have:=mul_pn hD (show 0≤X-x by omega)
   omega
 · refine .inr (.inl ?_)
   rw[turn_parts a b c d X Y]
   have:=mul_pn hA (show 0≤v-Y by omega)
   have:=mul_np hD (show X-u≤0 by omega)
   omega
 · refine .inr (.inr (.inl ?_))
   rw[turn_parts a b c d X Y]
   have:=mul_pn hA (show 0≤v-Y by omega)
   have:=mul_pn hD (show 0≤X-x by omega)
   omega
theorem lefts4 (p q r s:Int):lefts [p,q,r,s] 4=true↔0≤p∨0≤q∨0≤r∨0≤s:=by simp[lefts]
theorem rights4 (p q r s:Int):rights [p,q,r,s] 4=true↔p≤0∨q≤0∨r≤0∨s≤0:=by simp[rights]
theorem hit_wider {a b c d x y u v x' y' u' v' :Int} (hx:x' ≤x) (hy:y' ≤y) (hu:u≤u') (hv:v≤v') (hxu:x≤u) (hyv:y≤v) (h:hitB a b c d x y u v=true):hitB a b c d x' y' u' v' =true:=by
 unfold hitB at h⊢
 simp only[Bool.and_eq_true,Bool.not_eq_true',lefts4,rights4] at h⊢
 obtain⟨h1,h2,h3⟩:=h
 refine⟨?_,?_,?_⟩
 · unfold boxOut at h1⊢
   rw[decide_eq_false_iff_not] at h1⊢
   omega
 · rcases h2 with h2 | h2 | h2 | h2<;>exact turn_up (by omega) (by omega) (by omega) (by omega) h2
 · rcases h3 with h3 | h3 | h3 | h3<;>exact turn_down (by omega) (by omega) (by omega) (by omega) h3
structure QD where
 m:Nat
 N:Nat
 I:Nat→Int
 S:Nat→Int×Int×Int×Int
 X:Nat→Int
 Y:Nat→Int
 Z:Nat→Int
 T:Nat→Bool
 L:Nat→Nat
 E:Nat→Nat→Int
def hitQ (Q:QD) (x y s:Int) (i:Nat):Bool:=hitB (Q.S i).1 (Q.S i).2.1 (Q.S i).2.2.1 (Q.S i).2.2.2 x y (x+s) (y+s)
def flQ (Q:QD) (l:List Nat) (x y s:Int):List Nat:=l.filter (hitQ Q x y s)
def idL (Q:QD) (l:List Nat):List Int:=l.map Q.I
def blL (Q:QD) (at_:Nat):List Int:=(List.range (Q.L at_)).map (Q.E at_)
def leafB (Q:QD) (at_:Nat) (x y s:Int):Bool:=decide (blL Q at_=idL Q (flQ Q (List.range Q.m) x y s))
def baseB (Q:QD) (at_:Nat) (x y s:Int):Bool:=decide (at_<Q.N∧Q.X at_=x∧Q.Y at_=y∧Q.Z at_=s)
def kX (x h:Int) (k:Nat):Int:=x+((k%2:Nat):Int)*h
def kY (y h:Int) (k:Nat):Int:=y+((k / 2:Nat):Int)*h
def kp (f:Nat→Int→Int→Option Nat) (at_:Nat) (x y h:Int):Nat→Option Nat
 | 0=>some at_
 | k+1=>(kp f at_ x y h k).bind fun a=>f a (kX x h k) (kY y h k)
def qrd (Q:QD):Nat→Nat→Int→Int→Int→Option Nat
 | 0,at_,x,y,s=>if baseB Q at_ x y s=true∧Q.T at_=false∧leafB Q at_ x y s=true then some (at_+1) else none
 | d+1,at_,x,y,s=>if baseB Q at_ x y s=true then(if Q.T at_=true then(if Q.L at_=0 then kp (fun a x y=>qrd Q d a x y (s / 2)) (at_+1) x y (s / 2) 4 else none) else if leafB Q at_ x y s=true then some (at_+1) else none) else none
def mrd (Q:QD):Nat→Nat→Int→Int→Int→Option Nat
 | 0,at_,x,y,s=>if baseB Q at_ x y s=true∧Q.T at_=false then some (at_+1) else none
 | d+1,at_,x,y,s=>if baseB Q at_ x y s=true then(if Q.T at_=true then(if Q.L at_=0 then kp (fun a x y=>mrd Q d a x y (s / 2)) (at_+1) x y (s / 2) 4 else none) else some (at_+1)) else none
def rtB (Q:QD):Nat→Nat→Int→Int→Int→Bool
 | 0,at_,x,y,s=>leafB Q at_ x y s
 | d+1,at_,x,y,s=>if Q.T at_=true then(List.range 4).all (fun k=>match kp (fun a x y=>mrd Q d a x y (s / 2)) (at_+1) x y (s / 2) k with | some a=>rtB Q d a (kX x (s / 2) k) (kY y (s / 2) k) (s / 2) | none=>true) else leafB Q at_ x y s
theorem kp_both {f g:Nat→Int→Int→Option Nat} {r:Nat→Int→Int→Bool} (h:∀a x y e,f a x y=some e↔g a x y=some e∧r a x y=true) (at_:Nat) (x y s:Int):∀k e,kp f at_ x y s k=some e↔kp g at_ x y s k=some e∧∀j,j<k→∀a,kp g at_ x y s j=some a→r a (kX x s j) (kY y s j)=true
 | 0,e=>⟨fun h0=>⟨h0,fun j hj=>absurd hj (by omega)⟩,fun h0=>h0.1⟩
 | k+1,e=>by
   show(kp f at_ x y s k).bind _=some e↔(kp g at_ x y s k).bind _=some e∧_
   simp only[Option.bind_eq_some_iff]
   constructor
   · rintro⟨a,h1,h2⟩
     obtain⟨h3,h4⟩:=(kp_both h at_ x y s k a).1 h1
     obtain⟨h5,h6⟩:=(h _ _ _ _).1 h2
     refine⟨⟨a,h3,h5⟩,fun j hj b hb=>?_⟩
     rcases Nat.lt_or_ge j k with hjk | hjk
     · exact h4 j hjk b hb
     · obtain rfl:j=k:=by omega
       rw[h3] at hb
       cases hb
       exact h6
   · rintro⟨⟨a,h1,h2⟩,h3⟩
     exact⟨a,(kp_both h at_ x y s k a).2 ⟨h1,fun j hj=>h3 j (by omega)⟩,(h _ _ _ _).2 ⟨h2,h3 k (by omega) a h1⟩⟩
theorem qrd_both (Q:QD):∀d at_ x y s e,qrd Q d at_ x y s=some e↔mrd Q d at_ x y s=some e∧rtB Q d at_ x y s=true
 | 0,at_,x,y,s,e=>by
   unfold qrd mrd rtB
   by_cases h1:baseB Q at_ x y s=true∧Q.T at_=false
   · rw[if_pos h1]
     by_cases h2:leafB Q at_ x y s=true
     · rw[if_pos ⟨h1.1,h1.2,h2⟩];simp[h2]
     · rw[if_neg (fun h=>h2 h.2.2)];simp[h2]
   · rw[if_neg h1,if_neg (fun h=>h1 ⟨h.1,h.2.1⟩)];simp
 | d+1,at_,x,y,s,e=>by
   unfold qrd mrd rtB
   by_cases h1:baseB Q at_ x y s=true
   · rw[if_pos h1,if_pos h1]
     by_cases h2:Q.T at_=true
     · rw[if_pos h2,if_pos h2,if_pos h2]
       by_cases h3:Q.L at_=0
       · rw[if_pos h3,if_pos h3,kp_both (g:=fun a x y=>mrd Q d a x y (s / 2)) (r:=fun a x y=>rtB Q d a x y (s / 2)) (fun a x y e=>qrd_both Q d a x y (s / 2) e)]
         refine and_congr_right fun _=>?_
         rw[List.all_eq_true]
         constructor
         · intro h k hk
           have hk:=List.mem_range.1 hk
           split
           · rename_i a ha;exact h k hk a ha
           · rfl
         · intro h k hk a ha
           have:=h k (List.mem_range.2 hk)
           rw[ha] at this
           exact this
       · rw[if_neg h3,if_neg h3];simp
     · rw[if_neg h2,if_neg h2,if_neg h2]
       by_cases h3:leafB Q at_ x y s=true
       · rw[if_pos h3];simp[h3]
       · rw[if_neg h3];simp[h3]
   · rw[if_neg h1,if_neg h1];simp
theorem kid_in {x y s:Int} (hs:0≤s) {k:Nat} (hk:k<4):x≤kX x (s / 2) k∧y≤kY y (s / 2) k∧kX x (s / 2) k+s / 2≤x+s∧kY y (s / 2) k+s / 2≤y+s:=by
 unfold kX kY
 rcases(show k=0∨k=1∨k=2∨k=3 by omega) with h | h | h | h<;>subst h<;>simp<;>omega
theorem hit_kid {Q:QD} {x y s:Int} (hs:0≤s) {k:Nat} (hk:k<4) {i:Nat} (h:hitQ Q (kX x (s / 2) k) (kY y (s / 2) k) (s / 2) i=true):hitQ Q x y s i=true:=by
 obtain⟨h1,h2,h3,h4⟩:=kid_in (x:=x) (y:=y) hs hk
 exact hit_wider h1 h2 h3 h4 (by omega) (by omega) h
theorem fl_kid {Q:QD} {x y s:Int} (hs:0≤s) {k:Nat} (hk:k<4) (l:List Nat):flQ Q (flQ Q l x y s) (kX x (s / 2) k) (kY y (s / 2) k) (s / 2)=flQ Q l (kX x (s / 2) k) (kY y (s / 2) k) (s / 2):=by
 unfold flQ
 rw[List.filter_filter]
 congr 1
 funext i
 cases h:hitQ Q (kX x (s / 2) k) (kY y (s / 2) k) (s / 2) i
 · rfl
 · rw[hit_kid hs hk h];rfl
end Go.Proofs.Ytjhapeidafbncaa
namespace Go.Proofs.Ytjhapeidafbncaa
variable {P:Program} {ops:Array Oper} {Q:Exit→Act→World→Prop} {md:Region.Mode}
def open_ (l:Array Bool):Nat:=l.toList.countP (fun b=>!b)
theorem open_set {l:Array Bool} {i:Nat} (h:l.getD i true=false):open_ (l.setIfInBounds i true)+1=open_ l:=by
 obtain⟨xs⟩:=l
 have hi:i<xs.length:=by
   rcases Nat.lt_or_ge i xs.length with h' | h'
   · exact h'
   · simp[Array.getD,Nat.not_lt.2 h'] at h
 have hv:xs[i]=false:=by simpa [Array.getD,hi] using h
 have hp:0<xs.countP (fun b=>!b):=List.countP_pos_iff.2 ⟨xs[i],List.getElem_mem hi,by simp[hv]⟩
 simp only[open_,List.setIfInBounds_toArray,List.countP_set hi,hv]
 simp
 omega
theorem wpAny_inv (J:Array Bool→Act→World→Prop) (hs:∀l a w i o,J l a w→l.getD i true=false→ops[i]? =some o→(∀e∈o.after,Region.binds md e=true→l.getD e.on false=true)→wpOp P ops Q i (J (l.setIfInBounds i true)) a w)
   (hd:∀l a w,J l a w→Region.ready md ops l=[]→Q .normal a w):∀(fuel:Nat) (l:Array Bool) (a:Act) (w:World),open_ l≤fuel→J l a w→wpAny P md ops Q fuel l a w:=by
 intro fuel
 induction fuel with
 | zero=>
   intro l a w hf hJ
   have hr:Region.ready md ops l=[]:=by
     rw[List.eq_nil_iff_forall_not_mem]
     intro i hi
     have:=open_set (mem_ready.1 hi).1
     omega
   exact⟨hr,hd l a w hJ hr⟩
 | succ fuel ih=>
   intro l a w hf hJ
   refine⟨fun hr=>hd l a w hJ hr,fun i hi=>?_⟩
   obtain⟨h0,o,ho,hall⟩:=mem_ready.1 hi
   exact wpOp_mono (fun a' w' h' =>ih _ a' w' (by have:=open_set h0;omega) h') (hs l a w i o hJ h0 ho hall)
theorem wp_region_inv {id:Nat} {a:Act} {w:World} (hm:P.follows .mixedOrders=true) (J:Array Bool→Act→World→Prop)
   (h0:J (Array.replicate ops.size false) a {w with drawn:=w.drawn+1})
   (hs:∀l a w i o,J l a w→l.getD i true=false→ops[i]? =some o→(∀e∈o.after,Region.binds .any e=true→l.getD e.on false=true)→wpOp P ops Q i (J (l.setIfInBounds i true)) a w)
   (hd:∀l a w,J l a w→Region.ready .any ops l=[]→Q .normal a w):(Code.region id ops true).wp P Q a w:=
 wp_region_any hm (wpAny_inv J hs hd _ _ _ _ (by
   unfold open_
   refine Nat.le_trans List.countP_le_length ?_
   simp) h0)
def waits (md:Region.Mode) (ops:Array Oper):List Nat→List Nat→Bool
 | _,[]=>true
 | acc,i::r=>((ops[i]?).map (fun o=>o.after.all (fun e=>!Region.binds md e||acc.contains e.on))).getD false&&waits md ops (i::acc) r
theorem listed_of {l:Array Bool} (hr:Region.ready md ops l=[]):∀(r acc:List Nat),(∀k∈acc,l.getD k false=true)→waits md ops acc r=true→(∀k∈r,k<l.size)→∀k∈r,l.getD k false=true
 | [],_,_,_,_=>fun k hk=>by simp at hk
 | i::r,acc,ha,hw,hz=>by
   simp only[waits,Bool.and_eq_true] at hw
   obtain⟨hw1,hw2⟩:=hw
   have hi:l.getD i false=true:=by
     cases ho:ops[i]? with
     | none=>rw[ho] at hw1;simp at hw1
     | some o=>
       rw[ho] at hw1
       have hall:∀e∈o.after,Region.binds md e=true→l.getD e.on false=true:=fun e he hb=>by
         have h2:o.after.all (fun e=>!Region.binds md e||acc.contains e.on)=true:=by simpa using hw1
         rw[Array.all_eq_true'] at h2
         have h3:=h2 e he
         rw[hb] at h3
         exact ha _ (by simpa using h3)
       have hz' :=hz i (by simp)
       by_cases hc:l.getD i true=false
       · have:i∈Region.ready md ops l:=mem_ready.2 ⟨hc,o,ho,hall⟩
         rw[hr] at this
         simp at this
       · simpa [Array.getD,hz'] using hc
   intro k hk
   rcases List.mem_cons.1 hk with rfl | hk
   · exact hi
   · exact listed_of hr r (i::acc) (fun k hk=>by
       rcases List.mem_cons.1 hk with rfl | hk
       · exact hi
       · exact ha k hk) hw2 (fun k hk=>hz k (by simp[hk])) k hk
theorem wpOp_of {i:Nat} {o:Oper} {a:Act} {w:World} {K:Act→World→Prop} (ho:ops[i]? =some o) (hg:o.guard=none) (h:o.wp P a w K Q):wpOp P ops Q i K a w:=by
 unfold wpOp
 simp only[ho]
 have hw:Region.wanted o (yielded ops a.tmps)=true:=by unfold Region.wanted;rw[hg]
 rw[if_pos hw]
 exact .inl h
theorem tmps_fold:∀(D:List Nat) (t s:Array Value),t.size=s.size→(∀d,d∉D→t[d]? =s[d]?)→t=D.foldl (fun u d=>u.setIfInBounds d (t.getD d undef)) s
 | [],t,s,_,h=>Array.ext_getElem? (fun d=>h d (by simp))
 | d::D,t,s,hz,h=>by
   rw[List.foldl_cons]
   refine tmps_fold D t _ (by simpa using hz) (fun e he=>?_)
   by_cases hed:e=d
   · subst hed
     rcases Nat.lt_or_ge e t.size with h' | h'
     · simp[Array.getD,h',←hz]
     · simp[←hz,h']
   · rw[Array.getElem?_setIfInBounds_ne (fun hh=>hed hh.symm)]
     exact h e (by simp[hed,he])
theorem put_getD_ne {a:Act} {d e:Nat} {v:Value} (h:d≠e):(a.put (some d) v).tmps.getD e undef=a.tmps.getD e undef:=by
 simp[Act.put,Array.getD_eq_getD_getElem?,Array.getElem?_setIfInBounds_ne h]
theorem put_getD_same {a:Act} {d:Nat} {v:Value} (h:d<a.tmps.size):(a.put (some d) v).tmps.getD d undef=v:=by
 simp[Act.put,Array.getD_eq_getD_getElem?,h]
end Go.Proofs.Ytjhapeidafbncaa
namespace Go.Proofs.Ytjhapeidafbncaa
variable {P:Program} {ops:Array Oper} {Q:Exit→Act→World→Prop}
theorem yielded_of {j d:Nat} {o:Oper} {t:Array Value} {b:Bool} (ho:ops[j]? =some o) (hd:o.dst=some d) (ht:t.getD d undef= .bool b):yielded ops t j=some b:=by
 have h:t[d]? =some (.bool b):=by
   rcases Nat.lt_or_ge d t.size with h | h
   · simpa [Array.getD,h] using ht
   · simp[Array.getD,Nat.not_lt.2 h,undef] at ht
 unfold yielded
 rw[ho]
 simp only[Option.bind_some,hd]
 rw[h]
theorem wpOp_off {i k d:Nat} {b:Bool} {o ok:Oper} {a:Act} {w:World} {K:Act→World→Prop} (ho:ops[i]? =some o) (hg:o.guard=some (k,b)) (hk:ops[k]? =some ok) (hd:ok.dst=some d) (ht:a.tmps.getD d undef= .bool (!b)) (h:K (a.put o.dst undef) w):wpOp P ops Q i K a w:=by
 unfold wpOp
 simp only[ho]
 have hw:Region.wanted o (yielded ops a.tmps)=false:=by
   unfold Region.wanted
   rw[hg]
   simp only[yielded_of hk hd ht]
   cases b<;>rfl
 rw[hw]
 exact h
theorem wpOp_on {i k d:Nat} {b:Bool} {o ok:Oper} {a:Act} {w:World} {K:Act→World→Prop} (ho:ops[i]? =some o) (hg:o.guard=some (k,b)) (hk:ops[k]? =some ok) (hd:ok.dst=some d) (ht:a.tmps.getD d undef= .bool b) (h:o.wp P a w K Q):wpOp P ops Q i K a w:=by
 unfold wpOp
 simp only[ho]
 have hw:Region.wanted o (yielded ops a.tmps)=true:=by
   unfold Region.wanted
   rw[hg]
   simp only[yielded_of hk hd ht]
   cases b<;>rfl
 rw[if_pos hw]
 exact .inl h
end Go.Proofs.Ytjhapeidafbncaa
namespace Go.Proofs.Ytjhapeidafbncaa
open Go.RowKit
variable {P:Program} {ops:Array Oper}
def distS:List (Option Nat)→Bool
 | []=>true
 | none::r=>distS r
 | some d::r=>!(r.contains (some d))&&distS r
theorem distS_inj:∀(S:List (Option Nat)) (i j d:Nat),distS S=true→S[i]? =some (some d)→S[j]? =some (some d)→i=j
 | [],i,_,_,_,h,_=>by simp at h
 | o::r,i,j,d,hd,hi,hj=>by
   have hr:distS r=true:=by
     cases o with
     | none=>exact hd
     | some d' =>simp only[distS,Bool.and_eq_true] at hd;exact hd.2
   have hno:∀k,o=some d→r[k]? =some (some d)→False:=fun k ho hk=>by
     subst ho
     simp only[distS,Bool.and_eq_true,Bool.not_eq_true'] at hd
     have hm:some d∈r:=List.mem_of_getElem? hk
     rw[←List.contains_iff_mem,hd.1] at hm
     cases hm
   match i,j with
   | 0,0=>rfl
   | 0,j+1=>exact(hno j (by simpa using hi) (by simpa using hj)).elim
   | i+1,0=>exact(hno i (by simpa using hj) (by simpa using hi)).elim
   | i+1,j+1=>exact congrArg (· +1) (distS_inj r i j d hr (by simpa using hi) (by simpa using hj))
def InvQ (B:Nat) (S:List (Option Nat)) (V:Nat→Value→World→Prop) (w0:World) (a0:Act) (l:Array Bool) (a:Act) (W:World):Prop:=
 l.size=S.length∧a.tmps.size=a0.tmps.size∧a.defers=a0.defers∧(∀e,some e∉S→a.tmps[e]? =a0.tmps[e]?)∧Below B w0 W∧(∀j d,l.getD j false=true→S[j]? =some (some d)→V j (a.tmps.getD d undef) W)∧(∀j,l.getD j false=true→S[j]? =some none→V j undef W)
theorem getD_set_q {l:Array Bool} {i j:Nat} (h:(l.setIfInBounds i true).getD j false=true) (hne:j≠i):l.getD j false=true:=by
 rw[getD_set_ne false (Ne.symm hne)] at h
 exact h
theorem InvQ.put {B:Nat} {S:List (Option Nat)} {V:Nat→Value→World→Prop} {w0:World} {a0:Act} {l:Array Bool} {a:Act} {W W' :World} (h:InvQ B S V w0 a0 l a W) (hS:distS S=true) (i d:Nat) (hi:S[i]? =some (some d)) (hlt:d<a0.tmps.size)
   (hW:Below B w0 W') (hT:∀j v,V j v W→V j v W') (v:Value) (hv:V i v W'):InvQ B S V w0 a0 (l.setIfInBounds i true) (a.put (some d) v) W' :=by
 obtain⟨h1,h2,h3,h4,h5,h6,h7⟩:=h
 refine⟨by simpa using h1,by simpa [Act.put] using h2,h3,fun e he=>?_,hW,fun j d' hj hd' =>?_,fun j hj hn=>?_⟩
 · have hne:d≠e:=fun hh=>he (hh▸List.mem_of_getElem? hi)
   simp only[Act.put]
   rw[Array.getElem?_setIfInBounds_ne hne]
   exact h4 e he
 · by_cases hji:j=i
   · subst hji
     rw[hi] at hd'
     cases hd'
     rw[put_getD_same (by omega)]
     exact hv
   · have hne:d≠d' :=fun hh=>hji (distS_inj S j i d hS (hh▸hd') hi)
     rw[put_getD_ne hne]
     exact hT _ _ (h6 j d' (getD_set_q hj hji) hd')
 · have hji:j≠i:=fun hh=>by subst hh;rw[hi] at hn;cases hn
   exact hT _ _ (h7 j (getD_set_q hj hji) hn)
theorem InvQ.world {B:Nat} {S:List (Option Nat)} {V:Nat→Value→World→Prop} {w0:World} {a0:Act} {l:Array Bool} {a:Act} {W W' :World} (h:InvQ B S V w0 a0 l a W) (i:Nat) (hi:S[i]? =some none)
   (hW:Below B w0 W') (hT:∀j v,V j v W→V j v W') (hv:V i undef W'):InvQ B S V w0 a0 (l.setIfInBounds i true) a W' :=by
 obtain⟨h1,h2,h3,h4,h5,h6,h7⟩:=h
 refine⟨by simpa using h1,h2,h3,h4,hW,fun j d hj hd=>?_,fun j hj hn=>?_⟩
 · have hji:j≠i:=fun hh=>by subst hh;rw[hi] at hd;cases hd
   exact hT _ _ (h6 j d (getD_set_q hj hji) hd)
 · by_cases hji:j=i
   · subst hji;exact hv
   · exact hT _ _ (h7 j (getD_set_q hj hji) hn)
theorem wp_region_q {Q:Exit→Act→World→Prop} {id:Nat} {a0:Act} {w0:World} (hm:P.follows .mixedOrders=true) (B:Nat) (S:List (Option Nat)) (V:Nat→Value→World→Prop) (hSz:ops.size=S.length)
   (hs:∀(Q:Exit→Act→World→Prop) l a W i o,InvQ B S V w0 a0 l a W→l.getD i true=false→ops[i]? =some o→(∀e∈o.after,Region.binds .any e=true→l.getD e.on false=true)→wpOp P ops Q i (InvQ B S V w0 a0 (l.setIfInBounds i true)) a W)
   (hd:∀l a W,InvQ B S V w0 a0 l a W→Region.ready .any ops l=[]→Q .normal a W):(Code.region id ops true).wp P Q a0 w0:=by
 refine wp_region_inv hm (InvQ B S V w0 a0) ⟨by simpa using hSz,rfl,rfl,fun _ _=>rfl,(Below.refl _ w0).drew,fun j d hj=>?_,fun j hj=>?_⟩ (hs Q) hd
 all_goals
   exfalso
   rw[Array.getD_eq_getD_getElem?,Array.getElem?_replicate] at hj
   split at hj<;>simp at hj
end Go.Proofs.Ytjhapeidafbncaa
namespace Go.Proofs.Ytjhapeidafbncaa
open Go.RowKit
theorem getD_tf {l:Array Bool} {i:Nat} (h:l.getD i true=false):l.getD i false=false:=by
 rw[Array.getD_eq_getD_getElem?] at *
 cases hh:l[i]? with
 | none=>rw[hh] at h;cases h
 | some b=>rw[hh] at h;exact h
theorem getD_set_neq {l:Array Bool} {i j:Nat} (h:i≠j):(l.setIfInBounds i true).getD j false=l.getD j false:=by
 simp[Array.getD_eq_getD_getElem?,Array.getElem?_setIfInBounds_ne h]
theorem getD_set_eq {l:Array Bool} {i:Nat} (h:l.getD i true=false):(l.setIfInBounds i true).getD i false=true:=by
 rw[Array.getD_eq_getD_getElem?] at *
 cases hh:l[i]? with
 | none=>rw[hh] at h;cases h
 | some b=>simp[(Array.getElem?_eq_some_iff.1 hh).1]
theorem ownA_step {w w' :World} {base n:Nat} {e:TypeId} {size:Nat} {v:Value} {xs:List Value} (h:w.ownsRow base e size v n xs) (hB:Below w.heap.size w w'):w'.ownsRow base e size v n xs:=by
 rcases h with ⟨h0,h1 | ⟨g,cap,cur,h1,h2,h3,h4⟩⟩
 · exact⟨h0,.inl h1⟩
 · refine⟨h0,.inr ⟨g,cap,cur,h1,h2,?_,h4⟩⟩
   rw[hB.block g (Array.getElem?_eq_some_iff.1 h3).1]
   exact h3
theorem replD (n j:Nat):(Array.replicate n false).getD j false=false:=by
 rw[Array.getD_eq_getD_getElem?,Array.getElem?_replicate]
 split<;>rfl
end Go.Proofs.Ytjhapeidafbncaa
namespace Go.Proofs.Ytjhapeidafbncaa
variable {P:Program} {ops:Array Oper} {Q:Exit→Act→World→Prop}
theorem yielded_un {j d:Nat} {o:Oper} {t:Array Value} (ho:ops[j]? =some o) (hd:o.dst=some d) (ht:t.getD d undef=undef):yielded ops t j=none:=by
 unfold yielded
 rw[ho]
 simp only[Option.bind_some,hd]
 rcases Nat.lt_or_ge d t.size with h | h
 · have h2:t[d]? =some undef:=by simpa [Array.getD,h] using ht
   rw[h2]
   rfl
 · have h2:t[d]? =none:=by simp[h]
   rw[h2]
theorem wpOp_offu {i k d:Nat} {b:Bool} {o ok:Oper} {a:Act} {w:World} {K:Act→World→Prop} (ho:ops[i]? =some o) (hg:o.guard=some (k,b)) (hk:ops[k]? =some ok) (hd:ok.dst=some d) (ht:a.tmps.getD d undef=undef) (h:K (a.put o.dst undef) w):wpOp P ops Q i K a w:=by
 unfold wpOp
 simp only[ho]
 have hw:Region.wanted o (yielded ops a.tmps)=false:=by
   unfold Region.wanted
   rw[hg]
   simp only[yielded_un hk hd ht]
   cases b<;>rfl
 rw[hw]
 exact h
end Go.Proofs.Ytjhapeidafbncaa
