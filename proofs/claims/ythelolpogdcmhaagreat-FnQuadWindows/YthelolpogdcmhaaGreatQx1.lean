/- Part 1 of the walks that the proof leans on. -/
import Derived.Test.YthelolpogdcmhaaGreatRows
import Derived.WalkKit
import Derived.WalkSpells
import Derived.WalkLawsBesides
import Derived.Laws.Bits64b
import Derived.Deep.QuietTactic
import Derived.BigQuiet
import Derived.Laws.Externs
import Derived.Shelf.Spec.BitsCarry
import Derived.BigRegion
import Derived.Deep.CutBlock
import Derived.Deep.DeepCutAuto
import Derived.Deep.RegionWith
import Derived.Shelf.Bits.Mul64
import Derived.Deep.RegionHeld3
import Derived.Deep.LoopGhost
import Derived.WalkMore
import Derived.Deep.MidRow
import Derived.ProofKit
import Derived.Lib.SmallJoins
import Derived.Deep.Strs
set_option maxRecDepth 100000
set_option maxHeartbeats 16000000
namespace Go.Proofs.YthelolpogdcmhaaGreat
def val:List Int→Int
 | []=>0
 | d::t=>d+4294967296*val t
open Go.RowKit
theorem cell_alloc {w:World} {o:Obj} {b off:Nat} {v:Value} (hb:b<w.heap.size) (h:w.cell? ⟨b,off,none⟩=some v):(w.alloc o).cell? ⟨b,off,none⟩=some v:=by
 rw[((Below.refl w.heap.size w).alloc (Nat.le_refl _) o).cell (p:=⟨b,off,none⟩) hb];exact h
theorem ret_int {k:IntKind} {a b:Int} (h:b=a):Ending.returned (.int k a)= .returned (.int k b):=by rw[h]
theorem one_cell (k:IntKind) (x:Int):∀u∈[Value.int k x],u.oneCell' =true:=by
 intro u hu;simp only[List.mem_singleton] at hu;subst hu;rfl
theorem bcell {W w1:World} (hb:Below W.heap.size W w1):(∀b o,b<W.heap.size→w1.cell? ⟨b,o,none⟩=W.cell? ⟨b,o,none⟩)∧(∀b o,b<W.heap.size→w1.frozen? ⟨b,o,none⟩=W.frozen? ⟨b,o,none⟩):=
 ⟨fun b o h=>hb.cell (p:=⟨b,o,none⟩) h,fun b o h=>hb.frozen (p:=⟨b,o,none⟩) h⟩
def IntP (z:Int) (w:World) (e:Ending) (w' :World):Prop:=e= .returned (.int .i64 z)∧Below w.heap.size w w'
def Word (x:Int):Prop:=0≤x∧x<18446744073709551616
def told (z:Int):Bool:=decide (-57896044618658097711785492504343953926634992332820282019728792003956564819968≤z∧z<57896044618658097711785492504343953926634992332820282019728792003956564819968)
def eight (ds:List Int) (k:Nat):List Value:=(List.range 8).map fun i=> .int .u64 (if i<k then ds.getD i 0 else 0)
def val64:List Int→Int
 | []=>0
 | d::t=>d+18446744073709551616*val64 t
def Blk (W:World) (g:Nat) (vs:List Value):Prop:=g<W.heap.size∧∀i v,vs[i]? =some v→W.cell? ⟨g,i,none⟩=some v∧W.frozen? ⟨g,i,none⟩=false
theorem Blk.lt {W:World} {g:Nat} {vs:List Value} (h:Blk W g vs):g<W.heap.size:=h.1
theorem Blk.c {W:World} {g:Nat} {vs:List Value} (h:Blk W g vs) (i:Nat) {v:Value} (hi:vs[i]? =some v):W.cell? ⟨g,i,none⟩=some v:=(h.2 i v hi).1
theorem Blk.f {W:World} {g:Nat} {vs:List Value} (h:Blk W g vs) (i:Nat) {v:Value} (hi:vs[i]? =some v):W.frozen? ⟨g,i,none⟩=false:=(h.2 i v hi).2
theorem Blk.cs2 {W:World} {g:Nat} {v0 v1:Value} {vs:List Value} (h:Blk W g (v0::v1::vs)):W.cell? ⟨g,0,none⟩=some v0∧W.cell? ⟨g,1,none⟩=some v1:=⟨h.c 0 rfl,h.c 1 rfl⟩
theorem Blk.cf2 {W:World} {g:Nat} {v0 v1:Value} {vs:List Value} (h:Blk W g (v0::v1::vs)):W.cell? ⟨g,0,none⟩=some v0∧W.frozen? ⟨g,0,none⟩=false∧W.cell? ⟨g,1,none⟩=some v1∧W.frozen? ⟨g,1,none⟩=false:=⟨h.c 0 rfl,h.f 0 rfl,h.c 1 rfl,h.f 1 rfl⟩
theorem Blk.cs4 {W:World} {g:Nat} {v0 v1 v2 v3:Value} {vs:List Value} (h:Blk W g (v0::v1::v2::v3::vs)):W.cell? ⟨g,0,none⟩=some v0∧W.cell? ⟨g,1,none⟩=some v1∧W.cell? ⟨g,2,none⟩=some v2∧W.cell? ⟨g,3,none⟩=some v3:=⟨h.c 0 rfl,h.c 1 rfl,h.c 2 rfl,h.c 3 rfl⟩
theorem Blk.below {W W' :World} {B g:Nat} {vs:List Value} (h:Blk W g vs) (hB:Below B W W') (hg:g<B):Blk W' g vs:=
 ⟨Nat.lt_of_lt_of_le h.1 hB.size,fun i _ hi=>⟨(hB.cell (p:=⟨g,i,none⟩) hg).trans (h.c i hi),(hB.frozen (p:=⟨g,i,none⟩) hg).trans (h.f i hi)⟩⟩
theorem Blk.step {W W' :World} {g:Nat} {vs:List Value} (h:Blk W g vs) (hB:Below W.heap.size W W'):Blk W' g vs:=h.below hB h.1
theorem Blk.alloc {W:World} {g:Nat} {vs:List Value} (h:Blk W g vs) (o:Obj):Blk (W.alloc o) g vs:=h.step ((Below.refl W.heap.size W).alloc (Nat.le_refl _) o)
theorem Blk.drew {W:World} {g:Nat} {vs:List Value} (h:Blk W g vs):Blk W.drew g vs:=h
theorem Blk.new (W:World) (vs:List Value) (t:TypeId) {g:Nat} (hg:g=W.heap.size):Blk (W.alloc (.cells vs.toArray t)) g vs:=by
 subst hg;refine⟨by simp,fun i v hi=>⟨?_,by simp[go_sem]⟩⟩
 simp[go_sem,hi]
theorem Blk.setO {W:World} {g:Nat} {vs:List Value} (h:Blk W g vs) {p:Addr} (hne:g≠p.block) (u:Value):Blk (W.setCell p u) g vs:=by
 have hh:(W.setCell p u).heap[g]? =W.heap[g]? :=Below.heap_setCell _ _ _ _ hne;refine⟨by simpa [World.setCell] using h.1,fun i v hi=>⟨?_,?_⟩⟩
 · have:=h.c i hi;unfold World.cell? at *
   simpa [hh] using this
 · have:=h.f i hi;unfold World.frozen? at *
   simpa [hh] using this
theorem Blk.setI {W:World} {g:Nat} {vs:List Value} (h:Blk W g vs) (j:Nat) (hj:j<vs.length) (u:Value):Blk (W.setCell ⟨g,j,none⟩ u) g (vs.set j u):=by
 refine⟨by simpa [World.setCell] using h.1,fun i v hi=>?_⟩
 by_cases e:i=j
 · subst e;have hv:v=u:=by simpa [hj] using hi.symm
   subst hv;exact⟨by simp[go_sem,h.c i (List.getElem?_eq_getElem hj)],by simp[go_sem,h.f i (List.getElem?_eq_getElem hj)]⟩
 · have hi' :vs[i]? =some v:=by simpa [List.getElem?_set,Ne.symm e] using hi
   exact⟨(World.cell?_setCell_other _ _ _ _ (by simp)).trans (h.c i hi'),by simp[go_sem,h.f i hi']⟩
def ArgsB (w W:World) (vss:List (List Value)):Prop:=Below w.heap.size w W∧∀j vs,vss[j]? =some vs→Blk W (w.heap.size+j) vs
theorem ArgsB.below {w W:World} {vss:List (List Value)} (h:ArgsB w W vss):Below w.heap.size w W:=h.1
theorem ArgsB.b {w W:World} {vss:List (List Value)} (h:ArgsB w W vss) (j:Nat) {vs:List Value} (hj:vss[j]? =some vs):Blk W (w.heap.size+j) vs:=h.2 j vs hj
theorem ArgsB.step {w W W' :World} {vss:List (List Value)} (h:ArgsB w W vss) (hB:Below W.heap.size W W'):ArgsB w W' vss:=⟨h.1.trans (hB.mono h.1.size),fun j vs hj=>(h.2 j vs hj).step hB⟩
theorem ArgsB.alloc {w W:World} {vss:List (List Value)} (h:ArgsB w W vss) (o:Obj):ArgsB w (W.alloc o) vss:=h.step ((Below.refl W.heap.size W).alloc (Nat.le_refl _) o)
theorem ArgsB.drew {w W:World} {vss:List (List Value)} (h:ArgsB w W vss):ArgsB w W.drew vss:=⟨h.1.drew,h.2⟩
def agg (xs:List Int):Value:= .agg (xs.map (Value.int .u64)).toArray
def BoolP (b:Bool) (w:World) (e:Ending) (w' :World):Prop:=e= .returned (.bool b)∧Below w.heap.size w w'
open Go.RowKit Go.Shelf
def sl (x0 x1 x2 x3 x4 x5 x6 x7:Int):Int:=val64 [x0,x1,x2,x3,x4,x5,x6,x7]-(if x7<9223372036854775808 then 0 else 13407807929942597099574024998205846127479365820592393377723561443721764030073546976801874298166903427690031858186486050853753882811946569946433649006084096)
def win (rs:List Int) (place k:Nat):List Int:=(rs.drop place).take k
def put (rs:List Int) (place:Nat) (zs:List Int):List Int:=rs.take place ++(zs ++rs.drop (place+zs.length))
structure Two (w W:World) (A0 A1 B0 B1:Value):Prop where
 a0:W.cell? ⟨w.heap.size,0,none⟩=some A0
 a1:W.cell? ⟨w.heap.size,1,none⟩=some A1
 b0:W.cell? ⟨w.heap.size+1,0,none⟩=some B0
 b1:W.cell? ⟨w.heap.size+1,1,none⟩=some B1
 r0:W.cell? ⟨w.heap.size+1+1,0,none⟩=some (.bool false)
 r1:W.cell? ⟨w.heap.size+1+1,1,none⟩=some (.slice none 0 0)
 f0:W.frozen? ⟨w.heap.size+1+1,0,none⟩=false
 f1:W.frozen? ⟨w.heap.size+1+1,1,none⟩=false
 sz:w.heap.size+1+1<W.heap.size
 below:Below w.heap.size w W
structure Wd (W:World) (g:Nat) (a3 a2 a1 a0:Int):Prop where
 c0:W.cell? ⟨g,0,none⟩=some (.int .u64 a3)
 c1:W.cell? ⟨g,1,none⟩=some (.int .u64 a2)
 c2:W.cell? ⟨g,2,none⟩=some (.int .u64 a1)
 c3:W.cell? ⟨g,3,none⟩=some (.int .u64 a0)
 f0:W.frozen? ⟨g,0,none⟩=false
 f1:W.frozen? ⟨g,1,none⟩=false
 f2:W.frozen? ⟨g,2,none⟩=false
 f3:W.frozen? ⟨g,3,none⟩=false
 lt:g<W.heap.size
def ww0 (z:Int):Int:=z%18446744073709551616
def ww1 (z:Int):Int:=z / 18446744073709551616%18446744073709551616
def ww2 (z:Int):Int:=z / 340282366920938463463374607431768211456%18446744073709551616
def ww3 (z:Int):Int:=z / 6277101735386680763835789423207666416102355444464034512896%18446744073709551616
abbrev W4 (z:Int):Value:= .agg #[.int .u64 (ww3 z),.int .u64 (ww2 z),.int .u64 (ww1 z),.int .u64 (ww0 z)]
def VP (v:Value) (w:World) (e:Ending) (w' :World):Prop:=e= .returned v∧Below w.heap.size w w'
theorem ret_bool {a b:Bool} (h:b=a):Ending.returned (.bool a)= .returned (.bool b):=by rw[h]
def small (z:Int):Bool:=decide ((z.natAbs:Int)<1208925819614629174706176)
open Go.ChangeShapes Go.WideShapes Go.ChangeAt Go.RowKit Go.Joins
theorem Tryz.own:ownKnob Tryz.prog.godebug=none:=by kernel_rfl
open Go.ChangeShapes Go.WideShapes Go.ChangeAt Go.RowKit Go.Joins
abbrev WdD {H:Type} (a3 a2 a1 a0:Int):DataW H:= .agg [.lit (.int .u64 a3),.lit (.int .u64 a2),.lit (.int .u64 a1),.lit (.int .u64 a0)]
abbrev PtD {H:Type} (x y z:Int):DataW H:= .agg [WdD (ww3 x) (ww2 x) (ww1 x) (ww0 x),WdD (ww3 y) (ww2 y) (ww1 y) (ww0 y),WdD (ww3 z) (ww2 z) (ww1 z) (ww0 z)]
def SpotP (x y:Int) (w:World) (e:Ending) (w' :World):Prop:=e= .returned (.agg #[.int .i64 x,.int .i64 y])∧Below w.heap.size w w'
abbrev Sp (x y:Int):Value:= .agg #[.int .i64 x,.int .i64 y]
def spotOk (x y:Int):Bool:=decide (-1000000≤x∧x≤1000000∧-1000000≤y∧y≤1000000)
theorem l1In_any (x a b:Int) (c:Bool) (hc:decide (a≤x∧x≤b)=c) (w:World):Calls Tryz.prog 46 #[.int .i64 x,.int .i64 a,.int .i64 b] w (BoolP c w):=by
 go_enter Tryz.func46,Tryz.ntmps46
 go_wp2
 all_goals go_ret
 all_goals exact⟨ret_bool (by subst hc;simp;try omega),Below.refl _ _⟩
theorem implSpotOk_any (x y:Int) (c:Bool) (hc:spotOk x y=c) (w:World):Calls Tryz.prog 40 #[Sp x y] w (BoolP c w):=by
 go_enter Tryz.func40,Tryz.ntmps40
 go_wp2
 all_goals go_ret
 all_goals exact⟨ret_bool (by subst hc;unfold spotOk;simp[*];try omega),(Below.refl _ _).alloc (Nat.le_refl _) _⟩
theorem specSpotOk_any (x y:Int) (c:Bool) (hc:spotOk x y=c) (w:World):Calls Tryz.prog 50 #[Sp x y] w (BoolP c w):=by
 by_cases hx: -1000000≤x∧x≤1000000
 · go_enter Tryz.func50,Tryz.ntmps50
   go_wp2_with fail;refine(l1In_any _ _ _ true (by simpa using hx) _).mono ?_;rintro e w1 ⟨rfl,hB⟩;obtain⟨hq,_⟩:=bcell hB;have HB:Below w.heap.size w w1:=((Below.refl _ _).alloc (Nat.le_refl _) _).trans (hB.mono (by simp));clear hB;go_wp2_with fail;refine(l1In_any _ _ _ c (by subst hc;unfold spotOk;simp[hx]) _).mono ?_;rintro e w2 ⟨rfl,hB⟩;go_wp2;go_ret;exact⟨rfl,HB.trans (hB.mono HB.size)⟩
 · go_enter Tryz.func50,Tryz.ntmps50
   go_wp2_with fail;refine(l1In_any _ _ _ false (by simpa using hx) _).mono ?_;rintro e w1 ⟨rfl,hB⟩;have HB:Below w.heap.size w w1:=((Below.refl _ _).alloc (Nat.le_refl _) _).trans (hB.mono (by simp));clear hB;go_wp2;go_ret;exact⟨ret_bool (by subst hc;unfold spotOk;simp;omega),HB⟩
def lessI (x y u v:Int):Bool:=decide (x<u∨x=u∧y<v)
theorem l4Less_any (x y u v:Int) (c:Bool) (hc:lessI x y u v=c) (w:World):Calls Tryz.prog 80 #[Sp x y,Sp u v] w (BoolP c w):=by
 go_enter Tryz.func80,Tryz.ntmps80
 go_wp2
 all_goals go_ret
 all_goals exact⟨ret_bool (by subst hc;unfold lessI;simp[*];try omega),((Below.refl _ _).alloc (Nat.le_refl _) _).alloc (by simp) _⟩
theorem isAhead_any (x y u v:Int) (c:Bool) (hc:lessI x y u v=c) (w:World):Calls Tryz.prog 52 #[Sp x y,Sp u v] w (BoolP c w):=by
 go_enter Tryz.func52,Tryz.ntmps52
 go_wp2
 all_goals go_ret
 all_goals exact⟨ret_bool (by subst hc;unfold lessI;simp[*];try omega),((Below.refl _ _).alloc (Nat.le_refl _) _).alloc (by simp) _⟩
abbrev Sg (a b c d:Int):Value:= .agg #[.int .i64 a,.int .i64 b,.int .i64 c,.int .i64 d]
structure Quad (W:World) (g:Nat) (v0 v1 v2 v3:Value):Prop where
 c0:W.cell? ⟨g,0,none⟩=some v0
 c1:W.cell? ⟨g,1,none⟩=some v1
 c2:W.cell? ⟨g,2,none⟩=some v2
 c3:W.cell? ⟨g,3,none⟩=some v3
 f0:W.frozen? ⟨g,0,none⟩=false
 f1:W.frozen? ⟨g,1,none⟩=false
 f2:W.frozen? ⟨g,2,none⟩=false
 f3:W.frozen? ⟨g,3,none⟩=false
 lt:g<W.heap.size
theorem Quad.below {W W' :World} {B g:Nat} {v0 v1 v2 v3:Value} (h:Quad W g v0 v1 v2 v3) (hB:Below B W W') (hg:g<B):Quad W' g v0 v1 v2 v3:=
 ⟨(hB.cell (p:=⟨g,0,none⟩) hg).trans h.c0,(hB.cell (p:=⟨g,1,none⟩) hg).trans h.c1,(hB.cell (p:=⟨g,2,none⟩) hg).trans h.c2,(hB.cell (p:=⟨g,3,none⟩) hg).trans h.c3,
  (hB.frozen (p:=⟨g,0,none⟩) hg).trans h.f0,(hB.frozen (p:=⟨g,1,none⟩) hg).trans h.f1,(hB.frozen (p:=⟨g,2,none⟩) hg).trans h.f2,(hB.frozen (p:=⟨g,3,none⟩) hg).trans h.f3,Nat.lt_of_lt_of_le h.lt hB.size⟩
theorem Quad.new (W:World) (v0 v1 v2 v3:Value) (t:TypeId) {g:Nat} (hg:g=W.heap.size):Quad (W.alloc (.cells #[v0,v1,v2,v3] t)) g v0 v1 v2 v3:=by
 subst hg
 constructor<;>simp[go_sem]
def segOk (a b c d:Int):Bool:=spotOk a b&&spotOk c d&&lessI a b c d
theorem specSegOk_any (a b c d:Int) (z:Bool) (hz:segOk a b c d=z) (w:World):Calls Tryz.prog 47 #[Sg a b c d] w (BoolP z w):=by
 have HB0:Below w.heap.size w (w.alloc (.cells #[.int .i64 a,.int .i64 b,.int .i64 c,.int .i64 d] 38)):=(Below.refl _ _).alloc (Nat.le_refl _) _
 by_cases hx:spotOk a b=true
 · by_cases hy:spotOk c d=true
   · go_enter Tryz.func47,Tryz.ntmps47
     go_wp2_with fail;refine(specSpotOk_any _ _ true hx _).mono ?_;rintro e w1 ⟨rfl,hB⟩;have HB:Below w.heap.size w w1:=HB0.trans (hB.mono (by simp));have q0:Quad w1 w.heap.size _ _ _ _:=(Quad.new w (.int .i64 a) (.int .i64 b) (.int .i64 c) (.int .i64 d) _ rfl).below hB (by simp);obtain⟨q00,q01,q02,q03,-,-,-,-,q08⟩:=id q0;clear hB;go_wp2_with fail;refine(specSpotOk_any _ _ true hy _).mono ?_;rintro e w2 ⟨rfl,hB⟩;have HB2:Below w.heap.size w w2:=HB.trans (hB.mono HB.size);have q2:=q0.below hB q0.lt;clear q00 q01 q02 q03 q08;obtain⟨q00,q01,q02,q03,-,-,-,-,q08⟩:=q2;clear hB HB;go_wp2_with fail;refine(l4Less_any _ _ _ _ z (by rw[←hz];simp[segOk,hx,hy]) _).mono ?_;rintro e w3 ⟨rfl,hB⟩;go_wp2;go_ret;exact⟨rfl,HB2.trans (hB.mono HB2.size)⟩
   · have hy:=Bool.eq_false_iff.2 hy
     go_enter Tryz.func47,Tryz.ntmps47
     go_wp2_with fail;refine(specSpotOk_any _ _ true hx _).mono ?_;rintro e w1 ⟨rfl,hB⟩;have HB:Below w.heap.size w w1:=HB0.trans (hB.mono (by simp));have q0:Quad w1 w.heap.size _ _ _ _:=(Quad.new w (.int .i64 a) (.int .i64 b) (.int .i64 c) (.int .i64 d) _ rfl).below hB (by simp);obtain⟨q00,q01,q02,q03,-,-,-,-,q08⟩:=id q0;clear hB;go_wp2_with fail;refine(specSpotOk_any _ _ false hy _).mono ?_;rintro e w2 ⟨rfl,hB⟩;have HB2:Below w.heap.size w w2:=HB.trans (hB.mono HB.size);clear hB HB;go_wp2;go_ret;exact⟨ret_bool (by rw[←hz];simp[segOk,hx,hy]),HB2⟩
 · have hx:=Bool.eq_false_iff.2 hx
   go_enter Tryz.func47,Tryz.ntmps47
   go_wp2_with fail;refine(specSpotOk_any _ _ false hx _).mono ?_;rintro e w1 ⟨rfl,hB⟩;have HB:Below w.heap.size w w1:=HB0.trans (hB.mono (by simp));clear hB;go_wp2;go_ret;exact⟨ret_bool (by rw[←hz];simp[segOk,hx]),HB⟩
theorem implSegOk_any (a b c d:Int) (z:Bool) (hz:segOk a b c d=z) (w:World):Calls Tryz.prog 24 #[Sg a b c d] w (BoolP z w):=by
 have HB0:Below w.heap.size w (w.alloc (.cells #[.int .i64 a,.int .i64 b,.int .i64 c,.int .i64 d] 38)):=(Below.refl _ _).alloc (Nat.le_refl _) _
 by_cases hx:spotOk a b=true
 · by_cases hy:spotOk c d=true
   · go_enter Tryz.func24,Tryz.ntmps24
     go_wp2_with fail;refine(implSpotOk_any _ _ true hx _).mono ?_;rintro e w1 ⟨rfl,hB⟩;have HB:Below w.heap.size w w1:=HB0.trans (hB.mono (by simp));have q0:Quad w1 w.heap.size _ _ _ _:=(Quad.new w (.int .i64 a) (.int .i64 b) (.int .i64 c) (.int .i64 d) _ rfl).below hB (by simp);obtain⟨q00,q01,q02,q03,-,-,-,-,q08⟩:=id q0;clear hB;go_wp2_with fail;refine(implSpotOk_any _ _ true hy _).mono ?_;rintro e w2 ⟨rfl,hB⟩;have HB2:Below w.heap.size w w2:=HB.trans (hB.mono HB.size);have q2:=q0.below hB q0.lt;clear q00 q01 q02 q03 q08;obtain⟨q00,q01,q02,q03,-,-,-,-,q08⟩:=q2;clear hB HB;go_wp2_with fail;refine(isAhead_any _ _ _ _ z (by rw[←hz];simp[segOk,hx,hy]) _).mono ?_;rintro e w3 ⟨rfl,hB⟩;go_wp2;go_ret;exact⟨rfl,HB2.trans (hB.mono HB2.size)⟩
   · have hy:=Bool.eq_false_iff.2 hy
     go_enter Tryz.func24,Tryz.ntmps24
     go_wp2_with fail;refine(implSpotOk_any _ _ true hx _).mono ?_;rintro e w1 ⟨rfl,hB⟩;have HB:Below w.heap.size w w1:=HB0.trans (hB.mono (by simp));have q0:Quad w1 w.heap.size _ _ _ _:=(Quad.new w (.int .i64 a) (.int .i64 b) (.int .i64 c) (.int .i64 d) _ rfl).below hB (by simp);obtain⟨q00,q01,q02,q03,-,-,-,-,q08⟩:=id q0;clear hB;go_wp2_with fail;refine(implSpotOk_any _ _ false hy _).mono ?_;rintro e w2 ⟨rfl,hB⟩;have HB2:Below w.heap.size w w2:=HB.trans (hB.mono HB.size);clear hB HB;go_wp2;go_ret;exact⟨ret_bool (by rw[←hz];simp[segOk,hx,hy]),HB2⟩
 · have hx:=Bool.eq_false_iff.2 hx
   go_enter Tryz.func24,Tryz.ntmps24
   go_wp2_with fail;refine(implSpotOk_any _ _ false hx _).mono ?_;rintro e w1 ⟨rfl,hB⟩;have HB:Below w.heap.size w w1:=HB0.trans (hB.mono (by simp));clear hB;go_wp2;go_ret;exact⟨ret_bool (by rw[←hz];simp[segOk,hx]),HB⟩
theorem specSegOf_any (x y u v A B C D:Int) (l k:Bool) (hl:lessI u v x y=l) (hk:segOk A B C D=k) (hA:cond l u x=A) (hB:cond l v y=B) (hC:cond l x u=C) (hD:cond l y v=D) (w:World) :
 Calls Tryz.prog 61 #[Sp x y,Sp u v] w (VP (.tuple #[Sg (cond k A 0) (cond k B 0) (cond k C 0) (cond k D 0),.bool k]) w):=by
 cases l<;>simp only[cond_true,cond_false] at hA hB hC hD<;>subst hA hB hC hD
 · have B0:=Blk.new w [.int .i64 x,.int .i64 y] 29 rfl;have HB0:Below w.heap.size w _:=(Below.refl _ w).alloc (Nat.le_refl _) (.cells #[.int .i64 x,.int .i64 y] 29);have B1:=Blk.new (w.alloc (.cells #[.int .i64 x,.int .i64 y] 29)) [.int .i64 u,.int .i64 v] 29 (g:=w.heap.size+1) (by simp);replace B0:=B0.alloc (.cells #[.int .i64 u,.int .i64 v] 29);replace HB0:=HB0.alloc (by simp) (.cells #[.int .i64 u,.int .i64 v] 29);have B2:=Blk.new ((w.alloc (.cells #[.int .i64 x,.int .i64 y] 29)).alloc (.cells #[.int .i64 u,.int .i64 v] 29)) [.int .i64 0,.int .i64 0,.int .i64 0,.int .i64 0] 38 (g:=w.heap.size+1+1) (by simp);replace B0:=B0.alloc (.cells #[.int .i64 0,.int .i64 0,.int .i64 0,.int .i64 0] 38);replace B1:=B1.alloc (.cells #[.int .i64 0,.int .i64 0,.int .i64 0,.int .i64 0] 38);replace HB0:=HB0.alloc (by simp;omega) (.cells #[.int .i64 0,.int .i64 0,.int .i64 0,.int .i64 0] 38)
   go_enter Tryz.func61,Tryz.ntmps61
   go_wp2_with fail;refine(l4Less_any _ _ _ _ false hl _).mono ?_;rintro e w1 ⟨rfl,hB⟩;replace B0:=B0.step hB;replace B1:=B1.step hB;replace B2:=B2.step hB;have HB:Below w.heap.size w w1:=HB0.trans (hB.mono HB0.size);clear hB HB0;have cB00:=B0.c 0 rfl;have fB00:=B0.f 0 rfl;have cB01:=B0.c 1 rfl;have fB01:=B0.f 1 rfl;have cB10:=B1.c 0 rfl;have fB10:=B1.f 0 rfl;have cB11:=B1.c 1 rfl;have fB11:=B1.f 1 rfl;have cB20:=B2.c 0 rfl;have fB20:=B2.f 0 rfl;have cB21:=B2.c 1 rfl;have fB21:=B2.f 1 rfl;have cB22:=B2.c 2 rfl;have fB22:=B2.f 2 rfl;have cB23:=B2.c 3 rfl;have fB23:=B2.f 3 rfl;have ltB0:=B0.lt;have ltB1:=B1.lt;have ltB2:=B2.lt;go_wp2_with fail;have D2:=B2.alloc (.cells #[.int .i64 x,.int .i64 y,.int .i64 u,.int .i64 v] 38);have D3:=Blk.new w1 [.int .i64 x,.int .i64 y,.int .i64 u,.int .i64 v] 38 rfl;have HC:=HB.alloc HB.size (.cells #[.int .i64 x,.int .i64 y,.int .i64 u,.int .i64 v] 38);refine(specSegOk_any _ _ _ _ k hk _).mono ?_;rintro e w2 ⟨rfl,hB⟩;replace D2:=D2.step hB;replace D3:=D3.step hB;have HD:Below w.heap.size w w2:=HC.trans (hB.mono HC.size);clear hB HC HB B0 B1 B2 cB00 fB00 cB01 fB01 cB10 fB10 cB11 fB11 cB20 fB20 cB21 fB21 cB22 fB22 cB23 fB23 ltB0 ltB1 ltB2;have cD20:=D2.c 0 rfl;have fD20:=D2.f 0 rfl;have cD21:=D2.c 1 rfl;have fD21:=D2.f 1 rfl;have cD22:=D2.c 2 rfl;have fD22:=D2.f 2 rfl;have cD23:=D2.c 3 rfl;have fD23:=D2.f 3 rfl;have cD30:=D3.c 0 rfl;have fD30:=D3.f 0 rfl;have cD31:=D3.c 1 rfl;have fD31:=D3.f 1 rfl;have cD32:=D3.c 2 rfl;have fD32:=D3.f 2 rfl;have cD33:=D3.c 3 rfl;have fD33:=D3.f 3 rfl;have ltD2:=D2.lt;have ltD3:=D3.lt;cases k
   · go_wp2;refine bodyPost_ret (v:= .tuple #[Sg 0 0 0 0,.bool false]) (by simp[results,Tryz.results61,go_sem,cD20,cD21,cD22,cD23]) rfl ?_;refine⟨rfl,?_⟩
     repeat' (refine Below.setCell ?_ (by simp;try omega) _)
     exact HD
   · go_wp2;refine bodyPost_ret (v:= .tuple #[Sg x y u v,.bool true]) (by simp[results,Tryz.results61,go_sem,cD20,cD21,cD22,cD23]) rfl ?_;refine⟨rfl,?_⟩
     repeat' (refine Below.setCell ?_ (by simp;try omega) _)
     exact HD
 · have B0:=Blk.new w [.int .i64 x,.int .i64 y] 29 rfl;have HB0:Below w.heap.size w _:=(Below.refl _ w).alloc (Nat.le_refl _) (.cells #[.int .i64 x,.int .i64 y] 29);have B1:=Blk.new (w.alloc (.cells #[.int .i64 x,.int .i64 y] 29)) [.int .i64 u,.int .i64 v] 29 (g:=w.heap.size+1) (by simp);replace B0:=B0.alloc (.cells #[.int .i64 u,.int .i64 v] 29);replace HB0:=HB0.alloc (by simp) (.cells #[.int .i64 u,.int .i64 v] 29);have B2:=Blk.new ((w.alloc (.cells #[.int .i64 x,.int .i64 y] 29)).alloc (.cells #[.int .i64 u,.int .i64 v] 29)) [.int .i64 0,.int .i64 0,.int .i64 0,.int .i64 0] 38 (g:=w.heap.size+1+1) (by simp);replace B0:=B0.alloc (.cells #[.int .i64 0,.int .i64 0,.int .i64 0,.int .i64 0] 38);replace B1:=B1.alloc (.cells #[.int .i64 0,.int .i64 0,.int .i64 0,.int .i64 0] 38);replace HB0:=HB0.alloc (by simp;omega) (.cells #[.int .i64 0,.int .i64 0,.int .i64 0,.int .i64 0] 38)
   go_enter Tryz.func61,Tryz.ntmps61
   go_wp2_with fail;refine(l4Less_any _ _ _ _ true hl _).mono ?_;rintro e w1 ⟨rfl,hB⟩;replace B0:=B0.step hB;replace B1:=B1.step hB;replace B2:=B2.step hB;have HB:Below w.heap.size w w1:=HB0.trans (hB.mono HB0.size);clear hB HB0;have cB00:=B0.c 0 rfl;have fB00:=B0.f 0 rfl;have cB01:=B0.c 1 rfl;have fB01:=B0.f 1 rfl;have cB10:=B1.c 0 rfl;have fB10:=B1.f 0 rfl;have cB11:=B1.c 1 rfl;have fB11:=B1.f 1 rfl;have cB20:=B2.c 0 rfl;have fB20:=B2.f 0 rfl;have cB21:=B2.c 1 rfl;have fB21:=B2.f 1 rfl;have cB22:=B2.c 2 rfl;have fB22:=B2.f 2 rfl;have cB23:=B2.c 3 rfl;have fB23:=B2.f 3 rfl;have ltB0:=B0.lt;have ltB1:=B1.lt;have ltB2:=B2.lt;go_wp2_with fail;have D2:=((((B2.setO (p:=⟨w.heap.size,0,none⟩) (by simp;omega) (.int .i64 u)).setO (p:=⟨w.heap.size,1,none⟩) (by simp;omega) (.int .i64 v)).setO (p:=⟨w.heap.size+1,0,none⟩) (by simp) (.int .i64 x)).setO (p:=⟨w.heap.size+1,1,none⟩) (by simp) (.int .i64 y)).alloc (.cells #[.int .i64 u,.int .i64 v,.int .i64 x,.int .i64 y] 38);have HC:=((((HB.setCell (p:=⟨w.heap.size,0,none⟩) (by simp) (.int .i64 u)).setCell (p:=⟨w.heap.size,1,none⟩) (by simp) (.int .i64 v)).setCell (p:=⟨w.heap.size+1,0,none⟩) (by simp) (.int .i64 x)).setCell (p:=⟨w.heap.size+1,1,none⟩) (by simp) (.int .i64 y));have D3:=Blk.new ((((w1.setCell ⟨w.heap.size,0,none⟩ (.int .i64 u)).setCell ⟨w.heap.size,1,none⟩ (.int .i64 v)).setCell ⟨w.heap.size+1,0,none⟩ (.int .i64 x)).setCell ⟨w.heap.size+1,1,none⟩ (.int .i64 y)) [.int .i64 u,.int .i64 v,.int .i64 x,.int .i64 y] 38 (g:=w1.heap.size) (by simp[World.setCell]);replace HC:=HC.alloc (by have:=HB.size;simpa [World.setCell] using this) (.cells #[.int .i64 u,.int .i64 v,.int .i64 x,.int .i64 y] 38);refine(specSegOk_any _ _ _ _ k hk _).mono ?_;rintro e w2 ⟨rfl,hB⟩;replace D2:=D2.step hB;replace D3:=D3.step hB;have HD:Below w.heap.size w w2:=HC.trans (hB.mono HC.size);clear hB HC HB B0 B1 B2 cB00 fB00 cB01 fB01 cB10 fB10 cB11 fB11 cB20 fB20 cB21 fB21 cB22 fB22 cB23 fB23 ltB0 ltB1 ltB2;have cD20:=D2.c 0 rfl;have fD20:=D2.f 0 rfl;have cD21:=D2.c 1 rfl;have fD21:=D2.f 1 rfl;have cD22:=D2.c 2 rfl;have fD22:=D2.f 2 rfl;have cD23:=D2.c 3 rfl;have fD23:=D2.f 3 rfl;have cD30:=D3.c 0 rfl;have fD30:=D3.f 0 rfl;have cD31:=D3.c 1 rfl;have fD31:=D3.f 1 rfl;have cD32:=D3.c 2 rfl;have fD32:=D3.f 2 rfl;have cD33:=D3.c 3 rfl;have fD33:=D3.f 3 rfl;have ltD2:=D2.lt;have ltD3:=D3.lt;cases k
   · go_wp2;refine bodyPost_ret (v:= .tuple #[Sg 0 0 0 0,.bool false]) (by simp[results,Tryz.results61,go_sem,cD20,cD21,cD22,cD23]) rfl ?_;refine⟨rfl,?_⟩
     repeat' (refine Below.setCell ?_ (by simp;try omega) _)
     exact HD
   · go_wp2;refine bodyPost_ret (v:= .tuple #[Sg u v x y,.bool true]) (by simp[results,Tryz.results61,go_sem,cD20,cD21,cD22,cD23]) rfl ?_;refine⟨rfl,?_⟩
     repeat' (refine Below.setCell ?_ (by simp;try omega) _)
     exact HD
structure Kept (g:Nat) (w w' :World):Prop where
 os:w'.os=w.os
 tape:w'.tape=w.tape
 output:w'.output=w.output
 size:w.heap.size≤w'.heap.size
 block:∀k,k<w.heap.size→k≠g→w'.heap[k]? =w.heap[k]?
 other:∀j,j≠1→g<w.heap.size→w'.cell? ⟨g,j,none⟩=w.cell? ⟨g,j,none⟩
theorem Kept.refl (g:Nat) (w:World):Kept g w w:=⟨rfl,rfl,rfl,Nat.le_refl _,fun _ _ _=>rfl,fun _ _ _=>rfl⟩
theorem Kept.trans {g:Nat} {a b c:World} (h:Kept g a b) (k:Kept g b c):Kept g a c:=
 ⟨k.os.trans h.os,k.tape.trans h.tape,k.output.trans h.output,Nat.le_trans h.size k.size,fun i hi hg=>(k.block i (Nat.lt_of_lt_of_le hi h.size) hg).trans (h.block i hi hg),fun j hj hl=>(k.other j hj (Nat.lt_of_lt_of_le hl h.size)).trans (h.other j hj hl)⟩
theorem Kept.of {g:Nat} {a b:World} (h:Below a.heap.size a b):Kept g a b:=⟨h.os,h.tape,h.output,h.size,fun i hi _=>h.block i hi,fun j _ hl=>h.cell (p:=⟨g,j,none⟩) hl⟩
theorem Kept.drew {g:Nat} {a b:World} (h:Kept g a b):Kept g a b.drew:=⟨h.os,h.tape,h.output,h.size,h.block,h.other⟩
theorem Kept.drewN {g:Nat} {a b:World} (h:Kept g a b) (n:Nat):Kept g a (b.drewN n):=⟨h.os,h.tape,h.output,h.size,h.block,h.other⟩
theorem Kept.set {g:Nat} {a b:World} (h:Kept g a b) (u:Value):Kept g a (b.setCell ⟨g,1,none⟩ u):=
 ⟨h.os,h.tape,h.output,by simpa [World.setCell] using h.size,fun k hk hg=>(Below.heap_setCell _ _ _ _ hg).trans (h.block k hk hg),fun j hj hl=>(World.cell?_setCell_other _ _ _ _ (by intro e;simp only[Addr.mk.injEq] at e;omega)).trans (h.other j hj hl)⟩
theorem Kept.alloc {g:Nat} {a b:World} (h:Kept g a b) (o:Obj):Kept g a (b.alloc o):=h.trans (Kept.of ((Below.refl _ _).alloc (Nat.le_refl _) o))
theorem Kept.below {g B:Nat} {a b:World} (h:Kept g a b) (hB:B≤g) (hB' :B≤a.heap.size):Below B a b:=⟨h.os,h.tape,h.output,h.size,fun k hk=>h.block k (by omega) (by omega)⟩
theorem Blk.kept {W W' :World} {g h:Nat} {vs:List Value} (H:Blk W h vs) (k:Kept g W W') (hne:h≠g):Blk W' h vs:=by
 have e:=k.block h H.lt hne;refine⟨Nat.lt_of_lt_of_le H.lt k.size,fun i v hi=>⟨?_,?_⟩⟩
 · exact(World.cell?_of_block (w:=W) e).trans (H.c i hi)
 · exact(World.frozen?_of_block (w:=W) e).trans (H.f i hi)
structure Rdr (w:World) (g:Nat) (ao:Option Addr) (n cap:Nat) (cs:List Int):Prop where
 blk:∃p:Nat,p≤n∧Blk w g [.slice ao n cap,.int .i64 p]
 bytes:∀i,(h:i<cs.length)→∃b off,ao=some ⟨b,off,none⟩∧b<g∧w.cell? ⟨b,off+i,none⟩=some (.int .u8 cs[i])
 len:cs.length=n
 small:n≤1048576
 byte:∀c∈cs,0≤c∧c<256
theorem Rdr.lt {w:World} {g:Nat} {ao:Option Addr} {n cap:Nat} {cs:List Int} (h:Rdr w g ao n cap cs):g<w.heap.size:=by
 obtain⟨p,_,B⟩:=h.blk;exact B.lt
theorem Rdr.step {w w' :World} {g:Nat} {ao:Option Addr} {n cap:Nat} {cs:List Int} (h:Rdr w g ao n cap cs) (hB:Below w.heap.size w w'):Rdr w' g ao n cap cs:=by
 obtain⟨p,hp,B⟩:=h.blk;refine⟨⟨p,hp,B.step hB⟩,fun i hi=>?_,h.len,h.small,h.byte⟩;obtain⟨b,off,e,hb,hc⟩:=h.bytes i hi;exact⟨b,off,e,hb,(hB.cell (p:=⟨b,off+i,none⟩) (show b<w.heap.size by have:=B.lt;omega)).trans hc⟩
theorem Rdr.alloc {w:World} {g:Nat} {ao:Option Addr} {n cap:Nat} {cs:List Int} (h:Rdr w g ao n cap cs) (o:Obj):Rdr (w.alloc o) g ao n cap cs:=h.step ((Below.refl _ _).alloc (Nat.le_refl _) o)
theorem Rdr.drew {w:World} {g:Nat} {ao:Option Addr} {n cap:Nat} {cs:List Int} (h:Rdr w g ao n cap cs):Rdr w.drew g ao n cap cs:=⟨h.blk,h.bytes,h.len,h.small,h.byte⟩
theorem Rdr.drewN {w:World} {g:Nat} {ao:Option Addr} {n cap:Nat} {cs:List Int} (h:Rdr w g ao n cap cs) (k:Nat):Rdr (w.drewN k) g ao n cap cs:=⟨h.blk,h.bytes,h.len,h.small,h.byte⟩
theorem Rdr.put {w:World} {g:Nat} {ao:Option Addr} {n cap:Nat} {cs:List Int} (h:Rdr w g ao n cap cs) (p:Nat) (hp:p≤n):Rdr (w.setCell ⟨g,1,none⟩ (.int .i64 p)) g ao n cap cs:=by
 obtain⟨q,hq,B⟩:=h.blk;refine⟨⟨p,hp,B.setI 1 (by simp) _⟩,fun i hi=>?_,h.len,h.small,h.byte⟩;obtain⟨b,off,e,hb,hc⟩:=h.bytes i hi;exact⟨b,off,e,hb,(World.cell?_setCell_other _ _ _ _ (by intro e;simp only[Addr.mk.injEq] at e;omega)).trans hc⟩
def RdP (g:Nat) (ao:Option Addr) (n cap:Nat) (cs:List Int) (Q:Value→Prop) (w:World) (e:Ending) (w' :World):Prop:=∃v,e= .returned v∧Q v∧Rdr w' g ao n cap cs∧Kept g w w'
def IsIn (a b:Int) (v:Value):Prop:=∃x:Int,v= .int .i64 x∧a≤x∧x<b
theorem next_any (g:Nat) (ao:Option Addr) (n cap:Nat) (cs:List Int) (w:World) (h:Rdr w g ao n cap cs) :
 Calls Tryz.prog 34 #[.pointer (some ⟨g,0,none⟩)] w (RdP g ao n cap cs (IsIn 0 256) w):=by
 obtain⟨p,hp,B⟩:=h.blk;have b0:=B.c 0 rfl;have b1:=B.c 1 rfl;have f1:=B.f 1 rfl;have bl:=B.lt
 by_cases hq:p<n
 · have hpl:p<cs.length:=by rw[h.len];exact hq
   obtain⟨b,off,rfl,hb,hc⟩:=h.bytes p hpl;obtain⟨y0,y1⟩:=h.byte _ (List.getElem_mem hpl);have R:=fun k=>(h.drewN k).put (p+1) (by omega);have hs:=h.small;generalize cs[p]=y at *;have hne:g≠b:=by omega
   have i1:(p:Int)<n:=by omega
   clear h B
   go_enter Tryz.func34,Tryz.ntmps34
   go_wp2
   go_quiet (fail)
   go_wp2
   go_quiet (fail)
   go_wp2;go_ret;exact⟨_,rfl,⟨y,rfl,y0,y1⟩,(R _).drewN _,(((Kept.refl _ _).drewN _).set _).drewN _⟩
 · obtain rfl:p=n:=by omega
   have hs:=h.small
   go_enter Tryz.func34,Tryz.ntmps34
   go_wp2
   go_quiet (fail)
   go_wp2;go_ret;exact⟨_,rfl,⟨0,rfl,by decide,by decide⟩,h.drewN _,(Kept.refl _ _).drewN _⟩
theorem below_any (m:Int) (h2:2≤m) (h256:m≤256) (g:Nat) (ao:Option Addr) (n cap:Nat) (cs:List Int) (w:World) (h:Rdr w g ao n cap cs) :
 Calls Tryz.prog 15 #[.pointer (some ⟨g,0,none⟩),.int .i64 m] w (RdP g ao n cap cs (IsIn 0 m) w):=by
 go_enter Tryz.func15,Tryz.ntmps15
 go_wp2_with fail
 all_goals first | (exfalso;omega) | skip
 refine(next_any g ao n cap cs _ h).mono ?_;rintro e w1 ⟨_,rfl,⟨x,rfl,x0,x1⟩,R,K⟩;have hm:m≠0:=by omega
 go_wp2;go_ret;exact⟨_,rfl,⟨x%m,rfl,Int.emod_nonneg _ hm,Int.emod_lt_of_pos _ (by omega)⟩,R,K⟩
theorem or_word {a b:Int} (ha:Word a) (hb:Word b):Word (bits .or .u64 a b):=by
 obtain⟨a0,a1⟩:=ha;obtain⟨b0,b1⟩:=hb;obtain⟨a,rfl⟩:=Int.eq_ofNat_of_zero_le a0;obtain⟨b,rfl⟩:=Int.eq_ofNat_of_zero_le b0;rw[bits_or_u64_nat a b (by omega) (by omega)];have:=Nat.or_lt_two_pow (n:=64) (x:=a) (y:=b) (by omega) (by omega);exact⟨by omega,by omega⟩
def IsWord (v:Value):Prop:=∃x:Int,v= .int .u64 x∧Word x
def IsBool (v:Value):Prop:=∃b,v= .bool b
theorem once_any (m:Int) (h2:2≤m) (h256:m≤256) (g:Nat) (ao:Option Addr) (n cap:Nat) (cs:List Int) (w:World) (h:Rdr w g ao n cap cs) :
 Calls Tryz.prog 14 #[.pointer (some ⟨g,0,none⟩),.int .i64 m] w (RdP g ao n cap cs IsBool w):=by
 go_enter Tryz.func14,Tryz.ntmps14
 go_wp2_with fail;refine(below_any m h2 h256 g ao n cap cs _ h).mono ?_;rintro e w1 ⟨_,rfl,⟨x,rfl,x0,x1⟩,R,K⟩;go_wp2;go_ret;exact⟨_,rfl,⟨_,rfl⟩,R,K⟩
theorem word_any (g:Nat) (ao:Option Addr) (n cap:Nat) (cs:List Int) (w:World) (h:Rdr w g ao n cap cs) :
 Calls Tryz.prog 93 #[.pointer (some ⟨g,0,none⟩)] w (RdP g ao n cap cs IsWord w):=by
 go_enter Tryz.func93,Tryz.ntmps93
 go_wp2
 go_loopw [3,4] (fun o i wr=>∃(k:Nat) (x:Int),k≤8∧i= .int .i64 k∧o= .int .u64 x∧Word x∧Rdr wr g ao n cap cs∧Kept g w wr) (fun _ i _=>8-(intOf i).toNat)
 case atStart=>exact⟨0,0,by omega,rfl,rfl,⟨by decide,by decide⟩,h,Kept.refl _ _⟩
 case round=>
  clear h;obtain⟨k,x,hk,rfl,rfl,hx,R,K⟩:=hrel
  by_cases hk8:k<8
  · have i1:(k:Int)<8:=by omega
    go_wp2_with fail;refine(next_any g ao n cap cs _ R).mono ?_;rintro e w1 ⟨_,rfl,⟨y,rfl,y0,y1⟩,R1,K1⟩;replace K:=K.trans K1;clear R K1;have hy:IntKind.u64.wrap y=y:=by rw[IntKind.wrap_u64];omega
    have OW:=or_word (a:=IntKind.u64.wrap (x*256)) (b:=y) (by rw[IntKind.wrap_u64];exact⟨by omega,by omega⟩) ⟨y0,by omega⟩;clear hx;go_wp2;go_roundw
    case rel=>exact⟨k+1,_,by omega,by go_num,rfl,OW,R1,K⟩
    case measure=>simp[intOf];omega
  · obtain rfl:k=8:=by omega
    go_wp2;go_ret;exact⟨_,rfl,⟨x,rfl,hx⟩,R,K⟩
theorem Rdr.setN {w:World} {g:Nat} {ao:Option Addr} {n cap:Nat} {cs:List Int} (h:Rdr w g ao n cap cs) {p:Addr} (hp:g<p.block) (u:Value):Rdr (w.setCell p u) g ao n cap cs:=by
 obtain⟨q,hq,B⟩:=h.blk;refine⟨⟨q,hq,B.setO (by omega) u⟩,fun i hi=>?_,h.len,h.small,h.byte⟩;obtain⟨b,off,e,hb,hc⟩:=h.bytes i hi;exact⟨b,off,e,hb,(World.cell?_setCell_other _ _ _ _ (by intro e;rw[e] at hp;simp at hp;omega)).trans hc⟩
theorem Kept.setN {g:Nat} {a b:World} (h:Kept g a b) {p:Addr} (hp:a.heap.size≤p.block) (hg:g≠p.block) (u:Value):Kept g a (b.setCell p u):=
 ⟨h.os,h.tape,h.output,by simpa [World.setCell] using h.size,fun k hk hne=>(Below.heap_setCell _ _ _ _ (by omega)).trans (h.block k hk hne),fun j hj hl=>(World.cell?_setCell_other _ _ _ _ (by intro e;rw[e] at hg;exact hg rfl)).trans (h.other j hj hl)⟩
structure Code (w:World) (ao:Option Addr) (n:Nat) (cs:List Int):Prop where
 bytes:∀i,(h:i<cs.length)→∃b off,ao=some ⟨b,off,none⟩∧b<w.heap.size∧w.cell? ⟨b,off+i,none⟩=some (.int .u8 cs[i])
 len:cs.length=n
 small:n≤1048576
 byte:∀c∈cs,0≤c∧c<256
theorem Code.below {w w' :World} {ao:Option Addr} {n:Nat} {cs:List Int} (h:Code w ao n cs) (hB:Below w.heap.size w w'):Code w' ao n cs:=by
 refine⟨fun i hi=>?_,h.len,h.small,h.byte⟩;obtain⟨b,off,e,hb,hc⟩:=h.bytes i hi;exact⟨b,off,e,Nat.lt_of_lt_of_le hb hB.size,(hB.cell (p:=⟨b,off+i,none⟩) hb).trans hc⟩
def OpenP (ao:Option Addr) (n cap:Nat) (cs:List Int) (w:World) (e:Ending) (w' :World):Prop:=∃G,e= .returned (.pointer (some ⟨G,0,none⟩))∧w.heap.size≤G∧Rdr w' G ao n cap cs∧Below w.heap.size w w'
theorem open_any (ao:Option Addr) (n cap:Nat) (cs:List Int) (w:World) (h:Code w ao n cs) :
 Calls Tryz.prog 11 #[.slice ao n cap] w (OpenP ao n cap cs w):=by
 go_enter Tryz.func11,Tryz.ntmps11
 go_wp2;go_ret;refine⟨w.heap.size,rfl,Nat.le_refl _,⟨⟨0,Nat.zero_le _,Blk.new w [.slice ao n cap,.int .i64 0] 69 rfl⟩,fun i hi=>?_,h.len,h.small,h.byte⟩,(Below.refl _ _).alloc (Nat.le_refl _) _⟩;obtain⟨b,off,e,hb,hc⟩:=h.bytes i hi;exact⟨b,off,e,hb,cell_alloc hb hc⟩
theorem near_pm (g:Nat) (ao:Option Addr) (n cap:Nat) (cs:List Int) (w:World) (h:Rdr w g ao n cap cs) :
 Calls Tryz.prog 64 #[.pointer (some ⟨g,0,none⟩),.int .i64 (-1000000),.int .i64 1000000] w (RdP g ao n cap cs (IsIn (-1000000) 1000001) w):=by
 go_enter Tryz.func64,Tryz.ntmps64
 go_wp2_with fail;refine(below_any 8 (by decide) (by decide) g ao n cap cs _ h).mono ?_;rintro e w1 ⟨_,rfl,⟨x,rfl,x0,x1⟩,R,K⟩;clear h
 by_cases h0:x=0
 · subst h0;go_wp2;go_ret;exact⟨_,rfl,⟨_,rfl,by decide,by decide⟩,R,K⟩
 · by_cases h1:x=1
   · subst h1;go_wp2;go_ret;exact⟨_,rfl,⟨_,rfl,by decide,by decide⟩,R,K⟩
   · have e0:(x==0)=false:=by simpa using h0
     have e1:(x==1)=false:=by simpa using h1
     go_wp2_with fail;refine(word_any g ao n cap cs _ R).mono ?_;rintro e w2 ⟨_,rfl,⟨y,rfl,y0,y1⟩,R2,K2⟩;replace K:=K.trans K2;clear R K2;have hw:IntKind.u64.wrap 2000001=2000001:=by rw[IntKind.wrap_u64];decide
     go_wp2;go_ret;exact⟨_,rfl,⟨_,rfl,by omega,by omega⟩,R2,K⟩
theorem near_p6 (g:Nat) (ao:Option Addr) (n cap:Nat) (cs:List Int) (w:World) (h:Rdr w g ao n cap cs) :
 Calls Tryz.prog 64 #[.pointer (some ⟨g,0,none⟩),.int .i64 (-6),.int .i64 6] w (RdP g ao n cap cs (IsIn (-6) 7) w):=by
 go_enter Tryz.func64,Tryz.ntmps64
 go_wp2_with fail;refine(below_any 8 (by decide) (by decide) g ao n cap cs _ h).mono ?_;rintro e w1 ⟨_,rfl,⟨x,rfl,x0,x1⟩,R,K⟩;clear h
 by_cases h0:x=0
 · subst h0;go_wp2;go_ret;exact⟨_,rfl,⟨_,rfl,by decide,by decide⟩,R,K⟩
 · by_cases h1:x=1
   · subst h1;go_wp2;go_ret;exact⟨_,rfl,⟨_,rfl,by decide,by decide⟩,R,K⟩
   · have e0:(x==0)=false:=by simpa using h0
     have e1:(x==1)=false:=by simpa using h1
     go_wp2_with fail;refine(word_any g ao n cap cs _ R).mono ?_;rintro e w2 ⟨_,rfl,⟨y,rfl,y0,y1⟩,R2,K2⟩;replace K:=K.trans K2;clear R K2;have hw:IntKind.u64.wrap 13=13:=by rw[IntKind.wrap_u64];decide
     go_wp2;go_ret;exact⟨_,rfl,⟨_,rfl,by omega,by omega⟩,R2,K⟩
def IsSp6 (v:Value):Prop:=∃x y:Int,v= .agg #[.int .i64 x,.int .i64 y]∧-6≤x∧x<7∧-6≤y∧y<7
theorem spot_any (g:Nat) (ao:Option Addr) (n cap:Nat) (cs:List Int) (w:World) (h:Rdr w g ao n cap cs) :
 Calls Tryz.prog 33 #[.pointer (some ⟨g,0,none⟩)] w (RdP g ao n cap cs IsSp6 w):=by
 have hg:=h.lt;have hne:w.heap.size≠g:=by omega
 have B:=Blk.new w [.int .i64 0,.int .i64 0] 29 rfl;have R:=h.alloc (.cells #[.int .i64 0,.int .i64 0] 29);have K:=(Kept.refl g w).alloc (.cells #[.int .i64 0,.int .i64 0] 29);clear h
 go_enter Tryz.func33,Tryz.ntmps33
 go_wp2_with fail;refine(near_p6 g ao n cap cs _ R).mono ?_;rintro e w1 ⟨_,rfl,⟨y,rfl,y0,y1⟩,R1,K1⟩;replace B:=B.kept K1 hne;replace K:=K.trans K1;clear R K1;have R:=R1;clear R1;go_wp2_with fail;refine(near_p6 g ao n cap cs _ R).mono ?_;rintro e w2 ⟨_,rfl,⟨y',rfl,y0',y1'⟩,R1,K1⟩;replace B:=B.kept K1 hne;replace K:=K.trans K1;clear R K1;have R:=R1;clear R1;have o0:=B.c 0 rfl;have f0:=B.f 0 rfl;have o1:=B.c 1 rfl;have f1:=B.f 1 rfl;have ol:=B.lt;clear B;go_wp2;refine bodyPost_ret (v:= .agg #[.int .i64 y,.int .i64 y']) (by simp[results,Tryz.results33,go_sem,o0,o1]) rfl ?_;exact⟨_,rfl,⟨y,y',rfl,y0,y1,y0',y1'⟩,(R.setN (by exact hg) _).setN (by exact hg) _,(K.setN (by simp) (by simp;omega) _).setN (by simp) (by simp;omega) _⟩
def I64 (x:Int):Prop:=-9223372036854775808≤x∧x≤9223372036854775807
def IsI (v:Value):Prop:=∃x:Int,v= .int .i64 x∧I64 x
def IsSg (v:Value):Prop:=∃a b c d:Int,v= .agg #[.int .i64 a,.int .i64 b,.int .i64 c,.int .i64 d]∧I64 a∧I64 b∧I64 c∧I64 d
theorem off_any (g:Nat) (ao:Option Addr) (n cap:Nat) (cs:List Int) (w:World) (R:Rdr w g ao n cap cs) :
 Calls Tryz.prog 63 #[.pointer (some ⟨g,0,none⟩),.int .i64 (-1000000),.int .i64 1000000] w (RdP g ao n cap cs IsI w):=by
 go_enter Tryz.func63,Tryz.ntmps63
 go_wp2_with fail;refine(once_any 24 (by decide) (by decide) g ao n cap cs _ R).mono ?_;rintro e w1 ⟨_,rfl,⟨b,rfl⟩,R1,K⟩;clear R;cases b
 · go_wp2_with fail;refine(near_pm g ao n cap cs _ R1).mono ?_;rintro e w2 ⟨_,rfl,⟨x,rfl,x0,x1⟩,R2,K2⟩;replace K:=K.trans K2;clear R1 K2;go_wp2;go_ret;exact⟨_,rfl,⟨x,rfl,by constructor<;>omega⟩,R2,K⟩
 · have G:=Blk.new w1 [.int .i64 (-1000001),.int .i64 1000001,.int .i64 (-9223372036854775808),.int .i64 9223372036854775807] 2 rfl;rw[show([.int .i64 (-1000001),.int .i64 1000001,.int .i64 (-9223372036854775808),.int .i64 9223372036854775807]:List Value).toArray=#[.int .i64 (-1000001),.int .i64 1000001,.int .i64 (-9223372036854775808),.int .i64 9223372036854775807] from rfl] at G;have hgl:=R1.lt;have hgn:w1.heap.size≠g:=by omega
   have R:=R1.alloc (.cells #[.int .i64 (-1000001),.int .i64 1000001,.int .i64 (-9223372036854775808),.int .i64 9223372036854775807] 2);replace K:=K.alloc (.cells #[.int .i64 (-1000001),.int .i64 1000001,.int .i64 (-9223372036854775808),.int .i64 9223372036854775807] 2);clear R1;go_wp2_with fail;refine(below_any 4 (by decide) (by decide) g ao n cap cs _ R).mono ?_;rintro e w6 ⟨_,rfl,⟨j,rfl,j0,j1⟩,R6,K6⟩;replace G:=G.kept K6 hgn;replace K:=K.trans K6;obtain⟨k,rfl⟩:∃k:Nat,j=k:=⟨j.toNat,by omega⟩;obtain⟨u,hu,hus⟩:∃u:Int,w6.cell? ⟨w1.heap.size,k,none⟩=some (.int .i64 u)∧I64 u:=by
    rcases(by omega:k=0∨k=1∨k=2∨k=3) with rfl | rfl | rfl | rfl
    · exact⟨_,G.c 0 rfl,by constructor<;>decide⟩
    · exact⟨_,G.c 1 rfl,by constructor<;>decide⟩
    · exact⟨_,G.c 2 rfl,by constructor<;>decide⟩
    · exact⟨_,G.c 3 rfl,by constructor<;>decide⟩
   clear G R K6;go_wp2;go_ret;exact⟨_,rfl,⟨u,rfl,hus⟩,R6,K⟩
theorem segOf_ex (x y u v:Int) (hx:I64 x) (hy:I64 y) (hu:I64 u) (hv:I64 v):∃a b c d k,I64 a∧I64 b∧I64 c∧I64 d∧∀w,Calls Tryz.prog 61 #[.agg #[.int .i64 x,.int .i64 y],.agg #[.int .i64 u,.int .i64 v]] w (VP (.tuple #[.agg #[.int .i64 a,.int .i64 b,.int .i64 c,.int .i64 d],.bool k]) w):=by
 have hz:I64 0:=by constructor<;>decide
 refine⟨_,_,_,_,_,?_,?_,?_,?_,fun w=>specSegOf_any x y u v _ _ _ _ _ _ rfl rfl rfl rfl rfl rfl w⟩
 all_goals
  generalize lessI u v x y=l;generalize segOk _ _ _ _=k;cases k<;>cases l<;>first | exact hz | exact hx | exact hy | exact hu | exact hv
theorem eqSpo (x y u v:Int) (w:World):(Op.equalIn 10000 29 (.agg #[.int .i64 x,.int .i64 y]) (.agg #[.int .i64 u,.int .i64 v])).run Tryz.prog w= .ok (decide (x=u)&&decide (y=v)) w:=by
 have u3:=Tryz.underlying2;have a3:=Tryz.isAgg2;have z3:=Tryz.sizeOf2;rw[show(10000:Nat)=9999+1 from rfl,Op.equalIn];simp only[Sem.run_bind,run_underlying Tryz.underlying29,Result.andThen_ok];go_simp
 by_cases h3:x=u
 · subst h3
   by_cases h2:y=v
   · subst h2
     simp
   · simp[h2]
 · simp[h3]
theorem seg_any (g:Nat) (ao:Option Addr) (n cap:Nat) (cs:List Int) (w:World) (h:Rdr w g ao n cap cs) :
 Calls Tryz.prog 32 #[.pointer (some ⟨g,0,none⟩)] w (RdP g ao n cap cs IsSg w):=by
 have hg:=h.lt;have hne:w.heap.size≠g:=by omega
 have B:=Blk.new w [.int .i64 0,.int .i64 0,.int .i64 0,.int .i64 0] 38 rfl;rw[show([.int .i64 0,.int .i64 0,.int .i64 0,.int .i64 0]:List Value).toArray=#[.int .i64 0,.int .i64 0,.int .i64 0,.int .i64 0] from rfl] at B;have R:=h.alloc (.cells #[.int .i64 0,.int .i64 0,.int .i64 0,.int .i64 0] 38);have K:=(Kept.refl g w).alloc (.cells #[.int .i64 0,.int .i64 0,.int .i64 0,.int .i64 0] 38);clear h
 go_enter Tryz.func32,Tryz.ntmps32
 go_wp2_with fail;refine(below_any 20 (by decide) (by decide) g ao n cap cs _ R).mono ?_;rintro e w1 ⟨_,rfl,⟨v,rfl,v0,v1⟩,R1,K1⟩;replace K:=K.trans K1;replace B:=B.kept K1 hne;clear R K1;have R:=R1;clear R1
 by_cases hv0:v=0
 · subst hv0;go_wp2_with fail;refine(off_any g ao n cap cs _ R).mono ?_;rintro e w2 ⟨_,rfl,⟨a,rfl,ia⟩,R1,K1⟩;replace K:=K.trans K1;replace B:=B.kept K1 hne;clear R K1;have R:=R1;clear R1;go_wp2_with fail;refine(off_any g ao n cap cs _ R).mono ?_;rintro e w3 ⟨_,rfl,⟨b,rfl,ib⟩,R1,K1⟩;replace K:=K.trans K1;replace B:=B.kept K1 hne;clear R K1;have R:=R1;clear R1;go_wp2_with fail;refine(off_any g ao n cap cs _ R).mono ?_;rintro e w4 ⟨_,rfl,⟨c,rfl,ic⟩,R1,K1⟩;replace K:=K.trans K1;replace B:=B.kept K1 hne;clear R K1;have R:=R1;clear R1;go_wp2_with fail;refine(off_any g ao n cap cs _ R).mono ?_;rintro e w5 ⟨_,rfl,⟨d,rfl,id⟩,R1,K1⟩;replace K:=K.trans K1;replace B:=B.kept K1 hne;clear R K1;have R:=R1;clear R1;have o0:=B.c 0 rfl;have f0:=B.f 0 rfl;have o1:=B.c 1 rfl;have f1:=B.f 1 rfl;have o2:=B.c 2 rfl;have f2:=B.f 2 rfl;have o3:=B.c 3 rfl;have f3:=B.f 3 rfl;have ol:=B.lt;clear B;go_wp2;refine bodyPost_ret (v:= .agg #[.int .i64 a,.int .i64 b,.int .i64 c,.int .i64 d]) (by simp[results,Tryz.results32,go_sem,o0,o1,o2,o3]) rfl ?_;exact⟨_,rfl,⟨_,_,_,_,rfl,ia,ib,ic,id⟩,(((R.setN (by exact hg) _).setN (by exact hg) _).setN (by exact hg) _).setN (by exact hg) _,(((K.setN (by simp) (by simp;omega) _).setN (by simp) (by simp;omega) _).setN (by simp) (by simp;omega) _).setN (by simp) (by simp;omega) _⟩
 · have b0:(v==0)=false:=beq_eq_false_iff_ne.2 hv0
   by_cases hv1:v=1
   · subst hv1;go_wp2_with fail;refine(near_pm g ao n cap cs _ R).mono ?_;rintro e w2 ⟨_,rfl,⟨x,rfl,x0,x1⟩,R1,K1⟩;replace K:=K.trans K1;replace B:=B.kept K1 hne;clear R K1;have R:=R1;clear R1;go_wp2_with fail;refine(near_pm g ao n cap cs _ R).mono ?_;rintro e w3 ⟨_,rfl,⟨y,rfl,y0,y1⟩,R1,K1⟩;replace K:=K.trans K1;replace B:=B.kept K1 hne;clear R K1;have R:=R1;clear R1;go_wp2_with fail;refine(near_pm g ao n cap cs _ R).mono ?_;rintro e w4 ⟨_,rfl,⟨u,rfl,u0,u1⟩,R1,K1⟩;replace K:=K.trans K1;replace B:=B.kept K1 hne;clear R K1;have R:=R1;clear R1;go_wp2_with fail;refine(near_pm g ao n cap cs _ R).mono ?_;rintro e w5 ⟨_,rfl,⟨z,rfl,z0,z1⟩,R1,K1⟩;replace K:=K.trans K1;replace B:=B.kept K1 hne;clear R K1;have R:=R1;clear R1;obtain⟨a,b,c,d,k,ia,ib,ic,id,CS⟩:=segOf_ex x y u z (by constructor<;>omega) (by constructor<;>omega) (by constructor<;>omega) (by constructor<;>omega);go_wp2_with fail;refine(CS _).mono ?_;rintro e w6 ⟨rfl,hB⟩;replace R:=R.step hB;replace K:=K.trans (Kept.of hB);replace B:=B.step hB;clear hB;clear CS;have X:=Blk.new w6 [.int .i64 a,.int .i64 b,.int .i64 c,.int .i64 d] 38 rfl;rw[show([.int .i64 a,.int .i64 b,.int .i64 c,.int .i64 d]:List Value).toArray=#[.int .i64 a,.int .i64 b,.int .i64 c,.int .i64 d] from rfl] at X;replace R:=R.alloc (.cells #[.int .i64 a,.int .i64 b,.int .i64 c,.int .i64 d] 38);replace K:=K.alloc (.cells #[.int .i64 a,.int .i64 b,.int .i64 c,.int .i64 d] 38);replace B:=B.alloc (.cells #[.int .i64 a,.int .i64 b,.int .i64 c,.int .i64 d] 38);obtain⟨c0,c1,c2,c3⟩:=X.cs4;have xl:=B.lt;clear X;have o0:=B.c 0 rfl;have f0:=B.f 0 rfl;have o1:=B.c 1 rfl;have f1:=B.f 1 rfl;have o2:=B.c 2 rfl;have f2:=B.f 2 rfl;have o3:=B.c 3 rfl;have f3:=B.f 3 rfl;have ol:=B.lt;clear B;go_wp2;refine bodyPost_ret (v:= .agg #[.int .i64 a,.int .i64 b,.int .i64 c,.int .i64 d]) (by simp[results,Tryz.results32,go_sem,o0,o1,o2,o3]) rfl ?_;exact⟨_,rfl,⟨_,_,_,_,rfl,ia,ib,ic,id⟩,(((R.setN (by exact hg) _).setN (by exact hg) _).setN (by exact hg) _).setN (by exact hg) _,(((K.setN (by simp) (by simp;omega) _).setN (by simp) (by simp;omega) _).setN (by simp) (by simp;omega) _).setN (by simp) (by simp;omega) _⟩
   · have b1:(v==1)=false:=beq_eq_false_iff_ne.2 hv1
     by_cases hv2:v=2
     · subst hv2;go_wp2_with fail;refine(spot_any g ao n cap cs _ R).mono ?_;rintro e w2 ⟨_,rfl,⟨x,y,rfl,x0,x1,y0,y1⟩,R1,K1⟩;replace K:=K.trans K1;replace B:=B.kept K1 hne;clear R K1;have R:=R1;clear R1;go_wp2_with fail;refine(spot_any g ao n cap cs _ R).mono ?_;rintro e w3 ⟨_,rfl,⟨u,z,rfl,u0,u1,z0,z1⟩,R1,K1⟩;replace K:=K.trans K1;replace B:=B.kept K1 hne;clear R K1;have R:=R1;clear R1;have o0:=B.c 0 rfl;have f0:=B.f 0 rfl;have o1:=B.c 1 rfl;have f1:=B.f 1 rfl;have o2:=B.c 2 rfl;have f2:=B.f 2 rfl;have o3:=B.c 3 rfl;have f3:=B.f 3 rfl;have ol:=B.lt;clear B;go_wp2;refine bodyPost_ret (v:= .agg #[.int .i64 x,.int .i64 y,.int .i64 u,.int .i64 z]) (by simp[results,Tryz.results32,go_sem,o0,o1,o2,o3]) rfl ?_;exact⟨_,rfl,⟨_,_,_,_,rfl,(by constructor<;>omega),(by constructor<;>omega),(by constructor<;>omega),(by constructor<;>omega)⟩,(((R.setN (by exact hg) _).setN (by exact hg) _).setN (by exact hg) _).setN (by exact hg) _,(((K.setN (by simp) (by simp;omega) _).setN (by simp) (by simp;omega) _).setN (by simp) (by simp;omega) _).setN (by simp) (by simp;omega) _⟩
     · have b2:(v==2)=false:=beq_eq_false_iff_ne.2 hv2;go_wp2_with fail;refine(spot_any g ao n cap cs _ R).mono ?_;rintro e w2 ⟨_,rfl,⟨x,y,rfl,x0,x1,y0,y1⟩,R1,K1⟩;replace K:=K.trans K1;replace B:=B.kept K1 hne;clear R K1;have R:=R1;clear R1;have gl2:=R.lt;have hn2:w2.heap.size≠g:=by omega
       have X2:=Blk.new w2 [.int .i64 x,.int .i64 y] 29 rfl;rw[show([.int .i64 x,.int .i64 y]:List Value).toArray=#[.int .i64 x,.int .i64 y] from rfl] at X2;replace R:=R.alloc (.cells #[.int .i64 x,.int .i64 y] 29);replace K:=K.alloc (.cells #[.int .i64 x,.int .i64 y] 29);replace B:=B.alloc (.cells #[.int .i64 x,.int .i64 y] 29);go_wp2_with fail;refine(spot_any g ao n cap cs _ R).mono ?_;rintro e w3 ⟨_,rfl,⟨u,z,rfl,u0,u1,z0,z1⟩,R1,K1⟩;replace K:=K.trans K1;replace B:=B.kept K1 hne;replace X2:=X2.kept K1 hn2;clear R K1;have R:=R1;clear R1;have gl3:=R.lt;have x2l:=X2.lt;have hwl:=B.lt;have Y2:=X2;have YB:=B;have YR:=R;have YK:=K;have X3:=Blk.new w3 [.int .i64 u,.int .i64 z] 29 rfl;rw[show([.int .i64 u,.int .i64 z]:List Value).toArray=#[.int .i64 u,.int .i64 z] from rfl] at X3;replace R:=R.alloc (.cells #[.int .i64 u,.int .i64 z] 29);replace K:=K.alloc (.cells #[.int .i64 u,.int .i64 z] 29);replace B:=B.alloc (.cells #[.int .i64 u,.int .i64 z] 29);replace X2:=X2.alloc (.cells #[.int .i64 u,.int .i64 z] 29);have E:=eqSpo x y u z;have n32:¬(w3.heap.size=w2.heap.size):=by omega
       have n23:¬(w2.heap.size=w3.heap.size):=by omega
       by_cases he:x=u∧y=z
       · rw[decide_eq_true he.1,decide_eq_true he.2] at E;obtain⟨e1,e2⟩:=he;have wr:IntKind.i64.wrap (u+1)=u+1:=by rw[IntKind.wrap_i64];omega
         obtain⟨p0,p1⟩:=X2.cs2;obtain⟨r0,rf0,r1,rf1⟩:=X3.cf2;have x3l:=X3.lt;obtain⟨a,b,c,d,k,ia,ib,ic,id,CS⟩:=segOf_ex x y (u+1) z (by constructor<;>omega) (by constructor<;>omega) (by constructor<;>omega) (by constructor<;>omega);clear e1 e2;go_upto_region 13 with fail;clear p0 p1 r0 rf0 r1 rf1 X2 X3 E B R K x3l;have X2:=Y2.alloc (.cells #[.int .i64 (u+1),.int .i64 z] 29);have B:=YB.alloc (.cells #[.int .i64 (u+1),.int .i64 z] 29);have R:=YR.alloc (.cells #[.int .i64 (u+1),.int .i64 z] 29);have K:=YK.alloc (.cells #[.int .i64 (u+1),.int .i64 z] 29);have X3:=Blk.new w3 [.int .i64 (u+1),.int .i64 z] 29 rfl;rw[show([.int .i64 (u+1),.int .i64 z]:List Value).toArray=#[.int .i64 (u+1),.int .i64 z] from rfl] at X3;clear Y2 YB YR YK;obtain⟨p0,p1⟩:=X2.cs2;obtain⟨r0,r1⟩:=X3.cs2;go_wp2_with fail;clear p0 p1 r0 r1 X2 X3;generalize (w3.alloc (.cells #[.int .i64 (u+1),.int .i64 z] 29))=W3 at *;refine(CS _).mono ?_;rintro e w4 ⟨rfl,hB⟩;replace R:=R.step hB;replace K:=K.trans (Kept.of hB);replace B:=B.step hB;clear hB CS;have X:=Blk.new w4 [.int .i64 a,.int .i64 b,.int .i64 c,.int .i64 d] 38 rfl;rw[show([.int .i64 a,.int .i64 b,.int .i64 c,.int .i64 d]:List Value).toArray=#[.int .i64 a,.int .i64 b,.int .i64 c,.int .i64 d] from rfl] at X;replace R:=R.alloc (.cells #[.int .i64 a,.int .i64 b,.int .i64 c,.int .i64 d] 38);replace K:=K.alloc (.cells #[.int .i64 a,.int .i64 b,.int .i64 c,.int .i64 d] 38);replace B:=B.alloc (.cells #[.int .i64 a,.int .i64 b,.int .i64 c,.int .i64 d] 38);obtain⟨c0,c1,c2,c3⟩:=X.cs4;have xl:=B.lt;clear X;have o0:=B.c 0 rfl;have f0:=B.f 0 rfl;have o1:=B.c 1 rfl;have f1:=B.f 1 rfl;have o2:=B.c 2 rfl;have f2:=B.f 2 rfl;have o3:=B.c 3 rfl;have f3:=B.f 3 rfl;have ol:=B.lt;clear B;go_wp2;refine bodyPost_ret (v:= .agg #[.int .i64 a,.int .i64 b,.int .i64 c,.int .i64 d]) (by simp[results,Tryz.results32,go_sem,o0,o1,o2,o3]) rfl ?_;exact⟨_,rfl,⟨_,_,_,_,rfl,ia,ib,ic,id⟩,(((R.setN (by exact hg) _).setN (by exact hg) _).setN (by exact hg) _).setN (by exact hg) _,(((K.setN (by simp) (by simp;omega) _).setN (by simp) (by simp;omega) _).setN (by simp) (by simp;omega) _).setN (by simp) (by simp;omega) _⟩
       · have E' :∀w,(Op.equalIn 10000 29 (.agg #[.int .i64 x,.int .i64 y]) (.agg #[.int .i64 u,.int .i64 z])).run Tryz.prog w= .ok false w:=by
          intro w;rw[E w]
          congr 1
          simp only[Bool.and_eq_false_iff,decide_eq_false_iff_not]
          omega
         obtain⟨p0,p1⟩:=X2.cs2;obtain⟨r0,r1⟩:=X3.cs2;obtain⟨a,b,c,d,k,ia,ib,ic,id,CS⟩:=segOf_ex x y u z (by constructor<;>omega) (by constructor<;>omega) (by constructor<;>omega) (by constructor<;>omega);clear he E Y2 YB YR YK;go_wp2_with fail;clear p0 p1 r0 r1 X2 X3 E';generalize (w3.alloc (.cells #[.int .i64 u,.int .i64 z] 29))=W3 at *;refine(CS _).mono ?_;rintro e w4 ⟨rfl,hB⟩;replace R:=R.step hB;replace K:=K.trans (Kept.of hB);replace B:=B.step hB;clear hB CS;have X:=Blk.new w4 [.int .i64 a,.int .i64 b,.int .i64 c,.int .i64 d] 38 rfl;rw[show([.int .i64 a,.int .i64 b,.int .i64 c,.int .i64 d]:List Value).toArray=#[.int .i64 a,.int .i64 b,.int .i64 c,.int .i64 d] from rfl] at X;replace R:=R.alloc (.cells #[.int .i64 a,.int .i64 b,.int .i64 c,.int .i64 d] 38);replace K:=K.alloc (.cells #[.int .i64 a,.int .i64 b,.int .i64 c,.int .i64 d] 38);replace B:=B.alloc (.cells #[.int .i64 a,.int .i64 b,.int .i64 c,.int .i64 d] 38);obtain⟨c0,c1,c2,c3⟩:=X.cs4;have xl:=B.lt;clear X;have o0:=B.c 0 rfl;have f0:=B.f 0 rfl;have o1:=B.c 1 rfl;have f1:=B.f 1 rfl;have o2:=B.c 2 rfl;have f2:=B.f 2 rfl;have o3:=B.c 3 rfl;have f3:=B.f 3 rfl;have ol:=B.lt;clear B;go_wp2;refine bodyPost_ret (v:= .agg #[.int .i64 a,.int .i64 b,.int .i64 c,.int .i64 d]) (by simp[results,Tryz.results32,go_sem,o0,o1,o2,o3]) rfl ?_;exact⟨_,rfl,⟨_,_,_,_,rfl,ia,ib,ic,id⟩,(((R.setN (by exact hg) _).setN (by exact hg) _).setN (by exact hg) _).setN (by exact hg) _,(((K.setN (by simp) (by simp;omega) _).setN (by simp) (by simp;omega) _).setN (by simp) (by simp;omega) _).setN (by simp) (by simp;omega) _⟩
end Go.Proofs.YthelolpogdcmhaaGreat
