/- Part 16 of the walks that the proof leans on. -/
import Derived.Test.YtbogliojkabbjaaGreatEr4
import Derived.Test.YtbogliojkabbjaaGreatEr2
import Derived.Deep.RegionHeld3
import Derived.Deep.DeepCutAuto
import Derived.Deep.QuietTactic
import Derived.BigQuiet
import Derived.Test.YtbogliojkabbjaaGreatEr6
import Derived.Test.YtbogliojkabbjaaGreatEr13
import Derived.Test.YtbogliojkabbjaaGreatEr7
import Derived.Test.YtbogliojkabbjaaGreatEr14
import Derived.Test.YtbogliojkabbjaaGreatEr15
import Derived.Lib.LazyBuf
set_option maxRecDepth 100000
set_option maxHeartbeats 16000000
namespace Go.Proofs.YtbogliojkabbjaaGreat
open Go.RowKit
structure Kept (g:Nat) (w w' :World):Prop where
 os:w'.os=w.os
 tape:w'.tape=w.tape
 output:w'.output=w.output
 size:w.heap.size≤w'.heap.size
 block:∀k,k<w.heap.size→k≠g→w'.heap[k]? =w.heap[k]?
 other:∀j,j≠1→g<w.heap.size→w'.cell? ⟨g,j,none⟩=w.cell? ⟨g,j,none⟩
theorem Kept.refl (g:Nat) (w:World):Kept g w w:=⟨rfl,rfl,rfl,Nat.le_refl _,fun _ _ _=>rfl,fun _ _ _=>rfl⟩
theorem Kept.trans {g:Nat} {a b c:World} (h:Kept g a b) (k:Kept g b c):Kept g a c:=
 ⟨k.os.trans h.os,k.tape.trans h.tape,k.output.trans h.output,Nat.le_trans h.size k.size,fun i hi hg=>(k.block i (Nat.lt_of_lt_of_le hi h.size) hg).trans (h.block i hi hg),fun j hj hl=>(k.other j hj (Nat.lt_of_lt_of_le hl h.size)).trans (h.other j hj hl)⟩
theorem Kept.of {g:Nat} {a b:World} (h:Below a.heap.size a b):Kept g a b:=⟨h.os,h.tape,h.output,h.size,fun i hi _=>h.block i hi,fun j _ hl=>h.cell (p:=⟨g,j,none⟩) hl⟩
theorem Kept.drewN {g:Nat} {a b:World} (h:Kept g a b) (n:Nat):Kept g a (b.drewN n):=⟨h.os,h.tape,h.output,h.size,h.block,h.other⟩
theorem Kept.set {g:Nat} {a b:World} (h:Kept g a b) (u:Value):Kept g a (b.setCell ⟨g,1,none⟩ u):=
 ⟨h.os,h.tape,h.output,by simpa [World.setCell] using h.size,fun k hk hg=>(Below.heap_setCell _ _ _ _ hg).trans (h.block k hk hg),fun j hj hl=>(World.cell?_setCell_other _ _ _ _ (by intro e;simp only[Addr.mk.injEq] at e;omega)).trans (h.other j hj hl)⟩
theorem Kept.alloc {g:Nat} {a b:World} (h:Kept g a b) (o:Obj):Kept g a (b.alloc o):=h.trans (Kept.of ((Below.refl _ _).alloc (Nat.le_refl _) o))
theorem Kept.below {g B:Nat} {a b:World} (h:Kept g a b) (hB:B≤g) (hB' :B≤a.heap.size):Below B a b:=⟨h.os,h.tape,h.output,h.size,fun k hk=>h.block k (by omega) (by omega)⟩
theorem Blk.kept {W W' :World} {g h:Nat} {vs:List Value} (H:Blk W h vs) (k:Kept g W W') (hne:h≠g):Blk W' h vs:=by
 have e:=k.block h H.lt hne;refine⟨Nat.lt_of_lt_of_le H.lt k.size,fun i v hi=>⟨?_,?_⟩⟩
 · exact(World.cell?_of_block (w:=W) e).trans (H.c i hi)
 · exact(World.frozen?_of_block (w:=W) e).trans (H.f i hi)
structure Rdr (w:World) (g:Nat) (ao:Option Addr) (n cap:Nat) (cs:List Int):Prop where
 blk:∃p:Nat,p≤n∧Blk w g [.slice ao n cap,.int .i64 p]
 bytes:∀i,(h:i<cs.length)→∃b off,ao=some ⟨b,off,none⟩∧b<g∧w.cell? ⟨b,off+i,none⟩=some (.int .u8 cs[i])
 len:cs.length=n
 small:n≤1048576
 byte:∀c∈cs,0≤c∧c<256
theorem Rdr.lt {w:World} {g:Nat} {ao:Option Addr} {n cap:Nat} {cs:List Int} (h:Rdr w g ao n cap cs):g<w.heap.size:=by
 obtain⟨p,_,B⟩:=h.blk;exact B.lt
theorem Rdr.step {w w' :World} {g:Nat} {ao:Option Addr} {n cap:Nat} {cs:List Int} (h:Rdr w g ao n cap cs) (hB:Below w.heap.size w w'):Rdr w' g ao n cap cs:=by
 obtain⟨p,hp,B⟩:=h.blk;refine⟨⟨p,hp,B.step hB⟩,fun i hi=>?_,h.len,h.small,h.byte⟩;obtain⟨b,off,e,hb,hc⟩:=h.bytes i hi;exact⟨b,off,e,hb,(hB.cell (p:=⟨b,off+i,none⟩) (show b<w.heap.size by have:=B.lt;omega)).trans hc⟩
theorem Rdr.alloc {w:World} {g:Nat} {ao:Option Addr} {n cap:Nat} {cs:List Int} (h:Rdr w g ao n cap cs) (o:Obj):Rdr (w.alloc o) g ao n cap cs:=h.step ((Below.refl _ _).alloc (Nat.le_refl _) o)
theorem Rdr.drew {w:World} {g:Nat} {ao:Option Addr} {n cap:Nat} {cs:List Int} (h:Rdr w g ao n cap cs):Rdr w.drew g ao n cap cs:=⟨h.blk,h.bytes,h.len,h.small,h.byte⟩
theorem Rdr.drewN {w:World} {g:Nat} {ao:Option Addr} {n cap:Nat} {cs:List Int} (h:Rdr w g ao n cap cs) (k:Nat):Rdr (w.drewN k) g ao n cap cs:=⟨h.blk,h.bytes,h.len,h.small,h.byte⟩
theorem Rdr.put {w:World} {g:Nat} {ao:Option Addr} {n cap:Nat} {cs:List Int} (h:Rdr w g ao n cap cs) (p:Nat) (hp:p≤n):Rdr (w.setCell ⟨g,1,none⟩ (.int .i64 p)) g ao n cap cs:=by
 obtain⟨q,hq,B⟩:=h.blk;refine⟨⟨p,hp,B.setI 1 (by simp) _⟩,fun i hi=>?_,h.len,h.small,h.byte⟩;obtain⟨b,off,e,hb,hc⟩:=h.bytes i hi;exact⟨b,off,e,hb,(World.cell?_setCell_other _ _ _ _ (by intro e;simp only[Addr.mk.injEq] at e;omega)).trans hc⟩
def RdP (g:Nat) (ao:Option Addr) (n cap:Nat) (cs:List Int) (Q:Value→Prop) (w:World) (e:Ending) (w' :World):Prop:=∃v,e= .returned v∧Q v∧Rdr w' g ao n cap cs∧Kept g w w'
def IsIn (a b:Int) (v:Value):Prop:=∃x:Int,v= .int .i64 x∧a≤x∧x<b
theorem next_any (g:Nat) (ao:Option Addr) (n cap:Nat) (cs:List Int) (w:World) (h:Rdr w g ao n cap cs) :
 Calls Tryz.prog 37 #[.pointer (some ⟨g,0,none⟩)] w (RdP g ao n cap cs (IsIn 0 256) w):=by
 obtain⟨p,hp,B⟩:=h.blk;have b0:=B.c 0 rfl;have b1:=B.c 1 rfl;have f1:=B.f 1 rfl;have bl:=B.lt
 by_cases hq:p<n
 · have hpl:p<cs.length:=by rw[h.len];exact hq
   obtain⟨b,off,rfl,hb,hc⟩:=h.bytes p hpl;obtain⟨y0,y1⟩:=h.byte _ (List.getElem_mem hpl);have R:=fun k=>(h.drewN k).put (p+1) (by omega);have hs:=h.small;generalize cs[p]=y at *;have hne:g≠b:=by omega
   have i1:(p:Int)<n:=by omega
   clear h B
   go_enter Tryz.func37,Tryz.ntmps37
   go_wp2
   go_quiet (fail)
   go_wp2
   go_quiet (fail)
   go_wp2;go_ret;exact⟨_,rfl,⟨y,rfl,y0,y1⟩,(R _).drewN _,(((Kept.refl _ _).drewN _).set _).drewN _⟩
 · obtain rfl:p=n:=by omega
   have hs:=h.small
   go_enter Tryz.func37,Tryz.ntmps37
   go_wp2
   go_quiet (fail)
   go_wp2;go_ret;exact⟨_,rfl,⟨0,rfl,by decide,by decide⟩,h.drewN _,(Kept.refl _ _).drewN _⟩
theorem below_any (m:Int) (h2:2≤m) (h256:m≤256) (g:Nat) (ao:Option Addr) (n cap:Nat) (cs:List Int) (w:World) (h:Rdr w g ao n cap cs) :
 Calls Tryz.prog 16 #[.pointer (some ⟨g,0,none⟩),.int .i64 m] w (RdP g ao n cap cs (IsIn 0 m) w):=by
 go_enter Tryz.func16,Tryz.ntmps16
 go_wp2_with fail
 all_goals first | (exfalso;omega) | skip
 refine(next_any g ao n cap cs _ h).mono ?_;rintro e w1 ⟨_,rfl,⟨x,rfl,x0,x1⟩,R,K⟩;have hm:m≠0:=by omega
 go_wp2;go_ret;exact⟨_,rfl,⟨x%m,rfl,Int.emod_nonneg _ hm,Int.emod_lt_of_pos _ (by omega)⟩,R,K⟩
theorem or_word {a b:Int} (ha:Word a) (hb:Word b):Word (bits .or .u64 a b):=by
 obtain⟨a0,a1⟩:=ha;obtain⟨b0,b1⟩:=hb;obtain⟨a,rfl⟩:=Int.eq_ofNat_of_zero_le a0;obtain⟨b,rfl⟩:=Int.eq_ofNat_of_zero_le b0;rw[bits_or_u64_nat a b (by omega) (by omega)];have:=Nat.or_lt_two_pow (n:=64) (x:=a) (y:=b) (by omega) (by omega);exact⟨by omega,by omega⟩
def IsWord (v:Value):Prop:=∃x:Int,v= .int .u64 x∧Word x
def IsBool (v:Value):Prop:=∃b,v= .bool b
theorem once_any (m:Int) (h2:2≤m) (h256:m≤256) (g:Nat) (ao:Option Addr) (n cap:Nat) (cs:List Int) (w:World) (h:Rdr w g ao n cap cs) :
 Calls Tryz.prog 15 #[.pointer (some ⟨g,0,none⟩),.int .i64 m] w (RdP g ao n cap cs IsBool w):=by
 go_enter Tryz.func15,Tryz.ntmps15
 go_wp2_with fail;refine(below_any m h2 h256 g ao n cap cs _ h).mono ?_;rintro e w1 ⟨_,rfl,⟨x,rfl,x0,x1⟩,R,K⟩;go_wp2;go_ret;exact⟨_,rfl,⟨_,rfl⟩,R,K⟩
theorem word_any (g:Nat) (ao:Option Addr) (n cap:Nat) (cs:List Int) (w:World) (h:Rdr w g ao n cap cs) :
 Calls Tryz.prog 42 #[.pointer (some ⟨g,0,none⟩)] w (RdP g ao n cap cs IsWord w):=by
 go_enter Tryz.func42,Tryz.ntmps42
 go_wp2
 go_loopw [3,4] (fun o i wr=>∃(k:Nat) (x:Int),k≤8∧i= .int .i64 k∧o= .int .u64 x∧Word x∧Rdr wr g ao n cap cs∧Kept g w wr) (fun _ i _=>8-(intOf i).toNat)
 case atStart=>exact⟨0,0,by omega,rfl,rfl,⟨by decide,by decide⟩,h,Kept.refl _ _⟩
 case round=>
  clear h;obtain⟨k,x,hk,rfl,rfl,hx,R,K⟩:=hrel
  by_cases hk8:k<8
  · have i1:(k:Int)<8:=by omega
    go_wp2_with fail;refine(next_any g ao n cap cs _ R).mono ?_;rintro e w1 ⟨_,rfl,⟨y,rfl,y0,y1⟩,R1,K1⟩;replace K:=K.trans K1;clear R K1;have hy:IntKind.u64.wrap y=y:=by rw[IntKind.wrap_u64];omega
    have OW:=or_word (a:=IntKind.u64.wrap (x*256)) (b:=y) (by rw[IntKind.wrap_u64];exact⟨by omega,by omega⟩) ⟨y0,by omega⟩;clear hx;go_wp2;go_roundw
    case rel=>exact⟨k+1,_,by omega,by go_num,rfl,OW,R1,K⟩
    case measure=>simp[intOf];omega
  · obtain rfl:k=8:=by omega
    go_wp2;go_ret;exact⟨_,rfl,⟨x,rfl,hx⟩,R,K⟩
theorem Rd.kept {w w' :World} {g:Nat} {ao bo:Option Addr} {n cap:Nat} {cs ds:List Int} (h:Rd w bo ds) (R:Rdr w g ao n cap cs) (K:Kept g w w'):Rd w' bo ds:=by
 intro i hi;obtain⟨b,off,e,hb,hc⟩:=h i hi;refine⟨b,off,e,Nat.lt_of_lt_of_le hb K.size,?_⟩
 by_cases hg:b=g
 · subst hg
   by_cases h1:off+i=1
   · exfalso
     obtain⟨p,_,B⟩:=R.blk;have:=B.c 1 rfl;rw[h1,this] at hc;cases hc
   · exact(K.other _ h1 hb).trans hc
 · exact(World.cell?_of_block (w:=w) (K.block b hb hg)).trans hc
theorem IsNum.kept {w w' :World} {g:Nat} {ao bo:Option Addr} {n cap m c:Nat} {cs ds:List Int} {s:Bool} {z:Int} {k:Nat} (h:IsNum w s bo m c ds z k) (R:Rdr w g ao n cap cs) (K:Kept g w w'):IsNum w' s bo m c ds z k:=
 ⟨h.neg,h.len,h.cap,h.rd.kept R K,h.nrm,h.val,h.le⟩
theorem near_any (g:Nat) (ao:Option Addr) (n cap:Nat) (cs:List Int) (w:World) (h:Rdr w g ao n cap cs) :
 Calls Tryz.prog 38 #[.pointer (some ⟨g,0,none⟩),.int .i64 (-60),.int .i64 60] w (RdP g ao n cap cs (IsIn (-60) 61) w):=by
 go_enter Tryz.func38,Tryz.ntmps38
 go_wp2_with fail;refine(below_any 8 (by decide) (by decide) g ao n cap cs _ h).mono ?_;rintro e w1 ⟨_,rfl,⟨x,rfl,x0,x1⟩,R,K⟩;clear h
 by_cases h0:x=0
 · subst h0;go_wp2;go_ret;exact⟨_,rfl,⟨_,rfl,by decide,by decide⟩,R,K⟩
 · by_cases h1:x=1
   · subst h1;go_wp2;go_ret;exact⟨_,rfl,⟨_,rfl,by decide,by decide⟩,R,K⟩
   · have e0:(x==0)=false:=by simpa using h0
     have e1:(x==1)=false:=by simpa using h1
     go_wp2_with fail;refine(word_any g ao n cap cs _ R).mono ?_;rintro e w2 ⟨_,rfl,⟨y,rfl,y0,y1⟩,R2,K2⟩;replace K:=K.trans K2;clear R K2;have hw:IntKind.u64.wrap 121=121:=by rw[IntKind.wrap_u64];decide
     go_wp2;go_ret;exact⟨_,rfl,⟨_,rfl,by omega,by omega⟩,R2,K⟩
theorem Rdr.setN {w:World} {g:Nat} {ao:Option Addr} {n cap:Nat} {cs:List Int} (h:Rdr w g ao n cap cs) {p:Addr} (hp:g<p.block) (u:Value):Rdr (w.setCell p u) g ao n cap cs:=by
 obtain⟨q,hq,B⟩:=h.blk;refine⟨⟨q,hq,B.setO (by omega) u⟩,fun i hi=>?_,h.len,h.small,h.byte⟩;obtain⟨b,off,e,hb,hc⟩:=h.bytes i hi;exact⟨b,off,e,hb,(World.cell?_setCell_other _ _ _ _ (by intro e;rw[e] at hp;simp at hp;omega)).trans hc⟩
theorem Kept.setN {g:Nat} {a b:World} (h:Kept g a b) {p:Addr} (hp:a.heap.size≤p.block) (hg:g≠p.block) (u:Value):Kept g a (b.setCell p u):=
 ⟨h.os,h.tape,h.output,by simpa [World.setCell] using h.size,fun k hk hne=>(Below.heap_setCell _ _ _ _ (by omega)).trans (h.block k hk hne),fun j hj hl=>(World.cell?_setCell_other _ _ _ _ (by intro e;rw[e] at hg;exact hg rfl)).trans (h.other j hj hl)⟩
def IsWide (v:Value):Prop:=∃a3 a2 a1 a0:Int,v= .agg #[.int .u64 a3,.int .u64 a2,.int .u64 a1,.int .u64 a0]∧Word a3∧Word a2∧Word a1∧Word a0
theorem wide_done {w W:World} {g:Nat} {ao:Option Addr} {n cap:Nat} {cs:List Int} {a3 a2 a1 a0:Int} (hg:g<w.heap.size) (R:Rdr W g ao n cap cs) (K:Kept g w W) (h3:Word a3) (h2:Word a2) (h1:Word a1) (h0:Word a0) {v0 v1 v2 v3:Value} :
 RdP g ao n cap cs IsWide w (.returned (.agg #[.int .u64 a3,.int .u64 a2,.int .u64 a1,.int .u64 a0])) ((((W.setCell ⟨w.heap.size,0,none⟩ v0).setCell ⟨w.heap.size,1,none⟩ v1).setCell ⟨w.heap.size,2,none⟩ v2).setCell ⟨w.heap.size,3,none⟩ v3):=
 ⟨_,rfl,⟨a3,a2,a1,a0,rfl,h3,h2,h1,h0⟩,(((R.setN hg _).setN hg _).setN hg _).setN hg _,(((K.setN (Nat.le_refl _) (by show g≠w.heap.size;omega) _).setN (Nat.le_refl _) (by show g≠w.heap.size;omega) _).setN (Nat.le_refl _) (by show g≠w.heap.size;omega) _).setN (Nat.le_refl _) (by show g≠w.heap.size;omega) _⟩
theorem wide_done2 {w W:World} {g:Nat} {ao:Option Addr} {n cap:Nat} {cs:List Int} {a3 a2 a1 a0:Int} (hg:g<w.heap.size) (R:Rdr W g ao n cap cs) (K:Kept g w W) (h3:Word a3) (h2:Word a2) (h1:Word a1) (h0:Word a0) {v0 v1 v2 v3:Value} {o:Obj} :
 RdP g ao n cap cs IsWide w (.returned (.agg #[.int .u64 a3,.int .u64 a2,.int .u64 a1,.int .u64 a0])) (((((W.setCell ⟨w.heap.size,0,none⟩ v0).setCell ⟨w.heap.size,1,none⟩ v1).setCell ⟨w.heap.size,2,none⟩ v2).setCell ⟨w.heap.size,3,none⟩ v3).alloc o):=by
 obtain⟨v,e,q,R',K'⟩:=wide_done (v0:=v0) (v1:=v1) (v2:=v2) (v3:=v3) hg R K h3 h2 h1 h0;exact⟨v,e,q,R'.alloc o,K'.alloc o⟩
theorem pick7 {W:World} {G:Nat} (h:Blk W G [.int .i64 0,.int .i64 1,.int .i64 (-1),.int .i64 2,.int .i64 10,.int .i64 (-9223372036854775808),.int .i64 9223372036854775807]) (k:Nat) (hk:k<7):∃v:Int,W.cell? ⟨G,k,none⟩=some (.int .i64 v)∧-9223372036854775808≤v∧v≤9223372036854775807:=by
 rcases(by omega:k=0∨k=1∨k=2∨k=3∨k=4∨k=5∨k=6) with rfl | rfl | rfl | rfl | rfl | rfl | rfl
 · exact⟨_,h.c 0 rfl,by decide,by decide⟩
 · exact⟨_,h.c 1 rfl,by decide,by decide⟩
 · exact⟨_,h.c 2 rfl,by decide,by decide⟩
 · exact⟨_,h.c 3 rfl,by decide,by decide⟩
 · exact⟨_,h.c 4 rfl,by decide,by decide⟩
 · exact⟨_,h.c 5 rfl,by decide,by decide⟩
 · exact⟨_,h.c 6 rfl,by decide,by decide⟩
theorem word_div {p:Int} (h:Word p) (k:Nat):Word (p / 2 ^ k):=by
 have h1:(0:Int)≤2 ^ k:=by rw[ipow2];exact Int.natCast_nonneg _
 refine⟨Int.ediv_nonneg h.1 h1,?_⟩;have:=Int.ediv_le_self (b:=2 ^ k) h.1;have:=h.2
 omega
theorem tell_words {z:Int} {w w' :World} {e:Ending} (h:TellP z w e w'):∃a3 a2 a1 a0 b,e= .returned (.tuple #[.agg #[.int .u64 a3,.int .u64 a2,.int .u64 a1,.int .u64 a0],.bool b])∧Word a3∧Word a2∧Word a1∧Word a0∧Below w.heap.size w w' :=by
 obtain⟨hB,⟨_,a3,a2,a1,a0,rfl,g3,g2,g1,g0,_⟩ | ⟨_,rfl⟩⟩:=h
 · exact⟨a3,a2,a1,a0,true,rfl,g3,g2,g1,g0,hB⟩
 · exact⟨0,0,0,0,false,rfl,⟨by decide,by decide⟩,⟨by decide,by decide⟩,⟨by decide,by decide⟩,⟨by decide,by decide⟩,hB⟩
theorem wide_any (g:Nat) (ao:Option Addr) (n cap:Nat) (cs:List Int) (w:World) (h:Rdr w g ao n cap cs) :
 Calls Tryz.prog 40 #[.pointer (some ⟨g,0,none⟩)] w (RdP g ao n cap cs IsWide w):=by
 have hg:=h.lt;have hne:w.heap.size≠g:=by omega
 have B:=Blk.new w [.int .u64 0,.int .u64 0,.int .u64 0,.int .u64 0] 27 rfl;have R:=h.alloc (.cells #[.int .u64 0,.int .u64 0,.int .u64 0,.int .u64 0] 27);have K:=(Kept.refl g w).alloc (.cells #[.int .u64 0,.int .u64 0,.int .u64 0,.int .u64 0] 27);clear h
 go_enter Tryz.func40,Tryz.ntmps40
 go_wp2_with fail;refine(below_any 9 (by decide) (by decide) g ao n cap cs _ R).mono ?_;rintro e w1 ⟨_,rfl,⟨x,rfl,x0,x1⟩,R1,K1⟩;replace B:=B.kept K1 hne;replace K:=K.trans K1;clear R K1;have R:=R1;clear R1
 rcases(by omega:x=0∨x=1∨x=2∨x=3∨x=4∨x=5∨(x=6∨x=7∨x=8)) with rfl | rfl | rfl | rfl | rfl | rfl | hx
 · have G:=Blk.new w1 [.int .i64 0,.int .i64 1,.int .i64 (-1),.int .i64 2,.int .i64 10,.int .i64 (-9223372036854775808),.int .i64 9223372036854775807] 2 rfl;have hG:w1.heap.size≠g:=by have:=R.lt;omega
   replace B:=B.alloc (.cells #[.int .i64 0,.int .i64 1,.int .i64 (-1),.int .i64 2,.int .i64 10,.int .i64 (-9223372036854775808),.int .i64 9223372036854775807] 2);replace R:=R.alloc (.cells #[.int .i64 0,.int .i64 1,.int .i64 (-1),.int .i64 2,.int .i64 10,.int .i64 (-9223372036854775808),.int .i64 9223372036854775807] 2);replace K:=K.alloc (.cells #[.int .i64 0,.int .i64 1,.int .i64 (-1),.int .i64 2,.int .i64 10,.int .i64 (-9223372036854775808),.int .i64 9223372036854775807] 2);go_wp2_with fail;refine(below_any 7 (by decide) (by decide) g ao n cap cs _ R).mono ?_;rintro e w2 ⟨_,rfl,⟨y,rfl,y0,y1⟩,R1,K1⟩;replace B:=B.kept K1 hne;replace G:=G.kept K1 hG;replace K:=K.trans K1;clear R K1;have R:=R1;clear R1;obtain⟨k,rfl⟩:=Int.eq_ofNat_of_zero_le y0;obtain⟨v,hv,v0,v1⟩:=pick7 G k (by omega);have k7:(k:Int)<7:=y1;go_wp2_with fail;refine(specOf_any v _ v0 v1).mono ?_;rintro e w3 ⟨a3,a2,a1,a0,rfl,g3,g2,g1,g0,-,hB⟩;replace B:=B.step hB;replace K:=K.trans (Kept.of hB);replace R:=R.step hB;clear hB;clear hv G;have z0:=B.c 0 rfl;have y0:=B.f 0 rfl;have z1:=B.c 1 rfl;have y1:=B.f 1 rfl;have z2:=B.c 2 rfl;have y2:=B.f 2 rfl;have z3:=B.c 3 rfl;have y3:=B.f 3 rfl;have zl:=B.lt;go_wp2;refine bodyPost_ret (v:= .agg #[.int .u64 a3,.int .u64 a2,.int .u64 a1,.int .u64 a0]) (by simp[results,Tryz.results40,go_sem,z0,z1,z2,z3]) rfl ?_;exact wide_done hg R K g3 g2 g1 g0
 · have G:=Blk.new w1 [.int .u64 9223372036854775808,.int .u64 0,.int .u64 0,.int .u64 0,.int .u64 9223372036854775807,.int .u64 18446744073709551615,.int .u64 18446744073709551615,.int .u64 18446744073709551615,.int .u64 9223372036854775808,.int .u64 0,.int .u64 0,.int .u64 1,.int .u64 4611686018427387904,.int .u64 0,.int .u64 0,.int .u64 0,.int .u64 0,.int .u64 1,.int .u64 0,.int .u64 0,.int .u64 0,.int .u64 0,.int .u64 1,.int .u64 0] 27 rfl;have hG:w1.heap.size≠g:=by have:=R.lt;omega
   replace B:=B.alloc (.cells #[.int .u64 9223372036854775808,.int .u64 0,.int .u64 0,.int .u64 0,.int .u64 9223372036854775807,.int .u64 18446744073709551615,.int .u64 18446744073709551615,.int .u64 18446744073709551615,.int .u64 9223372036854775808,.int .u64 0,.int .u64 0,.int .u64 1,.int .u64 4611686018427387904,.int .u64 0,.int .u64 0,.int .u64 0,.int .u64 0,.int .u64 1,.int .u64 0,.int .u64 0,.int .u64 0,.int .u64 0,.int .u64 1,.int .u64 0] 27);replace R:=R.alloc (.cells #[.int .u64 9223372036854775808,.int .u64 0,.int .u64 0,.int .u64 0,.int .u64 9223372036854775807,.int .u64 18446744073709551615,.int .u64 18446744073709551615,.int .u64 18446744073709551615,.int .u64 9223372036854775808,.int .u64 0,.int .u64 0,.int .u64 1,.int .u64 4611686018427387904,.int .u64 0,.int .u64 0,.int .u64 0,.int .u64 0,.int .u64 1,.int .u64 0,.int .u64 0,.int .u64 0,.int .u64 0,.int .u64 1,.int .u64 0] 27);replace K:=K.alloc (.cells #[.int .u64 9223372036854775808,.int .u64 0,.int .u64 0,.int .u64 0,.int .u64 9223372036854775807,.int .u64 18446744073709551615,.int .u64 18446744073709551615,.int .u64 18446744073709551615,.int .u64 9223372036854775808,.int .u64 0,.int .u64 0,.int .u64 1,.int .u64 4611686018427387904,.int .u64 0,.int .u64 0,.int .u64 0,.int .u64 0,.int .u64 1,.int .u64 0,.int .u64 0,.int .u64 0,.int .u64 0,.int .u64 1,.int .u64 0] 27);go_wp2_with fail;refine(below_any 6 (by decide) (by decide) g ao n cap cs _ R).mono ?_;rintro e w2 ⟨_,rfl,⟨y,rfl,q0,q1⟩,R1,K1⟩;replace B:=B.kept K1 hne;replace G:=G.kept K1 hG;replace K:=K.trans K1;clear R K1;have R:=R1;clear R1;have z0:=B.c 0 rfl;have y0:=B.f 0 rfl;have z1:=B.c 1 rfl;have y1:=B.f 1 rfl;have z2:=B.c 2 rfl;have y2:=B.f 2 rfl;have z3:=B.c 3 rfl;have y3:=B.f 3 rfl;have zl:=B.lt;have gl:=G.lt
   rcases(by omega:y=0∨y=1∨y=2∨y=3∨y=4∨y=5) with rfl | rfl | rfl | rfl | rfl | rfl
   · have c0:=G.c 0 rfl;have c1:=G.c 1 rfl;have c2:=G.c 2 rfl;have c3:=G.c 3 rfl;clear G;go_wp2;refine bodyPost_ret (v:= .agg #[.int .u64 9223372036854775808,.int .u64 0,.int .u64 0,.int .u64 0]) (by simp[results,Tryz.results40,go_sem,z0,z1,z2,z3]) rfl ?_;exact wide_done hg R K ⟨by decide,by decide⟩ ⟨by decide,by decide⟩ ⟨by decide,by decide⟩ ⟨by decide,by decide⟩
   · have c0:=G.c 4 rfl;have c1:=G.c 5 rfl;have c2:=G.c 6 rfl;have c3:=G.c 7 rfl;clear G;go_wp2;refine bodyPost_ret (v:= .agg #[.int .u64 9223372036854775807,.int .u64 18446744073709551615,.int .u64 18446744073709551615,.int .u64 18446744073709551615]) (by simp[results,Tryz.results40,go_sem,z0,z1,z2,z3]) rfl ?_;exact wide_done hg R K ⟨by decide,by decide⟩ ⟨by decide,by decide⟩ ⟨by decide,by decide⟩ ⟨by decide,by decide⟩
   · have c0:=G.c 8 rfl;have c1:=G.c 9 rfl;have c2:=G.c 10 rfl;have c3:=G.c 11 rfl;clear G;go_wp2;refine bodyPost_ret (v:= .agg #[.int .u64 9223372036854775808,.int .u64 0,.int .u64 0,.int .u64 1]) (by simp[results,Tryz.results40,go_sem,z0,z1,z2,z3]) rfl ?_;exact wide_done hg R K ⟨by decide,by decide⟩ ⟨by decide,by decide⟩ ⟨by decide,by decide⟩ ⟨by decide,by decide⟩
   · have c0:=G.c 12 rfl;have c1:=G.c 13 rfl;have c2:=G.c 14 rfl;have c3:=G.c 15 rfl;clear G;go_wp2;refine bodyPost_ret (v:= .agg #[.int .u64 4611686018427387904,.int .u64 0,.int .u64 0,.int .u64 0]) (by simp[results,Tryz.results40,go_sem,z0,z1,z2,z3]) rfl ?_;exact wide_done hg R K ⟨by decide,by decide⟩ ⟨by decide,by decide⟩ ⟨by decide,by decide⟩ ⟨by decide,by decide⟩
   · have c0:=G.c 16 rfl;have c1:=G.c 17 rfl;have c2:=G.c 18 rfl;have c3:=G.c 19 rfl;clear G;go_wp2;refine bodyPost_ret (v:= .agg #[.int .u64 0,.int .u64 1,.int .u64 0,.int .u64 0]) (by simp[results,Tryz.results40,go_sem,z0,z1,z2,z3]) rfl ?_;exact wide_done hg R K ⟨by decide,by decide⟩ ⟨by decide,by decide⟩ ⟨by decide,by decide⟩ ⟨by decide,by decide⟩
   · have c0:=G.c 20 rfl;have c1:=G.c 21 rfl;have c2:=G.c 22 rfl;have c3:=G.c 23 rfl;clear G;go_wp2;refine bodyPost_ret (v:= .agg #[.int .u64 0,.int .u64 0,.int .u64 1,.int .u64 0]) (by simp[results,Tryz.results40,go_sem,z0,z1,z2,z3]) rfl ?_;exact wide_done hg R K ⟨by decide,by decide⟩ ⟨by decide,by decide⟩ ⟨by decide,by decide⟩ ⟨by decide,by decide⟩
 · go_wp2_with fail;refine(once_any 2 (by decide) (by decide) g ao n cap cs _ R).mono ?_;rintro e w2 ⟨_,rfl,⟨b,rfl⟩,R1,K1⟩;replace B:=B.kept K1 hne;replace K:=K.trans K1;clear R K1;have R:=R1;clear R1;have L:=Rd.lit w2 (cs:=#[.int .u32 1]) (e:=108) (zs:=[1]) rfl rfl (by simp[maxLen]);replace B:=B.alloc (.cells #[.int .u32 1] 108);replace R:=R.alloc (.cells #[.int .u32 1] 108);replace K:=K.alloc (.cells #[.int .u32 1] 108);go_wp2_with fail;refine(below_any 255 (by decide) (by decide) g ao n cap cs _ R).mono ?_;rintro e w3 ⟨_,rfl,⟨y,rfl,y0,y1⟩,R1,K1⟩;replace B:=B.kept K1 hne;replace L:=L.kept R K1;replace K:=K.trans K1;clear R K1;have R:=R1;clear R1;obtain⟨k,rfl⟩:=Int.eq_ofNat_of_zero_le y0;go_wp2_with fail;refine(left_any _ 1 1 k [1] _ rfl (dig_cons.2 ⟨by omega,dig_nil⟩) L (by omega) (by omega)).mono ?_;rintro e w4 ⟨o1,n1,c1,zs1,rfl,k1,k2,k3,k4,k5,k6,hB⟩;replace B:=B.step hB;replace K:=K.trans (Kept.of hB);replace R:=R.step hB;clear hB L;go_wp2_with fail;refine(trim_any b o1 n1 c1 zs1 _ k1 k2 k4.1 k6 (by omega)).mono ?_;rintro e w5 ⟨s2,o2,n2,c2,d2,rfl,l1,l2,l3,l4,l5,l6,l7,hB⟩;have hv0:=val_nonneg k4.1;have N:IsNum w5 s2 o2 n2 c2 d2 (if b then -val zs1 else val zs1) 1000:=num_of l1 l2 (by omega) l4 l5 l6 l7 (by cases b<;>simp<;>omega) (by intro hz;cases b<;>simp at hz⊢<;>omega);replace B:=B.step hB;replace K:=K.trans (Kept.of hB);replace R:=R.step hB;clear hB k1 k2 k3 k4 k5 k6 l1 l2 l3 l4 l5 l6 l7 hv0;go_wp2_with fail;refine(toW_any s2 o2 n2 c2 d2 _ 1000 _ N (by omega)).mono ?_;intro e w7 hT;obtain⟨a3,a2,a1,a0,b',rfl,g3,g2,g1,g0,hB⟩:=tell_words hT;replace B:=B.step hB;replace K:=K.trans (Kept.of hB);replace R:=R.step hB;clear hB hT N;have z0:=B.c 0 rfl;have y0:=B.f 0 rfl;have z1:=B.c 1 rfl;have y1:=B.f 1 rfl;have z2:=B.c 2 rfl;have y2:=B.f 2 rfl;have z3:=B.c 3 rfl;have y3:=B.f 3 rfl;have zl:=B.lt;go_wp2;refine bodyPost_ret (v:= .agg #[.int .u64 a3,.int .u64 a2,.int .u64 a1,.int .u64 a0]) (by simp[results,Tryz.results40,go_sem,World.cell?_alloc_past,z0,z1,z2,z3,zl]) rfl ?_;exact wide_done2 hg R K g3 g2 g1 g0
 · go_wp2_with fail;refine(word_any g ao n cap cs _ R).mono ?_;rintro e w2 ⟨_,rfl,⟨a3,rfl,g3⟩,R1,K1⟩;replace B:=B.kept K1 hne;replace K:=K.trans K1;clear R K1;have R:=R1;clear R1;go_wp2_with fail;refine(word_any g ao n cap cs _ R).mono ?_;rintro e w3 ⟨_,rfl,⟨a2,rfl,g2⟩,R1,K1⟩;replace B:=B.kept K1 hne;replace K:=K.trans K1;clear R K1;have R:=R1;clear R1;go_wp2_with fail;refine(word_any g ao n cap cs _ R).mono ?_;rintro e w4 ⟨_,rfl,⟨a1,rfl,g1⟩,R1,K1⟩;replace B:=B.kept K1 hne;replace K:=K.trans K1;clear R K1;have R:=R1;clear R1;go_wp2_with fail;refine(word_any g ao n cap cs _ R).mono ?_;rintro e w5 ⟨_,rfl,⟨a0,rfl,g0⟩,R1,K1⟩;replace B:=B.kept K1 hne;replace K:=K.trans K1;clear R K1;have R:=R1;clear R1;have z0:=B.c 0 rfl;have y0:=B.f 0 rfl;have z1:=B.c 1 rfl;have y1:=B.f 1 rfl;have z2:=B.c 2 rfl;have y2:=B.f 2 rfl;have z3:=B.c 3 rfl;have y3:=B.f 3 rfl;have zl:=B.lt;go_wp2;refine bodyPost_ret (v:= .agg #[.int .u64 a3,.int .u64 a2,.int .u64 a1,.int .u64 a0]) (by simp[results,Tryz.results40,go_sem,z0,z1,z2,z3]) rfl ?_;exact wide_done hg R K g3 g2 g1 g0
 · go_wp2_with fail;refine(word_any g ao n cap cs _ R).mono ?_;rintro e w2 ⟨_,rfl,⟨p,rfl,p0,p1⟩,R1,K1⟩;replace B:=B.kept K1 hne;replace K:=K.trans K1;clear R K1;have R:=R1;clear R1;go_wp2_with fail;refine(below_any 64 (by decide) (by decide) g ao n cap cs _ R).mono ?_;rintro e w3 ⟨_,rfl,⟨y,rfl,y0,y1⟩,R1,K1⟩;replace B:=B.kept K1 hne;replace K:=K.trans K1;clear R K1;have R:=R1;clear R1;obtain⟨k,rfl⟩:=Int.eq_ofNat_of_zero_le y0;have hk:IntKind.u64.wrap (k:Int)=(k:Int):=by rw[IntKind.wrap_u64];omega
   go_wp2_with fail;refine(word_any g ao n cap cs _ R).mono ?_;rintro e w4 ⟨_,rfl,⟨a0,rfl,g0⟩,R1,K1⟩;replace B:=B.kept K1 hne;replace K:=K.trans K1;clear R K1;have R:=R1;clear R1;have z0:=B.c 0 rfl;have y0:=B.f 0 rfl;have z1:=B.c 1 rfl;have y1:=B.f 1 rfl;have z2:=B.c 2 rfl;have y2:=B.f 2 rfl;have z3:=B.c 3 rfl;have y3:=B.f 3 rfl;have zl:=B.lt;go_wp2;refine bodyPost_ret (v:= .agg #[.int .u64 0,.int .u64 0,.int .u64 (p / 2 ^ k),.int .u64 a0]) (by simp[results,Tryz.results40,go_sem,z0,z1,z2,z3]) rfl ?_;exact wide_done hg R K ⟨by decide,by decide⟩ ⟨by decide,by decide⟩ (word_div ⟨p0,p1⟩ k) g0
 · go_wp2_with fail;refine(word_any g ao n cap cs _ R).mono ?_;rintro e w2 ⟨_,rfl,⟨p,rfl,p0,p1⟩,R1,K1⟩;replace B:=B.kept K1 hne;replace K:=K.trans K1;clear R K1;have R:=R1;clear R1;go_wp2_with fail;refine(int_any (wrap64 p) _ (by unfold wrap64;omega) (by unfold wrap64;omega)).mono ?_;rintro e w3 ⟨s1,o1,n1,c1,d1,rfl,N1,hB⟩;replace B:=B.step hB;replace K:=K.trans (Kept.of hB);replace R:=R.step hB;clear hB;go_wp2_with fail;refine(word_any g ao n cap cs _ R).mono ?_;rintro e w4 ⟨_,rfl,⟨q,rfl,q0,q1⟩,R1,K1⟩;replace B:=B.kept K1 hne;replace N1:=N1.kept R K1;replace K:=K.trans K1;clear R K1;have R:=R1;clear R1;go_wp2_with fail;refine(int_any (wrap64 q) _ (by unfold wrap64;omega) (by unfold wrap64;omega)).mono ?_;rintro e w5 ⟨s2,o2,n2,c2,d2,rfl,N2,hB⟩;replace B:=B.step hB;replace N1:=N1.below hB;replace K:=K.trans (Kept.of hB);replace R:=R.step hB;clear hB;go_wp2_with fail;refine(mul_any s1 s2 o1 o2 n1 n2 c1 c2 2 d1 d2 _ _ _ N1 N2 (by omega)).mono ?_;rintro e w6 ⟨s3,o3,n3,c3,d3,rfl,N3,hB⟩;replace B:=B.step hB;replace K:=K.trans (Kept.of hB);replace R:=R.step hB;clear hB;go_wp2_with fail;refine(toW_any s3 o3 n3 c3 d3 _ (2+2) _ N3 (by omega)).mono ?_;intro e w7 hT;obtain⟨a3,a2,a1,a0,b,rfl,g3,g2,g1,g0,hB⟩:=tell_words hT;replace B:=B.step hB;replace K:=K.trans (Kept.of hB);replace R:=R.step hB;clear hB hT N1 N2 N3;have z0:=B.c 0 rfl;have y0:=B.f 0 rfl;have z1:=B.c 1 rfl;have y1:=B.f 1 rfl;have z2:=B.c 2 rfl;have y2:=B.f 2 rfl;have z3:=B.c 3 rfl;have y3:=B.f 3 rfl;have zl:=B.lt;go_wp2;refine bodyPost_ret (v:= .agg #[.int .u64 a3,.int .u64 a2,.int .u64 a1,.int .u64 a0]) (by simp[results,Tryz.results40,go_sem,World.cell?_alloc_past,z0,z1,z2,z3,zl]) rfl ?_;exact wide_done2 hg R K g3 g2 g1 g0
 · have e0:(x==0)=false:=by rw[beq_eq_false_iff_ne];omega
   have e1:(x==1)=false:=by rw[beq_eq_false_iff_ne];omega
   have e2:(x==2)=false:=by rw[beq_eq_false_iff_ne];omega
   have e3:(x==3)=false:=by rw[beq_eq_false_iff_ne];omega
   have e4:(x==4)=false:=by rw[beq_eq_false_iff_ne];omega
   have e5:(x==5)=false:=by rw[beq_eq_false_iff_ne];omega
   clear hx;go_wp2_with fail;refine(near_any g ao n cap cs _ R).mono ?_;rintro e w2 ⟨_,rfl,⟨y,rfl,y0,y1⟩,R1,K1⟩;replace B:=B.kept K1 hne;replace K:=K.trans K1;clear R K1;have R:=R1;clear R1;go_wp2_with fail;refine(specOf_any y _ (by omega) (by omega)).mono ?_;rintro e w3 ⟨a3,a2,a1,a0,rfl,g3,g2,g1,g0,-,hB⟩;replace B:=B.step hB;replace K:=K.trans (Kept.of hB);replace R:=R.step hB;clear hB;have z0:=B.c 0 rfl;have y0:=B.f 0 rfl;have z1:=B.c 1 rfl;have y1:=B.f 1 rfl;have z2:=B.c 2 rfl;have y2:=B.f 2 rfl;have z3:=B.c 3 rfl;have y3:=B.f 3 rfl;have zl:=B.lt;go_wp2;refine bodyPost_ret (v:= .agg #[.int .u64 a3,.int .u64 a2,.int .u64 a1,.int .u64 a0]) (by simp[results,Tryz.results40,go_sem,z0,z1,z2,z3]) rfl ?_;exact wide_done hg R K g3 g2 g1 g0
structure Code (w:World) (ao:Option Addr) (n:Nat) (cs:List Int):Prop where
 bytes:∀i,(h:i<cs.length)→∃b off,ao=some ⟨b,off,none⟩∧b<w.heap.size∧w.cell? ⟨b,off+i,none⟩=some (.int .u8 cs[i])
 len:cs.length=n
 small:n≤1048576
 byte:∀c∈cs,0≤c∧c<256
theorem Code.below {w w' :World} {ao:Option Addr} {n:Nat} {cs:List Int} (h:Code w ao n cs) (hB:Below w.heap.size w w'):Code w' ao n cs:=by
 refine⟨fun i hi=>?_,h.len,h.small,h.byte⟩;obtain⟨b,off,e,hb,hc⟩:=h.bytes i hi;exact⟨b,off,e,Nat.lt_of_lt_of_le hb hB.size,(hB.cell (p:=⟨b,off+i,none⟩) hb).trans hc⟩
def OpenP (ao:Option Addr) (n cap:Nat) (cs:List Int) (w:World) (e:Ending) (w' :World):Prop:=∃G,e= .returned (.pointer (some ⟨G,0,none⟩))∧w.heap.size≤G∧Rdr w' G ao n cap cs∧Below w.heap.size w w'
theorem open_any (ao:Option Addr) (n cap:Nat) (cs:List Int) (w:World) (h:Code w ao n cs) :
 Calls Tryz.prog 13 #[.slice ao n cap] w (OpenP ao n cap cs w):=by
 go_enter Tryz.func13,Tryz.ntmps13
 go_wp2;go_ret;refine⟨w.heap.size,rfl,Nat.le_refl _,⟨⟨0,Nat.zero_le _,Blk.new w [.slice ao n cap,.int .i64 0] 73 rfl⟩,fun i hi=>?_,h.len,h.small,h.byte⟩,(Below.refl _ _).alloc (Nat.le_refl _) _⟩;obtain⟨b,off,e,hb,hc⟩:=h.bytes i hi;exact⟨b,off,e,hb,cell_alloc hb hc⟩
theorem near_p40 (g:Nat) (ao:Option Addr) (n cap:Nat) (cs:List Int) (w:World) (h:Rdr w g ao n cap cs) :
 Calls Tryz.prog 38 #[.pointer (some ⟨g,0,none⟩),.int .i64 (-40),.int .i64 40] w (RdP g ao n cap cs (IsIn (-40) 41) w):=by
 go_enter Tryz.func38,Tryz.ntmps38
 go_wp2_with fail;refine(below_any 8 (by decide) (by decide) g ao n cap cs _ h).mono ?_;rintro e w1 ⟨_,rfl,⟨x,rfl,x0,x1⟩,R,K⟩;clear h
 by_cases h0:x=0
 · subst h0;go_wp2;go_ret;exact⟨_,rfl,⟨_,rfl,by decide,by decide⟩,R,K⟩
 · by_cases h1:x=1
   · subst h1;go_wp2;go_ret;exact⟨_,rfl,⟨_,rfl,by decide,by decide⟩,R,K⟩
   · have e0:(x==0)=false:=by simpa using h0
     have e1:(x==1)=false:=by simpa using h1
     go_wp2_with fail;refine(word_any g ao n cap cs _ R).mono ?_;rintro e w2 ⟨_,rfl,⟨y,rfl,y0,y1⟩,R2,K2⟩;replace K:=K.trans K2;clear R K2;have hw:IntKind.u64.wrap 81=81:=by rw[IntKind.wrap_u64];decide
     go_wp2;go_ret;exact⟨_,rfl,⟨_,rfl,by omega,by omega⟩,R2,K⟩
theorem near_p9 (g:Nat) (ao:Option Addr) (n cap:Nat) (cs:List Int) (w:World) (h:Rdr w g ao n cap cs) :
 Calls Tryz.prog 38 #[.pointer (some ⟨g,0,none⟩),.int .i64 0,.int .i64 9] w (RdP g ao n cap cs (IsIn 0 10) w):=by
 go_enter Tryz.func38,Tryz.ntmps38
 go_wp2_with fail;refine(below_any 8 (by decide) (by decide) g ao n cap cs _ h).mono ?_;rintro e w1 ⟨_,rfl,⟨x,rfl,x0,x1⟩,R,K⟩;clear h
 by_cases h0:x=0
 · subst h0;go_wp2;go_ret;exact⟨_,rfl,⟨_,rfl,by decide,by decide⟩,R,K⟩
 · by_cases h1:x=1
   · subst h1;go_wp2;go_ret;exact⟨_,rfl,⟨_,rfl,by decide,by decide⟩,R,K⟩
   · have e0:(x==0)=false:=by simpa using h0
     have e1:(x==1)=false:=by simpa using h1
     go_wp2_with fail;refine(word_any g ao n cap cs _ R).mono ?_;rintro e w2 ⟨_,rfl,⟨y,rfl,y0,y1⟩,R2,K2⟩;replace K:=K.trans K2;clear R K2;have hw:IntKind.u64.wrap 10=10:=by rw[IntKind.wrap_u64];decide
     go_wp2;go_ret;exact⟨_,rfl,⟨_,rfl,by omega,by omega⟩,R2,K⟩
theorem near_pm (g:Nat) (ao:Option Addr) (n cap:Nat) (cs:List Int) (w:World) (h:Rdr w g ao n cap cs) :
 Calls Tryz.prog 38 #[.pointer (some ⟨g,0,none⟩),.int .i64 (-1000000),.int .i64 1000000] w (RdP g ao n cap cs (IsIn (-1000000) 1000001) w):=by
 go_enter Tryz.func38,Tryz.ntmps38
 go_wp2_with fail;refine(below_any 8 (by decide) (by decide) g ao n cap cs _ h).mono ?_;rintro e w1 ⟨_,rfl,⟨x,rfl,x0,x1⟩,R,K⟩;clear h
 by_cases h0:x=0
 · subst h0;go_wp2;go_ret;exact⟨_,rfl,⟨_,rfl,by decide,by decide⟩,R,K⟩
 · by_cases h1:x=1
   · subst h1;go_wp2;go_ret;exact⟨_,rfl,⟨_,rfl,by decide,by decide⟩,R,K⟩
   · have e0:(x==0)=false:=by simpa using h0
     have e1:(x==1)=false:=by simpa using h1
     go_wp2_with fail;refine(word_any g ao n cap cs _ R).mono ?_;rintro e w2 ⟨_,rfl,⟨y,rfl,y0,y1⟩,R2,K2⟩;replace K:=K.trans K2;clear R K2;have hw:IntKind.u64.wrap 2000001=2000001:=by rw[IntKind.wrap_u64];decide
     go_wp2;go_ret;exact⟨_,rfl,⟨_,rfl,by omega,by omega⟩,R2,K⟩
theorem near_p6 (g:Nat) (ao:Option Addr) (n cap:Nat) (cs:List Int) (w:World) (h:Rdr w g ao n cap cs) :
 Calls Tryz.prog 38 #[.pointer (some ⟨g,0,none⟩),.int .i64 (-6),.int .i64 6] w (RdP g ao n cap cs (IsIn (-6) 7) w):=by
 go_enter Tryz.func38,Tryz.ntmps38
 go_wp2_with fail;refine(below_any 8 (by decide) (by decide) g ao n cap cs _ h).mono ?_;rintro e w1 ⟨_,rfl,⟨x,rfl,x0,x1⟩,R,K⟩;clear h
 by_cases h0:x=0
 · subst h0;go_wp2;go_ret;exact⟨_,rfl,⟨_,rfl,by decide,by decide⟩,R,K⟩
 · by_cases h1:x=1
   · subst h1;go_wp2;go_ret;exact⟨_,rfl,⟨_,rfl,by decide,by decide⟩,R,K⟩
   · have e0:(x==0)=false:=by simpa using h0
     have e1:(x==1)=false:=by simpa using h1
     go_wp2_with fail;refine(word_any g ao n cap cs _ R).mono ?_;rintro e w2 ⟨_,rfl,⟨y,rfl,y0,y1⟩,R2,K2⟩;replace K:=K.trans K2;clear R K2;have hw:IntKind.u64.wrap 13=13:=by rw[IntKind.wrap_u64];decide
     go_wp2;go_ret;exact⟨_,rfl,⟨_,rfl,by omega,by omega⟩,R2,K⟩
def IsPt (v:Value):Prop:=∃x y z:Int,v=PV x y z∧told x=true∧told y=true∧told z=true
theorem wide_W4 {v:Value} (h:IsWide v):∃x:Int,v=W4 x∧told x=true:=by
 obtain⟨a3,a2,a1,a0,rfl,h3,h2,h1,h0⟩:=h;obtain⟨f3,f2,f1,f0⟩:=wd_of h3 h2 h1 h0 rfl;have ht:told (sw a3 a2 a1 a0)=true:=by
  unfold told
  apply decide_eq_true
  unfold Word sw uw at *
  split<;>omega
 exact⟨sw a3 a2 a1 a0,by show _=Value.agg #[.int .u64 (ww3 (sw a3 a2 a1 a0)),.int .u64 (ww2 (sw a3 a2 a1 a0)),.int .u64 (ww1 (sw a3 a2 a1 a0)),.int .u64 (ww0 (sw a3 a2 a1 a0))];rw[←f3,←f2,←f1,←f0],ht⟩
theorem PV0:PV 0 0 0= .agg #[.int .u64 0,.int .u64 0,.int .u64 0,.int .u64 0,.int .u64 0,.int .u64 0,.int .u64 0,.int .u64 0,.int .u64 0,.int .u64 0,.int .u64 0,.int .u64 0]:=by
 have h3:ww3 0=0:=by decide
 have h2:ww2 0=0:=by decide
 have h1:ww1 0=0:=by decide
 have h0:ww0 0=0:=by decide
 show Value.agg #[.int .u64 (ww3 0),.int .u64 (ww2 0),.int .u64 (ww1 0),.int .u64 (ww0 0),.int .u64 (ww3 0),.int .u64 (ww2 0),.int .u64 (ww1 0),.int .u64 (ww0 0),.int .u64 (ww3 0),.int .u64 (ww2 0),.int .u64 (ww1 0),.int .u64 (ww0 0)]=_;rw[h3,h2,h1,h0]
theorem ptV_pt (x y z:Int):∃a b c t,ptV x y z= .tuple #[PV a b c,.bool t]∧told a=true∧told b=true∧told c=true:=by
 unfold ptV
 split
 · rename_i h
   simp at h
   exact⟨x,y,z,true,rfl,told_small h.1.1,told_small h.1.2,told_small h.2⟩
 · exact⟨0,0,0,false,by rw[PV0],by decide,by decide,by decide⟩
theorem pmV_pt (x y z:Int):∃a b c t,pmV x y z= .tuple #[PV a b c,.bool t]∧told a=true∧told b=true∧told c=true:=by
 unfold pmV
 split
 · exact⟨0,0,0,false,by rw[PV0],by decide,by decide,by decide⟩
 · exact ptV_pt _ _ _
theorem pt_done {w W:World} {g:Nat} {ao:Option Addr} {n cap:Nat} {cs:List Int} {a b c:Int} (hg:g<w.heap.size) (R:Rdr W g ao n cap cs) (K:Kept g w W) (ta:told a=true) (tb:told b=true) (tc:told c=true) {v0 v1 v2 v3 v4 v5 v6 v7 v8 v9 v10 v11:Value} :
 RdP g ao n cap cs IsPt w (.returned (PV a b c)) ((((((((((((W.setCell ⟨w.heap.size,0,none⟩ v0).setCell ⟨w.heap.size,1,none⟩ v1).setCell ⟨w.heap.size,2,none⟩ v2).setCell ⟨w.heap.size,3,none⟩ v3).setCell ⟨w.heap.size,4,none⟩ v4).setCell ⟨w.heap.size,5,none⟩ v5).setCell ⟨w.heap.size,6,none⟩ v6).setCell ⟨w.heap.size,7,none⟩ v7).setCell ⟨w.heap.size,8,none⟩ v8).setCell ⟨w.heap.size,9,none⟩ v9).setCell ⟨w.heap.size,10,none⟩ v10).setCell ⟨w.heap.size,11,none⟩ v11):=by
 refine⟨_,rfl,⟨a,b,c,rfl,ta,tb,tc⟩,?_,?_⟩
 · repeat' (refine Rdr.setN ?_ (by exact hg) _)
   exact R
 · repeat' (refine Kept.setN ?_ (by simp) (by simp;omega) _)
   exact K
theorem told_w (n:Int):told (wrap64 n)=true:=told_small (small_int (by unfold wrap64;omega) (by unfold wrap64;omega))
theorem specOfW (n:Int) (w:World) (h0: -9223372036854775808≤n) (h1:n≤9223372036854775807):Calls Tryz.prog 41 #[.int .i64 n] w (VP (W4 n) w):=by
 refine(specOf_any n w h0 h1).mono ?_;rintro e w' ⟨a3,a2,a1,a0,rfl,g3,g2,g1,g0,hs,hB⟩;obtain⟨rfl,rfl,rfl,rfl⟩:=wd_of g3 g2 g1 g0 hs;exact⟨rfl,hB⟩
def IsSp6 (v:Value):Prop:=∃x y:Int,v= .agg #[.int .i64 x,.int .i64 y]∧-6≤x∧x<7∧-6≤y∧y<7
theorem spot_any (g:Nat) (ao:Option Addr) (n cap:Nat) (cs:List Int) (w:World) (h:Rdr w g ao n cap cs) :
 Calls Tryz.prog 44 #[.pointer (some ⟨g,0,none⟩)] w (RdP g ao n cap cs IsSp6 w):=by
 have hg:=h.lt;have hne:w.heap.size≠g:=by omega
 have B:=Blk.new w [.int .i64 0,.int .i64 0] 83 rfl;have R:=h.alloc (.cells #[.int .i64 0,.int .i64 0] 83);have K:=(Kept.refl g w).alloc (.cells #[.int .i64 0,.int .i64 0] 83);clear h
 go_enter Tryz.func44,Tryz.ntmps44
 go_wp2_with fail;refine(near_p6 g ao n cap cs _ R).mono ?_;rintro e w1 ⟨_,rfl,⟨y,rfl,y0,y1⟩,R1,K1⟩;replace B:=B.kept K1 hne;replace K:=K.trans K1;clear R K1;have R:=R1;clear R1;go_wp2_with fail;refine(near_p6 g ao n cap cs _ R).mono ?_;rintro e w2 ⟨_,rfl,⟨y',rfl,y0',y1'⟩,R1,K1⟩;replace B:=B.kept K1 hne;replace K:=K.trans K1;clear R K1;have R:=R1;clear R1;have o0:=B.c 0 rfl;have f0:=B.f 0 rfl;have o1:=B.c 1 rfl;have f1:=B.f 1 rfl;have ol:=B.lt;clear B;go_wp2;refine bodyPost_ret (v:= .agg #[.int .i64 y,.int .i64 y']) (by simp[results,Tryz.results44,go_sem,o0,o1]) rfl ?_;exact⟨_,rfl,⟨y,y',rfl,y0,y1,y0',y1'⟩,(R.setN (by exact hg) _).setN (by exact hg) _,(K.setN (by simp) (by simp;omega) _).setN (by simp) (by simp;omega) _⟩
theorem point_any (g:Nat) (ao:Option Addr) (n cap:Nat) (cs:List Int) (w:World) (h:Rdr w g ao n cap cs) :
 Calls Tryz.prog 18 #[.pointer (some ⟨g,0,none⟩)] w (RdP g ao n cap cs IsPt w):=by
 have hg:=h.lt;have hne:w.heap.size≠g:=by omega
 have B:=Blk.new w [.int .u64 0,.int .u64 0,.int .u64 0,.int .u64 0,.int .u64 0,.int .u64 0,.int .u64 0,.int .u64 0,.int .u64 0,.int .u64 0,.int .u64 0,.int .u64 0] 29 rfl;have R:=h.alloc (.cells #[.int .u64 0,.int .u64 0,.int .u64 0,.int .u64 0,.int .u64 0,.int .u64 0,.int .u64 0,.int .u64 0,.int .u64 0,.int .u64 0,.int .u64 0,.int .u64 0] 29);have K:=(Kept.refl g w).alloc (.cells #[.int .u64 0,.int .u64 0,.int .u64 0,.int .u64 0,.int .u64 0,.int .u64 0,.int .u64 0,.int .u64 0,.int .u64 0,.int .u64 0,.int .u64 0,.int .u64 0] 29);have SO:=fun n w h0 h1=>specOfW n w h0 h1;clear h
 go_enter Tryz.func18,Tryz.ntmps18
 go_wp2_with fail;refine(below_any 10 (by decide) (by decide) g ao n cap cs _ R).mono ?_;rintro e w1 ⟨_,rfl,⟨x,rfl,x0,x1⟩,R1,K1⟩;replace B:=B.kept K1 hne;replace K:=K.trans K1;clear R K1;have R:=R1;clear R1
 rcases(by omega:x=0∨x=1∨(x=2∨x=3∨x=4)∨x=5∨(x=6∨x=7∨x=8∨x=9)) with rfl | rfl | hx | rfl | hx
 · clear SO x0 x1;go_wp2_with fail;refine(wide_any g ao n cap cs _ R).mono ?_;rintro e w2 ⟨v_,rfl,hv,R1,K1⟩;replace B:=B.kept K1 hne;replace K:=K.trans K1;clear R K1;have R:=R1;clear R1;obtain⟨xa,rfl,txa⟩:=wide_W4 hv;clear hv;go_wp2_with fail;refine(wide_any g ao n cap cs _ R).mono ?_;rintro e w3 ⟨v_,rfl,hv,R1,K1⟩;replace B:=B.kept K1 hne;replace K:=K.trans K1;clear R K1;have R:=R1;clear R1;obtain⟨xb,rfl,txb⟩:=wide_W4 hv;clear hv;go_wp2_with fail;refine(wide_any g ao n cap cs _ R).mono ?_;rintro e w4 ⟨v_,rfl,hv,R1,K1⟩;replace B:=B.kept K1 hne;replace K:=K.trans K1;clear R K1;have R:=R1;clear R1;obtain⟨xc,rfl,txc⟩:=wide_W4 hv;clear hv;have PM:=fun w=>specPointMake_det xa xb xc txa txb txc w;obtain⟨a,b,c,tt,hpm,ta,tb,tc⟩:=pmV_pt xa xb xc;rw[hpm] at PM;clear hpm;go_wp2_with fail;refine(PM _).mono ?_;rintro e w5 ⟨rfl,hB⟩;replace R:=R.step hB;replace B:=B.step hB;replace K:=K.trans (Kept.of hB);clear hB;clear PM;replace R:=R.alloc (.cells #[.int .u64 (ww3 a),.int .u64 (ww2 a),.int .u64 (ww1 a),.int .u64 (ww0 a),.int .u64 (ww3 b),.int .u64 (ww2 b),.int .u64 (ww1 b),.int .u64 (ww0 b),.int .u64 (ww3 c),.int .u64 (ww2 c),.int .u64 (ww1 c),.int .u64 (ww0 c)] 29);replace B:=B.alloc (.cells #[.int .u64 (ww3 a),.int .u64 (ww2 a),.int .u64 (ww1 a),.int .u64 (ww0 a),.int .u64 (ww3 b),.int .u64 (ww2 b),.int .u64 (ww1 b),.int .u64 (ww0 b),.int .u64 (ww3 c),.int .u64 (ww2 c),.int .u64 (ww1 c),.int .u64 (ww0 c)] 29);replace K:=K.alloc (.cells #[.int .u64 (ww3 a),.int .u64 (ww2 a),.int .u64 (ww1 a),.int .u64 (ww0 a),.int .u64 (ww3 b),.int .u64 (ww2 b),.int .u64 (ww1 b),.int .u64 (ww0 b),.int .u64 (ww3 c),.int .u64 (ww2 c),.int .u64 (ww1 c),.int .u64 (ww0 c)] 29);have o0:=B.c 0 rfl;have f0:=B.f 0 rfl;have o1:=B.c 1 rfl;have f1:=B.f 1 rfl;have o2:=B.c 2 rfl;have f2:=B.f 2 rfl;have o3:=B.c 3 rfl;have f3:=B.f 3 rfl;have o4:=B.c 4 rfl;have f4:=B.f 4 rfl;have o5:=B.c 5 rfl;have f5:=B.f 5 rfl;have o6:=B.c 6 rfl;have f6:=B.f 6 rfl;have o7:=B.c 7 rfl;have f7:=B.f 7 rfl;have o8:=B.c 8 rfl;have f8:=B.f 8 rfl;have o9:=B.c 9 rfl;have f9:=B.f 9 rfl;have o10:=B.c 10 rfl;have f10:=B.f 10 rfl;have o11:=B.c 11 rfl;have f11:=B.f 11 rfl;have ol:=B.lt;clear B;go_wp2;refine bodyPost_ret (v:=PV a b c) (by simp[results,Tryz.results18,go_sem,o0,o1,o2,o3,o4,o5,o6,o7,o8,o9,o10,o11]) rfl ?_;exact pt_done hg R K ta tb tc
 · clear x0 x1;go_wp2_with fail;refine(once_any 4 (by decide) (by decide) g ao n cap cs _ R).mono ?_;rintro e w2 ⟨_,rfl,⟨bb,rfl⟩,R1,K1⟩;replace B:=B.kept K1 hne;replace K:=K.trans K1;clear R K1;have R:=R1;clear R1;cases bb
   · go_wp2_with fail;refine(word_any g ao n cap cs _ R).mono ?_;rintro e w3 ⟨_,rfl,⟨y,rfl,y0,y1⟩,R1,K1⟩;replace B:=B.kept K1 hne;replace K:=K.trans K1;clear R K1;have R:=R1;clear R1;go_wp2_with fail;refine(SO _ _ (by first | omega | (unfold wrap64;omega)) (by first | omega | (unfold wrap64;omega))).mono ?_;rintro e w4 ⟨rfl,hB⟩;replace R:=R.step hB;replace B:=B.step hB;replace K:=K.trans (Kept.of hB);clear hB;go_wp2_with fail;refine(word_any g ao n cap cs _ R).mono ?_;rintro e w5 ⟨_,rfl,⟨y',rfl,y0',y1'⟩,R1,K1⟩;replace B:=B.kept K1 hne;replace K:=K.trans K1;clear R K1;have R:=R1;clear R1;go_wp2_with fail;refine(SO _ _ (by first | omega | (unfold wrap64;omega)) (by first | omega | (unfold wrap64;omega))).mono ?_;rintro e w6 ⟨rfl,hB⟩;replace R:=R.step hB;replace B:=B.step hB;replace K:=K.trans (Kept.of hB);clear hB;go_wp2_with fail;refine(word_any g ao n cap cs _ R).mono ?_;rintro e w7 ⟨_,rfl,⟨y2,rfl,y20,y21⟩,R1,K1⟩;replace B:=B.kept K1 hne;replace K:=K.trans K1;clear R K1;have R:=R1;clear R1;go_wp2_with fail;refine(SO _ _ (by first | omega | (unfold wrap64;omega)) (by first | omega | (unfold wrap64;omega))).mono ?_;rintro e w8 ⟨rfl,hB⟩;replace R:=R.step hB;replace B:=B.step hB;replace K:=K.trans (Kept.of hB);clear hB;have PM:=fun w=>specPointMake_det (wrap64 y) (wrap64 y') (wrap64 (1+y2 / 2)) (told_w _) (told_w _) (told_w _) w;obtain⟨a,b,c,tt,hpm,ta,tb,tc⟩:=pmV_pt (wrap64 y) (wrap64 y') (wrap64 (1+y2 / 2));rw[hpm] at PM;clear hpm;go_wp2_with fail;refine(PM _).mono ?_;rintro e w9 ⟨rfl,hB⟩;replace R:=R.step hB;replace B:=B.step hB;replace K:=K.trans (Kept.of hB);clear hB;clear PM;replace R:=R.alloc (.cells #[.int .u64 (ww3 a),.int .u64 (ww2 a),.int .u64 (ww1 a),.int .u64 (ww0 a),.int .u64 (ww3 b),.int .u64 (ww2 b),.int .u64 (ww1 b),.int .u64 (ww0 b),.int .u64 (ww3 c),.int .u64 (ww2 c),.int .u64 (ww1 c),.int .u64 (ww0 c)] 29);replace B:=B.alloc (.cells #[.int .u64 (ww3 a),.int .u64 (ww2 a),.int .u64 (ww1 a),.int .u64 (ww0 a),.int .u64 (ww3 b),.int .u64 (ww2 b),.int .u64 (ww1 b),.int .u64 (ww0 b),.int .u64 (ww3 c),.int .u64 (ww2 c),.int .u64 (ww1 c),.int .u64 (ww0 c)] 29);replace K:=K.alloc (.cells #[.int .u64 (ww3 a),.int .u64 (ww2 a),.int .u64 (ww1 a),.int .u64 (ww0 a),.int .u64 (ww3 b),.int .u64 (ww2 b),.int .u64 (ww1 b),.int .u64 (ww0 b),.int .u64 (ww3 c),.int .u64 (ww2 c),.int .u64 (ww1 c),.int .u64 (ww0 c)] 29);have o0:=B.c 0 rfl;have f0:=B.f 0 rfl;have o1:=B.c 1 rfl;have f1:=B.f 1 rfl;have o2:=B.c 2 rfl;have f2:=B.f 2 rfl;have o3:=B.c 3 rfl;have f3:=B.f 3 rfl;have o4:=B.c 4 rfl;have f4:=B.f 4 rfl;have o5:=B.c 5 rfl;have f5:=B.f 5 rfl;have o6:=B.c 6 rfl;have f6:=B.f 6 rfl;have o7:=B.c 7 rfl;have f7:=B.f 7 rfl;have o8:=B.c 8 rfl;have f8:=B.f 8 rfl;have o9:=B.c 9 rfl;have f9:=B.f 9 rfl;have o10:=B.c 10 rfl;have f10:=B.f 10 rfl;have o11:=B.c 11 rfl;have f11:=B.f 11 rfl;have ol:=B.lt;clear B;go_wp2;refine bodyPost_ret (v:=PV a b c) (by simp[results,Tryz.results18,go_sem,o0,o1,o2,o3,o4,o5,o6,o7,o8,o9,o10,o11]) rfl ?_;exact pt_done hg R K ta tb tc
   · clear SO;go_wp2_with fail;refine(wide_any g ao n cap cs _ R).mono ?_;rintro e w3 ⟨v_,rfl,hv,R1,K1⟩;replace B:=B.kept K1 hne;replace K:=K.trans K1;clear R K1;have R:=R1;clear R1;obtain⟨a,rfl,ta⟩:=wide_W4 hv;clear hv;go_wp2_with fail;refine(wide_any g ao n cap cs _ R).mono ?_;rintro e w4 ⟨v_,rfl,hv,R1,K1⟩;replace B:=B.kept K1 hne;replace K:=K.trans K1;clear R K1;have R:=R1;clear R1;obtain⟨b,rfl,tb⟩:=wide_W4 hv;clear hv;go_wp2_with fail;refine(wide_any g ao n cap cs _ R).mono ?_;rintro e w5 ⟨v_,rfl,hv,R1,K1⟩;replace B:=B.kept K1 hne;replace K:=K.trans K1;clear R K1;have R:=R1;clear R1;obtain⟨c,rfl,tc⟩:=wide_W4 hv;clear hv;have o0:=B.c 0 rfl;have f0:=B.f 0 rfl;have o1:=B.c 1 rfl;have f1:=B.f 1 rfl;have o2:=B.c 2 rfl;have f2:=B.f 2 rfl;have o3:=B.c 3 rfl;have f3:=B.f 3 rfl;have o4:=B.c 4 rfl;have f4:=B.f 4 rfl;have o5:=B.c 5 rfl;have f5:=B.f 5 rfl;have o6:=B.c 6 rfl;have f6:=B.f 6 rfl;have o7:=B.c 7 rfl;have f7:=B.f 7 rfl;have o8:=B.c 8 rfl;have f8:=B.f 8 rfl;have o9:=B.c 9 rfl;have f9:=B.f 9 rfl;have o10:=B.c 10 rfl;have f10:=B.f 10 rfl;have o11:=B.c 11 rfl;have f11:=B.f 11 rfl;have ol:=B.lt;clear B;go_wp2;refine bodyPost_ret (v:=PV a b c) (by simp[results,Tryz.results18,go_sem,o0,o1,o2,o3,o4,o5,o6,o7,o8,o9,o10,o11]) rfl ?_;exact pt_done hg R K ta tb tc
 · rcases hx with rfl | rfl | rfl
   · clear x0 x1;go_wp2_with fail;refine(near_p40 g ao n cap cs _ R).mono ?_;rintro e w2 ⟨_,rfl,⟨y,rfl,y0,y1⟩,R1,K1⟩;replace B:=B.kept K1 hne;replace K:=K.trans K1;clear R K1;have R:=R1;clear R1;go_wp2_with fail;refine(SO _ _ (by first | omega | (unfold wrap64;omega)) (by first | omega | (unfold wrap64;omega))).mono ?_;rintro e w3 ⟨rfl,hB⟩;replace R:=R.step hB;replace B:=B.step hB;replace K:=K.trans (Kept.of hB);clear hB;go_wp2_with fail;refine(near_p40 g ao n cap cs _ R).mono ?_;rintro e w4 ⟨_,rfl,⟨y',rfl,y0',y1'⟩,R1,K1⟩;replace B:=B.kept K1 hne;replace K:=K.trans K1;clear R K1;have R:=R1;clear R1;go_wp2_with fail;refine(SO _ _ (by first | omega | (unfold wrap64;omega)) (by first | omega | (unfold wrap64;omega))).mono ?_;rintro e w5 ⟨rfl,hB⟩;replace R:=R.step hB;replace B:=B.step hB;replace K:=K.trans (Kept.of hB);clear hB;go_wp2_with fail;refine(near_p9 g ao n cap cs _ R).mono ?_;rintro e w6 ⟨_,rfl,⟨y2,rfl,y20,y21⟩,R1,K1⟩;replace B:=B.kept K1 hne;replace K:=K.trans K1;clear R K1;have R:=R1;clear R1;go_wp2_with fail;refine(SO _ _ (by first | omega | (unfold wrap64;omega)) (by first | omega | (unfold wrap64;omega))).mono ?_;rintro e w7 ⟨rfl,hB⟩;replace R:=R.step hB;replace B:=B.step hB;replace K:=K.trans (Kept.of hB);clear hB;have PM:=fun w=>specPointMake_det y y' (1+y2) (told_small (small_int (by omega) (by omega))) (told_small (small_int (by omega) (by omega))) (told_small (small_int (by omega) (by omega))) w;obtain⟨a,b,c,tt,hpm,ta,tb,tc⟩:=pmV_pt y y' (1+y2);rw[hpm] at PM;clear hpm;go_wp2_with fail;refine(PM _).mono ?_;rintro e w8 ⟨rfl,hB⟩;replace R:=R.step hB;replace B:=B.step hB;replace K:=K.trans (Kept.of hB);clear hB;clear PM;replace R:=R.alloc (.cells #[.int .u64 (ww3 a),.int .u64 (ww2 a),.int .u64 (ww1 a),.int .u64 (ww0 a),.int .u64 (ww3 b),.int .u64 (ww2 b),.int .u64 (ww1 b),.int .u64 (ww0 b),.int .u64 (ww3 c),.int .u64 (ww2 c),.int .u64 (ww1 c),.int .u64 (ww0 c)] 29);replace B:=B.alloc (.cells #[.int .u64 (ww3 a),.int .u64 (ww2 a),.int .u64 (ww1 a),.int .u64 (ww0 a),.int .u64 (ww3 b),.int .u64 (ww2 b),.int .u64 (ww1 b),.int .u64 (ww0 b),.int .u64 (ww3 c),.int .u64 (ww2 c),.int .u64 (ww1 c),.int .u64 (ww0 c)] 29);replace K:=K.alloc (.cells #[.int .u64 (ww3 a),.int .u64 (ww2 a),.int .u64 (ww1 a),.int .u64 (ww0 a),.int .u64 (ww3 b),.int .u64 (ww2 b),.int .u64 (ww1 b),.int .u64 (ww0 b),.int .u64 (ww3 c),.int .u64 (ww2 c),.int .u64 (ww1 c),.int .u64 (ww0 c)] 29);have o0:=B.c 0 rfl;have f0:=B.f 0 rfl;have o1:=B.c 1 rfl;have f1:=B.f 1 rfl;have o2:=B.c 2 rfl;have f2:=B.f 2 rfl;have o3:=B.c 3 rfl;have f3:=B.f 3 rfl;have o4:=B.c 4 rfl;have f4:=B.f 4 rfl;have o5:=B.c 5 rfl;have f5:=B.f 5 rfl;have o6:=B.c 6 rfl;have f6:=B.f 6 rfl;have o7:=B.c 7 rfl;have f7:=B.f 7 rfl;have o8:=B.c 8 rfl;have f8:=B.f 8 rfl;have o9:=B.c 9 rfl;have f9:=B.f 9 rfl;have o10:=B.c 10 rfl;have f10:=B.f 10 rfl;have o11:=B.c 11 rfl;have f11:=B.f 11 rfl;have ol:=B.lt;clear B;go_wp2;refine bodyPost_ret (v:=PV a b c) (by simp[results,Tryz.results18,go_sem,o0,o1,o2,o3,o4,o5,o6,o7,o8,o9,o10,o11]) rfl ?_;exact pt_done hg R K ta tb tc
   · clear x0 x1;go_wp2_with fail;refine(near_p40 g ao n cap cs _ R).mono ?_;rintro e w2 ⟨_,rfl,⟨y,rfl,y0,y1⟩,R1,K1⟩;replace B:=B.kept K1 hne;replace K:=K.trans K1;clear R K1;have R:=R1;clear R1;go_wp2_with fail;refine(SO _ _ (by first | omega | (unfold wrap64;omega)) (by first | omega | (unfold wrap64;omega))).mono ?_;rintro e w3 ⟨rfl,hB⟩;replace R:=R.step hB;replace B:=B.step hB;replace K:=K.trans (Kept.of hB);clear hB;go_wp2_with fail;refine(near_p40 g ao n cap cs _ R).mono ?_;rintro e w4 ⟨_,rfl,⟨y',rfl,y0',y1'⟩,R1,K1⟩;replace B:=B.kept K1 hne;replace K:=K.trans K1;clear R K1;have R:=R1;clear R1;go_wp2_with fail;refine(SO _ _ (by first | omega | (unfold wrap64;omega)) (by first | omega | (unfold wrap64;omega))).mono ?_;rintro e w5 ⟨rfl,hB⟩;replace R:=R.step hB;replace B:=B.step hB;replace K:=K.trans (Kept.of hB);clear hB;go_wp2_with fail;refine(near_p9 g ao n cap cs _ R).mono ?_;rintro e w6 ⟨_,rfl,⟨y2,rfl,y20,y21⟩,R1,K1⟩;replace B:=B.kept K1 hne;replace K:=K.trans K1;clear R K1;have R:=R1;clear R1;go_wp2_with fail;refine(SO _ _ (by first | omega | (unfold wrap64;omega)) (by first | omega | (unfold wrap64;omega))).mono ?_;rintro e w7 ⟨rfl,hB⟩;replace R:=R.step hB;replace B:=B.step hB;replace K:=K.trans (Kept.of hB);clear hB;have PM:=fun w=>specPointMake_det y y' (1+y2) (told_small (small_int (by omega) (by omega))) (told_small (small_int (by omega) (by omega))) (told_small (small_int (by omega) (by omega))) w;obtain⟨a,b,c,tt,hpm,ta,tb,tc⟩:=pmV_pt y y' (1+y2);rw[hpm] at PM;clear hpm;go_wp2_with fail;refine(PM _).mono ?_;rintro e w8 ⟨rfl,hB⟩;replace R:=R.step hB;replace B:=B.step hB;replace K:=K.trans (Kept.of hB);clear hB;clear PM;replace R:=R.alloc (.cells #[.int .u64 (ww3 a),.int .u64 (ww2 a),.int .u64 (ww1 a),.int .u64 (ww0 a),.int .u64 (ww3 b),.int .u64 (ww2 b),.int .u64 (ww1 b),.int .u64 (ww0 b),.int .u64 (ww3 c),.int .u64 (ww2 c),.int .u64 (ww1 c),.int .u64 (ww0 c)] 29);replace B:=B.alloc (.cells #[.int .u64 (ww3 a),.int .u64 (ww2 a),.int .u64 (ww1 a),.int .u64 (ww0 a),.int .u64 (ww3 b),.int .u64 (ww2 b),.int .u64 (ww1 b),.int .u64 (ww0 b),.int .u64 (ww3 c),.int .u64 (ww2 c),.int .u64 (ww1 c),.int .u64 (ww0 c)] 29);replace K:=K.alloc (.cells #[.int .u64 (ww3 a),.int .u64 (ww2 a),.int .u64 (ww1 a),.int .u64 (ww0 a),.int .u64 (ww3 b),.int .u64 (ww2 b),.int .u64 (ww1 b),.int .u64 (ww0 b),.int .u64 (ww3 c),.int .u64 (ww2 c),.int .u64 (ww1 c),.int .u64 (ww0 c)] 29);have o0:=B.c 0 rfl;have f0:=B.f 0 rfl;have o1:=B.c 1 rfl;have f1:=B.f 1 rfl;have o2:=B.c 2 rfl;have f2:=B.f 2 rfl;have o3:=B.c 3 rfl;have f3:=B.f 3 rfl;have o4:=B.c 4 rfl;have f4:=B.f 4 rfl;have o5:=B.c 5 rfl;have f5:=B.f 5 rfl;have o6:=B.c 6 rfl;have f6:=B.f 6 rfl;have o7:=B.c 7 rfl;have f7:=B.f 7 rfl;have o8:=B.c 8 rfl;have f8:=B.f 8 rfl;have o9:=B.c 9 rfl;have f9:=B.f 9 rfl;have o10:=B.c 10 rfl;have f10:=B.f 10 rfl;have o11:=B.c 11 rfl;have f11:=B.f 11 rfl;have ol:=B.lt;clear B;go_wp2;refine bodyPost_ret (v:=PV a b c) (by simp[results,Tryz.results18,go_sem,o0,o1,o2,o3,o4,o5,o6,o7,o8,o9,o10,o11]) rfl ?_;exact pt_done hg R K ta tb tc
   · clear x0 x1;go_wp2_with fail;refine(near_p40 g ao n cap cs _ R).mono ?_;rintro e w2 ⟨_,rfl,⟨y,rfl,y0,y1⟩,R1,K1⟩;replace B:=B.kept K1 hne;replace K:=K.trans K1;clear R K1;have R:=R1;clear R1;go_wp2_with fail;refine(SO _ _ (by first | omega | (unfold wrap64;omega)) (by first | omega | (unfold wrap64;omega))).mono ?_;rintro e w3 ⟨rfl,hB⟩;replace R:=R.step hB;replace B:=B.step hB;replace K:=K.trans (Kept.of hB);clear hB;go_wp2_with fail;refine(near_p40 g ao n cap cs _ R).mono ?_;rintro e w4 ⟨_,rfl,⟨y',rfl,y0',y1'⟩,R1,K1⟩;replace B:=B.kept K1 hne;replace K:=K.trans K1;clear R K1;have R:=R1;clear R1;go_wp2_with fail;refine(SO _ _ (by first | omega | (unfold wrap64;omega)) (by first | omega | (unfold wrap64;omega))).mono ?_;rintro e w5 ⟨rfl,hB⟩;replace R:=R.step hB;replace B:=B.step hB;replace K:=K.trans (Kept.of hB);clear hB;go_wp2_with fail;refine(near_p9 g ao n cap cs _ R).mono ?_;rintro e w6 ⟨_,rfl,⟨y2,rfl,y20,y21⟩,R1,K1⟩;replace B:=B.kept K1 hne;replace K:=K.trans K1;clear R K1;have R:=R1;clear R1;go_wp2_with fail;refine(SO _ _ (by first | omega | (unfold wrap64;omega)) (by first | omega | (unfold wrap64;omega))).mono ?_;rintro e w7 ⟨rfl,hB⟩;replace R:=R.step hB;replace B:=B.step hB;replace K:=K.trans (Kept.of hB);clear hB;have PM:=fun w=>specPointMake_det y y' (1+y2) (told_small (small_int (by omega) (by omega))) (told_small (small_int (by omega) (by omega))) (told_small (small_int (by omega) (by omega))) w;obtain⟨a,b,c,tt,hpm,ta,tb,tc⟩:=pmV_pt y y' (1+y2);rw[hpm] at PM;clear hpm;go_wp2_with fail;refine(PM _).mono ?_;rintro e w8 ⟨rfl,hB⟩;replace R:=R.step hB;replace B:=B.step hB;replace K:=K.trans (Kept.of hB);clear hB;clear PM;replace R:=R.alloc (.cells #[.int .u64 (ww3 a),.int .u64 (ww2 a),.int .u64 (ww1 a),.int .u64 (ww0 a),.int .u64 (ww3 b),.int .u64 (ww2 b),.int .u64 (ww1 b),.int .u64 (ww0 b),.int .u64 (ww3 c),.int .u64 (ww2 c),.int .u64 (ww1 c),.int .u64 (ww0 c)] 29);replace B:=B.alloc (.cells #[.int .u64 (ww3 a),.int .u64 (ww2 a),.int .u64 (ww1 a),.int .u64 (ww0 a),.int .u64 (ww3 b),.int .u64 (ww2 b),.int .u64 (ww1 b),.int .u64 (ww0 b),.int .u64 (ww3 c),.int .u64 (ww2 c),.int .u64 (ww1 c),.int .u64 (ww0 c)] 29);replace K:=K.alloc (.cells #[.int .u64 (ww3 a),.int .u64 (ww2 a),.int .u64 (ww1 a),.int .u64 (ww0 a),.int .u64 (ww3 b),.int .u64 (ww2 b),.int .u64 (ww1 b),.int .u64 (ww0 b),.int .u64 (ww3 c),.int .u64 (ww2 c),.int .u64 (ww1 c),.int .u64 (ww0 c)] 29);have o0:=B.c 0 rfl;have f0:=B.f 0 rfl;have o1:=B.c 1 rfl;have f1:=B.f 1 rfl;have o2:=B.c 2 rfl;have f2:=B.f 2 rfl;have o3:=B.c 3 rfl;have f3:=B.f 3 rfl;have o4:=B.c 4 rfl;have f4:=B.f 4 rfl;have o5:=B.c 5 rfl;have f5:=B.f 5 rfl;have o6:=B.c 6 rfl;have f6:=B.f 6 rfl;have o7:=B.c 7 rfl;have f7:=B.f 7 rfl;have o8:=B.c 8 rfl;have f8:=B.f 8 rfl;have o9:=B.c 9 rfl;have f9:=B.f 9 rfl;have o10:=B.c 10 rfl;have f10:=B.f 10 rfl;have o11:=B.c 11 rfl;have f11:=B.f 11 rfl;have ol:=B.lt;clear B;go_wp2;refine bodyPost_ret (v:=PV a b c) (by simp[results,Tryz.results18,go_sem,o0,o1,o2,o3,o4,o5,o6,o7,o8,o9,o10,o11]) rfl ?_;exact pt_done hg R K ta tb tc
 · clear SO x0 x1;go_wp2_with fail;refine(near_pm g ao n cap cs _ R).mono ?_;rintro e w2 ⟨_,rfl,⟨y,rfl,y0,y1⟩,R1,K1⟩;replace B:=B.kept K1 hne;replace K:=K.trans K1;clear R K1;have R:=R1;clear R1;go_wp2_with fail;refine(near_pm g ao n cap cs _ R).mono ?_;rintro e w3 ⟨_,rfl,⟨y',rfl,y0',y1'⟩,R1,K1⟩;replace B:=B.kept K1 hne;replace K:=K.trans K1;clear R K1;have R:=R1;clear R1;go_wp2_with fail;refine(specPointOf_any y y' (by omega) (by omega) (by omega) (by omega) _).mono ?_;rintro e w4 ⟨rfl,hB⟩;replace R:=R.step hB;replace B:=B.step hB;replace K:=K.trans (Kept.of hB);clear hB;have o0:=B.c 0 rfl;have f0:=B.f 0 rfl;have o1:=B.c 1 rfl;have f1:=B.f 1 rfl;have o2:=B.c 2 rfl;have f2:=B.f 2 rfl;have o3:=B.c 3 rfl;have f3:=B.f 3 rfl;have o4:=B.c 4 rfl;have f4:=B.f 4 rfl;have o5:=B.c 5 rfl;have f5:=B.f 5 rfl;have o6:=B.c 6 rfl;have f6:=B.f 6 rfl;have o7:=B.c 7 rfl;have f7:=B.f 7 rfl;have o8:=B.c 8 rfl;have f8:=B.f 8 rfl;have o9:=B.c 9 rfl;have f9:=B.f 9 rfl;have o10:=B.c 10 rfl;have f10:=B.f 10 rfl;have o11:=B.c 11 rfl;have f11:=B.f 11 rfl;have ol:=B.lt;clear B;go_wp2;refine bodyPost_ret (v:=PV y y' 1) (by simp[results,Tryz.results18,go_sem,o0,o1,o2,o3,o4,o5,o6,o7,o8,o9,o10,o11]) rfl ?_;exact pt_done hg R K (told_small (small_int (by omega) (by omega))) (told_small (small_int (by omega) (by omega))) (by decide)
 · clear SO x0 x1
   rcases hx with rfl | rfl | rfl | rfl
   all_goals (
    go_wp2_with fail;refine(spot_any g ao n cap cs _ R).mono ?_;rintro e w2 ⟨_,rfl,⟨y,y',rfl,y0,y1,y0',y1'⟩,R1,K1⟩;replace B:=B.kept K1 hne;replace K:=K.trans K1;clear R K1;have R:=R1;clear R1;go_wp2_with fail;refine(specPointOf_any y y' (by omega) (by omega) (by omega) (by omega) _).mono ?_;rintro e w3 ⟨rfl,hB⟩;replace R:=R.step hB;replace B:=B.step hB;replace K:=K.trans (Kept.of hB);clear hB;have o0:=B.c 0 rfl;have f0:=B.f 0 rfl;have o1:=B.c 1 rfl;have f1:=B.f 1 rfl;have o2:=B.c 2 rfl;have f2:=B.f 2 rfl;have o3:=B.c 3 rfl;have f3:=B.f 3 rfl;have o4:=B.c 4 rfl;have f4:=B.f 4 rfl;have o5:=B.c 5 rfl;have f5:=B.f 5 rfl;have o6:=B.c 6 rfl;have f6:=B.f 6 rfl;have o7:=B.c 7 rfl;have f7:=B.f 7 rfl;have o8:=B.c 8 rfl;have f8:=B.f 8 rfl;have o9:=B.c 9 rfl;have f9:=B.f 9 rfl;have o10:=B.c 10 rfl;have f10:=B.f 10 rfl;have o11:=B.c 11 rfl;have f11:=B.f 11 rfl;have ol:=B.lt;clear B;go_wp2;refine bodyPost_ret (v:=PV y y' 1) (by simp[results,Tryz.results18,go_sem,o0,o1,o2,o3,o4,o5,o6,o7,o8,o9,o10,o11]) rfl ?_;exact pt_done hg R K (told_small (small_int (by omega) (by omega))) (told_small (small_int (by omega) (by omega))) (by decide))
def IsX (v:Value):Prop:=∃x:Int,v= .int .i64 x
theorem below_ps (m:Int) (h1:1≤m) (h256:m≤256) (g:Nat) (ao:Option Addr) (n cap:Nat) (cs:List Int) (w:World) (h:Rdr w g ao n cap cs) :
 Calls Tryz.prog 16 #[.pointer (some ⟨g,0,none⟩),.int .i64 m] w (RdP g ao n cap cs (IsIn 0 m) w):=by
 rcases Int.lt_or_le m 2 with h2 | h2
 · obtain rfl:m=1:=by omega
   go_enter Tryz.func16,Tryz.ntmps16
   go_wp2;go_ret;exact⟨_,rfl,⟨0,rfl,by decide,by decide⟩,h,Kept.refl _ _⟩
 · exact below_any m h2 h256 g ao n cap cs w h
theorem near_0p9 (g:Nat) (ao:Option Addr) (n cap:Nat) (cs:List Int) (w:World) (h:Rdr w g ao n cap cs) :
 Calls Tryz.prog 38 #[.pointer (some ⟨g,0,none⟩),.int .i64 0,.int .i64 9] w (RdP g ao n cap cs (IsIn 0 10) w):=by
 go_enter Tryz.func38,Tryz.ntmps38
 go_wp2_with fail;refine(below_any 8 (by decide) (by decide) g ao n cap cs _ h).mono ?_;rintro e w1 ⟨_,rfl,⟨x,rfl,x0,x1⟩,R,K⟩;clear h
 by_cases h0:x=0
 · subst h0;go_wp2;go_ret;exact⟨_,rfl,⟨_,rfl,by decide,by decide⟩,R,K⟩
 · by_cases h1:x=1
   · subst h1;go_wp2;go_ret;exact⟨_,rfl,⟨_,rfl,by decide,by decide⟩,R,K⟩
   · have e0:(x==0)=false:=by simpa using h0
     have e1:(x==1)=false:=by simpa using h1
     go_wp2_with fail;refine(word_any g ao n cap cs _ R).mono ?_;rintro e w2 ⟨_,rfl,⟨y,rfl,y0,y1⟩,R2,K2⟩;replace K:=K.trans K2;clear R K2;have hw:IntKind.u64.wrap 10=10:=by rw[IntKind.wrap_u64];decide
     go_wp2;go_ret;exact⟨_,rfl,⟨_,rfl,by omega,by omega⟩,R2,K⟩
theorem off_0p9 (g:Nat) (ao:Option Addr) (n cap:Nat) (cs:List Int) (w:World) (R:Rdr w g ao n cap cs) :
 Calls Tryz.prog 17 #[.pointer (some ⟨g,0,none⟩),.int .i64 0,.int .i64 9] w (RdP g ao n cap cs IsX w):=by
 go_enter Tryz.func17,Tryz.ntmps17
 go_wp2_with fail;refine(once_any 24 (by decide) (by decide) g ao n cap cs _ R).mono ?_;rintro e w1 ⟨_,rfl,⟨b,rfl⟩,R1,K⟩;clear R;cases b
 · go_wp2_with fail;refine(near_0p9 g ao n cap cs _ R1).mono ?_;rintro e w2 ⟨_,rfl,⟨x,rfl,_,_⟩,R2,K2⟩;replace K:=K.trans K2;clear R1 K2;go_wp2;go_ret;exact⟨_,rfl,⟨x,rfl⟩,R2,K⟩
 · have G:=Blk.new w1 [.int .i64 (-1),.int .i64 10,.int .i64 (-9223372036854775808),.int .i64 9223372036854775807] 2 rfl;rw[show([.int .i64 (-1),.int .i64 10,.int .i64 (-9223372036854775808),.int .i64 9223372036854775807]:List Value).toArray=#[.int .i64 (-1),.int .i64 10,.int .i64 (-9223372036854775808),.int .i64 9223372036854775807] from rfl] at G;have hgl:=R1.lt;have hgn:w1.heap.size≠g:=by omega
   have R:=R1.alloc (.cells #[.int .i64 (-1),.int .i64 10,.int .i64 (-9223372036854775808),.int .i64 9223372036854775807] 2);replace K:=K.alloc (.cells #[.int .i64 (-1),.int .i64 10,.int .i64 (-9223372036854775808),.int .i64 9223372036854775807] 2);clear R1;go_wp2_with fail;refine(below_any 4 (by decide) (by decide) g ao n cap cs _ R).mono ?_;rintro e w6 ⟨_,rfl,⟨j,rfl,j0,j1⟩,R6,K6⟩;replace G:=G.kept K6 hgn;replace K:=K.trans K6;obtain⟨k,rfl⟩:∃k:Nat,j=k:=⟨j.toNat,by omega⟩;obtain⟨u,hu⟩:∃u:Int,w6.cell? ⟨w1.heap.size,k,none⟩=some (.int .i64 u):=by
    rcases(by omega:k=0∨k=1∨k=2∨k=3) with rfl | rfl | rfl | rfl
    · exact⟨_,G.c 0 rfl⟩
    · exact⟨_,G.c 1 rfl⟩
    · exact⟨_,G.c 2 rfl⟩
    · exact⟨_,G.c 3 rfl⟩
   clear G R K6;go_wp2;go_ret;exact⟨_,rfl,⟨u,rfl⟩,R6,K⟩
theorem near_0p39 (g:Nat) (ao:Option Addr) (n cap:Nat) (cs:List Int) (w:World) (h:Rdr w g ao n cap cs) :
 Calls Tryz.prog 38 #[.pointer (some ⟨g,0,none⟩),.int .i64 0,.int .i64 39] w (RdP g ao n cap cs (IsIn 0 40) w):=by
 go_enter Tryz.func38,Tryz.ntmps38
 go_wp2_with fail;refine(below_any 8 (by decide) (by decide) g ao n cap cs _ h).mono ?_;rintro e w1 ⟨_,rfl,⟨x,rfl,x0,x1⟩,R,K⟩;clear h
 by_cases h0:x=0
 · subst h0;go_wp2;go_ret;exact⟨_,rfl,⟨_,rfl,by decide,by decide⟩,R,K⟩
 · by_cases h1:x=1
   · subst h1;go_wp2;go_ret;exact⟨_,rfl,⟨_,rfl,by decide,by decide⟩,R,K⟩
   · have e0:(x==0)=false:=by simpa using h0
     have e1:(x==1)=false:=by simpa using h1
     go_wp2_with fail;refine(word_any g ao n cap cs _ R).mono ?_;rintro e w2 ⟨_,rfl,⟨y,rfl,y0,y1⟩,R2,K2⟩;replace K:=K.trans K2;clear R K2;have hw:IntKind.u64.wrap 40=40:=by rw[IntKind.wrap_u64];decide
     go_wp2;go_ret;exact⟨_,rfl,⟨_,rfl,by omega,by omega⟩,R2,K⟩
theorem off_0p39 (g:Nat) (ao:Option Addr) (n cap:Nat) (cs:List Int) (w:World) (R:Rdr w g ao n cap cs) :
 Calls Tryz.prog 17 #[.pointer (some ⟨g,0,none⟩),.int .i64 0,.int .i64 39] w (RdP g ao n cap cs IsX w):=by
 go_enter Tryz.func17,Tryz.ntmps17
 go_wp2_with fail;refine(once_any 24 (by decide) (by decide) g ao n cap cs _ R).mono ?_;rintro e w1 ⟨_,rfl,⟨b,rfl⟩,R1,K⟩;clear R;cases b
 · go_wp2_with fail;refine(near_0p39 g ao n cap cs _ R1).mono ?_;rintro e w2 ⟨_,rfl,⟨x,rfl,_,_⟩,R2,K2⟩;replace K:=K.trans K2;clear R1 K2;go_wp2;go_ret;exact⟨_,rfl,⟨x,rfl⟩,R2,K⟩
 · have G:=Blk.new w1 [.int .i64 (-1),.int .i64 40,.int .i64 (-9223372036854775808),.int .i64 9223372036854775807] 2 rfl;rw[show([.int .i64 (-1),.int .i64 40,.int .i64 (-9223372036854775808),.int .i64 9223372036854775807]:List Value).toArray=#[.int .i64 (-1),.int .i64 40,.int .i64 (-9223372036854775808),.int .i64 9223372036854775807] from rfl] at G;have hgl:=R1.lt;have hgn:w1.heap.size≠g:=by omega
   have R:=R1.alloc (.cells #[.int .i64 (-1),.int .i64 40,.int .i64 (-9223372036854775808),.int .i64 9223372036854775807] 2);replace K:=K.alloc (.cells #[.int .i64 (-1),.int .i64 40,.int .i64 (-9223372036854775808),.int .i64 9223372036854775807] 2);clear R1;go_wp2_with fail;refine(below_any 4 (by decide) (by decide) g ao n cap cs _ R).mono ?_;rintro e w6 ⟨_,rfl,⟨j,rfl,j0,j1⟩,R6,K6⟩;replace G:=G.kept K6 hgn;replace K:=K.trans K6;obtain⟨k,rfl⟩:∃k:Nat,j=k:=⟨j.toNat,by omega⟩;obtain⟨u,hu⟩:∃u:Int,w6.cell? ⟨w1.heap.size,k,none⟩=some (.int .i64 u):=by
    rcases(by omega:k=0∨k=1∨k=2∨k=3) with rfl | rfl | rfl | rfl
    · exact⟨_,G.c 0 rfl⟩
    · exact⟨_,G.c 1 rfl⟩
    · exact⟨_,G.c 2 rfl⟩
    · exact⟨_,G.c 3 rfl⟩
   clear G R K6;go_wp2;go_ret;exact⟨_,rfl,⟨u,rfl⟩,R6,K⟩
def EvT (lo:Nat) (v:Value) (W:World):Prop:=∃(n t:Nat) (q:Nat→Int×Int×Int) (s:Nat→Value) (L:Nat→Nat) (E:Nat→Nat→Int),n≤200∧t≤W.heap.size∧EvRow W lo t v n (wq q) s L E∧(∀i,i<n→told (q i).1=true∧told (q i).2.1=true∧told (q i).2.2=true)∧∀i,i<n→L i≤1048576
theorem EvT.keep {lo:Nat} {v:Value} {W W2:World} (h:EvT lo v W) (hs:W.heap.size≤W2.heap.size) (hk:∀b,lo≤b→b<W.heap.size→W2.heap[b]? =W.heap[b]?):EvT lo v W2:=by
 obtain⟨n,t,q,s,L,E,h1,h2,h3,h4,h5⟩:=h;exact⟨n,t,q,s,L,E,h1,by omega,h3.heap (fun k hb _ hl=>hk k hb hl),h4,h5⟩
theorem EvT.kept {lo g:Nat} {v:Value} {W W2:World} (h:EvT lo v W) (hg:g<lo) (K:Kept g W W2):EvT lo v W2:=h.keep K.size (fun b hb hl=>K.block b hl (by omega))
theorem EvT.step {lo:Nat} {v:Value} {W W2:World} (h:EvT lo v W) (hB:Below W.heap.size W W2):EvT lo v W2:=h.keep hB.size (fun b _ hl=>hB.block b hl)
theorem putTo_told {n:Nat} {q:Nat→Int×Int×Int} {L:Nat→Nat} {E:Nat→Nat→Int} {p:Int×Int×Int} {x:Int} {ok:Bool} {N:Nat} {Q:Nat→Int×Int×Int} {L' :Nat→Nat} {E' :Nat→Nat→Int} (h:PutTo n q L E p x ok N Q L' E') (hq:∀i,i<n→told (q i).1=true∧told (q i).2.1=true∧told (q i).2.2=true) (hp:told p.1=true∧told p.2.1=true∧told p.2.2=true):N≤200∧∀i,i<N→told (Q i).1=true∧told (Q i).2.1=true∧told (Q i).2.2=true:=by
 rcases h with ⟨_,_,rfl,_⟩ | ⟨h1,h2,h3,j,th,hP,⟨_,_,_,rfl,_⟩ | ⟨_,hn,_,rfl,rfl,_⟩ | ⟨ht,jn,tw,hN,_,rfl,rfl,_⟩⟩
 · exact⟨by omega,fun i hi=>absurd hi (by omega)⟩
 · exact⟨by omega,fun i hi=>absurd hi (by omega)⟩
 · refine⟨by omega,fun i hi=>?_⟩;have:=hP.le
   rcases Nat.lt_trichotomy i j with c | c | c
   · rw[insF_lo c];exact hq i (by omega)
   · subst c;rw[insF_at];exact hp
   · rw[insF_hi c];exact hq (i-1) (by omega)
 · exact⟨(evB_pos h1).1,hq⟩
theorem EvRow.cells {w:World} {b t A cap n:Nat} {q:Nat→Int×Int×Int} {s:Nat→Value} {L:Nat→Nat} {E:Nat→Nat→Int} (h:EvRow w b t (.slice (some ⟨A,0,none⟩) n cap) n (wq q) s L E) (hn:0<n):b≤A∧A<w.heap.size∧n≤cap∧(∀i j,i<n→j<12→w.cell? ⟨A,i*13+j,none⟩=some (.int .u64 (w12 (q i) j)))∧(∀i,i<n→w.cell? ⟨A,i*13+12,none⟩=some (s i))∧∀j,w.frozen? ⟨A,j,none⟩=false:=by
 rcases h with ⟨_,h⟩ | ⟨g,c,f,h1,h2,h3,h4,h5,h6,h7,h8,h9⟩
 · omega
 · cases h1;exact⟨h2,h5.lt,h4,fun i j hi hj=>by rw[h5.cell (by omega),h6 _ (by omega),evC_at _ _ _ _ hj,wq_at _ _ _ (by omega)],fun i hi=>by rw[h5.cell (by omega),h6 _ (by omega),evC_12],fun j=>h5.frozen j⟩
theorem EvRow.form {w:World} {b t n:Nat} {v:Value} {x:Nat→Int} {s:Nat→Value} {L:Nat→Nat} {E:Nat→Nat→Int} (h:EvRow w b t v n x s L E):∃ao cap,v= .slice ao n cap∧(0<n→∃A,ao=some ⟨A,0,none⟩):=by
 rcases h with ⟨h1,rfl⟩ | ⟨g,c,f,h1,_⟩
 · exact⟨none,0,h1,fun h=>absurd h (by omega)⟩
 · exact⟨_,c,h1,fun _=>⟨g,rfl⟩⟩
theorem EvRow.ends {w:World} {b t n:Nat} {v:Value} {x:Nat→Int} {s:Nat→Value} {L:Nat→Nat} {E:Nat→Nat→Int} (h:EvRow w b t v n x s L E) (i:Nat) (hi:i<n):∃so sc,s i= .slice so (L i) sc:=by
 rcases h with ⟨_,rfl⟩ | ⟨g,c,f,h1,h2,h3,h4,h5,h6,h7,h8⟩
 · omega
 · obtain⟨so,sc,e,_⟩:=(h7 i hi).in;exact⟨so,sc,e⟩
theorem EvRow.rowA {w:World} {b t A cap n:Nat} {x:Nat→Int} {s:Nat→Value} {L:Nat→Nat} {E:Nat→Nat→Int} (h:EvRow w b t (.slice (some ⟨A,0,none⟩) n cap) n x s L E) (hn:0<n):∃c f,w.rowIs A 37 c f∧n*13≤c:=by
 rcases h with ⟨_,h⟩ | ⟨g,c,f,h1,h2,h3,h4,h5,_⟩
 · omega
 · cases h1;exact⟨_,f,h5,by omega⟩
theorem EvT.noEnds {lo A n cap i:Nat} {W:World} (h:EvT lo (.slice (some ⟨A,0,none⟩) n cap) W) (hi:i<n) (hlo:lo≤W.heap.size):EvT lo (.slice (some ⟨A,0,none⟩) n cap) ((W.alloc (.cells #[] 2)).setCell ⟨A,i*13+12,none⟩ (.slice (some ⟨W.heap.size,0,none⟩) 0 0)):=by
 obtain⟨n',t,q,s,L,E,h1,h2,h3,h4,h5⟩:=h;obtain⟨ao,cp,e,_⟩:=h3.form;cases e;have hA:A<W.heap.size:=(h3.cells (by omega)).2.1;refine⟨n,W.heap.size+1,q,setF s i (.slice (some ⟨W.heap.size,0,none⟩) 0 0),setF L i 0,E,h1,by simp[World.setCell],?_,h4,fun k hk=>?_⟩
 · rcases h3 with ⟨_,h⟩ | ⟨g,c,f,e,g2,g3,g4,g5,g6,g7,g8,g9⟩
   · omega
   · cases e;have hB:Below W.heap.size W (W.alloc (.cells #[] 2)):=(Below.refl _ _).alloc (Nat.le_refl _) _;have hb:∀k,k≠A→k<W.heap.size→((W.alloc (.cells #[] 2)).setCell ⟨A,i*13+12,none⟩ (.slice (some ⟨W.heap.size,0,none⟩) 0 0)).heap[k]? =W.heap[k]? :=fun k hk hl=>(Below.heap_setCell _ _ _ _ (by exact hk)).trans (hB.block k hl);refine .inr ⟨A,cap,_,rfl,g2,by omega,g4,(g5.alloc _).set (i*13+12) _,fun k hk=>?_,fun k hk=>?_,fun k hk e=>?_,fun a b ha hb hab m h e=>?_⟩
     · by_cases c:k=i*13+12
       · subst c;rw[if_pos rfl,evC_12,setF_at]
       · rw[if_neg c,g6 k hk];unfold evC
         by_cases c2:k%13=12
         · rw[if_pos c2,if_pos c2,setF_ne (by omega)]
         · rw[if_neg c2,if_neg c2]
     · by_cases c:k=i
       · subst c;rw[setF_at,setF_at];refine .inr ⟨W.heap.size,0,fun _=>undef,rfl,hlo,by omega,Nat.le_refl _,?_,fun j hj=>absurd hj (by omega)⟩;exact(World.rowIs_alloc W #[] 2 (fun _=>undef) (fun j hj=>by simp at hj)).setOther (by show W.heap.size≠A;omega) _
       · rw[setF_ne c,setF_ne c];refine((g7 k hk).heap fun m hm=>hb m (fun e=>g8 k hk (by rw[hm,e])) ((g7 k hk).lt hm).2.2).mono (Nat.le_refl _) (by omega)
     · by_cases c:k=i
       · subst c;rw[setF_at] at e;have e2:W.heap.size=A:=Option.some.inj e
         omega
       · rw[setF_ne c] at e;exact g8 k hk e
     · by_cases c:a=i
       · subst c;rw[setF_at] at h;rw[setF_ne (Ne.symm hab)] at e;have e2:W.heap.size=m:=Option.some.inj h;have:=((g7 b ‹_›).lt e).2.2
         omega
       · rw[setF_ne c] at h
         by_cases c2:b=i
         · subst c2;rw[setF_at] at e;have e2:W.heap.size=m:=Option.some.inj e;have:=((g7 a ha).lt h).2.2
           omega
         · rw[setF_ne c2] at e;exact g9 a b ha ‹_› hab _ h e
 · by_cases c:k=i
   · subst c;rw[setF_at];omega
   · rw[setF_ne c];exact h5 k hk
def sw01 (i:Nat):Nat:=if i=0 then 1 else if i=1 then 0 else i
theorem sw01_lt {i n:Nat} (hn:2≤n) (hi:i<n):sw01 i<n:=by unfold sw01;split<;>(try split)<;>omega
theorem sw01_ne {i j:Nat} (h:i≠j):sw01 i≠sw01 j:=by
 unfold sw01
 split<;>(try split)<;>(try split)<;>(try split)<;>omega
theorem EvT.swap {lo A n cap:Nat} {W W2:World} {q:Nat→Int×Int×Int} {s:Nat→Value} {L:Nat→Nat} {E:Nat→Nat→Int} {t:Nat} (h1:n≤200) (h2:t≤W.heap.size) (h3:EvRow W lo t (.slice (some ⟨A,0,none⟩) n cap) n (wq q) s L E) (h4:∀i,i<n→told (q i).1=true∧told (q i).2.1=true∧told (q i).2.2=true) (h5:∀i,i<n→L i≤1048576) (hn:2≤n) (hs:W.heap.size≤W2.heap.size) (hk:∀b,b≠A→b<W.heap.size→W2.heap[b]? =W.heap[b]?) (hf:∀(c:Nat) (f:Nat→Value),W.rowIs A 37 c f→n*13≤c→(∀k,k<n*13→f k=evC (wq q) s k)→∃f2,W2.rowIs A 37 c f2∧∀k,k<n*13→f2 k=evC (wq (fun i=>q (sw01 i))) (fun i=>s (sw01 i)) k):EvT lo (.slice (some ⟨A,0,none⟩) n cap) W2:=by
 refine⟨n,t,fun i=>q (sw01 i),fun i=>s (sw01 i),fun i=>L (sw01 i),fun i=>E (sw01 i),h1,by omega,?_,fun i hi=>h4 _ (sw01_lt hn hi),fun i hi=>h5 _ (sw01_lt hn hi)⟩
 rcases h3 with ⟨_,h⟩ | ⟨g,c,f,e,g2,g3,g4,g5,g6,g7,g8,g9⟩
 · omega
 · cases e;obtain⟨f2,r1,r2⟩:=hf _ f g5 (by omega) g6;exact .inr ⟨A,cap,f2,rfl,g2,g3,g4,r1,r2,fun i hi=>(g7 _ (sw01_lt hn hi)).heap fun m hm=>hk m (fun e=>g8 _ (sw01_lt hn hi) (by rw[hm,e])) ((g7 _ (sw01_lt hn hi)).lt hm).2.2,fun i hi=>g8 _ (sw01_lt hn hi),fun i j hi hj hij=>g9 _ _ (sw01_lt hn hi) (sw01_lt hn hj) (sw01_ne hij)⟩
end Go.Proofs.YtbogliojkabbjaaGreat
