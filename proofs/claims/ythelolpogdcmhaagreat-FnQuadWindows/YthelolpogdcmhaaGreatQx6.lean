/- Part 6 of the walks that the proof leans on. -/
import Derived.Test.YthelolpogdcmhaaGreatQx5
set_option maxRecDepth 100000
set_option maxHeartbeats 16000000
namespace Go.Proofs.YthelolpogdcmhaaGreat
open Go.RowKit
def BlIn (Q:QD) (w:World) (A off:Nat) (so:Nat→Option Addr×Nat):Prop:=
 ∀i,i<Q.N→A<w.heap.size∧w.cell? ⟨A,off+i*5,none⟩=some (.int .i64 (Q.X i))∧w.cell? ⟨A,off+i*5+1,none⟩=some (.int .i64 (Q.Y i))∧w.cell? ⟨A,off+i*5+2,none⟩=some (.int .i64 (Q.Z i))∧w.cell? ⟨A,off+i*5+3,none⟩=some (.bool (Q.T i))∧w.cell? ⟨A,off+i*5+4,none⟩=some (.slice (so i).1 (Q.L i) (so i).2)∧NoIn w (so i).1 (Q.L i) (Q.E i)
theorem BlIn.below {Q:QD} {w w' :World} {A off:Nat} {so:Nat→Option Addr×Nat} (h:BlIn Q w A off so) (hB:Below w.heap.size w w'):BlIn Q w' A off so:=fun i hi=>by
 obtain⟨hA,c0,c1,c2,c3,c4,hN⟩:=h i hi;exact⟨Nat.lt_of_lt_of_le hA hB.size,(hB.cell (p:=⟨A,_,none⟩) hA).trans c0,(hB.cell (p:=⟨A,_,none⟩) hA).trans c1,(hB.cell (p:=⟨A,_,none⟩) hA).trans c2,(hB.cell (p:=⟨A,_,none⟩) hA).trans c3,(hB.cell (p:=⟨A,_,none⟩) hA).trans c4,hN.step hB⟩
def RowAt (A off N cap e:Nat) (v:Value):Prop:=∃ad,v= .slice ad (N-e) (cap-e)∧(e<N→ad=some ⟨A,off+e*5,none⟩)
theorem RowAt.next {A off N cap e:Nat} {v:Value} (h:RestV A (off+e*5) (N-e) (cap-e) v):RowAt A off N cap (e+1) v:=by
 obtain⟨ad,h1,h2⟩:=h;exact⟨ad,by rw[h1,Nat.sub_sub,Nat.sub_sub],fun he=>by rw[h2 (by omega),show off+e*5+5=off+(e+1)*5 by omega]⟩
def rdF (Q:QD):Nat→Nat→Int→Int→Int→Option Nat
 | 0,_,_,_,_=>none
 | d+1,at_,x,y,s=>qrd Q d at_ x y s
theorem rdF_no {Q:QD} {f at_:Nat} {x y s:Int} (h:baseB Q at_ x y s=false):rdF Q f at_ x y s=none:=by
 match f with
 | 0=>rfl
 | 1=>
  show qrd Q 0 at_ x y s=none;unfold qrd;rw[if_neg (fun e=>by rw[h] at e;cases e.1)]
 | d+2=>
  show qrd Q (d+1) at_ x y s=none;unfold qrd;rw[if_neg (by rw[h];decide)]
theorem rdF_leaf {Q:QD} {d at_:Nat} {x y s:Int} (h:baseB Q at_ x y s=true) (hT:Q.T at_=false):rdF Q (d+1) at_ x y s=if leafB Q at_ x y s=true then some (at_+1) else none:=by
 match d with
 | 0=>
  show qrd Q 0 at_ x y s=_;unfold qrd
  by_cases e:leafB Q at_ x y s=true
  · rw[if_pos e,if_pos ⟨h,hT,e⟩]
  · rw[if_neg e,if_neg (fun k=>e k.2.2)]
 | d+1=>
  show qrd Q (d+1) at_ x y s=_;unfold qrd;rw[if_pos h,if_neg (by rw[hT];decide)]
theorem rdF_split {Q:QD} {d at_:Nat} {x y s:Int} (h:baseB Q at_ x y s=true) (hT:Q.T at_=true):rdF Q (d+1) at_ x y s=if Q.L at_=0 then kp (fun a x y=>rdF Q d a x y (s / 2)) (at_+1) x y (s / 2) 4 else none:=by
 match d with
 | 0=>
  have hk:kp (fun a x y=>rdF Q 0 a x y (s / 2)) (at_+1) x y (s / 2) 4=none:=by
   show(kp (fun a x y=>rdF Q 0 a x y (s / 2)) (at_+1) x y (s / 2) 3).bind (fun _=>none)=none;cases kp (fun a x y=>rdF Q 0 a x y (s / 2)) (at_+1) x y (s / 2) 3<;>rfl
  rw[hk];show qrd Q 0 at_ x y s=_;unfold qrd;rw[if_neg (fun e=>by rw[hT] at e;cases e.2.1)]
  split<;>rfl
 | d+1=>
  show qrd Q (d+1) at_ x y s=_;rw[show qrd Q (d+1) at_ x y s=if baseB Q at_ x y s=true then(if Q.T at_=true then(if Q.L at_=0 then kp (fun a x y=>qrd Q d a x y (s / 2)) (at_+1) x y (s / 2) 4 else none) else if leafB Q at_ x y s=true then some (at_+1) else none) else none from rfl,if_pos h,if_pos hT]
  rfl
def ReadP (Q:QD) (f at_:Nat) (x y s lv:Int) (A off cap g:Nat) (w:World) (r:Ending) (w' :World):Prop:=
 ∃v b,r= .returned (.tuple #[v,.bool b])∧b=(rdF Q f at_ x y s).isSome∧(∀e,rdF Q f at_ x y s=some e→e≤Q.N∧RowAt A off Q.N cap e v)∧w.grownBy w' (some g)∧∀e,rdF Q f at_ x y s=some e→STr (okB g w.heap.size) w' (trQ Q (f-1) at_ x y s) x y s lv g
theorem trQ_leafQ {Q:QD} {d at_:Nat} {x y s:Int} (hT:Q.T at_=false):trQ Q d at_ x y s= .leaf (blL Q at_):=by
 cases d with
 | zero=>rfl
 | succ d=>unfold trQ;rw[if_neg (by rw[hT];decide)]
theorem ownQ_base {w:World} {base n:Nat} {e:TypeId} {size:Nat} {v:Value} {xs:List Value} (h:w.ownsRow base e size v n xs):w.ownsRow 0 e size v n xs:=by
 rcases h with ⟨k0,k1 | ⟨k2,k3,k4,k5,k6,k7⟩⟩
 · exact⟨k0,.inl k1⟩
 · exact⟨k0,.inr ⟨k2,k3,k4,k5,Nat.zero_le _,k7⟩⟩
theorem idL_len (Q:QD) (l:List Nat):(idL Q l).length=l.length:=by simp[idL]
theorem kp_prev {f:Nat→Int→Int→Option Nat} {at_:Nat} {x y h:Int}:∀(j k e:Nat),kp f at_ x y h (k+j)=some e→∃a,kp f at_ x y h k=some a
 | 0,k,e,h0=>⟨e,h0⟩
 | j+1,k,e,h0=>by
  obtain⟨b,h1,_⟩:=Option.bind_eq_some_iff.1 (show(kp f at_ x y h (k+j)).bind _=some e from h0);exact kp_prev j k b h1
def kidT (Q:QD) (d at_:Nat) (x y hf:Int) (j:Nat):QT:=trQ Q (d-1) ((kp (fun a x y=>rdF Q d a x y hf) (at_+1) x y hf j).getD 0) (kX x hf j) (kY y hf j) hf
def KidS (T:Nat→QT) (x y hf lv:Int) (gs:Nat→Nat) (base:Nat) (w:World) (k:Nat) (oks:Nat→Nat→Prop):Prop:=
 (∀j,j<k→STr (oks j) w (T j) (kX x hf j) (kY y hf j) hf (lv+1) (gs j))∧(∀j b,j<k→oks j b→b=gs j∨(base≤b∧b<w.heap.size))∧∀i j b,i<k→j<k→i≠j→oks i b→¬oks j b
def okM (oks:Nat→Nat→Prop) (k g b0 b1 j b:Nat):Prop:=(j=k∧(b=g∨b0≤b)∧b<b1)∨(j≠k∧oks j b)
theorem KidS.more {T:Nat→QT} {x y hf lv:Int} {gs:Nat→Nat} {base:Nat} {w w' :World} {k:Nat} {oks:Nat→Nat→Prop} (h:KidS T x y hf lv gs base w k oks) (hg:w.grownBy w' (some (gs k))) (hbw:base≤w.heap.size) (hn:STr (okB (gs k) w.heap.size) w' (T k) (kX x hf k) (kY y hf k) hf (lv+1) (gs k)) (hk:gs k<base) (hb:∀i,i<k→gs i<base) (hne:∀i,i<k→gs i≠gs k):∃oks',KidS T x y hf lv gs base w' (k+1) oks' :=by
 obtain⟨h1,h2,h3⟩:=h;have hz:=hg.size;refine⟨okM oks k (gs k) w.heap.size w'.heap.size,fun j hj=>?_,fun j b hj hjb=>?_,fun i j b hi hj hij hib hjb=>?_⟩
 · by_cases e:j=k
   · subst e;exact STr.keep (Nat.le_refl _) (fun _ _ _=>rfl) (fun b hb hl=> .inl ⟨rfl,hb,hl⟩) hn
   · refine STr.keep hz (fun b hb2 hl=>hg.block b hl (fun e2=>?_)) (fun b hb2 _=> .inr ⟨e,hb2⟩) (h1 j (by omega));have e3:=Option.some.inj e2
     rcases h2 j b (by omega) hb2 with e4 | e4
     · exact hne j (by omega) (by rw[←e4];exact e3)
     · omega
 · rcases hjb with ⟨e,e4 | e4,e5⟩ | ⟨e,hjb⟩
   · rw[e];exact .inl e4
   · exact .inr ⟨by omega,e5⟩
   · rcases h2 j b (by omega) hjb with e4 | e4
     · exact .inl e4
     · exact .inr ⟨e4.1,by omega⟩
 · rcases hib with ⟨e,e5,e6⟩ | ⟨e,hib⟩<;>rcases hjb with ⟨e',e7,e8⟩ | ⟨e',hjb⟩
   · omega
   · have h8:=hne j (by omega);have h9:=hb j (by omega)
     rcases h2 j b (by omega) hjb with e4 | e4<;>rcases e5 with e5 | e5<;>first | omega | exact h8 (by rw[←e4,←e5])
   · have h8:=hne i (by omega);have h9:=hb i (by omega)
     rcases h2 i b (by omega) hib with e4 | e4<;>rcases e7 with e7 | e7<;>first | omega | exact h8 (by rw[←e4,←e7])
   · exact h3 i j b (by omega) (by omega) hij hib hjb
theorem trQ_nodeQ {Q:QD} {d at_:Nat} {x y s:Int} {e:Nat} (hT:Q.T at_=true) (h:kp (fun a x y=>rdF Q d a x y (s / 2)) (at_+1) x y (s / 2) 4=some e):∃K,trQ Q d at_ x y s= .node K∧∀k,k<4→K k=kidT Q d at_ x y (s / 2) k:=by
 cases d with
 | zero=>
  obtain⟨a,h1⟩:=kp_prev 3 1 e h;obtain⟨b,_,h2⟩:=Option.bind_eq_some_iff.1 (show(kp (fun a x y=>rdF Q 0 a x y (s / 2)) (at_+1) x y (s / 2) 0).bind _=some a from h1);cases h2
 | succ d=>
  refine⟨_,by unfold trQ;rw[if_pos hT],fun k hk=>?_⟩;obtain⟨a,h1⟩:=kp_prev (4-k) k e (by rw[show k+(4-k)=4 by omega];exact h);unfold kidT;rw[h1];have h2:=((kp_both (f:=fun a x y=>qrd Q d a x y (s / 2)) (g:=fun a x y=>mrd Q d a x y (s / 2)) (r:=fun a x y=>rtB Q d a x y (s / 2)) (fun a x y e=>qrd_both Q d a x y (s / 2) e) (at_+1) x y (s / 2) k a).1 h1).1
  try dsimp only
  rw[h2]
  rfl
theorem ItIn.grown {Q:QD} {w w' :World} {ao:Option Addr} {l:List Nat} {g:Nat} (h:ItIn Q w ao l) (hg:w.grownBy w' (some g)) (hne:∀A o sp,ao=some ⟨A,o,sp⟩→A≠g):ItIn Q w' ao l:=fun j i hj=>by
 obtain⟨A,o,e,hA,c0,c1,c2,c3,c4⟩:=h j i hj;have hb:∀k,w'.cell? ⟨A,k,none⟩=w.cell? ⟨A,k,none⟩:=fun k=>World.cell?_of_block (w:=w) (a:=⟨A,k,none⟩) (hg.block A hA (fun e2=>hne A o none e (Option.some.inj e2)));exact⟨A,o,e,Nat.lt_of_lt_of_le hA hg.size,(hb _).trans c0,(hb _).trans c1,(hb _).trans c2,(hb _).trans c3,(hb _).trans c4⟩
theorem grown_below {wb w w' :World} {g:Nat} (hB:Below wb.heap.size wb w) (hg:w.grownBy w' (some g)) (hgb:wb.heap.size≤g):Below wb.heap.size wb w' :=hB.grown hg hB.size (fun k hk=>by have:=Option.some.inj hk;omega)
theorem grown_trans {w w1 w2:World} {row:Option Nat} (h:w.grownBy w1 row) (k:w1.grownBy w2 row):w.grownBy w2 row:=
 ⟨k.os.trans h.os,k.tape.trans h.tape,k.output.trans h.output,Nat.le_trans h.size k.size,fun j hj hne=>(k.block j (Nat.lt_of_lt_of_le hj h.size) hne).trans (h.block j hj hne)⟩
theorem grown_of {w w1:World} (hB:Below w.heap.size w w1) (row:Option Nat):w.grownBy w1 row:=⟨hB.os,hB.tape,hB.output,hB.size,fun k hk _=>hB.block k hk⟩
theorem grown_new {w w1 w2:World} {row:Option Nat} {k:Nat} (h:w.grownBy w1 row) (hk:w.heap.size≤k) (h2:w1.grownBy w2 (some k)):w.grownBy w2 row:=
 ⟨h2.os.trans h.os,h2.tape.trans h.tape,h2.output.trans h.output,Nat.le_trans h.size h2.size,fun j hj hne=>(h2.block j (Nat.lt_of_lt_of_le hj h.size) (fun e=>by have:=Option.some.inj e;omega)).trans (h.block j hj hne)⟩
theorem eqSpR (x y u v:Int) (w:World):(Op.equalIn 10000 29 (.agg #[.int .i64 x,.int .i64 y]) (.agg #[.int .i64 u,.int .i64 v])).run Tryz.prog w= .ok (decide (x=u)&&decide (y=v)) w:=by
 have u3:=Tryz.underlying2;have a3:=Tryz.isAgg2;have z3:=Tryz.sizeOf2;rw[show(10000:Nat)=9999+1 from rfl,Op.equalIn];simp only[Sem.run_bind,run_underlying Tryz.underlying29,Result.andThen_ok];go_simp
 by_cases h3:x=u
 · subst h3
   by_cases h2:y=v
   · subst h2
     simp
   · simp[h2]
 · simp[h3]
theorem read_any (Q:QD) (D A off cap:Nat) (so:Nat→Option Addr×Nat) (wb:World) (hN:Q.N≤1048576) (hcap:Q.N≤cap) (hD:D≤8) (hBl:BlIn Q wb A off so) (hLb:∀i,i<Q.N→Q.L i≤1048576) (h6:Its6 Q (List.range Q.m)) (hm:Q.m≤1048576):∀(f g:Nat) (x y s lv:Int) (at_:Nat) (rv:Value) (io:Option Addr) (ic:Nat) (its:List Nat) (w:World),lv+(f:Int)=(D:Int)+1→0≤lv→Sq x y s→BkB w g x y s lv (.slice none 0 0) (.slice none 0 0)→wb.heap.size≤g→Below wb.heap.size wb w→RowAt A off Q.N cap at_ rv→ItIn Q w io its→(∀A o sp,io=some ⟨A,o,sp⟩→A≠g)→(∀i∈its,i<Q.m)→its.length≤1048576→flQ Q its x y s=flQ Q (List.range Q.m) x y s→Calls Tryz.prog 39 #[.pointer (some ⟨g,0,none⟩),rv,.slice io its.length ic,.int .i64 (D:Int)] w (ReadP Q f at_ x y s lv A off cap g w):=by
 intro f
 induction f with
 | zero=>
  intro g x y s lv at_ rv io ic its w hlv hl0 hq B0 hgb HB hrow hS hio hit hil hfl;obtain⟨ad,rfl,had⟩:=hrow;have hlvI:(D:Int)<lv:=by omega
  have m3:=B0.c 3 rfl
  by_cases hat:at_<Q.N
  · obtain⟨n1,hn1⟩:∃n1,Q.N-at_=n1:=⟨_,rfl⟩;rw[hn1];have HN1:Hid (Q.N-at_=n1):=hn1;have h1:¬(n1:Int)=0:=by omega
    have h1e:((n1:Int)==0)=false:=by simpa using h1
    have h1b:0<n1:=by omega
    have h1c:n1≤cap-at_:=by omega
    have h1d:n1≤1048576:=by omega
    clear hn1
    go_enter Tryz.func39,Tryz.ntmps39
    clear hS hBl;go_wp2;refine bodyPost_ret (v:= .tuple #[.slice none 0 0,.bool false]) (by simp[results,Tryz.results39,go_sem]) rfl ?_;exact⟨_,_,rfl,rfl,fun e he=>(by cases he),grown_of (Below.refl _ _) _,fun e he=>(by cases he)⟩
  · have h1:Q.N-at_=0:=by omega
    rw[h1]
    go_enter Tryz.func39,Tryz.ntmps39
    clear hS hBl;go_wp2;refine bodyPost_ret (v:= .tuple #[.slice none 0 0,.bool false]) (by simp[results,Tryz.results39,go_sem]) rfl ?_;exact⟨_,_,rfl,rfl,fun e he=>(by cases he),grown_of (Below.refl _ _) _,fun e he=>(by cases he)⟩
 | succ d ih =>
  intro g x y s lv at_ rv io ic its w hlv hl0 hq B0 hgb HB hrow hS hio hit hil hfl;obtain⟨ad,rfl,had⟩:=hrow;have hlvI:lv≤(D:Int):=by omega
  have hlvJ:¬((D:Int)<lv):=by omega
  have m3:=B0.c 3 rfl
  by_cases hat:at_<Q.N
  · obtain ⟨n1,hn1⟩:∃n1,Q.N-at_=n1:=⟨_,rfl⟩;rw[hn1];have HN1:Hid (Q.N-at_=n1):=hn1;have h1:¬(n1:Int)=0:=by omega
    have h1e:((n1:Int)==0)=false:=by simpa using h1
    have h1b:0<n1:=by omega
    have h1c:n1≤cap-at_:=by omega
    have h1d:n1≤1048576:=by omega
    clear hn1;obtain rfl:=had hat;obtain⟨hA,c0,c1,c2,c3,c4,hNo⟩:=hBl.below HB at_ hat;have hgl:=B0.lt
    go_enter Tryz.func39,Tryz.ntmps39
    go_upto_region 3 with fail;refine qrA (A:=A) (ra:=off+at_*5) (n:=n1) (ca:=cap-at_) (bx:=Q.X at_) (by_:=Q.Y at_) (bz:=Q.Z at_) (bt:=Q.T at_) (bo:=(so at_).1) (bl:=Q.L at_) (bc:=(so at_).2) (Wd:=w.drew) h1b h1c h1d (Nat.le_refl _) rfl rfl c0 hA c1 hA c2 hA c3 hA c4 hA rfl ?_;rintro⟨tm,df⟩ Wz hz hdf hoff h10 h11 hBz hWz;simp only at hz hdf hoff h10;change tm.getD 10 undef= .pointer (some ⟨w.heap.size,0,none⟩) at h10;change RestV A (off+at_*5) n1 (cap-at_) (tm.getD 11 undef) at h11;rw[←HN1.out] at h11;replace h11:=RowAt.next h11;subst hdf;generalize hr1:tm.getD 11 undef=rv1 at h11;have htm:=tmps_fold [27,28,29,30,31,10,11] tm _ hz hoff;simp only[List.foldl,List.setIfInBounds_toArray,List.set_cons_zero,List.set_cons_succ,h10,hr1] at htm;clear hz hoff;generalize tm.getD 27 undef=pz0,tm.getD 28 undef=pz1,tm.getD 29 undef=pz2,tm.getD 30 undef=pz3,tm.getD 31 undef=pz4 at htm;clear h10 hr1;subst htm;have C0:Blk Wz w.heap.size [.int .i64 (Q.X at_),.int .i64 (Q.Y at_),.int .i64 (Q.Z at_),.bool (Q.T at_),.slice (so at_).1 (Q.L at_) (so at_).2]:=by
     rw[hWz];exact(((((Blk.new w.drew [.int .i64 0,.int .i64 0,.int .i64 0,.bool false,.slice none 0 0] 102 rfl).setI 0 (by decide) (.int .i64 (Q.X at_))).setI 1 (by simp) (.int .i64 (Q.Y at_))).setI 2 (by simp) (.int .i64 (Q.Z at_))).setI 3 (by simp) (.bool (Q.T at_))).setI 4 (by simp) (.slice (so at_).1 (Q.L at_) (so at_).2)
    clear hWz c0 c1 c2 c3 c4 m3;replace B0:=B0.step hBz;replace HB:=HB.trans (hBz.mono HB.size);replace hS:=hS.step hBz;have HG:w.grownBy Wz (some g):=grown_of hBz _;have hwz:=hBz.size;clear hBz;have hCl:=C0.lt;have hgz:=B0.lt;go_upto_region 4 with fail
    by_cases hxy:Q.X at_=x∧Q.Y at_=y
    · obtain ⟨hx1,hy1⟩:=hxy;refine qrC (F:=w.heap.size) (g:=g) (bx:=Q.X at_) (by_:=Q.Y at_) (bz:=Q.Z at_) (x:=x) (y:=y) (s:=s) (fun w=>by rw[eqSpR,hx1,hy1];simp) rfl rfl (C0.c 0 rfl) hCl (C0.c 1 rfl) hCl (B0.c 0 rfl) hgz (B0.c 1 rfl) hgz (C0.c 2 rfl) hCl (B0.c 2 rfl) hgz rfl ?_;rintro⟨tm,df⟩ Wy hz hdf hoff hx hBy;simp only at hz hdf hoff hx;change tm.getD 50 undef= .bool (decide (¬(Q.Z at_=s))) at hx;subst hdf;have htm:=tmps_fold [32,33,34,35,36,37,38,39,40,41,42,43,44,45,46,47,48,49,50] tm _ hz hoff;simp only[List.foldl,List.setIfInBounds_toArray,List.set_cons_zero,List.set_cons_succ,hx] at htm;clear hz hoff;generalize tm.getD 32 undef=py0,tm.getD 33 undef=py1,tm.getD 34 undef=py2,tm.getD 35 undef=py3,tm.getD 36 undef=py4,tm.getD 37 undef=py5,tm.getD 38 undef=py6,tm.getD 39 undef=py7,tm.getD 40 undef=py8,tm.getD 41 undef=py9,tm.getD 42 undef=py10,tm.getD 43 undef=py11,tm.getD 44 undef=py12,tm.getD 45 undef=py13,tm.getD 46 undef=py14,tm.getD 47 undef=py15,tm.getD 48 undef=py16,tm.getD 49 undef=py17 at htm;clear hx;subst htm;replace HG:=grown_trans HG (grown_of hBy _);replace C0:=C0.step hBy;replace B0:=B0.step hBy;replace hS:=hS.step hBy;replace HB:=HB.trans (hBy.mono HB.size);have hwy:w.heap.size<Wy.heap.size:=C0.lt;clear hBy;have h6i:Its6 Q its:=fun i hi=>h6 i (List.mem_range.2 (hit i hi))
      by_cases hzs:Q.Z at_=s
      · rw [decide_eq_false (fun h=>h hzs)];have hbase:baseB Q at_ x y s=true:=decide_eq_true ⟨hat,hx1,hy1,hzs⟩;have t3:=C0.c 3 rfl;have HBL:Hid (BlIn Q wb A off so):=hBl;clear hBl hNo;cases hT:Q.T at_ with
        | false=>
         rw[hT] at t3;have FL:=fill_any Q g x y s lv _ _ io ic its hq h6i hil Wy B0 hS;rw[hfl] at FL;clear hS B0;go_wp2_with fail;refine FL.mono ?_;rintro r w2 ⟨rfl,v2,B2,⟨ao2,c2,rfl,hN2,hz2,hlt2⟩,HO2,HG2⟩;have PT2:STr (okB g w.heap.size) w2 (.leaf (idL Q (flQ Q (List.range Q.m) x y s))) x y s lv g:=⟨.inl rfl,_,B2,by rw[idL_len,show(idL Q (flQ Q (List.range Q.m) x y s)).map (Value.int .i64)=idV Q (flQ Q (List.range Q.m) x y s) from by simp[idL,idV]];exact ownQ_base HO2,fun b e=>by have:=(HO2.lt b e).1;exact⟨.inr (by omega),by omega⟩⟩;clear HO2;clear FL t3;have C2:=C0.grown HG2 (fun e=>by have:=Option.some.inj e;omega);have HB2:=grown_below HB HG2 hgb;have hNo2:=(HBL.out.below HB2 at_ hat).2.2.2.2.2.2;replace HG:=grown_trans HG HG2;clear C0 HB HG2;go_upto_region 8 with fail;refine qrD (F:=w.heap.size) (g:=g) (n:=Q.L at_) (ca:=(so at_).2) (m:=(flQ Q (List.range Q.m) x y s).length) (cb:=c2) (ao:=(so at_).1) (co:=ao2) (ef:=Q.E at_) (ff:=fun j=>(idL Q (flQ Q (List.range Q.m) x y s)).getD j 0) (rv:=rv1) (hLb at_ hat) hNo2 hN2 rfl rfl rfl (C2.c 4 rfl) C2.lt (B2.c 4 rfl) B2.lt rfl ?_;rintro⟨tm,df⟩ Wx hz hdf hoff h8 h9 hBx;simp only at hz hdf hoff h8 h9;change tm.getD 8 undef=rv1 at h8;change tm.getD 9 undef= .bool (decide (Q.L at_=(flQ Q (List.range Q.m) x y s).length∧∀i,i<Q.L at_→Q.E at_ i=(idL Q (flQ Q (List.range Q.m) x y s)).getD i 0)) at h9;rw[leaf_eq] at h9;subst hdf;have htm:=tmps_fold [57,58,59,60,61,62,63,64,8,9] tm _ hz hoff;simp only[List.foldl,List.setIfInBounds_toArray,List.set_cons_zero,List.set_cons_succ,h8,h9] at htm;clear hz hoff;generalize tm.getD 57 undef=px0,tm.getD 58 undef=px1,tm.getD 59 undef=px2,tm.getD 60 undef=px3,tm.getD 61 undef=px4,tm.getD 62 undef=px5,tm.getD 63 undef=px6,tm.getD 64 undef=px7 at htm;clear h8 h9;subst htm;replace HG:=grown_trans HG (grown_of hBx _);have HL:=rdF_leaf (d:=d) hbase hT;have HPT:Hid (STr (okB g w.heap.size) Wx (.leaf (idL Q (flQ Q (List.range Q.m) x y s))) x y s lv g):=PT2.step hBx;have h11' :Hid (RowAt A off Q.N cap (at_+1) rv1):=h11;clear hBx C2 B2 HB2 hNo2 hN2 h11 hlt2 PT2;go_wp2;refine bodyPost_ret (v:= .tuple #[rv1,.bool (leafB Q at_ x y s)]) (by simp[results,Tryz.results39,go_sem]) rfl ?_;refine⟨_,_,rfl,?_,fun e he=>?_,HG,fun e he=>?_⟩
         · rw[HL];cases leafB Q at_ x y s<;>rfl
         · rw[HL] at he
           split at he
           · cases he;exact⟨hat,h11'.out⟩
           · cases he
         · rw[HL] at he
           split at he
           · rename_i hlf
             rw[trQ_leafQ hT,show blL Q at_=idL Q (flQ Q (List.range Q.m) x y s) from of_decide_eq_true hlf];exact HPT.out
           · cases he
        | true =>
         rw[hT] at t3;have QT:=quarters_any g x y s lv _ _ hq hl0 (by omega) Wy B0;obtain⟨hf,hhf⟩:∃hf,s / 2=hf:=⟨_,rfl⟩;rw[hhf] at QT;go_wp2_with fail;refine QT.mono ?_;rintro r w2 ⟨kv,gs,rfl,HK,hB2⟩;clear QT t3;replace C0:=C0.step hB2;replace B0:=B0.step hB2;replace hS:=hS.step hB2;replace HB:=HB.trans (hB2.mono HB.size);replace HG:=grown_trans HG (grown_of hB2 _);have hwy2:=hB2.size;clear hB2;obtain⟨kb,kc,hkv,hkb0,hkb1⟩:∃kb kc,kv= .slice (some ⟨kb,0,none⟩) 4 kc∧Wy.heap.size≤kb∧kb<w2.heap.size:=by
          rcases HK.own.2 with ⟨_,e⟩ | ⟨b,c,cur,e,hb,hg2,_⟩
          · cases e
          · exact⟨b,c,e,hb,(Array.getElem?_eq_some_iff.1 hg2).1⟩
         subst hkv;have hgw:g<w.heap.size:=hgl;have y5:=B0.c 5 rfl;have f5:=B0.f 5 rfl;have B3:BkB (w2.setCell ⟨g,5,none⟩ (.slice (some ⟨kb,0,none⟩) 4 kc)) g x y s lv (.slice none 0 0) (.slice (some ⟨kb,0,none⟩) 4 kc):=B0.setI 5 (by simp) (.slice (some ⟨kb,0,none⟩) 4 kc);have HG3:w2.grownBy (w2.setCell ⟨g,5,none⟩ (.slice (some ⟨kb,0,none⟩) 4 kc)) (some g):=grown_set (Below.refl _ _) 5 _;have C3:=C0.grown HG3 (fun e=>by have:=Option.some.inj e;omega);have hS3:=hS.grown HG3 hio;have HB3:=grown_below HB HG3 hgb;have KD:∀j,j<4→Wy.heap.size≤gs j∧gs j<w2.heap.size∧BkB (w2.setCell ⟨g,5,none⟩ (.slice (some ⟨kb,0,none⟩) 4 kc)) (gs j) (kX x hf j) (kY y hf j) hf (lv+1) (.slice none 0 0) (.slice none 0 0):=fun j hj=>⟨(HK.kid j hj).1,(HK.kid j hj).2.lt,(HK.kid j hj).2.grown HG3 (fun e=>by have:=Option.some.inj e;have:=(HK.kid j hj).1;omega)⟩;have KC:∀j,j<4→(w2.setCell ⟨g,5,none⟩ (.slice (some ⟨kb,0,none⟩) 4 kc)).cell? ⟨kb,j,none⟩=some (.pointer (some ⟨gs j,0,none⟩)):=fun j hj=>by
          have h:=HK.own.cells rfl j (.pointer (some ⟨gs j,0,none⟩)) (by unfold gpL;simp[hj]);rw[Addr.add_lit,Nat.zero_add] at h;rw[←h];exact World.cell?_of_block (w:=w2) (a:=⟨kb,j,none⟩) (HG3.block kb hkb1 (fun e=>by have:=Option.some.inj e;omega))
         have KN:∀j,j<4→gs j≠kb:=fun j hj e=>HK.d1 j hj (by rw[e];rfl);have KD2:∀i j,i<4→j<4→i≠j→gs i≠gs j:=HK.d2;replace HG:=grown_trans HG HG3;have hs3:(w2.setCell ⟨g,5,none⟩ (.slice (some ⟨kb,0,none⟩) 4 kc)).heap.size=w2.heap.size:=by simp[World.setCell]
         clear B0 C0 hS HB HK HG3;go_upto_region 10 with fail;clear y5 f5;generalize (w2.setCell ⟨g,5,none⟩ (.slice (some ⟨kb,0,none⟩) 4 kc))=w3 at *;have MT:=meeting_any Q g x y s lv _ _ io ic its hq h6i hil w3 B3 hS3;go_wp2_with fail;refine MT.mono ?_;rintro r w4 ⟨iv,rfl,HI,hB4⟩;clear MT hS3;rw[hfl] at HI;obtain⟨io2,ic2,rfl,hI⟩:=ItIn.of HI;have hio2:∀A o sp,io2=some ⟨A,o,sp⟩→w3.heap.size≤A:=fun A o sp e=>(HI.lt A (by rw[e];rfl)).1;replace B3:=B3.step hB4;replace C3:=C3.step hB4;replace HB3:=HB3.trans (hB4.mono HB3.size);replace HG:=grown_trans HG (grown_of hB4 _);have KD4:∀j,j<4→BkB w4 (gs j) (kX x hf j) (kY y hf j) hf (lv+1) (.slice none 0 0) (.slice none 0 0):=fun j hj=>(KD j hj).2.2.step hB4;have KG:∀j,j<4→Wy.heap.size≤gs j∧gs j<w2.heap.size:=fun j hj=>⟨(KD j hj).1,(KD j hj).2.1⟩;have KC4:∀j,j<4→w4.cell? ⟨kb,j,none⟩=some (.pointer (some ⟨gs j,0,none⟩)):=fun j hj=>(hB4.cell (p:=⟨kb,j,none⟩) (by show kb<w3.heap.size;omega)).trans (KC j hj);have hkb4:kb<w4.heap.size:=by have:=hB4.size;omega
         have hw42:w2.heap.size≤w4.heap.size:=by have:=hB4.size;omega
         clear KD KC HI hB4;have z4:=C3.c 4 rfl;have b5:=B3.c 5 rfl;have hLI:(Q.L at_:Int)≤1048576:=by have:=hLb at_ hat;omega
         generalize hinl:flQ Q (List.range Q.m) x y s=inl at hI⊢;have HIN:Hid (flQ Q (List.range Q.m) x y s=inl):=hinl;clear hinl hfl;go_wp2_with fail
         go_loopw [11,13,82] (fun rr okv i wr=>∃(k:Nat) (b:Bool),k≤4∧i= .int .i64 k∧okv= .bool b∧b=(decide (Q.L at_=0)&&(kp (fun a x y=>rdF Q d a x y hf) (at_+1) x y hf k).isSome)∧(∀e,kp (fun a x y=>rdF Q d a x y hf) (at_+1) x y hf k=some e→Q.L at_=0→e≤Q.N∧RowAt A off Q.N cap e rr)∧(∀j,k≤j→j<4→BkB wr (gs j) (kX x hf j) (kY y hf j) hf (lv+1) (.slice none 0 0) (.slice none 0 0))∧(∀j,j<4→wr.cell? ⟨kb,j,none⟩=some (.pointer (some ⟨gs j,0,none⟩)))∧kb<wr.heap.size∧ItIn Q wr io2 inl∧w.grownBy wr (some g)∧Below wb.heap.size wb wr∧BkB wr g x y s lv (.slice none 0 0) (.slice (some ⟨kb,0,none⟩) 4 kc)∧w4.heap.size≤wr.heap.size∧∀e,kp (fun a x y=>rdF Q d a x y hf) (at_+1) x y hf k=some e→Q.L at_=0→∃oks,KidS (kidT Q d at_ x y hf) x y hf lv gs w4.heap.size wr k oks) (fun _ _ i _=>4-(intOf i).toNat)
         case atStart=>
          refine⟨0,decide (Q.L at_=0),by omega,rfl,?_,by simp[kp],fun e he _=>?_,fun j _ hj=>KD4 j hj,KC4,hkb4,hI,HG,HB3,B3,Nat.le_refl _,fun e _ _=>⟨fun _ _=>False,fun j hj=>absurd hj (by omega),fun j b hj=>absurd hj (by omega),fun i j b hi=>absurd hi (by omega)⟩⟩
          · first | rfl | (congr 1;rw[Bool.eq_iff_iff];simp)
          · cases he;exact⟨hat,h11⟩
         case round=>
          clear KD4 KC4 hkb4 hI HG HB3 B3 C3 z4 b5 h11;obtain⟨k,b,hk,rfl,rfl,hb,hrw,KDk,KCk,hkbk,hIk,HGk,HBk,B3k,hw4k,PTk⟩:=hrel;have HPTk:Hid (∀e,kp (fun a x y=>rdF Q d a x y hf) (at_+1) x y hf k=some e→Q.L at_=0→∃oks,KidS (kidT Q d at_ x y hf) x y hf lv gs w4.heap.size wr k oks):=PTk;clear PTk
          by_cases hk4:k<4
          · have hkI:(k:Int)<4:=by omega
            have ck:=KCk k hk4;have hkg:=KG k hk4;cases b with
            | false=>
             have hkn:Q.L at_=0→kp (fun a x y=>rdF Q d a x y hf) (at_+1) x y hf (k+1)=none:=fun e=>by
              rw[decide_eq_true e,Bool.true_and] at hb;show(kp (fun a x y=>rdF Q d a x y hf) (at_+1) x y hf k).bind _=none;cases h:kp (fun a x y=>rdF Q d a x y hf) (at_+1) x y hf k with
              | none=>rfl
              | some e0=>rw[h] at hb;cases hb
             have HbN:Hid (false=(decide (Q.L at_=0)&&(kp (fun a x y=>rdF Q d a x y hf) (at_+1) x y hf (k+1)).isSome)):=by
              show _=_
              by_cases e:Q.L at_=0
              · rw[hkn e];simp
              · rw[decide_eq_false e];rfl
             have HrN:Hid (∀e,kp (fun a x y=>rdF Q d a x y hf) (at_+1) x y hf (k+1)=some e→Q.L at_=0→e≤Q.N∧RowAt A off Q.N cap e u11):=fun e he hl=>by rw[hkn hl] at he;cases he
             have KDN:Hid (∀j,k+1≤j→j<4→BkB wr (gs j) (kX x hf j) (kY y hf j) hf (lv+1) (.slice none 0 0) (.slice none 0 0)):=fun j h1 h2=>KDk j (by omega) h2;have HK2:Hid (∀j,j<4→wr.cell? ⟨kb,j,none⟩=some (.pointer (some ⟨gs j,0,none⟩))):=KCk;have HPN:Hid (∀e,kp (fun a x y=>rdF Q d a x y hf) (at_+1) x y hf (k+1)=some e→Q.L at_=0→∃oks,KidS (kidT Q d at_ x y hf) x y hf lv gs w4.heap.size wr (k+1) oks):=fun e he hl=>by rw[hkn hl] at he;cases he
             clear hkn hb hrw KDk KCk ih KD2 KN KG;go_wp2;go_roundw
             case rel=>exact⟨k+1,false,by omega,by go_num,rfl,HbN.out,HrN.out,KDN.out,HK2.out,hkbk,hIk,HGk,HBk,B3k,hw4k,HPN.out⟩
             case measure=>simp[intOf];omega
            | true=>
             have hL0:Hid (Q.L at_=0):=by
              show _=_
              apply Classical.byContradiction
              intro e;rw[decide_eq_false e] at hb;cases hb
             obtain⟨e0,he0⟩:∃e,kp (fun a x y=>rdF Q d a x y hf) (at_+1) x y hf k=some e:=by
              cases h:kp (fun a x y=>rdF Q d a x y hf) (at_+1) x y hf k with
              | none=>rw[h,decide_eq_true hL0.out] at hb;cases hb
              | some e=>exact⟨e,rfl⟩
             obtain⟨_,hrow0⟩:=hrw e0 he0 hL0.out;have hkp:kp (fun a x y=>rdF Q d a x y hf) (at_+1) x y hf (k+1)=rdF Q d e0 (kX x hf k) (kY y hf k) hf:=by show(kp (fun a x y=>rdF Q d a x y hf) (at_+1) x y hf k).bind _=_;rw[he0];rfl
             have hsq:Sq (kX x hf k) (kY y hf k) hf:=by
              have q1:=hq.x1;have q2:=hq.y1;have q3:=hq.s1;have q4:=hq.x2;have q5:=hq.y2;have hi:=kid_in (x:=x) (y:=y) hq.s1 hk4;rw[hhf] at hi;exact⟨by omega,by omega,by omega,by omega,by omega⟩
             have hiog:∀A o sp,io2=some ⟨A,o,sp⟩→A≠gs k:=fun A o sp e=>by have:=hio2 A o sp e;omega
             have RD:=ih (gs k) (kX x hf k) (kY y hf k) hf (lv+1) e0 u11 io2 ic2 inl wr (by omega) (by omega) hsq (KDk k (Nat.le_refl _) hk4) (by omega) HBk hrow0 hIk hiog (fun i hi=>by
              rw[←HIN.out] at hi;exact List.mem_range.1 (List.mem_filter.1 hi).1) (by
              rw[←HIN.out];exact Nat.le_trans (List.length_filter_le _ _) (by rw[List.length_range];exact hm)) (by
              rw[←HIN.out,←hhf];exact fl_kid hq.s1 hk4 _)
             have HKD:Hid (∀j,k≤j→j<4→BkB wr (gs j) (kX x hf j) (kY y hf j) hf (lv+1) (.slice none 0 0) (.slice none 0 0)):=KDk;have HKC:Hid (∀j,j<4→wr.cell? ⟨kb,j,none⟩=some (.pointer (some ⟨gs j,0,none⟩))):=KCk;have HKN:Hid (∀j,j<4→gs j≠kb):=KN;have HKD2:Hid (∀i j,i<4→j<4→i≠j→gs i≠gs j):=KD2;have HKG:Hid (∀j,j<4→Wy.heap.size≤gs j∧gs j<w2.heap.size):=KG;clear hb hrw KDk KCk ih KD2 KN KG;go_wp2_with fail;refine RD.mono ?_;rintro r w5 ⟨v5,b5',rfl,hb5,hr5,HGr,hpt5⟩;have KDN:Hid (∀j,k+1≤j→j<4→BkB w5 (gs j) (kX x hf j) (kY y hf j) hf (lv+1) (.slice none 0 0) (.slice none 0 0)):=fun j h1 h2=>(HKD.out j (by omega) h2).grown HGr (fun e=>HKD2.out j k h2 hk4 (by omega) (Option.some.inj e));have KCN:Hid (∀j,j<4→w5.cell? ⟨kb,j,none⟩=some (.pointer (some ⟨gs j,0,none⟩))):=fun j hj=>(World.cell?_of_block (w:=wr) (a:=⟨kb,j,none⟩) (HGr.block kb hkbk (fun e=>HKN.out k hk4 (Option.some.inj e).symm))).trans (HKC.out j hj);have hIN:=hIk.grown HGr hiog;have HGN:w.grownBy w5 (some g):=grown_new HGk (by omega) HGr;have HBN:=grown_below HBk HGr (by omega);have hkbN:=Nat.lt_of_lt_of_le hkbk HGr.size;have HbN:Hid (b5' =(decide (Q.L at_=0)&&(kp (fun a x y=>rdF Q d a x y hf) (at_+1) x y hf (k+1)).isSome)):=by show _=_;rw[hkp,decide_eq_true hL0.out,Bool.true_and];exact hb5
             have HrN:Hid (∀e,kp (fun a x y=>rdF Q d a x y hf) (at_+1) x y hf (k+1)=some e→Q.L at_=0→e≤Q.N∧RowAt A off Q.N cap e v5):=fun e he _=>by rw[hkp] at he;exact hr5 e he
             have B3N:=B3k.grown HGr (fun e=>by have:=Option.some.inj e;have:=(HKG.out k hk4).1;omega);have hw4N:=Nat.le_trans hw4k HGr.size;have HPN:Hid (∀e,kp (fun a x y=>rdF Q d a x y hf) (at_+1) x y hf (k+1)=some e→Q.L at_=0→∃oks,KidS (kidT Q d at_ x y hf) x y hf lv gs w4.heap.size w5 (k+1) oks):=fun e he hl=>by
              obtain⟨oks,hks⟩:=HPTk.out e0 he0 hl;rw[hkp] at he;have h5:=hpt5 e he;refine hks.more HGr hw4k (by unfold kidT;rw[he0];exact h5) (by have:=(HKG.out k hk4).2;omega) (fun i hi=>by have:=(HKG.out i (by omega)).2;omega) (fun i hi=>HKD2.out i k (by omega) hk4 (by omega))
             have HKN2:Hid (∀i j,i<4→j<4→i≠j→gs i≠gs j):=HKD2;clear RD HGr hb5 hr5 hkp he0 hrow0 hIk HGk HBk ck hpt5 B3k hw4k HPTk;go_wp2;go_roundw
             case rel=>exact⟨k+1,b5',by omega,by go_num,rfl,HbN.out,HrN.out,KDN.out,KCN.out,hkbN,hIN,HGN,HBN,B3N,hw4N,HPN.out⟩
             case measure=>simp[intOf];omega
          · obtain rfl:k=4:=by omega
            have HS4:=rdF_split (d:=d) hbase hT;rw[hhf] at HS4;have hb' :Hid (b=(rdF Q (d+1) at_ x y s).isSome):=by
             show _=_;rw[HS4,hb]
             by_cases e:Q.L at_=0
             · rw[if_pos e,decide_eq_true e,Bool.true_and]
             · rw[if_neg e,decide_eq_false e];rfl
            have hr' :Hid (∀e,rdF Q (d+1) at_ x y s=some e→e≤Q.N∧RowAt A off Q.N cap e u11):=fun e he=>by
             rw[HS4] at he
             split at he
             · rename_i h;exact hrw e he h
             · cases he
            have HPF:Hid (∀e,rdF Q (d+1) at_ x y s=some e→STr (okB g w.heap.size) wr (trQ Q (d+1-1) at_ x y s) x y s lv g):=fun e he=>by
             rw[HS4] at he
             split at he
             · rename_i hl
               obtain⟨K,h1,h2⟩:=trQ_nodeQ (s:=s) hT (by rw[hhf];exact he);rw[Nat.add_sub_cancel,h1];obtain⟨oks,hk1,hk2,hk3⟩:=HPTk.out e he hl;refine⟨.inl rfl,kb,kc,gs,oks,B3k,hkbk,.inr (by omega),by omega,fun j b hj hb=>?_,hk3,fun j hj=>⟨KCk j hj,?_⟩⟩
               · have h8:=(KG j hj).1;have h9:=KN j hj
                 rcases hk2 j b hj hb with h | ⟨h,_⟩
                 · subst h;exact⟨.inr (by omega),by omega,h9⟩
                 · exact⟨.inr (by omega),by omega,by omega⟩
               · rw[h2 j hj,hhf];exact hk1 j hj
             · cases he
            clear hb hrw KDk KCk ih KD2 KN KG HS4;go_wp2;refine bodyPost_ret (v:= .tuple #[u11,.bool b]) (by simp[results,Tryz.results39,go_sem]) rfl ?_;exact⟨_,_,rfl,hb'.out,hr'.out,HGk,HPF.out⟩
      · rw[decide_eq_true hzs];have hno:rdF Q (d+1) at_ x y s=none:=rdF_no (decide_eq_false (fun h=>hzs h.2.2.2));clear C0 B0 HB hS hBl;go_wp2;refine bodyPost_ret (v:= .tuple #[.slice none 0 0,.bool false]) (by simp[results,Tryz.results39,go_sem]) rfl ?_;exact⟨_,_,rfl,by rw[hno];rfl,(fun e he=>by rw[hno] at he;cases he),HG,(fun e he=>by rw[hno] at he;cases he)⟩
    · have hno:rdF Q (d+1) at_ x y s=none:=rdF_no (decide_eq_false (fun h=>hxy ⟨h.2.1,h.2.2.1⟩));refine qrB (F:=w.heap.size) (g:=g) (bx:=Q.X at_) (by_:=Q.Y at_) (x:=x) (y:=y) (fun w=>by
       rw[eqSpR]
       congr 1
       refine Bool.eq_false_iff.2 fun hh=>hxy ?_
       simpa using hh) rfl rfl (C0.c 0 rfl) hCl (C0.c 1 rfl) hCl (B0.c 0 rfl) hgz (B0.c 1 rfl) hgz rfl ?_
      rintro⟨tm,df⟩ Wy hz hdf hoff hx hBy;simp only at hz hdf hoff hx;change tm.getD 50 undef= .bool true at hx;subst hdf;have htm:=tmps_fold [32,33,34,35,36,37,38,39,40,41,42,43,44,45,46,47,48,49,50] tm _ hz hoff;simp only[List.foldl,List.setIfInBounds_toArray,List.set_cons_zero,List.set_cons_succ,hx] at htm;clear hz hoff;generalize tm.getD 32 undef=py0,tm.getD 33 undef=py1,tm.getD 34 undef=py2,tm.getD 35 undef=py3,tm.getD 36 undef=py4,tm.getD 37 undef=py5,tm.getD 38 undef=py6,tm.getD 39 undef=py7,tm.getD 40 undef=py8,tm.getD 41 undef=py9,tm.getD 42 undef=py10,tm.getD 43 undef=py11,tm.getD 44 undef=py12,tm.getD 45 undef=py13,tm.getD 46 undef=py14,tm.getD 47 undef=py15,tm.getD 48 undef=py16,tm.getD 49 undef=py17 at htm;clear hx;subst htm;replace HG:=grown_trans HG (grown_of hBy _);clear hBy C0 B0 HB hS hBl;go_wp2;refine bodyPost_ret (v:= .tuple #[.slice none 0 0,.bool false]) (by simp[results,Tryz.results39,go_sem]) rfl ?_;exact⟨_,_,rfl,by rw[hno];rfl,(fun e he=>by rw[hno] at he;cases he),HG,(fun e he=>by rw[hno] at he;cases he)⟩
  · have h1:Q.N-at_=0:=by omega
    rw[h1];have hno:rdF Q (d+1) at_ x y s=none:=rdF_no (decide_eq_false (fun h=>hat h.1))
    go_enter Tryz.func39,Tryz.ntmps39
    clear hS hBl;go_wp2;refine bodyPost_ret (v:= .tuple #[.slice none 0 0,.bool false]) (by simp[results,Tryz.results39,go_sem]) rfl ?_;exact⟨_,_,rfl,by rw[hno];rfl,(fun e he=>by rw[hno] at he;cases he),grown_of (Below.refl _ _) _,(fun e he=>by rw[hno] at he;cases he)⟩
end Go.Proofs.YthelolpogdcmhaaGreat
