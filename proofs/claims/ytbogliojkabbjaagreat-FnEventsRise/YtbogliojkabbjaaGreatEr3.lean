/- Part 3 of the walks that the proof leans on. -/
import Derived.Test.YtbogliojkabbjaaGreatEr2
import Derived.Test.YtbogliojkabbjaaGreatEr1
import Derived.Deep.LoopGhost
import Derived.WalkMore
import Derived.Deep.RegionHeld3
set_option maxRecDepth 100000
set_option maxHeartbeats 16000000
namespace Go.Proofs.YtbogliojkabbjaaGreat
open Go.RowKit
structure MkX (w wr:World) (gx g gp:Nat) (xs:List Int) (vs:List Value) (zs:List Int):Prop where
 m:Mk w wr g gp vs zs
 x:Blk wr gx (xs.map (Value.int .u64))
theorem MkX.drewN {w wr:World} {gx g gp:Nat} {xs:List Int} {vs:List Value} {zs:List Int} (h:MkX w wr gx g gp xs vs zs) (n:Nat):MkX w (wr.drewN n) gx g gp xs vs zs:=⟨h.m.drewN n,h.x⟩
theorem MkX.drew {w wr:World} {gx g gp:Nat} {xs:List Int} {vs:List Value} {zs:List Int} (h:MkX w wr gx g gp xs vs zs):MkX w wr.drew gx g gp xs vs zs:=⟨h.m.drew,h.x⟩
theorem MkX.set {w wr:World} {gx g gp:Nat} {xs:List Int} {vs:List Value} {zs:List Int} (h:MkX w wr gx g gp xs vs zs) (hx:gx≠gp) (hne:g≠gp) (hg:w.heap.size≤gp) (j:Nat) (hj:j<zs.length) (u:Int):MkX w (wr.setCell ⟨gp,j,none⟩ (.int .u64 u)) gx g gp xs vs (zs.set j u):=⟨h.m.set hne hg j hj u,h.x.setO hx _⟩
theorem MkX.cx {w wr:World} {gx g gp:Nat} {xs:List Int} {vs:List Value} {zs:List Int} (h:MkX w wr gx g gp xs vs zs) (j:Nat) (hj:j<xs.length):wr.cell? ⟨gx,j,none⟩=some (.int .u64 xs[j]):=h.x.c j (by simp[hj])
theorem words_zero (n:Nat):Words (List.replicate n 0):=by
 intro d hd;rw[List.eq_of_mem_replicate hd];exact⟨by decide,by decide⟩
theorem liftDown_any (us:List Int) (r:Nat) (m:Int) (hl:us.length=9) (hx:Words us) (hr:r<64) (hm:val64 us=2 ^ r*m) (hb:m<pw64 8) (w:World):Calls Tryz.prog 106 #[agg us,.int .i64 r] w (AggP 8 m w):=by
 have HL:Hid (us.length=9):=hl;have HX:Hid (Words us):=hx;have HM:Hid (val64 us=2 ^ r*m):=hm;have HBD:Hid (m<pw64 8):=hb;obtain⟨x0,x1,x2,x3,x4,x5,x6,x7,x8,hxs⟩:=list9 hl;have HA:agg us= .agg #[.int .u64 x0,.int .u64 x1,.int .u64 x2,.int .u64 x3,.int .u64 x4,.int .u64 x5,.int .u64 x6,.int .u64 x7,.int .u64 x8]:=by rw[hxs];rfl
 have AX:us.map (Value.int .u64)=[.int .u64 x0,.int .u64 x1,.int .u64 x2,.int .u64 x3,.int .u64 x4,.int .u64 x5,.int .u64 x6,.int .u64 x7,.int .u64 x8]:=by rw[hxs];rfl
 rw[HA];have HS:MkX w (((w.alloc (.cells #[.int .u64 x0,.int .u64 x1,.int .u64 x2,.int .u64 x3,.int .u64 x4,.int .u64 x5,.int .u64 x6,.int .u64 x7,.int .u64 x8] 139)).alloc (.cells #[.int .u64 0,.int .u64 0,.int .u64 0,.int .u64 0,.int .u64 0,.int .u64 0,.int .u64 0,.int .u64 0] 88)).alloc (.cells #[.int .u64 0,.int .u64 0,.int .u64 0,.int .u64 0,.int .u64 0,.int .u64 0,.int .u64 0,.int .u64 0] 88)) w.heap.size (w.heap.size+1) (w.heap.size+1+1) us (List.replicate 8 (.int .u64 0)) (List.replicate 8 0):=
  ⟨⟨(((Below.refl _ _).alloc (Nat.le_refl _) _).alloc (by simp) _).alloc (by simp;omega) _,(Blk.new _ [.int .u64 0,.int .u64 0,.int .u64 0,.int .u64 0,.int .u64 0,.int .u64 0,.int .u64 0,.int .u64 0] _ (by simp)).alloc _,Blk.new _ [.int .u64 0,.int .u64 0,.int .u64 0,.int .u64 0,.int .u64 0,.int .u64 0,.int .u64 0,.int .u64 0] _ (by simp)⟩,by rw[AX];exact((Blk.new w _ _ rfl).alloc _).alloc _⟩
 clear hl hx HA hxs AX hm hb;have HI:=ld_start us (List.replicate 8 0) r rfl (words_zero 8)
 go_enter Tryz.func106,Tryz.ntmps106
 go_wp2;generalize (((w.alloc (.cells #[.int .u64 x0,.int .u64 x1,.int .u64 x2,.int .u64 x3,.int .u64 x4,.int .u64 x5,.int .u64 x6,.int .u64 x7,.int .u64 x8] 139)).alloc (.cells #[.int .u64 0,.int .u64 0,.int .u64 0,.int .u64 0,.int .u64 0,.int .u64 0,.int .u64 0,.int .u64 0] 88)).alloc (.cells #[.int .u64 0,.int .u64 0,.int .u64 0,.int .u64 0,.int .u64 0,.int .u64 0,.int .u64 0,.int .u64 0] 88))=W at *
 go_loopw [7] (fun i wr=>∃(k:Nat) (zs:List Int),k≤8∧i= .int .i64 k∧LdI us zs r k∧MkX w wr w.heap.size (w.heap.size+1) (w.heap.size+1+1) us (List.replicate 8 (.int .u64 0)) zs) (fun i _=>8-(intOf i).toNat)
 case atStart=>exact⟨0,_,by omega,rfl,HI,HS⟩
 case round=>
  clear HI HS;obtain⟨k,zs,hk,rfl,hI,hM⟩:=hrel;have hlen:=hI.len
  by_cases hk8:k<8
  · have hkx:k<us.length:=by have:=HL.out;omega
    have hkx1:k+1<us.length:=by have:=HL.out;omega
    have hz:k<zs.length:=by omega
    have q0:=hM.cx k hkx;have q3:=hM.cx (k+1) hkx1;obtain⟨q1,q2⟩:=hM.m.cp k hz;obtain⟨z0,z1,z2⟩:=ld_words hkx hkx1 hr HX.out;obtain⟨u,hu⟩:∃u,u=us[k] / 2 ^ r+(us[k+1]*2 ^ (64-r))%18446744073709551616:=⟨_,rfl⟩;have hor:bits .or .u64 (us[k] / 2 ^ r) (IntKind.u64.wrap (us[k+1]*2 ^ (64-r)))=u:=by rw[hu];exact or_shl64 _ _ _ (by omega) z0 z1
    have R1:=ld_step hI hkx hkx1 hr HX.out hz u hu;have M1:=hM.set (by omega) (by omega) (by omega) k hz u;have hkI:(k:Int)<8:=by omega
    have hkJ:(k:Int)<9:=by omega
    have hkK:(k:Int)+1<9:=by omega
    clear hI hM z0 z1 z2 hu hlen;go_wp2
    go_region
    go_wp2;go_roundw
    case rel=>exact⟨k+1,_,by omega,by go_num,R1,by first | exact M1 | exact M1.drew⟩
    case measure=>simp[intOf];omega
  · obtain rfl:k=8:=by omega
    have HV:=ld_end hI HL.out HX.out HM.out HBD.out;have HW:=hI.wds;replace hM:=hM.m;obtain⟨z0,z1,z2,z3,z4,z5,z6,z7,rfl⟩:=list8' hlen;obtain⟨c0,f0⟩:=hM.cp 0 (by simp);obtain⟨c1,f1⟩:=hM.cp 1 (by simp);obtain⟨c2,f2⟩:=hM.cp 2 (by simp);obtain⟨c3,f3⟩:=hM.cp 3 (by simp);obtain⟨c4,f4⟩:=hM.cp 4 (by simp);obtain⟨c5,f5⟩:=hM.cp 5 (by simp);obtain⟨c6,f6⟩:=hM.cp 6 (by simp);obtain⟨c7,f7⟩:=hM.cp 7 (by simp);have d0:=hM.r.c 0 rfl;have e0:=hM.r.f 0 rfl;have d1:=hM.r.c 1 rfl;have e1:=hM.r.f 1 rfl;have d2:=hM.r.c 2 rfl;have e2:=hM.r.f 2 rfl;have d3:=hM.r.c 3 rfl;have e3:=hM.r.f 3 rfl;have d4:=hM.r.c 4 rfl;have e4:=hM.r.f 4 rfl;have d5:=hM.r.c 5 rfl;have e5:=hM.r.f 5 rfl;have d6:=hM.r.c 6 rfl;have e6:=hM.r.f 6 rfl;have d7:=hM.r.c 7 rfl;have e7:=hM.r.f 7 rfl;have HB:=hM.below;simp only[List.getElem_cons_zero,List.getElem_cons_succ] at c0 c1 c2 c3 c4 c5 c6 c7;clear hI hM hlen;go_wp2;refine bodyPost_ret (v:= .agg #[.int .u64 z0,.int .u64 z1,.int .u64 z2,.int .u64 z3,.int .u64 z4,.int .u64 z5,.int .u64 z6,.int .u64 z7]) (by simp[results,Tryz.results106,go_sem,d0,d1,d2,d3,d4,d5,d6,d7]) rfl ?_;refine⟨[z0,z1,z2,z3,z4,z5,z6,z7],rfl,rfl,HW,HV,?_⟩
    repeat' (refine Below.setCell ?_ (by simp) _)
    exact HB
structure TdI (ys zs:List Int) (d o:Int) (k:Nat):Prop where
 len:zs.length=9
 wds:Words zs
 eq:val64 zs+o*pw64 k=d*val64 (ys.take k)
 zero:∀j,k≤j→(h:j<zs.length)→zs[j]=0
theorem td_start (ys:List Int) (d:Int):TdI ys (List.replicate 9 0) d 0 0:=⟨rfl,words_zero 9,by simp[val64],fun j _ h=>List.getElem_replicate _⟩
theorem td_arith {P o:Int} (p0:0≤P) (p1:P≤340282366920938463426481119284349108225) (ho:Word o) :
 Word (P / 18446744073709551616)∧Word (P%18446744073709551616)∧(P%18446744073709551616+o)%18446744073709551616=(P+o)%18446744073709551616∧
 P / 18446744073709551616+(P%18446744073709551616+o) / 18446744073709551616=(P+o) / 18446744073709551616∧Word ((P+o) / 18446744073709551616)∧Word ((P+o)%18446744073709551616):=by
 unfold Word at *;refine⟨?_,?_,?_,?_,?_,?_⟩<;>omega
theorem td_step {ys zs:List Int} {d o:Int} {k:Nat} (h:TdI ys zs d o k) (hk:k<ys.length) (hj:k<zs.length) (T:Int) (hT:T=ys[k]*d+o) (hw:Word (T%18446744073709551616)) :
 TdI ys (zs.set k (T%18446744073709551616)) d (T / 18446744073709551616) (k+1):=by
 refine⟨by simpa using h.len,words_set h.wds _ hw,?_,fun j hj1 hj2=>?_⟩
 · rw[val64_set zs _ hj,h.zero k (Nat.le_refl _) hj,pw64,val64_take ys k hk];have e:=h.eq;have e2:T=T%18446744073709551616+18446744073709551616*(T / 18446744073709551616):=by omega
   generalize T / 18446744073709551616=q at *;generalize T%18446744073709551616=r at *;generalize ys[k]=yk at *;generalize pw64 k=p at *;subst e2
   grind
 · have hj3:j<zs.length:=by simpa using hj2
   rw[List.getElem_set_ne (by omega)];exact h.zero j (by omega) hj3
theorem td_out {ys zs:List Int} {d o:Int} {n:Nat} (h:TdI ys zs d o n) (hj:n<zs.length) (ho:Word o):(zs.set n o).length=9∧Words (zs.set n o)∧val64 (zs.set n o)=d*val64 (ys.take n):=by
 refine⟨by simpa using h.len,words_set h.wds _ ho,?_⟩;rw[val64_set zs _ hj,h.zero n (Nat.le_refl _) hj,←h.eq,Int.sub_zero,Int.mul_comm o]
theorem mul64d (x y hi lo:Int) (hx:Word x) (hy:Word y) (h1:x*y / 18446744073709551616=hi) (h2:x*y%18446744073709551616=lo) (w:World):Calls Tryz.prog 113 #[.int .u64 x,.int .u64 y] w (fun e w' =>e= .returned (.tuple #[.int .u64 hi,.int .u64 lo])∧w' =w):=by
 refine(mul64 x y hx hy w).mono ?_;rintro e w' ⟨rfl,rfl⟩;rw[h1,h2];exact⟨rfl,rfl⟩
theorem add64d (x y s c:Int) (hx:Word x) (hy:Word y) (h1:(x+y)%18446744073709551616=s) (h2:(x+y) / 18446744073709551616=c) (w:World):(callFunc 114 #[.int .u64 x,.int .u64 y,.int .u64 0]).run Tryz.prog w= .ok (.value (.tuple #[.int .u64 s,.int .u64 c])) w:=by
 rw[add64 x y 0 hx hy (by decide) (by decide) w,Int.add_zero,h1,h2]
theorem arr9:Tryz.prog.arrayLen 139=9:=by kernel_rfl
theorem und9:Tryz.prog.underlying 139=some (.array (Tryz.prog.arrayLen 139) (Tryz.prog.elem 139)):=by kernel_rfl
theorem siz9 (w:World):(sizeOf (Tryz.prog.elem 139)).run Tryz.prog w= .ok 1 w:=by kernel_rfl
theorem slice9_h (g n:Nat) (hn:n≤9) (w:World):(Instr.sliceAt 139 (.pointer (some ⟨g,0,none⟩)) none (some (.int .i64 n)) none).run Tryz.prog w= .ok (.slice (some ⟨g,0,none⟩) n 9) w:=by
 rw[run_sliceAt_array_h w _ _ und9 _ _ (by omega) (by rw[arr9];omega),siz9,arr9]
 simp[Result.andThen,slicedAt,Addr.add]
theorem slice9_j (g n:Nat) (hn:n≤9) (j:Int) (hj:j=n) (w:World):(Instr.sliceAt 139 (.pointer (some ⟨g,0,none⟩)) none (some (.int .i64 j)) none).run Tryz.prog w= .ok (.slice (some ⟨g,0,none⟩) n 9) w:=by
 subst hj;exact slice9_h g n hn w
theorem slice9_lh (g l h:Nat) (hl:l≤h) (hn:h≤9) (hl9:l<9) (i j:Int) (hi:i=l) (hj:j=h) (w:World):(Instr.sliceAt 139 (.pointer (some ⟨g,0,none⟩)) (some (.int .i64 i)) (some (.int .i64 j)) none).run Tryz.prog w= .ok (.slice (some ⟨g,l,none⟩) (h-l) (9-l)) w:=by
 subst hi hj;rw[run_sliceAt_array_lh w _ _ und9 _ _ _ _ (by omega) (by omega) (by rw[arr9];omega),siz9,arr9];simp only[Result.andThen,slicedAt,Addr.add,Int.toNat_natCast,Nat.mul_one,Nat.zero_add];rw[if_neg (by omega)]
 split
 · next h0=>rw[h0]
 · rfl
theorem timesDigit_any (ys:List Int) (n:Nat) (d:Int) (hl:ys.length=9) (hx:Words ys) (hd:Word d) (hn:n≤8) (w:World):Calls Tryz.prog 112 #[agg ys,.int .i64 n,.int .u64 d] w (AggP 9 (d*val64 (ys.take n)) w):=by
 have HL:Hid (ys.length=9):=hl;have HX:Hid (Words ys):=hx;obtain⟨x0,x1,x2,x3,x4,x5,x6,x7,x8,hxs⟩:=list9 hl;have HA:agg ys= .agg #[.int .u64 x0,.int .u64 x1,.int .u64 x2,.int .u64 x3,.int .u64 x4,.int .u64 x5,.int .u64 x6,.int .u64 x7,.int .u64 x8]:=by rw[hxs];rfl
 have AX:ys.map (Value.int .u64)=[.int .u64 x0,.int .u64 x1,.int .u64 x2,.int .u64 x3,.int .u64 x4,.int .u64 x5,.int .u64 x6,.int .u64 x7,.int .u64 x8]:=by rw[hxs];rfl
 rw[HA];have HS:MkX w (((w.alloc (.cells #[.int .u64 x0,.int .u64 x1,.int .u64 x2,.int .u64 x3,.int .u64 x4,.int .u64 x5,.int .u64 x6,.int .u64 x7,.int .u64 x8] 139)).alloc (.cells #[.int .u64 0,.int .u64 0,.int .u64 0,.int .u64 0,.int .u64 0,.int .u64 0,.int .u64 0,.int .u64 0,.int .u64 0] 139)).alloc (.cells #[.int .u64 0,.int .u64 0,.int .u64 0,.int .u64 0,.int .u64 0,.int .u64 0,.int .u64 0,.int .u64 0,.int .u64 0] 139)) w.heap.size (w.heap.size+1) (w.heap.size+1+1) ys (List.replicate 9 (.int .u64 0)) (List.replicate 9 0):=
  ⟨⟨(((Below.refl _ _).alloc (Nat.le_refl _) _).alloc (by simp) _).alloc (by simp;omega) _,(Blk.new _ [.int .u64 0,.int .u64 0,.int .u64 0,.int .u64 0,.int .u64 0,.int .u64 0,.int .u64 0,.int .u64 0,.int .u64 0] _ (by simp)).alloc _,Blk.new _ [.int .u64 0,.int .u64 0,.int .u64 0,.int .u64 0,.int .u64 0,.int .u64 0,.int .u64 0,.int .u64 0,.int .u64 0] _ (by simp)⟩,by rw[AX];exact((Blk.new w _ _ rfl).alloc _).alloc _⟩
 clear hl hx HA hxs AX;have HI:=td_start ys d;have SL:=slice9_h w.heap.size n (by omega)
 go_enter Tryz.func112,Tryz.ntmps112
 go_wp2;generalize (((w.alloc (.cells #[.int .u64 x0,.int .u64 x1,.int .u64 x2,.int .u64 x3,.int .u64 x4,.int .u64 x5,.int .u64 x6,.int .u64 x7,.int .u64 x8] 139)).alloc (.cells #[.int .u64 0,.int .u64 0,.int .u64 0,.int .u64 0,.int .u64 0,.int .u64 0,.int .u64 0,.int .u64 0,.int .u64 0] 139)).alloc (.cells #[.int .u64 0,.int .u64 0,.int .u64 0,.int .u64 0,.int .u64 0,.int .u64 0,.int .u64 0,.int .u64 0,.int .u64 0] 139))=W at *
 go_loopw [8,17] (fun o i wr=>∃(k:Nat) (ov:Int) (zs:List Int),k≤n∧i= .int .i64 k∧Word ov∧o= .int .u64 ov∧TdI ys zs d ov k∧MkX w wr w.heap.size (w.heap.size+1) (w.heap.size+1+1) ys (List.replicate 9 (.int .u64 0)) zs) (fun _ i _=>n-(intOf i).toNat)
 case atStart=>exact⟨0,0,_,by omega,rfl,⟨by decide,by decide⟩,rfl,HI,HS⟩
 case round=>
  clear HI HS SL;obtain⟨k,ov,zs,hk,rfl,ho,rfl,hI,hM⟩:=hrel;have hlen:=hI.len
  by_cases hkn:k<n
  · have hkx:k<ys.length:=by have:=HL.out;omega
    have hz:k<zs.length:=by omega
    have q0:=hM.cx k hkx;obtain⟨q1,q2⟩:=hM.m.cp k hz;have HWY:=words_at HX.out k hkx;obtain⟨P0,P1⟩:=word_mul HWY hd;obtain⟨hi,ehi⟩:∃v,ys[k]*d / 18446744073709551616=v:=⟨_,rfl⟩;obtain⟨lo,elo⟩:∃v,ys[k]*d%18446744073709551616=v:=⟨_,rfl⟩;obtain⟨t1,t2,t3,t4,t5,t6⟩:=td_arith P0 P1 ho;rw[ehi] at t1 t4;rw[elo] at t2 t3 t4;have M1:=mul64d ys[k] d hi lo HWY hd ehi elo;obtain⟨n1,en1⟩:∃v,(lo+ov)%18446744073709551616=v:=⟨_,rfl⟩;obtain⟨c1,ec1⟩:∃v,(lo+ov) / 18446744073709551616=v:=⟨_,rfl⟩;have A1:=add64d lo ov n1 c1 t2 ho en1 ec1;rw[en1] at t3;rw[ec1] at t4;have R1:=td_step hI hkx hz _ rfl t6;have R2:=fun nq=>(hM.drewN nq).set (by omega) (by omega) (by omega) k hz n1;have R3:=hM.set (by omega) (by omega) (by omega) k hz n1;rw[←t3,←t4] at R1;rw[←t4] at t5;have d1:0≤hi:=t1.1;have d2:0≤c1:=by rw[←ec1];have:=t2.1;have:=ho.1;omega
    obtain⟨d4,d5⟩:0≤hi+c1∧hi+c1<18446744073709551616:=t5;have hkI:(k:Int)<n:=by omega
    have hkJ:(k:Int)<9:=by omega
    clear hI hM hlen t1 t2 t3 t4 t6 P0 P1 ehi elo en1 ec1 HWY;go_wp2_with fail;refine(M1 _).mono ?_;rintro e w1 ⟨rfl,rfl⟩;clear M1;go_wp2;go_roundw
    case rel=>exact⟨k+1,_,_,by omega,by go_num,⟨d4,d5⟩,rfl,R1,R3⟩
    case measure=>simp[intOf];omega
  · obtain rfl:k=n:=by omega
    have hz:k<zs.length:=by omega
    obtain⟨q1,q2⟩:=hM.m.cp k hz;obtain⟨E1,HW,HV⟩:=td_out hI hz ho;replace hM:Mk w _ _ _ _ _:=(hM.set (by omega) (by omega) (by omega) k hz ov).m;clear hI;go_upto_region 12 with fail;clear q1 q2 hz;generalize wr.setCell ⟨w.heap.size+1+1,k,none⟩ (.int .u64 ov)=wr at *;generalize zs.set k ov=zs at *;clear hlen;have hlen:=E1;obtain⟨z0,z1,z2,z3,z4,z5,z6,z7,z8,rfl⟩:=list9 hlen;obtain⟨c0,f0⟩:=hM.cp 0 (by simp);obtain⟨c1,f1⟩:=hM.cp 1 (by simp);obtain⟨c2,f2⟩:=hM.cp 2 (by simp);obtain⟨c3,f3⟩:=hM.cp 3 (by simp);obtain⟨c4,f4⟩:=hM.cp 4 (by simp);obtain⟨c5,f5⟩:=hM.cp 5 (by simp);obtain⟨c6,f6⟩:=hM.cp 6 (by simp);obtain⟨c7,f7⟩:=hM.cp 7 (by simp);obtain⟨c8,f8⟩:=hM.cp 8 (by simp);have d0:=hM.r.c 0 rfl;have e0:=hM.r.f 0 rfl;have d1:=hM.r.c 1 rfl;have e1:=hM.r.f 1 rfl;have d2:=hM.r.c 2 rfl;have e2:=hM.r.f 2 rfl;have d3:=hM.r.c 3 rfl;have e3:=hM.r.f 3 rfl;have d4:=hM.r.c 4 rfl;have e4:=hM.r.f 4 rfl;have d5:=hM.r.c 5 rfl;have e5:=hM.r.f 5 rfl;have d6:=hM.r.c 6 rfl;have e6:=hM.r.f 6 rfl;have d7:=hM.r.c 7 rfl;have e7:=hM.r.f 7 rfl;have d8:=hM.r.c 8 rfl;have e8:=hM.r.f 8 rfl;have HB:=hM.below;simp only[List.getElem_cons_zero,List.getElem_cons_succ] at c0 c1 c2 c3 c4 c5 c6 c7 c8;clear hM hlen E1;go_wp2;refine bodyPost_ret (v:= .agg #[.int .u64 z0,.int .u64 z1,.int .u64 z2,.int .u64 z3,.int .u64 z4,.int .u64 z5,.int .u64 z6,.int .u64 z7,.int .u64 z8]) (by simp[results,Tryz.results112,go_sem,d0,d1,d2,d3,d4,d5,d6,d7,d8]) rfl ?_;refine⟨[z0,z1,z2,z3,z4,z5,z6,z7,z8],rfl,rfl,HW,HV,?_⟩
    repeat' (refine Below.setCell ?_ (by simp) _)
    exact HB
def win (rs:List Int) (place k:Nat):List Int:=(rs.drop place).take k
theorem win_len {rs:List Int} {place k:Nat} (h:place+k≤rs.length):(win rs place k).length=k:=by unfold win;simp;omega
theorem win_at {rs:List Int} {place k j:Nat} (h:place+k≤rs.length) (hj:j<k) (hj2:j<(win rs place k).length):(win rs place k)[j]=rs[place+j]'(by omega):=by simp only[win,List.getElem_take,List.getElem_drop]
theorem win_words {rs:List Int} (h:Words rs) (place k:Nat):Words (win rs place k):=words_take (words_drop h place) k
theorem take_at {ps:List Int} {k j:Nat} (hj:j<(ps.take k).length):(ps.take k)[j]=ps[j]'(by simp at hj;omega):=by simp
def put (rs:List Int) (place:Nat) (zs:List Int):List Int:=rs.take place ++(zs ++rs.drop (place+zs.length))
theorem put_len {rs zs:List Int} {place:Nat} (h:place+zs.length≤rs.length):(put rs place zs).length=rs.length:=by unfold put;simp;omega
theorem put_words {rs zs:List Int} {place:Nat} (hr:Words rs) (hz:Words zs):Words (put rs place zs):=words_append.2 ⟨words_take hr _,words_append.2 ⟨hz,words_drop hr _⟩⟩
theorem put_val {rs zs:List Int} {place k:Nat} (hk:zs.length=k) (h:place+k≤rs.length):val64 (put rs place zs)=val64 rs+pw64 place*(val64 zs-val64 (win rs place k)):=by
 have e1:=val64_part rs place (by omega);have e2:=val64_part (rs.drop place) k (by simp;omega);rw[List.drop_drop] at e2;unfold put win;rw[vq_append,vq_append,List.length_take,Nat.min_eq_left (by omega),hk];rw[e2] at e1;rw[e1];generalize pw64 place=p at *
 grind
theorem put_at_in {rs zs:List Int} {place j:Nat} (h:place+zs.length≤rs.length) (hj:j<zs.length):(put rs place zs)[place+j]? =some zs[j]:=by
 unfold put;rw[List.getElem?_append_right (by simp;omega),List.length_take,Nat.min_eq_left (by omega),Nat.add_sub_cancel_left,List.getElem?_append_left hj,List.getElem?_eq_getElem hj]
theorem put_at_out {rs zs:List Int} {place j:Nat} (h:place+zs.length≤rs.length) (hj:j<place∨place+zs.length≤j):(put rs place zs)[j]? =rs[j]? :=by
 unfold put
 rcases hj with hj | hj
 · rw[List.getElem?_append_left (by simp;omega),List.getElem?_take,if_pos hj]
 · rw[List.getElem?_append_right (by simp;omega),List.length_take,Nat.min_eq_left (by omega),List.getElem?_append_right (by omega),List.getElem?_drop]
   congr 1;omega
theorem blk_row {w:World} {A:Nat} {rs:List Int} (h:Blk w A (rs.map (Value.int .u64))) {place k:Nat} (hk:place+k≤rs.length):Row w A place (win rs place k):=by
 have hl:=win_len hk;refine⟨fun i hi=>?_,fun i hi=>?_,h.lt⟩
 · rw[win_at hk (by omega) hi];exact h.c _ (by simp)
 · exact h.f (place+i) (v:= .int .u64 (rs[place+i]'(by omega))) (by simp)
theorem blk_row_take {w:World} {A:Nat} {rs:List Int} (h:Blk w A (rs.map (Value.int .u64))) {k:Nat} (hk:k≤rs.length):Row w A 0 (rs.take k):=by
 have:=blk_row h (place:=0) (k:=k) (by omega)
 simpa [win] using this
theorem blk_put {w w' :World} {A place:Nat} {rs zs:List Int} (h:Blk w A (rs.map (Value.int .u64))) (hr:Row w' A place zs) (hw:Wrote A place zs.length w w') (hk:place+zs.length≤rs.length):Blk w' A ((put rs place zs).map (Value.int .u64)):=by
 refine⟨hr.lt,fun i v hi=>?_⟩;rw[List.getElem?_map] at hi;have hil:i<rs.length:=by
  apply Decidable.byContradiction
  intro hn;rw[List.getElem?_eq_none (by rw[put_len hk];omega)] at hi
  simp at hi
 have hf:w'.frozen? ⟨A,i,none⟩=false:=by rw[hw.frz i];exact h.f i (v:= .int .u64 rs[i]) (by simp[hil])
 refine⟨?_,hf⟩
 by_cases hin:place≤i∧i<place+zs.length
 · obtain⟨j,rfl⟩:∃j,i=place+j:=⟨i-place,by omega⟩;rw[put_at_in hk (by omega)] at hi;simp only[Option.map_some,Option.some.injEq] at hi;rw[←hi];exact hr.cell j (by omega)
 · rw[put_at_out hk (by omega),List.getElem?_eq_getElem hil] at hi;simp only[Option.map_some,Option.some.injEq] at hi;rw[←hi,hw.cell i (by omega)];exact h.c i (by simp[hil])
theorem blk_wrote {w w' :World} {A off n g:Nat} {vs:List Value} (h:Blk w g vs) (hw:Wrote A off n w w') (hg:g≠A):Blk w' g vs:=
 ⟨by rw[hw.size];exact h.lt,fun i _ hi=>⟨(hw.cellOther hg i).trans (h.c i hi),(hw.frzOther hg i).trans (h.f i hi)⟩⟩
structure Kn (rs ys:List Int) (n place:Nat):Prop where
 hl:rs.length=9
 hm:ys.length=9
 hr:Words rs
 hy:Words ys
 hn:1≤n
 hp:place+n≤8
 top:∀m,m+1=n→(h:m<ys.length)→ys[m]≠0
 lt:val64 (win rs place (n+1))<18446744073709551616*val64 (ys.take n)
theorem Kn.pos {rs ys:List Int} {n place:Nat} (h:Kn rs ys n place):0<val64 (ys.take n):=by
 have hn:=h.hn;obtain⟨m,rfl⟩:∃m,n=m+1:=⟨n-1,by omega⟩;have hm:=h.hm;have hp:=h.hp;have i:m<ys.length:=by omega
 rw[val64_take ys m i];have t:=h.top m rfl i;have w:=words_at h.hy m i;have e:=val64_nonneg (words_take h.hy m);have p:=pq_pos m;have:pw64 m*1≤pw64 m*ys[m]:=Int.mul_le_mul_of_nonneg_left (by have:=w.1;omega) (by omega)
 omega
theorem Kn.guess {rs ys:List Int} {n place m pn pm:Nat} (h:Kn rs ys n place) (hmn:m+1=n) (hpn:place+n=pn) (hpm:place+m=pm) (i1:pn<rs.length) (i2:pm<rs.length) (i3:m<ys.length) :
 val64 (win rs place (n+1)) / val64 (ys.take n)≤guessV rs[pn] rs[pm] ys[m]∧0≤guessV rs[pn] rs[pm] ys[m]∧guessV rs[pn] rs[pm] ys[m]<18446744073709551616:=by
 subst hmn hpn hpm;have hl:=h.hl;have hp:=h.hp;have hwl:=win_len (rs:=rs) (place:=place) (k:=m+1+1) (by omega);have t:=h.top m rfl i3;have w3:=words_at h.hy m i3;have w1:=words_at h.hr _ i1;have w2:=words_at h.hr _ i2;have eB:=val64_take ys m i3;have eW:val64 (win rs place (m+1+1))=val64 ((win rs place (m+1+1)).take m)+pw64 m*(rs[place+m]+18446744073709551616*rs[place+(m+1)]):=by
  have e1:=val64_take (win rs place (m+1+1)) (m+1) (by omega);have e2:=val64_take (win rs place (m+1+1)) m (by omega);rw[List.take_of_length_le (by omega),e2,win_at (by omega) (by omega),win_at (by omega) (by omega),pw64] at e1;rw[e1];generalize pw64 m=p at *
  grind
 have g1:=vq_lt (words_take (win_words h.hr place (m+1+1)) m);rw[List.length_take,Nat.min_eq_left (by omega)] at g1;refine⟨?_,?_⟩
 · exact kn_guess (pq_pos m) eW g1 eB (val64_nonneg (words_take h.hy m)) (by have:=w3.1;omega) h.lt (val64_nonneg (win_words h.hr _ _))
 · unfold guessV
   split
   · exact⟨by decide,by decide⟩
   · next hlt=>
     have t0:0<ys[m]:=by have:=w3.1;omega
     have:=w1.1;have:=w2.1;have:=w2.2;refine⟨Int.ediv_nonneg (by omega) (by omega),?_⟩
     apply Int.ediv_lt_of_lt_mul t0
     omega
theorem Kn.part {rs ys ps:List Int} {n place:Nat} {d:Int} (h:Kn rs ys n place) (hd:Word d) (hl:ps.length=9) (hw:Words ps) (hv:val64 ps=d*val64 (ys.take n)):val64 (ps.take (n+1))=d*val64 (ys.take n):=by
 have hp:=h.hp;have hm:=h.hm;have b0:=val64_nonneg (words_take h.hy n);have b1:=vq_lt (words_take h.hy n);rw[List.length_take,Nat.min_eq_left (by omega)] at b1;have:=(val64_high hw (n+1) (by omega) (by
  rw[hv,pw64];have h1:d*val64 (ys.take n)≤18446744073709551615*val64 (ys.take n):=Int.mul_le_mul_of_nonneg_right (by have:=hd.2;omega) b0
  omega)).2
 rw[this,hv]
def Alike (rs ps:List Int) (n place k:Nat):Prop:=(ps.take (n+1)).drop k=(win rs place (n+1)).drop k
theorem alike_start {rs ps:List Int} {n place:Nat} (hr:place+(n+1)≤rs.length) (hl:n+1≤ps.length):Alike rs ps n place (n+1):=by
 unfold Alike;rw[List.drop_of_length_le (by simp;omega),List.drop_of_length_le (by rw[win_len hr];omega)]
theorem alike_step {rs ps:List Int} {n place k:Nat} (h:Alike rs ps n place (k+1)) (hr:place+(n+1)≤rs.length) (hl:n+1≤ps.length) (hk:k<n+1) (e:ps[k]'(by omega)=rs[place+k]'(by omega)):Alike rs ps n place k:=by
 unfold Alike at *;have l1:k<(ps.take (n+1)).length:=by simp;omega
 have l2:k<(win rs place (n+1)).length:=by rw[win_len hr];omega
 rw[List.drop_eq_getElem_cons l1,List.drop_eq_getElem_cons l2,h,take_at,win_at hr hk,e]
theorem alike_all {rs ps:List Int} {n place:Nat} (h:Alike rs ps n place 0):val64 (ps.take (n+1))=val64 (win rs place (n+1)):=by
 unfold Alike at h
 simpa using congrArg val64 h
theorem alike_less {rs ps:List Int} {n place k:Nat} (hw:Words rs) (hv:Words ps) (h:Alike rs ps n place (k+1)) (hr:place+(n+1)≤rs.length) (hl:n+1≤ps.length) (hk:k<n+1) (e:ps[k]'(by omega)<rs[place+k]'(by omega)):val64 (ps.take (n+1))<val64 (win rs place (n+1)):=by
 have l1:k<(ps.take (n+1)).length:=by simp;omega
 have l2:k<(win rs place (n+1)).length:=by rw[win_len hr];omega
 exact vq_above (words_take hv _) (win_words hw _ _) k l1 l2 h (by rw[take_at,win_at hr hk];exact e)
theorem alike_more {rs ps:List Int} {n place k:Nat} (hw:Words rs) (hv:Words ps) (h:Alike rs ps n place (k+1)) (hr:place+(n+1)≤rs.length) (hl:n+1≤ps.length) (hk:k<n+1) (e:rs[place+k]'(by omega)<ps[k]'(by omega)):val64 (win rs place (n+1))<val64 (ps.take (n+1)):=by
 have l1:k<(ps.take (n+1)).length:=by simp;omega
 have l2:k<(win rs place (n+1)).length:=by rw[win_len hr];omega
 exact vq_above (win_words hw _ _) (words_take hv _) k l2 l1 h.symm (by rw[take_at,win_at hr hk];exact e)
theorem kn_left {xs ps zs:List Int} {c:Int} {k:Nat} (hz:Words zs) (hlz:zs.length=k) (hc0:0≤c) (hc1:c≤1) (hv:val64 zs=val64 xs-val64 ps+c*pw64 k) (hle:val64 ps≤val64 xs):val64 zs=val64 xs-val64 ps:=by
 have h1:=vq_lt hz;rw[hlz] at h1;obtain rfl | rfl:c=0∨c=1:=by omega
 · omega
 · omega
def DigP (rs ys:List Int) (n place:Nat) (w:World) (e:Ending) (w' :World):Prop:=
 ∃zs:List Int,e= .returned (.tuple #[.int .u64 (val64 (win rs place (n+1)) / val64 (ys.take n)),agg zs])∧zs.length=9∧Words zs∧val64 zs=val64 rs-pw64 place*(val64 (win rs place (n+1)) / val64 (ys.take n)*val64 (ys.take n))∧Below w.heap.size w w'
structure Tk (w wr:World) (rs ys:List Int):Prop where
 below:Below w.heap.size w wr
 r:Blk wr w.heap.size (rs.map (Value.int .u64))
 y:Blk wr (w.heap.size+1) (ys.map (Value.int .u64))
 o:Blk wr (w.heap.size+1+1) (List.replicate 9 (Value.int .u64 0))
theorem Tk.step {w wr wr' :World} {rs ys:List Int} (h:Tk w wr rs ys) (hB:Below wr.heap.size wr wr'):Tk w wr' rs ys:=⟨h.below.trans (hB.mono h.below.size),h.r.step hB,h.y.step hB,h.o.step hB⟩
theorem Tk.drew {w wr:World} {rs ys:List Int} (h:Tk w wr rs ys):Tk w wr.drew rs ys:=⟨h.below.drew,h.r,h.y,h.o⟩
theorem Tk.drewN {w wr:World} {rs ys:List Int} (h:Tk w wr rs ys) (n:Nat):Tk w (wr.drewN n) rs ys:=⟨bdrew h.below n,h.r,h.y,h.o⟩
theorem Tk.cr {w wr:World} {rs ys:List Int} (h:Tk w wr rs ys) (j:Nat) (hj:j<rs.length):wr.cell? ⟨w.heap.size,j,none⟩=some (.int .u64 rs[j]):=h.r.c j (by simp[hj])
theorem Tk.cy {w wr:World} {rs ys:List Int} (h:Tk w wr rs ys) (j:Nat) (hj:j<ys.length):wr.cell? ⟨w.heap.size+1,j,none⟩=some (.int .u64 ys[j]):=h.y.c j (by simp[hj])
theorem below_set9 {B g:Nat} {w W:World} {v0 v1 v2 v3 v4 v5 v6 v7 v8:Value} (hg:B≤g) (h:Below B w W):Below B w (((((((((W.setCell ⟨g,0,none⟩ v0).setCell ⟨g,1,none⟩ v1).setCell ⟨g,2,none⟩ v2).setCell ⟨g,3,none⟩ v3).setCell ⟨g,4,none⟩ v4).setCell ⟨g,5,none⟩ v5).setCell ⟨g,6,none⟩ v6).setCell ⟨g,7,none⟩ v7).setCell ⟨g,8,none⟩ v8):=
 (((((((((h.setCell hg _).setCell hg _).setCell hg _).setCell hg _).setCell hg _).setCell hg _).setCell hg _).setCell hg _).setCell hg _)
theorem takeDigit_any (rs ys:List Int) (n place:Nat) (HK:Kn rs ys n place) (w:World):Calls Tryz.prog 105 #[agg rs,agg ys,.int .i64 n,.int .i64 place] w (DigP rs ys n place w):=by
 obtain⟨hl,hm,hr,hy,hn,hp,_,_⟩:=id HK;have HL:Hid (rs.length=9):=hl;have HM:Hid (ys.length=9):=hm;have HR:Hid (Words rs):=hr;have HY:Hid (Words ys):=hy;obtain⟨x0,x1,x2,x3,x4,x5,x6,x7,x8,hxs⟩:=list9 hl;have HA:agg rs= .agg #[.int .u64 x0,.int .u64 x1,.int .u64 x2,.int .u64 x3,.int .u64 x4,.int .u64 x5,.int .u64 x6,.int .u64 x7,.int .u64 x8]:=by rw[hxs];rfl
 have AX:rs.map (Value.int .u64)=[.int .u64 x0,.int .u64 x1,.int .u64 x2,.int .u64 x3,.int .u64 x4,.int .u64 x5,.int .u64 x6,.int .u64 x7,.int .u64 x8]:=by rw[hxs];rfl
 rw[HA];clear HA;obtain⟨y0,y1,y2,y3,y4,y5,y6,y7,y8,hys⟩:=list9 hm;have HA:agg ys= .agg #[.int .u64 y0,.int .u64 y1,.int .u64 y2,.int .u64 y3,.int .u64 y4,.int .u64 y5,.int .u64 y6,.int .u64 y7,.int .u64 y8]:=by rw[hys];rfl
 have AY:ys.map (Value.int .u64)=[.int .u64 y0,.int .u64 y1,.int .u64 y2,.int .u64 y3,.int .u64 y4,.int .u64 y5,.int .u64 y6,.int .u64 y7,.int .u64 y8]:=by rw[hys];rfl
 rw[HA];have HAG:Hid (agg ys= .agg #[.int .u64 y0,.int .u64 y1,.int .u64 y2,.int .u64 y3,.int .u64 y4,.int .u64 y5,.int .u64 y6,.int .u64 y7,.int .u64 y8]):=HA;have HS:Tk w (((w.alloc (.cells #[.int .u64 x0,.int .u64 x1,.int .u64 x2,.int .u64 x3,.int .u64 x4,.int .u64 x5,.int .u64 x6,.int .u64 x7,.int .u64 x8] 139)).alloc (.cells #[.int .u64 y0,.int .u64 y1,.int .u64 y2,.int .u64 y3,.int .u64 y4,.int .u64 y5,.int .u64 y6,.int .u64 y7,.int .u64 y8] 139)).alloc (.cells #[.int .u64 0,.int .u64 0,.int .u64 0,.int .u64 0,.int .u64 0,.int .u64 0,.int .u64 0,.int .u64 0,.int .u64 0] 139)) rs ys:=
  ⟨(((Below.refl _ _).alloc (Nat.le_refl _) _).alloc (by simp) _).alloc (by simp;omega) _,by rw[AX];exact((Blk.new w _ _ rfl).alloc _).alloc _,by rw[AY];exact(Blk.new _ [.int .u64 y0,.int .u64 y1,.int .u64 y2,.int .u64 y3,.int .u64 y4,.int .u64 y5,.int .u64 y6,.int .u64 y7,.int .u64 y8] _ (by simp)).alloc _,Blk.new _ [.int .u64 0,.int .u64 0,.int .u64 0,.int .u64 0,.int .u64 0,.int .u64 0,.int .u64 0,.int .u64 0,.int .u64 0] _ (by simp)⟩
 obtain⟨m,hmn⟩:∃m,m+1=n:=⟨n-1,by omega⟩;obtain⟨pn,hpn⟩:∃k,place+n=k:=⟨_,rfl⟩;obtain⟨pm,hpm⟩:∃k,place+m=k:=⟨_,rfl⟩;have HMN:Hid (m+1=n):=hmn;have HPN:Hid (place+n=pn):=hpn;have HPM:Hid (place+m=pm):=hpm;have a1:IntKind.i64.wrap ((place:Int)+(n:Int))=(pn:Int):=by rw[IntKind.wrap_i64];omega
 have a2:IntKind.i64.wrap ((pn:Int)-1)=(pm:Int):=by rw[IntKind.wrap_i64];omega
 have a3:IntKind.i64.wrap ((n:Int)-1)=(m:Int):=by rw[IntKind.wrap_i64];omega
 have b1:(0:Int)≤pn:=by omega
 have b2:(pn:Int)<9:=by omega
 have b3:(0:Int)≤pm:=by omega
 have b4:(pm:Int)<9:=by omega
 have b5:(0:Int)≤m:=by omega
 have b6:(m:Int)<9:=by omega
 have i1:pn<rs.length:=by omega
 have i2:pm<rs.length:=by omega
 have i3:m<ys.length:=by omega
 have w1:=words_at hr _ i1;have w2:=words_at hr _ i2;have w3:=words_at hy _ i3;have HAY:Hid (ys.map (Value.int .u64)=[.int .u64 y0,.int .u64 y1,.int .u64 y2,.int .u64 y3,.int .u64 y4,.int .u64 y5,.int .u64 y6,.int .u64 y7,.int .u64 y8]):=AY;clear HA hxs hys hl hm hr hy AX AY hmn hpn hpm
 go_enter Tryz.func105,Tryz.ntmps105
 go_wp2_with fail
 go_step3
 go_wp2_with fail;generalize (((w.alloc (.cells #[.int .u64 x0,.int .u64 x1,.int .u64 x2,.int .u64 x3,.int .u64 x4,.int .u64 x5,.int .u64 x6,.int .u64 x7,.int .u64 x8] 139)).alloc (.cells #[.int .u64 y0,.int .u64 y1,.int .u64 y2,.int .u64 y3,.int .u64 y4,.int .u64 y5,.int .u64 y6,.int .u64 y7,.int .u64 y8] 139)).alloc (.cells #[.int .u64 0,.int .u64 0,.int .u64 0,.int .u64 0,.int .u64 0,.int .u64 0,.int .u64 0,.int .u64 0,.int .u64 0] 139))=W at *;obtain⟨g,hg⟩:∃g,guessV rs[pn] rs[pm] ys[m]=g:=⟨_,rfl⟩;have GC:=guess_any rs[pn] rs[pm] ys[m] w1 w2 w3
 go_region_held3 (fun w' =>w'.cell? ⟨w.heap.size,pn,none⟩=some (.int .u64 rs[pn])∧w'.cell? ⟨w.heap.size,pm,none⟩=some (.int .u64 rs[pm])∧w'.cell? ⟨w.heap.size+1,m,none⟩=some (.int .u64 ys[m])) (first | (with_reducible exact⟨HS.cr _ i1,HS.cr _ i2,HS.cy _ i3⟩) | (with_reducible exact⟨HS.drew.cr _ i1,HS.drew.cr _ i2,HS.drew.cy _ i3⟩))
  ((go_at_call 111;refine(GC _).mono ?_;rintro e w4 ⟨rfl,hB⟩;rw[hg];(first | (have T1:=HS.step hB) | (have T1:=HS.drew.step hB));clear HS;have HS:=T1;clear T1 hB))
 obtain⟨G1,G2,G3⟩:=HK.guess HMN.out HPN.out HPM.out i1 i2 i3;rw[hg] at G1 G2 G3;have BP:=HK.pos;have WP:=val64_nonneg (win_words HR.out place (n+1));obtain⟨WV,eW⟩:∃x,val64 (win rs place (n+1))=x:=⟨_,rfl⟩;obtain⟨BV,eB⟩:∃x,val64 (ys.take n)=x:=⟨_,rfl⟩;have HEW:Hid (val64 (win rs place (n+1))=WV):=eW;have HEB:Hid (val64 (ys.take n)=BV):=eB;rw[eW] at G1 WP;rw[eB] at G1 BP;clear GC hg eW eB w1 w2 w3 a1 a2 a3;go_wp2_with fail
 go_step3
 go_wp2_with fail
 go_loopg [10] g.toNat (fun k p wr=>∃d:Int,p= .int .u64 d∧d.toNat=k∧0≤d∧d<18446744073709551616∧WV / BV≤d∧Tk w wr rs ys)
 case atStart=>exact⟨g,rfl,rfl,G2,G3,G1,HS⟩
 case round=>
  clear HS G1 G2 G3;obtain⟨d,rfl,rfl,d0,d1,hd,HT⟩:=hrel;have c0:=HT.y;rw[HAY.out] at c0;have y0c:=c0.c 0 rfl;have y1c:=c0.c 1 rfl;have y2c:=c0.c 2 rfl;have y3c:=c0.c 3 rfl;have y4c:=c0.c 4 rfl;have y5c:=c0.c 5 rfl;have y6c:=c0.c 6 rfl;have y7c:=c0.c 7 rfl;have y8c:=c0.c 8 rfl;have TC:=timesDigit_any ys n d HM.out HY.out ⟨d0,d1⟩ (by omega);rw[HAG.out] at TC;clear c0;go_wp2_with fail;refine(TC _).mono ?_;rintro e w5 ⟨ps,rfl,pl,pw,pv,hB⟩;replace HT:=HT.step hB;clear hB TC y0c y1c y2c y3c y4c y5c y6c y7c y8c;have PV:=HK.part ⟨d0,d1⟩ pl pw pv;rw[HEB.out] at PV;have HPV:Hid (val64 (ps.take (n+1))=d*BV):=PV;have HPL:Hid (ps.length=9):=pl;have HPW:Hid (Words ps):=pw;obtain⟨p0,p1,p2,p3,p4,p5,p6,p7,p8,hps⟩:=list9 pl;have HPA:agg ps= .agg #[.int .u64 p0,.int .u64 p1,.int .u64 p2,.int .u64 p3,.int .u64 p4,.int .u64 p5,.int .u64 p6,.int .u64 p7,.int .u64 p8]:=by rw[hps];rfl
  have PX:ps.map (Value.int .u64)=[.int .u64 p0,.int .u64 p1,.int .u64 p2,.int .u64 p3,.int .u64 p4,.int .u64 p5,.int .u64 p6,.int .u64 p7,.int .u64 p8]:=by rw[hps];rfl
  rw[HPA];have HPX:Hid (ps.map (Value.int .u64)=[.int .u64 p0,.int .u64 p1,.int .u64 p2,.int .u64 p3,.int .u64 p4,.int .u64 p5,.int .u64 p6,.int .u64 p7,.int .u64 p8]):=PX;clear HPA PX hps pl pw pv PV
  go_upto_block 2 with fail
  have GP:Blk (w5.alloc (.cells #[.int .u64 p0,.int .u64 p1,.int .u64 p2,.int .u64 p3,.int .u64 p4,.int .u64 p5,.int .u64 p6,.int .u64 p7,.int .u64 p8] 139)) w5.heap.size (ps.map (Value.int .u64)):=by rw[HPX.out];exact Blk.new w5 [.int .u64 p0,.int .u64 p1,.int .u64 p2,.int .u64 p3,.int .u64 p4,.int .u64 p5,.int .u64 p6,.int .u64 p7,.int .u64 p8] 139 rfl
  have hgp:=HT.o.lt;replace HT:=HT.step ((Below.refl w5.heap.size w5).alloc (Nat.le_refl _) (.cells #[.int .u64 p0,.int .u64 p1,.int .u64 p2,.int .u64 p3,.int .u64 p4,.int .u64 p5,.int .u64 p6,.int .u64 p7,.int .u64 p8] 139));generalize w5.alloc (.cells #[.int .u64 p0,.int .u64 p1,.int .u64 p2,.int .u64 p3,.int .u64 p4,.int .u64 p5,.int .u64 p6,.int .u64 p7,.int .u64 p8] 139)=W5 at *;generalize w5.heap.size=gp at *;have hr9:place+(n+1)≤rs.length:=by have:=HL.out;omega
  have hp9:n+1≤ps.length:=by have:=HPL.out;omega
  have hd1:IntKind.u64.wrap (d-1)=IntKind.u64.wrap (d-1):=rfl
  go_cut [12] (fun _ wx=>d*BV≤WV∧Tk w wx rs ys∧Blk wx gp (ps.map (Value.int .u64)))
  case first=>
   go_wp2_with fail
   go_loopg [12] (n+1) (fun k p wr=>∃i:Int,p= .int .i64 i∧i+1=(k:Int)∧k≤n+1∧Alike rs ps n place k∧Tk w wr rs ys∧Blk wr gp (ps.map (Value.int .u64)))
   case atStart=>exact⟨(n:Int),rfl,by omega,by omega,alike_start hr9 hp9,HT,GP⟩
   case round=>
    clear HT GP;obtain⟨i,rfl,hi,hk,hA,HT,GP⟩:=hrel
    rcases Nat.eq_zero_or_pos gk with h0 | h0
    · subst h0;obtain rfl:i= -1:=by omega
      have HE:=alike_all hA;rw[HPV.out,HEW.out] at HE;have HE' :Hid (d*BV≤WV):=by show _≤_;omega
      clear HE hA;go_wp2;go_meet
      case rel=>exact⟨HE'.out,HT,GP⟩
    · obtain⟨k,rfl⟩:∃k,gk=k+1:=⟨gk-1,by omega⟩;obtain rfl:i=(k:Int):=by omega
      have hk1:k<n+1:=by omega
      have j1:k<ps.length:=by omega
      have j2:place+k<rs.length:=by omega
      have e1:wr.cell? ⟨gp,k,none⟩=some (.int .u64 ps[k]):=GP.c k (by simp[j1]);have e2:=HT.cr (place+k) j2;have bb1:(0:Int)≤k:=by omega
      have bb2:(k:Int)<9:=by have:=HPL.out;omega
      have bb3:(place:Int)+(k:Int)<9:=by have:=HL.out;omega
      have A1:=alike_less HR.out HPW.out hA hr9 hp9 hk1;have A2:=alike_more HR.out HPW.out hA hr9 hp9 hk1;have A3:=alike_step hA hr9 hp9 hk1;rw[HPV.out,HEW.out] at A1 A2;clear hi hA h0;generalize hx:ps[k]=x at *;generalize hy:rs[place+k]=y at *;clear hx hy
      rcases Int.lt_trichotomy x y with hc | hc | hc
      · have HE:Hid (d*BV≤WV):=by show _≤_;have:=A1 hc;omega
        clear A1 A2 A3;go_wp2
        go_quiet (fail)
        go_wp2
        go_quiet (fail)
        go_wp2;go_meet
        case rel=>exact⟨HE.out,by first | exact HT.drewN _ | exact(HT.drewN _).drewN _,GP⟩
      · have HA:=A3 hc;subst hc;clear A1 A2 A3;go_wp2
        go_quiet (fail)
        go_wp2
        go_quiet (fail)
        go_wp2
        go_roundg k
        case measure=>omega
        case rel=>exact⟨(k:Int)-1,by go_num,by omega,by omega,HA,by first | exact HT.drewN _ | exact(HT.drewN _).drewN _,GP⟩
      · obtain⟨K1,K2⟩:=kn_more BP WP (A2 hc);have hw:=wrap_word (show 0≤d-1 by omega) (show d-1<18446744073709551616 by omega);clear A1 A2 A3;go_wp2
        go_quiet (fail)
        go_wp2
        go_roundg (d-1).toNat
        case measure=>omega
        case rel=>exact⟨d-1,rfl,rfl,by omega,by omega,K1,HT.drewN _⟩
  case rest=>
   clear HT GP;obtain⟨HLE,HT,GP⟩:=hcut;have HD:Hid (d=WV / BV):=kn_digit BP hd HLE;have SL1:=slice9_lh w.heap.size place (place+n+1) (by omega) (by omega) (by omega) (place:Int) ((place:Int)+(n:Int)+1) rfl (by omega);have SL2:=slice9_j gp (n+1) (by omega) ((n:Int)+1) (by omega);rw[show place+n+1-place=n+1 by omega] at SL1;have rx:=blk_row HT.r hr9;have ry:=blk_row_take GP hp9;have TW:=fun ca cc cb=>takeWords_any w.heap.size gp place 0 (n+1) ca cc cb (win rs place (n+1)) (ps.take (n+1)) wc (win_len hr9) (by simp;omega) (win_words HR.out _ _) (words_take HPW.out _) rx ry (by omega) (by omega);clear rx ry;go_wp2_with fail;refine(TW _ _ _).mono ?_;rintro e w6 ⟨zs,c,rfl,l1,l2,l3,l4,l5,l6,l7⟩;have ZV:=kn_left l2 l1 l3 l4 l5 (by rw[HPV.out,HEW.out];exact HLE);rw[HPV.out] at ZV;have RB:=blk_put HT.r l6 (by rw[l1];exact l7) (by rw[l1];exact hr9);have OB:=blk_wrote HT.o l7 (by omega);have HB:=HT.below.trans (l7.below (Nat.le_refl _));have PVL:=put_val (rs:=rs) (place:=place) l1 hr9;rw[ZV] at PVL;have PLN:=put_len (rs:=rs) (zs:=zs) (place:=place) (by rw[l1];exact hr9);have PWD:=put_words (place:=place) HR.out l2;have HF:Hid ((put rs place zs).length=9∧Words (put rs place zs)∧val64 (put rs place zs)=val64 rs-pw64 place*(val64 (win rs place (n+1)) / val64 (ys.take n)*val64 (ys.take n))):=by
    refine⟨by rw[PLN];exact HL.out,PWD,?_⟩;rw[PVL,HEW.out,HEB.out,←HD.out];generalize pw64 place=p
    grind
   obtain⟨HF1,HF2,HF3⟩:=HF.out;generalize put rs place zs=qs at *;obtain⟨z0,z1,z2,z3,z4,z5,z6,z7,z8,rfl⟩:=list9 HF1;clear TW SL1 SL2 l1 l2 l3 l4 l5 l6 l7 ZV PVL PLN PWD HF1 HF2 HF3 HT GP;have r0c:=RB.c 0 rfl;have o0c:=OB.c 0 rfl;have o0f:=OB.f 0 rfl;have r1c:=RB.c 1 rfl;have o1c:=OB.c 1 rfl;have o1f:=OB.f 1 rfl;have r2c:=RB.c 2 rfl;have o2c:=OB.c 2 rfl;have o2f:=OB.f 2 rfl;have r3c:=RB.c 3 rfl;have o3c:=OB.c 3 rfl;have o3f:=OB.f 3 rfl;have r4c:=RB.c 4 rfl;have o4c:=OB.c 4 rfl;have o4f:=OB.f 4 rfl;have r5c:=RB.c 5 rfl;have o5c:=OB.c 5 rfl;have o5f:=OB.f 5 rfl;have r6c:=RB.c 6 rfl;have o6c:=OB.c 6 rfl;have o6f:=OB.f 6 rfl;have r7c:=RB.c 7 rfl;have o7c:=OB.c 7 rfl;have o7f:=OB.f 7 rfl;have r8c:=RB.c 8 rfl;have o8c:=OB.c 8 rfl;have o8f:=OB.f 8 rfl;have olt:=OB.lt;clear RB OB;go_wp2
   go_region
   go_wp2
   try rw[Exit.noGoto_ret]
   refine bodyPost_ret (v:= .tuple #[.int .u64 d,.agg #[.int .u64 z0,.int .u64 z1,.int .u64 z2,.int .u64 z3,.int .u64 z4,.int .u64 z5,.int .u64 z6,.int .u64 z7,.int .u64 z8]]) (by simp[results,Tryz.results105,go_sem,o0c,o1c,o2c,o3c,o4c,o5c,o6c,o7c,o8c]) rfl ?_;obtain⟨HF1,HF2,HF3⟩:=HF.out;refine⟨[z0,z1,z2,z3,z4,z5,z6,z7,z8],by rw[HEW.out,HEB.out,←HD.out];rfl,rfl,HF2,HF3,?_⟩;exact(below_set9 (g:=w.heap.size+1+1) (by omega) HB).drew
theorem words_ex (n:Nat) (v:Int) (h0:0≤v) (h1:v<pw64 n):∃zs:List Int,zs.length=n∧Words zs∧val64 zs=v:=by
 induction n generalizing v with
 | zero=>exact⟨[],rfl,words_nil,by simp only[pw64] at h1;simp only[val64];omega⟩
 | succ n ih=>
  simp only[pw64] at h1;obtain⟨zs,e1,e2,e3⟩:=ih (v / 18446744073709551616) (by omega) (by omega);refine⟨v%18446744073709551616::zs,by simp[e1],words_cons.2 ⟨⟨by omega,by omega⟩,e2⟩,?_⟩;simp only[val64,e3]
  omega
theorem val64_few {xs:List Int} (hx:Words xs) (n:Nat) (hn:n≤xs.length) (hz:∀j,n≤j→(h:j<xs.length)→xs[j]=0):val64 xs=val64 (xs.take n)∧val64 xs<pw64 n:=by
 have e:=val64_part xs n hn;have hd:xs.drop n=List.replicate (xs.length-n) 0:=by
  apply List.ext_getElem
  · simp
  · intro i h1 h2;simp only[List.getElem_drop,List.getElem_replicate];exact hz _ (by omega) _
 rw[hd,val64_zeros,Int.mul_zero,Int.add_zero] at e;have l:=vq_lt (words_take hx n);rw[List.length_take,Nat.min_eq_left hn] at l;exact⟨e,by omega⟩
theorem kn_by {ys bs:List Int} {n m s:Nat} (hm:ys.length=8) (hy:Words ys) (hmn:m+1=n) (hn:n≤8) (hz:∀j,n≤j→(h:j<ys.length)→ys[j]=0) (im:m<ys.length) (ht:ys[m]≠0) (hs:s≤64) (hb:BitsOf ys[m] (64-s)) (bl:bs.length=9) (bw:Words bs) (bv:val64 bs=2 ^ s*val64 ys) :
 s<64∧val64 (bs.take n)=val64 bs∧9223372036854775808*pw64 m≤val64 bs∧val64 bs<pw64 n∧∀k,k+1=n→(h:k<bs.length)→bs[k]≠0:=by
 subst hmn;have wm:=words_at hy m im;obtain⟨g0,g1,g2⟩:=hb;have hs64:s<64:=by
  apply Decidable.byContradiction
  intro hn;rw[show 64-s=0 by omega] at g1
  simp at g1
  have:=wm.1
  omega
 have hp:=pow_split s hs;have p0:(0:Int)<2 ^ s:=Int.pow_pos (by decide);have q0:=pq_pos m;obtain⟨f1,f2⟩:=val64_few hy (m+1) (by omega) hz;rw[val64_take ys m im] at f1;have t0:=val64_nonneg (words_take hy m);have t1:=vq_lt (words_take hy m);rw[List.length_take,Nat.min_eq_left (by omega)] at t1;have e1:(2:Int) ^ (64-s)=2*2 ^ (64-s-1):=by
  rw[show 64-s=(64-s-1)+1 by omega,Int.pow_succ,Int.mul_comm];rfl
 have e2:(2:Int) ^ s*2 ^ (64-s-1)=9223372036854775808:=by
  rw[e1] at hp;have:(2:Int) ^ s*(2*2 ^ (64-s-1))=2*(2 ^ s*2 ^ (64-s-1)):=by grind
  omega
 have low:9223372036854775808*pw64 m≤val64 bs:=by
  rw[bv,f1,←e2];have h1:pw64 m*2 ^ (64-s-1)≤pw64 m*ys[m]:=Int.mul_le_mul_of_nonneg_left (by omega) (by omega);have h2:2 ^ s*(pw64 m*2 ^ (64-s-1))≤2 ^ s*(val64 (ys.take m)+pw64 m*ys[m]):=Int.mul_le_mul_of_nonneg_left (by omega) (by omega);have h3:(2:Int) ^ s*2 ^ (64-s-1)*pw64 m=2 ^ s*(pw64 m*2 ^ (64-s-1)):=by grind
  omega
 have high:val64 bs<pw64 (m+1):=by
  rw[bv,f1,pw64,←hp];have h1:pw64 m*(ys[m]+1)≤pw64 m*2 ^ (64-s):=Int.mul_le_mul_of_nonneg_left (by omega) (by omega);rw[Int.mul_add] at h1;have h2:(2:Int) ^ s*(val64 (ys.take m)+pw64 m*ys[m]+1)≤2 ^ s*(pw64 m*2 ^ (64-s)):=Int.mul_le_mul_of_nonneg_left (by omega) (by omega);rw[Int.mul_add _ _ 1] at h2;have h3:(2:Int) ^ s*2 ^ (64-s)*pw64 m=2 ^ s*(pw64 m*2 ^ (64-s)):=by grind
  omega
 have tk:=(val64_high bw (m+1) (by omega) high).2;refine⟨hs64,tk,low,high,fun k hk h e=>?_⟩;obtain rfl:k=m:=by omega
 rw[val64_take bs k h,e,Int.mul_zero,Int.add_zero] at tk;have l:=vq_lt (words_take bw k);rw[List.length_take,Nat.min_eq_left (by omega)] at l
 omega
structure DlI (X B:Int) (rs qs:List Int) (k:Nat):Prop where
 rl:rs.length=9
 rw:Words rs
 ql:qs.length=8
 qw:Words qs
 eq:X=val64 qs*B+val64 rs
 lt:val64 rs<B*pw64 k
 low:∀j,j<k→(h:j<qs.length)→qs[j]=0
theorem dl_start {B:Int} {rs:List Int} {n c m s:Nat} {X:Int} (rl:rs.length=9) (rw' :Words rs) (hmn:m+1=n) (hn:n≤8) (hc:c≤9) (hz:∀j,c≤j→(h:j<rs.length)→rs[j]=0) (hB:9223372036854775808*pw64 m≤B) (hs:s<64) (rv:val64 rs=2 ^ s*X) (hX:X<pw64 8) (k:Nat) (hk:(k:Int)=(if (min c 8:Nat)<n then 0 else(min c 8:Nat)-n+1)) :
 DlI (val64 rs) B rs (List.replicate 8 0) k:=by
 have q0:=pq_pos m;have lt:val64 rs<B*pw64 k:=by
  have f:=(val64_few rw' c (by omega) hz).2;have k0:=pq_pos k;have m1:pw64 m*pw64 k≤B*pw64 k:=Int.mul_le_mul_of_nonneg_right (by omega) (by omega)
  rcases Nat.lt_or_ge c 9 with h9 | h9
  · rw[Nat.min_eq_left (by omega)] at hk
    rcases Nat.lt_or_ge c n with hcn | hcn
    · rw[if_pos hcn] at hk;obtain rfl:k=0:=by omega
      have:=pw64_mono (a:=c) (b:=m) (by omega);simp only[pw64,Int.mul_one] at m1⊢
      omega
    · rw[if_neg (by omega)] at hk;have e:m+k=c:=by omega
      rw[←pw64_add,e] at m1
      omega
  · obtain rfl:c=9:=by omega
    rw[if_neg (by simp;omega)] at hk;have e:m+k=8:=by simp at hk;omega
    have p0:(0:Int)<2 ^ s:=Int.pow_pos (by decide);have p1:=pow_le64 hs;have h1:(2:Int) ^ s*(X+1)≤2 ^ s*pw64 8:=Int.mul_le_mul_of_nonneg_left (by omega) (by omega);rw[Int.mul_add] at h1;have h2:(2:Int) ^ s*pw64 8≤9223372036854775808*pw64 8:=Int.mul_le_mul_of_nonneg_right p1 (Int.le_of_lt (pq_pos 8));have h3:9223372036854775808*pw64 m*pw64 k≤B*pw64 k:=Int.mul_le_mul_of_nonneg_right hB (by omega);rw[Int.mul_assoc,←pw64_add,e] at h3
    omega
 refine⟨rl,rw',rfl,?_,by rw[val64_zeros];omega,lt,fun j _ h=>List.getElem_replicate _⟩;intro d hd;rw[List.eq_of_mem_replicate hd];exact⟨by decide,by decide⟩
theorem dl_kn {X B:Int} {rs qs bs:List Int} {n p:Nat} (h:DlI X B rs qs (p+1)) (bl:bs.length=9) (bw:Words bs) (hn:1≤n) (hp:p+n≤8) (tk:val64 (bs.take n)=B) (top:∀k,k+1=n→(h:k<bs.length)→bs[k]≠0):Kn rs bs n p:=by
 refine⟨h.rl,bl,h.rw,bw,hn,hp,top,?_⟩;rw[tk];have hl:=h.rl;have e1:=val64_part rs p (by omega);have e2:=val64_part (rs.drop p) (n+1) (by simp;omega);have t0:=val64_nonneg (words_take h.rw p);have t1:=val64_nonneg (words_drop (words_drop h.rw p) (n+1));have p0:=pq_pos p;have p1:=pq_pos (n+1);have lt:=h.lt;rw[pw64,e1] at lt;have w0:val64 (win rs p (n+1))≤val64 (rs.drop p):=by
  unfold win;have:=Int.mul_nonneg (Int.le_of_lt p1) t1
  omega
 apply Int.lt_of_mul_lt_mul_left (a:=pw64 p) _ (by omega)
 have m1:pw64 p*val64 (win rs p (n+1))≤pw64 p*val64 (rs.drop p):=Int.mul_le_mul_of_nonneg_left w0 (by omega);have e3:B*(18446744073709551616*pw64 p)=pw64 p*(18446744073709551616*B):=by grind
 omega
theorem dl_step {X B:Int} {rs qs rs' :List Int} {n p:Nat} (h:DlI X B rs qs (p+1)) (hn:1≤n) (hp:p+n≤8) (B0:0<B) (hB:B<pw64 n) (K:val64 (win rs p (n+1))<18446744073709551616*B) (rl:rs'.length=9) (rw' :Words rs') (rv:val64 rs' =val64 rs-pw64 p*(val64 (win rs p (n+1)) / B*B)) :
 Word (val64 (win rs p (n+1)) / B)∧DlI X B rs' (qs.set p (val64 (win rs p (n+1)) / B)) p:=by
 have hl:=h.rl;have ql:=h.ql;have W0:=val64_nonneg (win_words h.rw p (n+1));have hq:Word (val64 (win rs p (n+1)) / B):=⟨Int.ediv_nonneg W0 (by omega),Int.ediv_lt_of_lt_mul B0 K⟩;refine⟨hq,rl,rw',by simpa using ql,words_set h.qw _ hq,?_,?_,fun j hj hh=>?_⟩
 · rw[val64_set qs p (by omega),h.low p (by omega) (by omega),rv,Int.sub_zero];have:=h.eq;generalize val64 (win rs p (n+1)) / B=q at *;generalize pw64 p=P at *
   grind
 · rw[rv];have e1:=val64_part rs p (by omega);have e2:=val64_part (rs.drop p) (n+1) (by simp;omega);have t1:=vq_lt (words_take h.rw p);rw[List.length_take,Nat.min_eq_left (by omega)] at t1;have p0:=pq_pos p;have big:val64 rs<pw64 (p+(n+1)):=by
    have lt:=h.lt;rw[pw64] at lt;rw[pw64_add,pw64];have m1:pw64 p*(18446744073709551616*(B+1))≤pw64 p*(18446744073709551616*pw64 n):=Int.mul_le_mul_of_nonneg_left (by omega) (by omega);have e3:B*(18446744073709551616*pw64 p)=pw64 p*(18446744073709551616*B):=by grind
    have e4:pw64 p*(18446744073709551616*(B+1))=pw64 p*(18446744073709551616*B)+18446744073709551616*pw64 p:=by grind
    omega
   have hz:=(val64_high h.rw (p+(n+1)) (by omega) big).1;rw[List.drop_drop,hz,Int.mul_zero,Int.add_zero] at e2;have e5:val64 (win rs p (n+1))=val64 (rs.drop p):=by unfold win;rw[e2]
   rw[e1,←e5];have e6:=Int.mul_ediv_add_emod (val64 (win rs p (n+1))) B;have e7:=Int.emod_lt_of_pos (val64 (win rs p (n+1))) B0;generalize val64 (win rs p (n+1)) / B=q at *;generalize val64 (win rs p (n+1))%B=r at *;generalize val64 (win rs p (n+1))=W at *;have e8:pw64 p*(r+1)≤pw64 p*B:=Int.mul_le_mul_of_nonneg_left (by omega) (by omega);have e9:pw64 p*(q*B)=pw64 p*W-pw64 p*r:=by rw[←e6];grind
   rw[Int.mul_add] at e8;rw[e9,Int.mul_comm B]
   omega
 · have hh' :j<qs.length:=by simpa using hh
   rw[List.getElem_set_ne (by omega)];exact h.low j (by omega) hh'
theorem dl_end {X Y B:Int} {rs qs:List Int} {s:Nat} (h:DlI (2 ^ s*X) B rs qs 0) (hY:0<Y) (hB:B=2 ^ s*Y):val64 qs=X / Y∧val64 rs=2 ^ s*(X%Y):=by
 have p0:(0:Int)<2 ^ s:=Int.pow_pos (by decide);have e:=h.eq;have lt:=h.lt;rw[pw64,Int.mul_one,hB] at lt;rw[hB] at e;have r0:=val64_nonneg h.rw;generalize val64 rs=R at *;generalize val64 qs=Q at *;have e1:R=2 ^ s*(X-Q*Y):=by grind
 have r1:0≤X-Q*Y:=by
  apply Decidable.byContradiction
  intro hn;have h1:(2:Int) ^ s*(X-Q*Y+1)≤2 ^ s*0:=Int.mul_le_mul_of_nonneg_left (by omega) (by omega);rw[Int.mul_add] at h1
  omega
 have r2:X-Q*Y<Y:=by
  apply Int.lt_of_mul_lt_mul_left (a:=2 ^ s) _ (by omega)
  omega
 have e2:X=(X-Q*Y)+Y*Q:=by grind
 have q:X / Y=Q:=by
  rw[e2,Int.add_mul_ediv_left _ _ (by omega),Int.ediv_eq_zero_of_lt r1 r2];omega
 have r:X%Y=X-Q*Y:=by
  have:=Int.mul_ediv_add_emod X Y;rw[q] at this;have e3:Y*Q=Q*Y:=Int.mul_comm _ _
  omega
 exact⟨q.symm,by rw[r];exact e1⟩
structure AddI (w wr:World) (xs ys:List Int) (k c:Nat) (cv:Int) (zs:List Int):Prop where
 len:zs.length=k
 dig:Dig zs
 eq:val zs+cv*pw k=val (xs.take k)+val (ys.take k)
 own:wr.ownsRow w.heap.size 108 1 (.slice (some ⟨w.heap.size,0,none⟩) k c) k (zs.map (Value.int .u32))
 below:Below w.heap.size w wr
theorem add_eq (xs ys zs:List Int) (k:Nat) (hl:zs.length=k) (cv x:Int) (eq:val zs+cv*pw k=val (xs.take k)+val (ys.take k)) (hx:x=cv+xs.getD k 0+ys.getD k 0) :
 val (zs ++[x%4294967296])+x / 4294967296*pw (k+1)=val (xs.take (k+1))+val (ys.take (k+1)):=by
 rw[val_snoc,hl,val_take_getD,val_take_getD,pw];have e1:pw k*(x%4294967296)+x / 4294967296*(4294967296*pw k)=pw k*x:=by
  have:x=x%4294967296+4294967296*(x / 4294967296):=by omega
  generalize x / 4294967296=q at *;generalize x%4294967296=r at *;subst this
  grind
 have e2:pw k*x=cv*pw k+pw k*xs.getD k 0+pw k*ys.getD k 0:=by rw[hx];grind
 omega
theorem add_step {w wr w2:World} {xs ys:List Int} {k c:Nat} {cv:Int} {zs:List Int} (hI:AddI w wr xs ys k c cv zs) (x:Int) (hx:x=cv+xs.getD k 0+ys.getD k 0) {o:Obj}
 (hown:w2.ownsRow w.heap.size 108 1 (.slice (some ⟨w.heap.size,0,none⟩) (k+1) c) (k+1) (zs.map (Value.int .u32) ++[.int .u32 (x%4294967296)]))
 (hgrow:(wr.alloc o).grownBy w2 (some w.heap.size)):AddI w w2 xs ys (k+1) c (x / 4294967296) (zs ++[x%4294967296]):=by
 refine⟨by simp[hI.len],dig_append.2 ⟨hI.dig,dig_cons.2 ⟨⟨by omega,by omega⟩,dig_nil⟩⟩,add_eq xs ys zs k hI.len cv x hI.eq hx,by simpa using hown,?_⟩;have hs:=hI.below.size;refine(hI.below.alloc hs o).grown hgrow (by simp;omega) ?_;intro j hj;cases hj;exact Nat.le_refl _
def DigleP (k:Nat) (z:Int) (w:World) (e:Ending) (w' :World):Prop:=
 ∃(ao:Option Addr) (n cap:Nat) (zs:List Int),e= .returned (.slice ao n cap)∧zs.length=n∧n≤cap∧n≤k∧Dig zs∧val zs=z∧Rd w' ao zs∧Below w.heap.size w w'
theorem add_done {w wr:World} {n:Nat} {xs ys:List Int} {zs:List Int} (hI:AddI w wr xs ys n (n+1) 0 zs) (hx:xs.length=n) (hy:ys.length≤n) :
 DigleP (n+1) (val xs+val ys) w (.returned (.slice (some ⟨w.heap.size,0,none⟩) n (n+1))) wr:=by
 refine⟨_,n,n+1,zs,rfl,hI.len,by omega,by omega,hI.dig,?_,Rd.own hI.own hI.len,hI.below⟩;have:=hI.eq;rw[val_take_all xs n (by omega),val_take_all ys n hy] at this
 simpa using this
theorem add_done1 {w wr w2:World} {n:Nat} {xs ys:List Int} {cv:Int} {zs:List Int} (hI:AddI w wr xs ys n (n+1) cv zs) (h0:0≤cv) (h1:cv<4294967296) (hx:xs.length=n) (hy:ys.length≤n) {o:Obj}
 (hown:w2.ownsRow w.heap.size 108 1 (.slice (some ⟨w.heap.size,0,none⟩) (n+1) (n+1)) (n+1) (zs.map (Value.int .u32) ++[.int .u32 cv])) (hgrow:(wr.alloc o).grownBy w2 (some w.heap.size)) :
 DigleP (n+1) (val xs+val ys) w (.returned (.slice (some ⟨w.heap.size,0,none⟩) (n+1) (n+1))) w2:=by
 have hl:(zs ++[cv]).length=n+1:=by simp[hI.len]
 refine⟨_,n+1,n+1,zs ++[cv],rfl,hl,Nat.le_refl _,Nat.le_refl _,dig_append.2 ⟨hI.dig,dig_cons.2 ⟨⟨h0,h1⟩,dig_nil⟩⟩,?_,Rd.own (by simpa using hown) hl,?_⟩
 · have:=hI.eq;rw[val_take_all xs n (by omega),val_take_all ys n hy] at this;rw[val_snoc,hI.len,Int.mul_comm,this]
 · have hs:=hI.below.size;refine(hI.below.alloc hs o).grown hgrow (by simp;omega) ?_;intro j hj;cases hj;exact Nat.le_refl _
theorem addAbs_ge (ao bo:Option Addr) (n m ca cb:Nat) (xs ys:List Int) (w:World) (hx:xs.length=n) (hy:ys.length=m) (dx:Dig xs) (dy:Dig ys) (rx:Rd w ao xs) (ry:Rd w bo ys) (hm:n≤1000000) (hnm:m≤n) :
 Calls Tryz.prog 107 #[.slice ao n ca,.slice bo m cb] w (DigleP (n+1) (val xs+val ys) w):=by
 obtain⟨i0,hi,hz0,hz1,hz2⟩:=info_parts Tryz.info88;have HX:Hid (xs.length=n):=hx;have HY:Hid (ys.length=m):=hy;have HDX:Hid (Dig xs):=dx;have HDY:Hid (Dig ys):=dy;have HRX:Hid (Rd w ao xs):=rx;have HRY:Hid (Rd w bo ys):=ry;have hnm' :¬n<m:=by omega
 clear rx ry dx dy hx hy
 go_enter Tryz.func107,Tryz.ntmps107
 go_wp2_with (at_make;refine wpList_make_own _ rfl _ _ 62 rfl w.heap.size 108 i0 (.int .u32 0) 1 Tryz.underlying62 hi hz0 hz1 _ _ _ (n+1) rfl rfl (by omega) (by rw[hz2];omega) (by unfold maxLen;omega) (Nat.le_refl _) ?_)
 intro w1 hown hgrow;have HS:AddI w w1 xs ys 0 (n+1) 0 []:=⟨rfl,dig_nil,by simp[val],hown,(Below.refl _ _).grown hgrow (Nat.le_refl _) (by simp)⟩;clear hown hgrow;go_wp2
 go_loopw [5,6,7] (fun o c i wr=>∃(k:Nat) (cv:Int) (zs:List Int),k≤n∧i= .int .i64 k∧0≤cv∧cv≤1∧c= .int .u64 cv∧o= .slice (some ⟨w.heap.size,0,none⟩) k (n+1)∧AddI w wr xs ys k (n+1) cv zs) (fun _ _ i _=>n-(intOf i).toNat)
 case atStart=>exact⟨0,0,[],Nat.zero_le _,rfl,by decide,by decide,rfl,rfl,HS⟩
 case round=>
  obtain⟨k,cv,zs,hk,rfl,hc0,hc1,rfl,rfl,hI⟩:=hrel;clear HS
  by_cases hkn:k<n
  · have hkx:k<xs.length:=by have:=HX.out;omega
    obtain⟨b,off,rfl,hbl,hcx0⟩:=HRX.out k hkx;have hcx:=(hI.below.cell (p:=⟨b,off+k,none⟩) hbl).trans hcx0;clear hcx0;obtain⟨hx0,hx1⟩:=dig_at HDX.out k hkx
    by_cases hkm:k<m
    · have hky:k<ys.length:=by have:=HY.out;omega
      obtain⟨b',off',rfl,hbl',hcy0⟩:=HRY.out k hky;have hcy:=(hI.below.cell (p:=⟨b',off' +k,none⟩) hbl').trans hcy0;clear hcy0;obtain⟨hy0,hy1⟩:=dig_at HDY.out k hky
      go_wp2_with (at_builtin;refine wpList_append_fits _ rfl _ _ 62 rfl w.heap.size 108 i0 1 Tryz.underlying62 hi hz1 w.heap.size k (n+1) _ rfl (hI.own.alloc _) ⟨wr.heap.size,0,none⟩ 1 1 [.int .u32 ((cv+xs[k]+ys[k])%4294967296)] rfl rfl (cell_one_new _ _ _) (one_cell _ _) (by omega) ?_)
      intro w2 hown2 hgrow2;go_wp2;go_roundw
      case rel=>exact⟨k+1,(cv+xs[k]+ys[k]) / 4294967296,_,by omega,by go_num,by omega,by omega,rfl,rfl,add_step hI _ (by simp[List.getD,hkx,hky]) hown2 hgrow2⟩
      case measure=>simp[intOf];omega
    · have hky:¬k<ys.length:=by have:=HY.out;omega
      go_wp2_with (at_builtin;refine wpList_append_fits _ rfl _ _ 62 rfl w.heap.size 108 i0 1 Tryz.underlying62 hi hz1 w.heap.size k (n+1) _ rfl (hI.own.alloc _) ⟨wr.heap.size,0,none⟩ 1 1 [.int .u32 ((cv+xs[k])%4294967296)] rfl rfl (cell_one_new _ _ _) (one_cell _ _) (by omega) ?_)
      intro w2 hown2 hgrow2;go_wp2;go_roundw
      case rel=>exact⟨k+1,(cv+xs[k]) / 4294967296,_,by omega,by go_num,by omega,by omega,rfl,rfl,add_step hI _ (by simp[List.getD,hkx,hky]) hown2 hgrow2⟩
      case measure=>simp[intOf];omega
  · obtain rfl:k=n:=by omega
    by_cases hcp:0<cv
    · obtain rfl:cv=1:=by omega
      go_wp2_with (at_builtin;refine wpList_append_fits _ rfl _ _ 62 rfl w.heap.size 108 i0 1 Tryz.underlying62 hi hz1 w.heap.size k (k+1) _ rfl (hI.own.alloc _) ⟨wr.heap.size,0,none⟩ 1 1 [.int .u32 1] rfl rfl (cell_one_new _ _ _) (one_cell _ _) (by omega) ?_)
      intro w2 hown2 hgrow2;go_wp2;go_ret;exact add_done1 hI (by omega) (by omega) HX.out (by have:=HY.out;omega) hown2 hgrow2
    · obtain rfl:cv=0:=by omega
      go_wp2;go_ret;exact add_done hI HX.out (by have:=HY.out;omega)
theorem addAbs_lt (ao bo:Option Addr) (n m ca cb:Nat) (xs ys:List Int) (w:World) (hx:xs.length=n) (hy:ys.length=m) (dx:Dig xs) (dy:Dig ys) (rx:Rd w ao xs) (ry:Rd w bo ys) (hm:n≤1000000) (hnm:m<n) :
 Calls Tryz.prog 107 #[.slice bo m cb,.slice ao n ca] w (DigleP (n+1) (val xs+val ys) w):=by
 obtain⟨i0,hi,hz0,hz1,hz2⟩:=info_parts Tryz.info88;have HX:Hid (xs.length=n):=hx;have HY:Hid (ys.length=m):=hy;have HDX:Hid (Dig xs):=dx;have HDY:Hid (Dig ys):=dy;have HRX:Hid (Rd w ao xs):=rx;have HRY:Hid (Rd w bo ys):=ry;clear rx ry dx dy hx hy
 go_enter Tryz.func107,Tryz.ntmps107
 go_wp2_with (at_make;refine wpList_make_own _ rfl _ _ 62 rfl w.heap.size 108 i0 (.int .u32 0) 1 Tryz.underlying62 hi hz0 hz1 _ _ _ (n+1) rfl rfl (by omega) (by rw[hz2];omega) (by unfold maxLen;omega) (Nat.le_refl _) ?_)
 intro w1 hown hgrow;have HS:AddI w w1 xs ys 0 (n+1) 0 []:=⟨rfl,dig_nil,by simp[val],hown,(Below.refl _ _).grown hgrow (Nat.le_refl _) (by simp)⟩;clear hown hgrow;go_wp2
 go_loopw [5,6,7] (fun o c i wr=>∃(k:Nat) (cv:Int) (zs:List Int),k≤n∧i= .int .i64 k∧0≤cv∧cv≤1∧c= .int .u64 cv∧o= .slice (some ⟨w.heap.size,0,none⟩) k (n+1)∧AddI w wr xs ys k (n+1) cv zs) (fun _ _ i _=>n-(intOf i).toNat)
 case atStart=>exact⟨0,0,[],Nat.zero_le _,rfl,by decide,by decide,rfl,rfl,HS⟩
 case round=>
  obtain⟨k,cv,zs,hk,rfl,hc0,hc1,rfl,rfl,hI⟩:=hrel;clear HS
  by_cases hkn:k<n
  · have hkx:k<xs.length:=by have:=HX.out;omega
    obtain⟨b,off,rfl,hbl,hcx0⟩:=HRX.out k hkx;have hcx:=(hI.below.cell (p:=⟨b,off+k,none⟩) hbl).trans hcx0;clear hcx0;obtain⟨hx0,hx1⟩:=dig_at HDX.out k hkx
    by_cases hkm:k<m
    · have hky:k<ys.length:=by have:=HY.out;omega
      obtain⟨b',off',rfl,hbl',hcy0⟩:=HRY.out k hky;have hcy:=(hI.below.cell (p:=⟨b',off' +k,none⟩) hbl').trans hcy0;clear hcy0;obtain⟨hy0,hy1⟩:=dig_at HDY.out k hky
      go_wp2_with (at_builtin;refine wpList_append_fits _ rfl _ _ 62 rfl w.heap.size 108 i0 1 Tryz.underlying62 hi hz1 w.heap.size k (n+1) _ rfl (hI.own.alloc _) ⟨wr.heap.size,0,none⟩ 1 1 [.int .u32 ((cv+xs[k]+ys[k])%4294967296)] rfl rfl (cell_one_new _ _ _) (one_cell _ _) (by omega) ?_)
      intro w2 hown2 hgrow2;go_wp2;go_roundw
      case rel=>exact⟨k+1,(cv+xs[k]+ys[k]) / 4294967296,_,by omega,by go_num,by omega,by omega,rfl,rfl,add_step hI _ (by simp[List.getD,hkx,hky]) hown2 hgrow2⟩
      case measure=>simp[intOf];omega
    · have hky:¬k<ys.length:=by have:=HY.out;omega
      go_wp2_with (at_builtin;refine wpList_append_fits _ rfl _ _ 62 rfl w.heap.size 108 i0 1 Tryz.underlying62 hi hz1 w.heap.size k (n+1) _ rfl (hI.own.alloc _) ⟨wr.heap.size,0,none⟩ 1 1 [.int .u32 ((cv+xs[k])%4294967296)] rfl rfl (cell_one_new _ _ _) (one_cell _ _) (by omega) ?_)
      intro w2 hown2 hgrow2;go_wp2;go_roundw
      case rel=>exact⟨k+1,(cv+xs[k]) / 4294967296,_,by omega,by go_num,by omega,by omega,rfl,rfl,add_step hI _ (by simp[List.getD,hkx,hky]) hown2 hgrow2⟩
      case measure=>simp[intOf];omega
  · obtain rfl:k=n:=by omega
    by_cases hcp:0<cv
    · obtain rfl:cv=1:=by omega
      go_wp2_with (at_builtin;refine wpList_append_fits _ rfl _ _ 62 rfl w.heap.size 108 i0 1 Tryz.underlying62 hi hz1 w.heap.size k (k+1) _ rfl (hI.own.alloc _) ⟨wr.heap.size,0,none⟩ 1 1 [.int .u32 1] rfl rfl (cell_one_new _ _ _) (one_cell _ _) (by omega) ?_)
      intro w2 hown2 hgrow2;go_wp2;go_ret;exact add_done1 hI (by omega) (by omega) HX.out (by have:=HY.out;omega) hown2 hgrow2
    · obtain rfl:cv=0:=by omega
      go_wp2;go_ret;exact add_done hI HX.out (by have:=HY.out;omega)
theorem addAbs_any (ao bo:Option Addr) (n m ca cb k:Nat) (xs ys:List Int) (w:World) (hx:xs.length=n) (hy:ys.length=m) (dx:Dig xs) (dy:Dig ys) (rx:Rd w ao xs) (ry:Rd w bo ys) (h1:n≤k) (h2:m≤k) (hk:k≤1000000) :
 Calls Tryz.prog 107 #[.slice ao n ca,.slice bo m cb] w (DigleP (k+1) (val xs+val ys) w):=by
 by_cases hnm:m≤n
 · refine(addAbs_ge ao bo n m ca cb xs ys w hx hy dx dy rx ry (by omega) hnm).mono ?_;rintro e w' ⟨a,l,c,zs,he,g1,g2,g3,g⟩;exact⟨a,l,c,zs,he,g1,g2,by omega,g⟩
 · refine(addAbs_lt bo ao m n cb ca ys xs w hy hx dy dx ry rx (by omega) (by omega)).mono ?_;rintro e w' ⟨a,l,c,zs,he,g1,g2,g3,g4,g5,g6,g7⟩;exact⟨a,l,c,zs,he,g1,g2,by omega,g4,by rw[g5,Int.add_comm],g6,g7⟩
structure Two (w W:World) (A0 A1 B0 B1:Value):Prop where
 a0:W.cell? ⟨w.heap.size,0,none⟩=some A0
 a1:W.cell? ⟨w.heap.size,1,none⟩=some A1
 b0:W.cell? ⟨w.heap.size+1,0,none⟩=some B0
 b1:W.cell? ⟨w.heap.size+1,1,none⟩=some B1
 r0:W.cell? ⟨w.heap.size+1+1,0,none⟩=some (.bool false)
 r1:W.cell? ⟨w.heap.size+1+1,1,none⟩=some (.slice none 0 0)
 f0:W.frozen? ⟨w.heap.size+1+1,0,none⟩=false
 f1:W.frozen? ⟨w.heap.size+1+1,1,none⟩=false
 sz:w.heap.size+1+1<W.heap.size
 below:Below w.heap.size w W
theorem two_start (w:World) (A0 A1 B0 B1:Value):Two w (((w.alloc (Obj.cells #[A0,A1] 64)).alloc (Obj.cells #[B0,B1] 64)).alloc (Obj.cells #[Value.bool false,Value.slice none 0 0] 64)) A0 A1 B0 B1:=
 ⟨by simp[go_sem],by simp[go_sem],by simp[go_sem],by simp[go_sem],by simp[go_sem],by simp[go_sem],by simp[go_sem],by simp[go_sem],by simp,(((Below.refl _ _).alloc (Nat.le_refl _) _).alloc (by simp) _).alloc (by simp;omega) _⟩
theorem Two.step {w W W' :World} {A0 A1 B0 B1:Value} (h:Two w W A0 A1 B0 B1) (hb:Below W.heap.size W W'):Two w W' A0 A1 B0 B1:=by
 have hs:=h.sz;have hc:=fun b o (hl:b<W.heap.size)=>hb.cell (p:=⟨b,o,none⟩) hl;have hf:=fun b o (hl:b<W.heap.size)=>hb.frozen (p:=⟨b,o,none⟩) hl;exact⟨(hc _ _ (by omega)).trans h.a0,(hc _ _ (by omega)).trans h.a1,(hc _ _ (by omega)).trans h.b0,(hc _ _ (by omega)).trans h.b1,(hc _ _ hs).trans h.r0,(hc _ _ hs).trans h.r1,(hf _ _ hs).trans h.f0,(hf _ _ hs).trans h.f1,
  Nat.lt_of_lt_of_le hs hb.size,h.below.trans (hb.mono h.below.size)⟩
theorem Two.drew {w W:World} {A0 A1 B0 B1:Value} (h:Two w W A0 A1 B0 B1):Two w W.drew A0 A1 B0 B1:=⟨h.a0,h.a1,h.b0,h.b1,h.r0,h.r1,h.f0,h.f1,h.sz,h.below.drew⟩
theorem two_keep {w W:World} {u v:Value} (a o:Nat) {c:Value} (ha:a≠w.heap.size+1+1) (hc:W.cell? ⟨a,o,none⟩=some c) :
 ((W.setCell ⟨w.heap.size+1+1,0,none⟩ u).setCell ⟨w.heap.size+1+1,1,none⟩ v).cell? ⟨a,o,none⟩=some c:=by
 have hn:∀j,(⟨w.heap.size+1+1,j,none⟩:Addr)≠⟨a,o,none⟩:=by intro j e;simp only[Addr.mk.injEq] at e;exact ha e.1.symm
 rw[World.cell?_setCell_other _ _ _ _ (hn 1),World.cell?_setCell_other _ _ _ _ (hn 0)];exact hc
theorem abs_add {x y:Int} (h:decide (x<0)=decide (y<0)):((x.natAbs:Int)+y.natAbs)=((x+y).natAbs:Int):=by
 have:(x<0)↔(y<0):=by simpa using h
 omega
theorem sign_add {x y:Int} {s:Bool} (h1:s=decide (x<0)) (h:decide (x<0)=decide (y<0)):x+y≠0→s=decide (x+y<0):=by
 intro hz;rw[h1];have:(x<0)↔(y<0):=by simpa using h
 rw[decide_eq_decide];omega
theorem abs_sub {x y:Int} {s t:Bool} (hs:s=decide (x<0)) (ht:t=decide (y<0)) (hne:s≠t) (h:(y.natAbs:Int)≤x.natAbs):((x.natAbs:Int)-y.natAbs)=((x+y).natAbs:Int)∧(x+y≠0→s=decide (x+y<0)):=by
 have:¬((x<0)↔(y<0)):=by intro h';apply hne;rw[hs,ht,decide_eq_decide];exact h'
 constructor
 · omega
 · intro hz;rw[hs,decide_eq_decide];omega
theorem num_ret' {w w3:World} {s:Bool} {ao:Option Addr} {n cap:Nat} {ds:List Int} {z:Int} {k R:Nat} {b0:Bool} {a0:Option Addr} {n0 c0:Nat} (hR:w.heap.size≤R) (h0:w3.cell? ⟨R,0,none⟩=some (.bool b0)) (h1:w3.cell? ⟨R,1,none⟩=some (.slice a0 n0 c0))
 (h:IsNum w3 s ao n cap ds z k) (hb:Below w.heap.size w w3) {w4:World} (hw:w4=((w3.setCell ⟨R,0,none⟩ (.bool s)).setCell ⟨R,1,none⟩ (.slice ao n cap)).drew∨w4=(w3.setCell ⟨R,0,none⟩ (.bool s)).setCell ⟨R,1,none⟩ (.slice ao n cap):=by first | exact Or.inl rfl | exact Or.inr rfl) :
 NumP k z w (.returned (.agg #[.bool s,.slice ao n cap])) w4:=by
 obtain⟨s',ao',n',cap',ds',e,hN,hB⟩:=num_ret hR h0 h1 h hb
 rcases hw with rfl | rfl
 · exact⟨s',ao',n',cap',ds',e,⟨hN.neg,hN.len,hN.cap,hN.rd,hN.nrm,hN.val,hN.le⟩,hB.drew⟩
 · exact⟨s',ao',n',cap',ds',e,hN,hB⟩
def Nn (z:Int):Prop:=0≤z
def Ng (z:Int):Prop:=z<0
theorem add_same (s:Bool) (ao bo:Option Addr) (n m ca cb k:Nat) (xs ys:List Int) (x y:Int) (w:World) (hx:IsNum w s ao n ca xs x k) (hy:IsNum w s bo m cb ys y k) (hk:k≤1000000) :
 Calls Tryz.prog 97 #[.agg #[.bool s,.slice ao n ca],.agg #[.bool s,.slice bo m cb]] w (NumP (k+1) (x+y) w):=by
 have hss:(s==s)=true:=by simp
 have hsg:decide (x<0)=decide (y<0):=hx.neg.symm.trans hy.neg;have HV:Hid (val xs+val ys=((x+y).natAbs:Int)∧(x+y≠0→s=decide (x+y<0))):=⟨by rw[hx.val,hy.val];exact abs_add hsg,sign_add hx.neg hsg⟩;have HX:Hid (xs.length=n):=hx.len;have HY:Hid (ys.length=m):=hy.len;have hnk:=hx.le;have hmk:=hy.le;have dx:=hx.nrm.1;have dy:=hy.nrm.1;have T0:=two_start w (.bool s) (.slice ao n ca) (.bool s) (.slice bo m cb);have rx:=hx.rd.below T0.below (Nat.le_refl _);have ry:=hy.rd.below T0.below (Nat.le_refl _);clear hsg hx hy
 go_enter Tryz.func97,Tryz.ntmps97
 go_wp2;generalize ((w.alloc (Obj.cells #[Value.bool s,Value.slice ao n ca] 64)).alloc (Obj.cells #[Value.bool s,Value.slice bo m cb] 64)).alloc (Obj.cells #[Value.bool false,Value.slice none 0 0] 64)=W at *
 go_region_held3 (fun w' =>w'.cell? ⟨w.heap.size,0,none⟩=some (.bool s)∧w'.cell? ⟨w.heap.size,1,none⟩=some (.slice ao n ca)∧w'.cell? ⟨w.heap.size+1,1,none⟩=some (.slice bo m cb)) (first | exact⟨two_keep _ _ (by omega) T2.a0,two_keep _ _ (by omega) T2.a1,two_keep _ _ (by omega) T2.b1⟩ | exact⟨T2.a0,T2.a1,T2.b1⟩ | exact⟨T1.a0,T1.a1,T1.b1⟩ | exact⟨T0.a0,T0.a1,T0.b1⟩)
  (first
   | (go_at_call 107;refine(addAbs_any ao bo n m ca cb k xs ys _ HX.out HY.out dx dy (by exact rx) (by exact ry) hnk hmk hk).mono ?_;rintro e w1 ⟨ao1,n1,c1,zs,rfl,p1,p2,p3,p4,p5,p6,p7⟩;have T1:=T0.drew.step p7;clear p7)
   | (go_at_call 68;refine(trim_any s _ _ _ zs _ p1 p2 p4 p6 (by omega)).mono ?_;rintro e w2 ⟨neg',ao',n',cap',ds',rfl,k1,k2,k3,k4,k5,k6,k7,k8⟩;have T2:=T1.step k8;have HN:=num_of (z:=x+y) (k:=k+1) k1 k2 (by omega) k4 (k5.trans p5) (k6.trans (by rw[p5])) k7 HV.out.1 HV.out.2;have c0:=T2.r0;have c1:=T2.r1;have f0:=T2.f0;have f1:=T2.f1;clear k1 k2 k3 k4 k5 k6 k7 k8))
 all_goals go_wp2
 all_goals refine bodyPost_ret (v:= .agg #[.bool neg',.slice ao' n' cap']) (by simp[results,Tryz.results97,go_sem,c0,c1]) rfl ?_
 all_goals exact num_ret' (by omega) c0 c1 HN T2.below
theorem add_ge (s t:Bool) (hst:s≠t) (ao bo:Option Addr) (n m ca cb k:Nat) (xs ys:List Int) (x y:Int) (w:World) (hx:IsNum w s ao n ca xs x k) (hy:IsNum w t bo m cb ys y k) (hk:k≤1000000) (hle:val ys≤val xs) :
 Calls Tryz.prog 97 #[.agg #[.bool s,.slice ao n ca],.agg #[.bool t,.slice bo m cb]] w (NumP (k+1) (x+y) w):=by
 have hss:(s==t)=false:=by simpa using hst
 have HV:Hid (val xs-val ys=((x+y).natAbs:Int)∧(x+y≠0→s=decide (x+y<0))):=by have:=hle;rw[hx.val,hy.val] at this⊢;exact abs_sub hx.neg hy.neg hst this
 have HX:Hid (xs.length=n):=hx.len;have HY:Hid (ys.length=m):=hy.len;have hnk:=hx.le;have hmk:=hy.le;have NX:=hx.nrm;have NY:=hy.nrm;have HLE:Hid (val ys≤val xs):=hle;have T0:=two_start w (.bool s) (.slice ao n ca) (.bool t) (.slice bo m cb);have rx:=hx.rd.below T0.below (Nat.le_refl _);have ry:=hy.rd.below T0.below (Nat.le_refl _);have hcc:Nn (cmpI (val xs) (val ys)):=by show 0≤_;unfold cmpI;split<;>(try split)<;>omega
 clear hx hy hst hle
 go_enter Tryz.func97,Tryz.ntmps97
 go_wp2_with fail;generalize ((w.alloc (Obj.cells #[Value.bool s,Value.slice ao n ca] 64)).alloc (Obj.cells #[Value.bool t,Value.slice bo m cb] 64)).alloc (Obj.cells #[Value.bool false,Value.slice none 0 0] 64)=W0 at *;refine(cmpAbs_any ao bo n m ca cb xs ys _ HX.out HY.out NX NY rx ry (by omega) (by omega)).mono ?_;rintro e W ⟨rfl,hB⟩;have T:=T0.step hB;have rx:=rx.below hB (Nat.le_refl _);have ry:=ry.below hB (Nat.le_refl _);generalize cmpI (val xs) (val ys)=cc at *;have hcc:0≤cc:=hcc;clear T0 hB;have T0:=T;clear T;go_wp2
 go_region_held3 (fun w' =>w'.cell? ⟨w.heap.size,0,none⟩=some (.bool s)∧w'.cell? ⟨w.heap.size,1,none⟩=some (.slice ao n ca)∧w'.cell? ⟨w.heap.size+1,1,none⟩=some (.slice bo m cb)) (first | exact⟨two_keep _ _ (by omega) T2.a0,two_keep _ _ (by omega) T2.a1,two_keep _ _ (by omega) T2.b1⟩ | exact⟨T2.a0,T2.a1,T2.b1⟩ | exact⟨T1.a0,T1.a1,T1.b1⟩ | exact⟨T0.a0,T0.a1,T0.b1⟩)
  (first
   | (go_at_call 83;refine(subAbs_any ao bo n m ca cb xs ys _ HX.out HY.out NX.1 NY.1 (by exact rx) (by exact ry) (by omega) (by omega) HLE.out).mono ?_;rintro e w1 ⟨ao1,c1,zs,rfl,p1,p2,p4,p5,p6,p7⟩;have T1:=T0.drew.step p7;clear p7)
   | (go_at_call 68;refine(trim_any s _ _ _ zs _ p1 p2 p4 p6 (by omega)).mono ?_;rintro e w2 ⟨neg',ao',n',cap',ds',rfl,k1,k2,k3,k4,k5,k6,k7,k8⟩;have T2:=T1.step k8;have HN:=num_of (z:=x+y) (k:=k+1) k1 k2 (by omega) k4 (k5.trans p5) (k6.trans (by rw[p5])) k7 HV.out.1 HV.out.2;have c0:=T2.r0;have c1:=T2.r1;have f0:=T2.f0;have f1:=T2.f1;clear k1 k2 k3 k4 k5 k6 k7 k8))
 all_goals go_wp2
 all_goals refine bodyPost_ret (v:= .agg #[.bool neg',.slice ao' n' cap']) (by simp[results,Tryz.results97,go_sem,c0,c1]) rfl ?_
 all_goals exact num_ret' (by omega) c0 c1 HN T2.below
theorem add_lt (s t:Bool) (hst:s≠t) (ao bo:Option Addr) (n m ca cb k:Nat) (xs ys:List Int) (x y:Int) (w:World) (hx:IsNum w s ao n ca xs x k) (hy:IsNum w t bo m cb ys y k) (hk:k≤1000000) (hle:val xs<val ys) :
 Calls Tryz.prog 97 #[.agg #[.bool s,.slice ao n ca],.agg #[.bool t,.slice bo m cb]] w (NumP (k+1) (x+y) w):=by
 have hss:(s==t)=false:=by simpa using hst
 have HV:Hid (val ys-val xs=((x+y).natAbs:Int)∧(x+y≠0→t=decide (x+y<0))):=by have:=hle;rw[hx.val,hy.val] at this⊢;have h:=abs_sub hy.neg hx.neg (fun e=>hst e.symm) (by omega);rw[Int.add_comm y x] at h;exact h
 have HX:Hid (xs.length=n):=hx.len;have HY:Hid (ys.length=m):=hy.len;have hnk:=hx.le;have hmk:=hy.le;have NX:=hx.nrm;have NY:=hy.nrm;have HLE:Hid (val xs<val ys):=hle;have T0:=two_start w (.bool s) (.slice ao n ca) (.bool t) (.slice bo m cb);have rx:=hx.rd.below T0.below (Nat.le_refl _);have ry:=hy.rd.below T0.below (Nat.le_refl _);have hcc:Ng (cmpI (val xs) (val ys)):=by show _<0;rw[cmpI_lt hle];decide
 clear hx hy hst hle
 go_enter Tryz.func97,Tryz.ntmps97
 go_wp2_with fail;generalize ((w.alloc (Obj.cells #[Value.bool s,Value.slice ao n ca] 64)).alloc (Obj.cells #[Value.bool t,Value.slice bo m cb] 64)).alloc (Obj.cells #[Value.bool false,Value.slice none 0 0] 64)=W0 at *;refine(cmpAbs_any ao bo n m ca cb xs ys _ HX.out HY.out NX NY rx ry (by omega) (by omega)).mono ?_;rintro e W ⟨rfl,hB⟩;have T:=T0.step hB;have rx:=rx.below hB (Nat.le_refl _);have ry:=ry.below hB (Nat.le_refl _);generalize cmpI (val xs) (val ys)=cc at *;have hcc:¬0≤cc:=by have:cc<0:=hcc;omega
 clear T0 hB;have T0:=T;clear T;go_wp2
 go_region_held3 (fun w' =>w'.cell? ⟨w.heap.size+1,0,none⟩=some (.bool t)∧w'.cell? ⟨w.heap.size+1,1,none⟩=some (.slice bo m cb)∧w'.cell? ⟨w.heap.size,1,none⟩=some (.slice ao n ca)) (first | exact⟨two_keep _ _ (by omega) T2.b0,two_keep _ _ (by omega) T2.b1,two_keep _ _ (by omega) T2.a1⟩ | exact⟨T2.b0,T2.b1,T2.a1⟩ | exact⟨T1.b0,T1.b1,T1.a1⟩ | exact⟨T0.b0,T0.b1,T0.a1⟩)
  (first
   | (go_at_call 83;refine(subAbs_any bo ao m n cb ca ys xs _ HY.out HX.out NY.1 NX.1 (by exact ry) (by exact rx) (by omega) (by omega) (Int.le_of_lt HLE.out)).mono ?_;rintro e w1 ⟨ao1,c1,zs,rfl,p1,p2,p4,p5,p6,p7⟩;have T1:=T0.drew.step p7;clear p7)
   | (go_at_call 68;refine(trim_any t _ _ _ zs _ p1 p2 p4 p6 (by omega)).mono ?_;rintro e w2 ⟨neg',ao',n',cap',ds',rfl,k1,k2,k3,k4,k5,k6,k7,k8⟩;have T2:=T1.step k8;have HN:=num_of (z:=x+y) (k:=k+1) k1 k2 (by omega) k4 (k5.trans p5) (k6.trans (by rw[p5])) k7 HV.out.1 HV.out.2;have c0:=T2.r0;have c1:=T2.r1;have f0:=T2.f0;have f1:=T2.f1;clear k1 k2 k3 k4 k5 k6 k7 k8))
 all_goals go_wp2
 all_goals refine bodyPost_ret (v:= .agg #[.bool neg',.slice ao' n' cap']) (by simp[results,Tryz.results97,go_sem,c0,c1]) rfl ?_
 all_goals exact num_ret' (by omega) c0 c1 HN T2.below
theorem add_any (s t:Bool) (ao bo:Option Addr) (n m ca cb k:Nat) (xs ys:List Int) (x y:Int) (w:World) (hx:IsNum w s ao n ca xs x k) (hy:IsNum w t bo m cb ys y k) (hk:k≤1000000) :
 Calls Tryz.prog 97 #[.agg #[.bool s,.slice ao n ca],.agg #[.bool t,.slice bo m cb]] w (NumP (k+1) (x+y) w):=by
 by_cases hst:s=t
 · subst hst;exact add_same s ao bo n m ca cb k xs ys x y w hx hy hk
 · by_cases hle:val ys≤val xs
   · exact add_ge s t hst ao bo n m ca cb k xs ys x y w hx hy hk hle
   · exact add_lt s t hst ao bo n m ca cb k xs ys x y w hx hy hk (by omega)
theorem IsNum.drew {w:World} {s:Bool} {ao:Option Addr} {n cap:Nat} {ds:List Int} {z:Int} {k:Nat} (h:IsNum w s ao n cap ds z k):IsNum w.drew s ao n cap ds z k:=⟨h.neg,h.len,h.cap,h.rd,h.nrm,h.val,h.le⟩
theorem IsNum.negated {w:World} {s:Bool} {ao:Option Addr} {n cap:Nat} {ds:List Int} {z:Int} {k:Nat} (h:IsNum w s ao n cap ds z k) (hz:z≠0):IsNum w (!s) ao n cap ds (-z) k:=
 ⟨by rw[h.neg];by_cases h' :z<0<;>simp[h']<;>omega,h.len,h.cap,h.rd,h.nrm,by rw[h.val];omega,h.le⟩
theorem neg_any (s:Bool) (ao:Option Addr) (n cap:Nat) (ds:List Int) (z:Int) (k:Nat) (w:World) (h:IsNum w s ao n cap ds z k) :
 Calls Tryz.prog 85 #[.agg #[.bool s,.slice ao n cap]] w (NumP k (-z) w):=by
 have h1:=h.zero;have hB:∀o o',Below w.heap.size w ((w.alloc o).alloc o'):=fun o o' =>((Below.refl _ _).alloc (Nat.le_refl _) o).alloc (by simp) o'
 by_cases hz:z=0
 · subst hz;have hn:=h1.2 rfl;subst hn;have HH:Hid (IsNum w s ao 0 cap ds 0 k):=h;clear h1 h
   go_enter Tryz.func85,Tryz.ntmps85
   go_wp2;refine bodyPost_ret (v:= .agg #[.bool s,.slice ao 0 cap]) (by simp[results,Tryz.results85,go_sem]) rfl ?_;exact⟨s,ao,0,cap,ds,rfl,by simpa using HH.out.below (hB _ _),hB _ _⟩
 · have hn:((n:Int)==0)=false:=beq_eq_false_iff_ne.2 (by have:=fun h=>hz (h1.1 h);omega);have HH:Hid (IsNum w (!s) ao n cap ds (-z) k):=h.negated hz;clear h1 h
   go_enter Tryz.func85,Tryz.ntmps85
   go_wp2;refine bodyPost_ret (v:= .agg #[.bool (!s),.slice ao n cap]) (by simp[results,Tryz.results85,go_sem]) rfl ?_;exact⟨!s,ao,n,cap,ds,rfl,HH.out.below (hB _ _),hB _ _⟩
theorem sub_any (s t:Bool) (ao bo:Option Addr) (n m ca cb k:Nat) (xs ys:List Int) (x y:Int) (w:World) (hx:IsNum w s ao n ca xs x k) (hy:IsNum w t bo m cb ys y k) (hk:k≤1000000) :
 Calls Tryz.prog 81 #[.agg #[.bool s,.slice ao n ca],.agg #[.bool t,.slice bo m cb]] w (NumP (k+1) (x-y) w):=by
 have T0:=two_start w (.bool s) (.slice ao n ca) (.bool t) (.slice bo m cb);have nx:=(hx.below T0.below).drew;have ny:=(hy.below T0.below).drew;clear hx hy
 go_enter Tryz.func81,Tryz.ntmps81
 go_wp2;generalize ((w.alloc (Obj.cells #[Value.bool s,Value.slice ao n ca] 64)).alloc (Obj.cells #[Value.bool t,Value.slice bo m cb] 64)).alloc (Obj.cells #[Value.bool false,Value.slice none 0 0] 64)=W at *
 go_region_held3 (fun w' =>w'.cell? ⟨w.heap.size,0,none⟩=some (.bool s)∧w'.cell? ⟨w.heap.size,1,none⟩=some (.slice ao n ca)∧w'.cell? ⟨w.heap.size+1,0,none⟩=some (.bool t)∧w'.cell? ⟨w.heap.size+1,1,none⟩=some (.slice bo m cb))
  (first | exact⟨two_keep _ _ (by omega) T2.a0,two_keep _ _ (by omega) T2.a1,two_keep _ _ (by omega) T2.b0,two_keep _ _ (by omega) T2.b1⟩ | exact⟨T2.a0,T2.a1,T2.b0,T2.b1⟩ | exact⟨T1.a0,T1.a1,T1.b0,T1.b1⟩ | exact⟨T0.a0,T0.a1,T0.b0,T0.b1⟩)
  (first
   | (go_at_call 85;refine(neg_any t bo m cb ys y k _ ny).mono ?_;rintro e w1 ⟨s1,ao1,n1,c1,ds1,rfl,hN1,hB1⟩;have T1:=T0.drew.step hB1;have nx1:=nx.below hB1;clear hB1)
   | (go_at_call 97;refine(add_any s s1 ao ao1 n n1 ca c1 k xs ds1 x (-y) _ nx1 hN1 hk).mono ?_;rintro e w2 ⟨s2,ao2,n2,c2,ds2,rfl,hN2,hB2⟩;have T2:=T1.step hB2;have c0:=T2.r0;have c1:=T2.r1;have f0:=T2.f0;have f1:=T2.f1;clear hB2))
 all_goals go_wp2
 all_goals refine bodyPost_ret (v:= .agg #[.bool s2,.slice ao2 n2 c2]) (by simp[results,Tryz.results81,go_sem,c0,c1]) rfl ?_
 all_goals exact num_ret' (by omega) c0 c1 hN2 T2.below
theorem cmp_any (s t:Bool) (ao bo:Option Addr) (n m ca cb k:Nat) (xs ys:List Int) (x y:Int) (w:World) (hx:IsNum w s ao n ca xs x k) (hy:IsNum w t bo m cb ys y k) (hk:k≤1000000) :
 Calls Tryz.prog 56 #[.agg #[.bool s,.slice ao n ca],.agg #[.bool t,.slice bo m cb]] w (IntP (cmpI x y) w):=by
 have hB:∀o o',Below w.heap.size w ((w.alloc o).alloc o'):=fun o o' =>((Below.refl _ _).alloc (Nat.le_refl _) o).alloc (by simp) o'
 go_enter Tryz.func56,Tryz.ntmps56
 go_wp2_with fail;refine(sub_any s t ao bo n m ca cb k xs ys x y _ (hx.below (hB _ _)) (hy.below (hB _ _)) hk).mono ?_;rintro e w1 ⟨s1,ao1,n1,c1,ds1,rfl,hN1,hB1⟩;have hB2:=(hB _ _).trans (hB1.mono (by simp;omega));clear hB1;go_wp2_with fail;refine(sign_any s1 ao1 n1 c1 ds1 _ _ _ hN1).mono ?_;rintro e w2 ⟨rfl,hB3⟩;have hB4:=hB2.trans (hB3.mono hB2.size);clear hB2 hB3 hN1;go_wp2;go_ret;exact⟨ret_int (by unfold cmpI;by_cases h1:x<y<;>by_cases h2:y<x<;>simp[h1,h2]<;>omega),hB4⟩
end Go.Proofs.YtbogliojkabbjaaGreat
