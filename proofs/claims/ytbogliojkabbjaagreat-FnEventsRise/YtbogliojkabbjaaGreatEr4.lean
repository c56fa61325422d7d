/- Part 4 of the walks that the proof leans on. -/
import Derived.Test.YtbogliojkabbjaaGreatEr1
import Derived.Deep.RegionHeld3
import Derived.Test.YtbogliojkabbjaaGreatEr2
import Derived.Test.YtbogliojkabbjaaGreatEr3
import Derived.Deep.DeepCutAuto
import Derived.Deep.QuietTactic
import Derived.BigQuiet
import Derived.Deep.MidRow
set_option maxRecDepth 100000
set_option maxHeartbeats 16000000
namespace Go.Proofs.YtbogliojkabbjaaGreat
open Go.RowKit
theorem toW_pos (ao:Option Addr) (n cap:Nat) (ds:List Int) (z:Int) (k:Nat) (w:World) (hz0:0≤z) (h:IsNum w false ao n cap ds z k) (hk:k≤1000000) :
 Calls Tryz.prog 67 #[.agg #[.bool false,.slice ao n cap]] w (TellP z w):=by
 have HL:Hid (ds.length=n):=h.len;have HD:Hid (Dig ds):=h.nrm.1;have hm:n≤1000000:=by have:=h.le;omega
 go_enter Tryz.func67,Tryz.ntmps67
 go_wp2_with fail;refine(bits_any ao n cap ds _ h.len h.nrm ((h.rd.below ((Below.refl _ _).alloc (Nat.le_refl _) _) (Nat.le_refl _)).below ((Below.refl _ _).alloc (Nat.le_refl _) _) (Nat.le_refl _)) (by have:=h.le;omega)).mono ?_;rintro e w1 ⟨b,rfl,hb,hB⟩;have HR:Hid (Rd w1 ao ds):=((h.rd.below ((Below.refl _ _).alloc (Nat.le_refl _) _) (Nat.le_refl _)).below ((Below.refl _ _).alloc (Nat.le_refl _) _) (Nat.le_refl _)).below hB (Nat.le_refl _);obtain⟨c0,c1,c2,c3,f0,f1,f2,f3,hz,hB2⟩:=res4' (R:=w.heap.size+1) (by simp) (hB.mono (by simp));have HB:Hid (Below w.heap.size w w1):=((Below.refl _ _).alloc (Nat.le_refl _) _).trans (hB2.mono (by simp));have hv:=h.val;have hbl:=bits_le hb 255;rw[two255,hv] at hbl;clear hB hB2 h hb
 by_cases hb5:b≤255
 · have hmk:=make8;have HU:Hid (val ds<pw 8):=by show _<_;have:=hbl.1 hb5;rw[hv,pw8];omega
   have HS:Hid (TellOk (val ds) z):=Or.inl ⟨hz0,by have:=hbl.1 hb5;omega,by rw[hv];omega⟩;clear hv hbl;go_wp2_with fail
   go_loopw [6] (fun i wr=>∃k:Nat,k≤8∧k≤n∧i= .int .i64 k∧ToI w1 wr w1.heap.size ds k) (fun i _=>8-(intOf i).toNat)
   case atStart=>exact⟨0,by omega,Nat.zero_le _,rfl,toI_start w1 ds⟩
   case round=>
    obtain⟨k,hk8,hkn,rfl,hI⟩:=hrel
    by_cases h8:k<8
    · by_cases hn:k<n
      · have hkx:k<ds.length:=by have:=HL.out;omega
        obtain⟨b',off,rfl,hbl,hcx0⟩:=HR.out k hkx;have hcx:=(hI.below.cell (p:=⟨b',off+k,none⟩) hbl).trans hcx0;clear hcx0;obtain⟨hx0,hx1⟩:=dig_at HD.out k hkx;have hfr:=hI.own.frozenAt k;obtain⟨v0,hc0⟩:=toI_cell hI k h8;have R:=toI_step hI h8 hkx;clear hI;have hbn:b' ≠w1.heap.size:=by omega
        go_wp2;go_roundw
        case rel=>exact⟨k+1,by omega,by omega,by go_num,R⟩
        case measure=>simp[intOf];omega
      · obtain rfl:k=n:=by omega
        have HC:=toI_cells hI (Or.inr HL.out);have HBB:Hid (Below w.heap.size w wr):=HB.out.trans (hI.below.mono HB.out.size);obtain⟨g0,g1,g2,g3,q0,q1,q2,q3⟩:=toI_res hI hz c0 c1 c2 c3 f0 f1 f2 f3;clear hI c0 c1 c2 c3 f0 f1 f2 f3;have hne:w.heap.size+1≠w1.heap.size:=by omega
        obtain⟨y0,hy0⟩:∃y,y=ds.getD 0 0:=⟨_,rfl⟩;obtain⟨y1,hy1⟩:∃y,y=ds.getD 1 0:=⟨_,rfl⟩;obtain⟨y2,hy2⟩:∃y,y=ds.getD 2 0:=⟨_,rfl⟩;obtain⟨y3,hy3⟩:∃y,y=ds.getD 3 0:=⟨_,rfl⟩;obtain⟨y4,hy4⟩:∃y,y=ds.getD 4 0:=⟨_,rfl⟩;obtain⟨y5,hy5⟩:∃y,y=ds.getD 5 0:=⟨_,rfl⟩;obtain⟨y6,hy6⟩:∃y,y=ds.getD 6 0:=⟨_,rfl⟩;obtain⟨y7,hy7⟩:∃y,y=ds.getD 7 0:=⟨_,rfl⟩;have e0:=HC 0 (by omega);have e1:=HC 1 (by omega);have e2:=HC 2 (by omega);have e3:=HC 3 (by omega);have e4:=HC 4 (by omega);have e5:=HC 5 (by omega);have e6:=HC 6 (by omega);have e7:=HC 7 (by omega);have b0:=dig_getD HD.out 0;have b1:=dig_getD HD.out 1;have b2:=dig_getD HD.out 2;have b3:=dig_getD HD.out 3;have b4:=dig_getD HD.out 4;have b5:=dig_getD HD.out 5;have b6:=dig_getD HD.out 6;have b7:=dig_getD HD.out 7;have HW:=uw_of_digits HD.out HU.out;rw[←hy0] at e0 b0 HW;rw[←hy1] at e1 b1 HW;rw[←hy2] at e2 b2 HW;rw[←hy3] at e3 b3 HW;rw[←hy4] at e4 b4 HW;rw[←hy5] at e5 b5 HW;rw[←hy6] at e6 b6 HW;rw[←hy7] at e7 b7 HW;have o0:=or_hi y0 y1 b0 b1;have o1:=or_hi y2 y3 b2 b3;have o2:=or_hi y4 y5 b4 b5;have o3:=or_hi y6 y7 b6 b7;have d0:=word_of_digits b0 b1;have d1:=word_of_digits b2 b3;have d2:=word_of_digits b4 b5;have d3:=word_of_digits b6 b7;obtain⟨x0,hx0⟩:∃x,x=y0+y1*4294967296:=⟨_,rfl⟩;obtain⟨x1,hx1⟩:∃x,x=y2+y3*4294967296:=⟨_,rfl⟩;obtain⟨x2,hx2⟩:∃x,x=y4+y5*4294967296:=⟨_,rfl⟩;obtain⟨x3,hx3⟩:∃x,x=y6+y7*4294967296:=⟨_,rfl⟩;rw[←hx0] at o0 d0 HW;rw[←hx1] at o1 d1 HW;rw[←hx2] at o2 d2 HW;rw[←hx3] at o3 d3 HW;have HW2:Hid (uw x3 x2 x1 x0=val ds):=HW;clear HC HW hx0 hx1 hx2 hx3 hy0 hy1 hy2 hy3 hy4 hy5 hy6 hy7 b0 b1 b2 b3 b4 b5 b6 b7;go_wp2
        go_region_held3 (fun w' =>w'.cell? ⟨w1.heap.size,0,none⟩=some (.int .u64 y0)∧w'.cell? ⟨w1.heap.size,1,none⟩=some (.int .u64 y1)∧w'.cell? ⟨w1.heap.size,2,none⟩=some (.int .u64 y2)∧w'.cell? ⟨w1.heap.size,3,none⟩=some (.int .u64 y3)∧w'.cell? ⟨w1.heap.size,4,none⟩=some (.int .u64 y4)∧w'.cell? ⟨w1.heap.size,5,none⟩=some (.int .u64 y5)∧w'.cell? ⟨w1.heap.size,6,none⟩=some (.int .u64 y6)∧w'.cell? ⟨w1.heap.size,7,none⟩=some (.int .u64 y7)) (first | exact⟨e0,e1,e2,e3,e4,e5,e6,e7⟩ | exact keep8 hne e0 e1 e2 e3 e4 e5 e6 e7) (fail)
        all_goals go_wp2
        all_goals refine bodyPost_ret (v:= .tuple #[.agg #[.int .u64 x3,.int .u64 x2,.int .u64 x1,.int .u64 x0],.bool true]) (by simp[results,Tryz.results67,go_sem,g0,g1,g2,g3]) rfl ?_
        all_goals exact tell_ok d3 d2 d1 d0 HW2.out HS.out (by first | exact(tell_below HBB.out (Nat.le_succ _)).drew | exact tell_below HBB.out (Nat.le_succ _))
    · obtain rfl:k=8:=by omega
      have HC:=toI_cells hI (Or.inl rfl);have HBB:Hid (Below w.heap.size w wr):=HB.out.trans (hI.below.mono HB.out.size);obtain⟨g0,g1,g2,g3,q0,q1,q2,q3⟩:=toI_res hI hz c0 c1 c2 c3 f0 f1 f2 f3;clear hI c0 c1 c2 c3 f0 f1 f2 f3;have hne:w.heap.size+1≠w1.heap.size:=by omega
      obtain⟨y0,hy0⟩:∃y,y=ds.getD 0 0:=⟨_,rfl⟩;obtain⟨y1,hy1⟩:∃y,y=ds.getD 1 0:=⟨_,rfl⟩;obtain⟨y2,hy2⟩:∃y,y=ds.getD 2 0:=⟨_,rfl⟩;obtain⟨y3,hy3⟩:∃y,y=ds.getD 3 0:=⟨_,rfl⟩;obtain⟨y4,hy4⟩:∃y,y=ds.getD 4 0:=⟨_,rfl⟩;obtain⟨y5,hy5⟩:∃y,y=ds.getD 5 0:=⟨_,rfl⟩;obtain⟨y6,hy6⟩:∃y,y=ds.getD 6 0:=⟨_,rfl⟩;obtain⟨y7,hy7⟩:∃y,y=ds.getD 7 0:=⟨_,rfl⟩;have e0:=HC 0 (by omega);have e1:=HC 1 (by omega);have e2:=HC 2 (by omega);have e3:=HC 3 (by omega);have e4:=HC 4 (by omega);have e5:=HC 5 (by omega);have e6:=HC 6 (by omega);have e7:=HC 7 (by omega);have b0:=dig_getD HD.out 0;have b1:=dig_getD HD.out 1;have b2:=dig_getD HD.out 2;have b3:=dig_getD HD.out 3;have b4:=dig_getD HD.out 4;have b5:=dig_getD HD.out 5;have b6:=dig_getD HD.out 6;have b7:=dig_getD HD.out 7;have HW:=uw_of_digits HD.out HU.out;rw[←hy0] at e0 b0 HW;rw[←hy1] at e1 b1 HW;rw[←hy2] at e2 b2 HW;rw[←hy3] at e3 b3 HW;rw[←hy4] at e4 b4 HW;rw[←hy5] at e5 b5 HW;rw[←hy6] at e6 b6 HW;rw[←hy7] at e7 b7 HW;have o0:=or_hi y0 y1 b0 b1;have o1:=or_hi y2 y3 b2 b3;have o2:=or_hi y4 y5 b4 b5;have o3:=or_hi y6 y7 b6 b7;have d0:=word_of_digits b0 b1;have d1:=word_of_digits b2 b3;have d2:=word_of_digits b4 b5;have d3:=word_of_digits b6 b7;obtain⟨x0,hx0⟩:∃x,x=y0+y1*4294967296:=⟨_,rfl⟩;obtain⟨x1,hx1⟩:∃x,x=y2+y3*4294967296:=⟨_,rfl⟩;obtain⟨x2,hx2⟩:∃x,x=y4+y5*4294967296:=⟨_,rfl⟩;obtain⟨x3,hx3⟩:∃x,x=y6+y7*4294967296:=⟨_,rfl⟩;rw[←hx0] at o0 d0 HW;rw[←hx1] at o1 d1 HW;rw[←hx2] at o2 d2 HW;rw[←hx3] at o3 d3 HW;have HW2:Hid (uw x3 x2 x1 x0=val ds):=HW;clear HC HW hx0 hx1 hx2 hx3 hy0 hy1 hy2 hy3 hy4 hy5 hy6 hy7 b0 b1 b2 b3 b4 b5 b6 b7;go_wp2
      go_region_held3 (fun w' =>w'.cell? ⟨w1.heap.size,0,none⟩=some (.int .u64 y0)∧w'.cell? ⟨w1.heap.size,1,none⟩=some (.int .u64 y1)∧w'.cell? ⟨w1.heap.size,2,none⟩=some (.int .u64 y2)∧w'.cell? ⟨w1.heap.size,3,none⟩=some (.int .u64 y3)∧w'.cell? ⟨w1.heap.size,4,none⟩=some (.int .u64 y4)∧w'.cell? ⟨w1.heap.size,5,none⟩=some (.int .u64 y5)∧w'.cell? ⟨w1.heap.size,6,none⟩=some (.int .u64 y6)∧w'.cell? ⟨w1.heap.size,7,none⟩=some (.int .u64 y7)) (first | exact⟨e0,e1,e2,e3,e4,e5,e6,e7⟩ | exact keep8 hne e0 e1 e2 e3 e4 e5 e6 e7) (fail)
      all_goals go_wp2
      all_goals refine bodyPost_ret (v:= .tuple #[.agg #[.int .u64 x3,.int .u64 x2,.int .u64 x1,.int .u64 x0],.bool true]) (by simp[results,Tryz.results67,go_sem,g0,g1,g2,g3]) rfl ?_
      all_goals exact tell_ok d3 d2 d1 d0 HW2.out HS.out (by first | exact(tell_below HBB.out (Nat.le_succ _)).drew | exact tell_below HBB.out (Nat.le_succ _))
 · have HT:Hid (told z=false):=by show _=_;unfold told;rw[decide_eq_false_iff_not];have:=fun h=>hb5 (hbl.2 h);omega
   clear hv hbl HR;go_wp2_with fail;refine bodyPost_ret (v:= .tuple #[.agg #[.int .u64 0,.int .u64 0,.int .u64 0,.int .u64 0],.bool false]) (by simp[results,Tryz.results67,go_sem,c0,c1,c2,c3]) rfl ?_;exact⟨tell_below HB.out (Nat.le_succ _),Or.inr ⟨HT.out,rfl⟩⟩
theorem toW_neg (ao:Option Addr) (n cap:Nat) (ds0:List Int) (z:Int) (k:Nat) (w:World) (hz0:z<0) (h:IsNum w true ao n cap ds0 z k) (hk:k≤1000000) :
 Calls Tryz.prog 67 #[.agg #[.bool true,.slice ao n cap]] w (TellP z w):=by
 have hm0:n≤1000000:=by have:=h.le;omega
 go_enter Tryz.func67,Tryz.ntmps67
 go_wp2_with fail;refine(left_any _ 1 1 255 [1] _ rfl (dig_cons.2 ⟨by omega,dig_nil⟩) (Rd.lit _ (by simp) rfl (by simp[maxLen])) (by omega) (by omega)).mono ?_;rintro e wa ⟨ao1,n1,cap1,zs1,rfl,k1,k2,k3,k4,k5,k6,k7⟩;have hRd0:Rd wa ao ds0:=(((h.rd.below ((Below.refl _ _).alloc (Nat.le_refl _) _) (Nat.le_refl _)).below ((Below.refl _ _).alloc (Nat.le_refl _) _) (Nat.le_refl _)).below ((Below.refl _ _).alloc (Nat.le_refl _) _) (Nat.le_refl _)).below k7 (Nat.le_refl _);have hA:Below (w.heap.size+2) ((w.alloc (Obj.cells #[Value.bool true,Value.slice ao n cap] 64)).alloc (Obj.cells #[Value.int IntKind.u64 0,Value.int IntKind.u64 0,Value.int IntKind.u64 0,Value.int IntKind.u64 0] 27)) wa:=
  ((Below.refl _ _).alloc (by simp) _).trans (k7.mono (by simp))
 rw[pw255] at k5;have k3' :n1≤9:=k3;clear k7 k3;go_wp2_with fail;refine(cmpAbs_any ao ao1 n n1 cap cap1 ds0 zs1 _ h.len k1 h.nrm k4 hRd0 k6 hm0 (by omega)).mono ?_;rintro e wb ⟨rfl,hB⟩;have hRd1:=hRd0.below hB (Nat.le_refl _);have hA1:=hA.trans (hB.mono (by have:=hA.size;simp at this⊢;omega));have hL0:=h.len;have hD0:=h.nrm.1;have hv0:=h.val;have HV0:Hid (val ds0=(z.natAbs:Int)):=hv0;rw[k5,hv0];clear k1 k2 k4 k5 k6 hRd0 hA hB h hv0
 by_cases hb5:(z.natAbs:Int)≤57896044618658097711785492504343953926634992332820282019728792003956564819968
 · have hcmp:¬0<cmpI (z.natAbs:Int) 57896044618658097711785492504343953926634992332820282019728792003956564819968:=by unfold cmpI;split<;>(try split)<;>omega
   generalize cmpI (z.natAbs:Int) 57896044618658097711785492504343953926634992332820282019728792003956564819968=cc at hcmp⊢;have hmk:=make8;go_wp2_with fail;refine(left_any _ 1 1 256 [1] _ rfl (dig_cons.2 ⟨by omega,dig_nil⟩) (Rd.lit _ (by simp) rfl (by simp[maxLen])) (by omega) (by omega)).mono ?_;rintro e wc ⟨ao2,n2,cap2,zs2,rfl,k1,k2,k3,k4,k5,k6,k7⟩;have hRd2:=(hRd1.below ((Below.refl _ _).alloc (Nat.le_refl _) _) (Nat.le_refl _)).below k7 (Nat.le_refl _);have hA2:=(hA1.alloc (by have:=hA1.size;simp at this;omega) _).trans (k7.mono (by have:=hA1.size;simp at this⊢;omega));have k3' :n2≤10:=k3;rw[pw256] at k5;clear k7 k3;go_wp2_with fail;refine(subAbs_any ao2 ao n2 n cap2 cap zs2 ds0 _ k1 hL0 k4.1 hD0 k6 hRd2 (by omega) hm0 (by rw[k5,HV0.out];omega)).mono ?_;rintro e w1 ⟨ao3,cap3,ds,rfl,m1,m2,m3,m4,m5,m6⟩;have hA3:=hA2.trans (m6.mono (by have:=hA2.size;simp at this⊢;omega));obtain⟨c0,c1,c2,c3,f0,f1,f2,f3,hz,hB2⟩:=res4' (R:=w.heap.size+1) (by simp) (hA3.mono (by simp));have HB:Hid (Below w.heap.size w w1):=((Below.refl _ _).alloc (Nat.le_refl _) _).trans (hB2.mono (by simp));have HL:Hid (ds.length=n2):=m1;have HD:Hid (Dig ds):=m3;have HR:Hid (Rd w1 ao3 ds):=m5;rw[k5,HV0.out] at m4;have HU:Hid (val ds<pw 8):=by show _<_;rw[m4,pw8];omega
   have HS:Hid (TellOk (val ds) z):=Or.inr ⟨hz0,by omega,by rw[m4];omega⟩;clear k1 k2 k4 k5 k6 hRd1 hRd2 hA1 hA2 hA3 hB2 m1 m2 m3 m4 m5 m6 hL0 hD0 HV0;go_wp2_with fail
   go_loopw [6] (fun i wr=>∃k:Nat,k≤8∧k≤n2∧i= .int .i64 k∧ToI w1 wr w1.heap.size ds k) (fun i _=>8-(intOf i).toNat)
   case atStart=>exact⟨0,by omega,Nat.zero_le _,rfl,toI_start w1 ds⟩
   case round=>
    obtain⟨k,hk8,hkn,rfl,hI⟩:=hrel
    by_cases h8:k<8
    · by_cases hn:k<n2
      · have hkx:k<ds.length:=by have:=HL.out;omega
        obtain⟨b',off,rfl,hbl,hcx0⟩:=HR.out k hkx;have hcx:=(hI.below.cell (p:=⟨b',off+k,none⟩) hbl).trans hcx0;clear hcx0;obtain⟨hx0,hx1⟩:=dig_at HD.out k hkx;have hfr:=hI.own.frozenAt k;obtain⟨v0,hc0⟩:=toI_cell hI k h8;have R:=toI_step hI h8 hkx;clear hI;have hbn:b' ≠w1.heap.size:=by omega
        go_wp2;go_roundw
        case rel=>exact⟨k+1,by omega,by omega,by go_num,R⟩
        case measure=>simp[intOf];omega
      · obtain rfl:k=n2:=by omega
        have HC:=toI_cells hI (Or.inr HL.out);have HBB:Hid (Below w.heap.size w wr):=HB.out.trans (hI.below.mono HB.out.size);obtain⟨g0,g1,g2,g3,q0,q1,q2,q3⟩:=toI_res hI hz c0 c1 c2 c3 f0 f1 f2 f3;clear hI c0 c1 c2 c3 f0 f1 f2 f3;have hne:w.heap.size+1≠w1.heap.size:=by omega
        obtain⟨y0,hy0⟩:∃y,y=ds.getD 0 0:=⟨_,rfl⟩;obtain⟨y1,hy1⟩:∃y,y=ds.getD 1 0:=⟨_,rfl⟩;obtain⟨y2,hy2⟩:∃y,y=ds.getD 2 0:=⟨_,rfl⟩;obtain⟨y3,hy3⟩:∃y,y=ds.getD 3 0:=⟨_,rfl⟩;obtain⟨y4,hy4⟩:∃y,y=ds.getD 4 0:=⟨_,rfl⟩;obtain⟨y5,hy5⟩:∃y,y=ds.getD 5 0:=⟨_,rfl⟩;obtain⟨y6,hy6⟩:∃y,y=ds.getD 6 0:=⟨_,rfl⟩;obtain⟨y7,hy7⟩:∃y,y=ds.getD 7 0:=⟨_,rfl⟩;have e0:=HC 0 (by omega);have e1:=HC 1 (by omega);have e2:=HC 2 (by omega);have e3:=HC 3 (by omega);have e4:=HC 4 (by omega);have e5:=HC 5 (by omega);have e6:=HC 6 (by omega);have e7:=HC 7 (by omega);have b0:=dig_getD HD.out 0;have b1:=dig_getD HD.out 1;have b2:=dig_getD HD.out 2;have b3:=dig_getD HD.out 3;have b4:=dig_getD HD.out 4;have b5:=dig_getD HD.out 5;have b6:=dig_getD HD.out 6;have b7:=dig_getD HD.out 7;have HW:=uw_of_digits HD.out HU.out;rw[←hy0] at e0 b0 HW;rw[←hy1] at e1 b1 HW;rw[←hy2] at e2 b2 HW;rw[←hy3] at e3 b3 HW;rw[←hy4] at e4 b4 HW;rw[←hy5] at e5 b5 HW;rw[←hy6] at e6 b6 HW;rw[←hy7] at e7 b7 HW;have o0:=or_hi y0 y1 b0 b1;have o1:=or_hi y2 y3 b2 b3;have o2:=or_hi y4 y5 b4 b5;have o3:=or_hi y6 y7 b6 b7;have d0:=word_of_digits b0 b1;have d1:=word_of_digits b2 b3;have d2:=word_of_digits b4 b5;have d3:=word_of_digits b6 b7;obtain⟨x0,hx0⟩:∃x,x=y0+y1*4294967296:=⟨_,rfl⟩;obtain⟨x1,hx1⟩:∃x,x=y2+y3*4294967296:=⟨_,rfl⟩;obtain⟨x2,hx2⟩:∃x,x=y4+y5*4294967296:=⟨_,rfl⟩;obtain⟨x3,hx3⟩:∃x,x=y6+y7*4294967296:=⟨_,rfl⟩;rw[←hx0] at o0 d0 HW;rw[←hx1] at o1 d1 HW;rw[←hx2] at o2 d2 HW;rw[←hx3] at o3 d3 HW;have HW2:Hid (uw x3 x2 x1 x0=val ds):=HW;clear HC HW hx0 hx1 hx2 hx3 hy0 hy1 hy2 hy3 hy4 hy5 hy6 hy7 b0 b1 b2 b3 b4 b5 b6 b7;go_wp2
        go_region_held3 (fun w' =>w'.cell? ⟨w1.heap.size,0,none⟩=some (.int .u64 y0)∧w'.cell? ⟨w1.heap.size,1,none⟩=some (.int .u64 y1)∧w'.cell? ⟨w1.heap.size,2,none⟩=some (.int .u64 y2)∧w'.cell? ⟨w1.heap.size,3,none⟩=some (.int .u64 y3)∧w'.cell? ⟨w1.heap.size,4,none⟩=some (.int .u64 y4)∧w'.cell? ⟨w1.heap.size,5,none⟩=some (.int .u64 y5)∧w'.cell? ⟨w1.heap.size,6,none⟩=some (.int .u64 y6)∧w'.cell? ⟨w1.heap.size,7,none⟩=some (.int .u64 y7)) (first | exact⟨e0,e1,e2,e3,e4,e5,e6,e7⟩ | exact keep8 hne e0 e1 e2 e3 e4 e5 e6 e7) (fail)
        all_goals go_wp2
        all_goals refine bodyPost_ret (v:= .tuple #[.agg #[.int .u64 x3,.int .u64 x2,.int .u64 x1,.int .u64 x0],.bool true]) (by simp[results,Tryz.results67,go_sem,g0,g1,g2,g3]) rfl ?_
        all_goals exact tell_ok d3 d2 d1 d0 HW2.out HS.out (by first | exact(tell_below HBB.out (Nat.le_succ _)).drew | exact tell_below HBB.out (Nat.le_succ _))
    · obtain rfl:k=8:=by omega
      have HC:=toI_cells hI (Or.inl rfl);have HBB:Hid (Below w.heap.size w wr):=HB.out.trans (hI.below.mono HB.out.size);obtain⟨g0,g1,g2,g3,q0,q1,q2,q3⟩:=toI_res hI hz c0 c1 c2 c3 f0 f1 f2 f3;clear hI c0 c1 c2 c3 f0 f1 f2 f3;have hne:w.heap.size+1≠w1.heap.size:=by omega
      obtain⟨y0,hy0⟩:∃y,y=ds.getD 0 0:=⟨_,rfl⟩;obtain⟨y1,hy1⟩:∃y,y=ds.getD 1 0:=⟨_,rfl⟩;obtain⟨y2,hy2⟩:∃y,y=ds.getD 2 0:=⟨_,rfl⟩;obtain⟨y3,hy3⟩:∃y,y=ds.getD 3 0:=⟨_,rfl⟩;obtain⟨y4,hy4⟩:∃y,y=ds.getD 4 0:=⟨_,rfl⟩;obtain⟨y5,hy5⟩:∃y,y=ds.getD 5 0:=⟨_,rfl⟩;obtain⟨y6,hy6⟩:∃y,y=ds.getD 6 0:=⟨_,rfl⟩;obtain⟨y7,hy7⟩:∃y,y=ds.getD 7 0:=⟨_,rfl⟩;have e0:=HC 0 (by omega);have e1:=HC 1 (by omega);have e2:=HC 2 (by omega);have e3:=HC 3 (by omega);have e4:=HC 4 (by omega);have e5:=HC 5 (by omega);have e6:=HC 6 (by omega);have e7:=HC 7 (by omega);have b0:=dig_getD HD.out 0;have b1:=dig_getD HD.out 1;have b2:=dig_getD HD.out 2;have b3:=dig_getD HD.out 3;have b4:=dig_getD HD.out 4;have b5:=dig_getD HD.out 5;have b6:=dig_getD HD.out 6;have b7:=dig_getD HD.out 7;have HW:=uw_of_digits HD.out HU.out;rw[←hy0] at e0 b0 HW;rw[←hy1] at e1 b1 HW;rw[←hy2] at e2 b2 HW;rw[←hy3] at e3 b3 HW;rw[←hy4] at e4 b4 HW;rw[←hy5] at e5 b5 HW;rw[←hy6] at e6 b6 HW;rw[←hy7] at e7 b7 HW;have o0:=or_hi y0 y1 b0 b1;have o1:=or_hi y2 y3 b2 b3;have o2:=or_hi y4 y5 b4 b5;have o3:=or_hi y6 y7 b6 b7;have d0:=word_of_digits b0 b1;have d1:=word_of_digits b2 b3;have d2:=word_of_digits b4 b5;have d3:=word_of_digits b6 b7;obtain⟨x0,hx0⟩:∃x,x=y0+y1*4294967296:=⟨_,rfl⟩;obtain⟨x1,hx1⟩:∃x,x=y2+y3*4294967296:=⟨_,rfl⟩;obtain⟨x2,hx2⟩:∃x,x=y4+y5*4294967296:=⟨_,rfl⟩;obtain⟨x3,hx3⟩:∃x,x=y6+y7*4294967296:=⟨_,rfl⟩;rw[←hx0] at o0 d0 HW;rw[←hx1] at o1 d1 HW;rw[←hx2] at o2 d2 HW;rw[←hx3] at o3 d3 HW;have HW2:Hid (uw x3 x2 x1 x0=val ds):=HW;clear HC HW hx0 hx1 hx2 hx3 hy0 hy1 hy2 hy3 hy4 hy5 hy6 hy7 b0 b1 b2 b3 b4 b5 b6 b7;go_wp2
      go_region_held3 (fun w' =>w'.cell? ⟨w1.heap.size,0,none⟩=some (.int .u64 y0)∧w'.cell? ⟨w1.heap.size,1,none⟩=some (.int .u64 y1)∧w'.cell? ⟨w1.heap.size,2,none⟩=some (.int .u64 y2)∧w'.cell? ⟨w1.heap.size,3,none⟩=some (.int .u64 y3)∧w'.cell? ⟨w1.heap.size,4,none⟩=some (.int .u64 y4)∧w'.cell? ⟨w1.heap.size,5,none⟩=some (.int .u64 y5)∧w'.cell? ⟨w1.heap.size,6,none⟩=some (.int .u64 y6)∧w'.cell? ⟨w1.heap.size,7,none⟩=some (.int .u64 y7)) (first | exact⟨e0,e1,e2,e3,e4,e5,e6,e7⟩ | exact keep8 hne e0 e1 e2 e3 e4 e5 e6 e7) (fail)
      all_goals go_wp2
      all_goals refine bodyPost_ret (v:= .tuple #[.agg #[.int .u64 x3,.int .u64 x2,.int .u64 x1,.int .u64 x0],.bool true]) (by simp[results,Tryz.results67,go_sem,g0,g1,g2,g3]) rfl ?_
      all_goals exact tell_ok d3 d2 d1 d0 HW2.out HS.out (by first | exact(tell_below HBB.out (Nat.le_succ _)).drew | exact tell_below HBB.out (Nat.le_succ _))
 · have hcmp:0<cmpI (z.natAbs:Int) 57896044618658097711785492504343953926634992332820282019728792003956564819968:=by unfold cmpI;rw[if_neg (by omega),if_pos (by omega)];omega
   generalize cmpI (z.natAbs:Int) 57896044618658097711785492504343953926634992332820282019728792003956564819968=cc at hcmp⊢;have HT:Hid (told z=false):=by show _=_;unfold told;rw[decide_eq_false_iff_not];omega
   obtain⟨c0,c1,c2,c3,f0,f1,f2,f3,hz,hB2⟩:=res4' (R:=w.heap.size+1) (by simp) (hA1.mono (by simp));have HB:Hid (Below w.heap.size w wb):=((Below.refl _ _).alloc (Nat.le_refl _) _).trans (hB2.mono (by simp));clear hRd1 hA1 hB2 hL0 hD0 HV0;go_wp2_with fail;refine bodyPost_ret (v:= .tuple #[.agg #[.int .u64 0,.int .u64 0,.int .u64 0,.int .u64 0],.bool false]) (by simp[results,Tryz.results67,go_sem,c0,c1,c2,c3]) rfl ?_;exact⟨tell_below HB.out (Nat.le_succ _),Or.inr ⟨HT.out,rfl⟩⟩
theorem toW_any (s:Bool) (ao:Option Addr) (n cap:Nat) (ds:List Int) (z:Int) (k:Nat) (w:World) (h:IsNum w s ao n cap ds z k) (hk:k≤1000000) :
 Calls Tryz.prog 67 #[.agg #[.bool s,.slice ao n cap]] w (TellP z w):=by
 by_cases hz:z<0
 · have hs:s=true:=by rw[h.neg];simpa using hz
   subst hs;exact toW_neg ao n cap ds z k w hz h hk
 · have hs:s=false:=by rw[h.neg];simpa using hz
   subst hs;exact toW_pos ao n cap ds z k w (by omega) h hk
def SwP (z:Int) (w:World) (e:Ending) (w' :World):Prop:=
 ∃a3 a2 a1 a0,e= .returned (.agg #[.int .u64 a3,.int .u64 a2,.int .u64 a1,.int .u64 a0])∧Word a3∧Word a2∧Word a1∧Word a0∧sw a3 a2 a1 a0=z∧Below w.heap.size w w'
theorem specOf_any (n:Int) (w:World) (h0: -9223372036854775808≤n) (h1:n≤9223372036854775807) :
 Calls Tryz.prog 41 #[.int .i64 n] w (SwP n w):=by
 have ht:told n=true:=by unfold told;rw[decide_eq_true_iff];omega
 go_enter Tryz.func41,Tryz.ntmps41
 go_wp2_with fail;refine(int_any n _ h0 h1).mono ?_;rintro e w1 ⟨s,ao,m,cap,ds,rfl,hN,hB⟩;go_wp2_with fail;refine(toW_any s ao m cap ds n 2 _ hN (by omega)).mono ?_;rintro e w2 ⟨hB2,hT⟩
 rcases hT with ⟨_,a3,a2,a1,a0,rfl,g3,g2,g1,g0,hsw⟩ | ⟨hf,_⟩
 · have hB3:=hB.trans (hB2.mono hB.size);obtain⟨c0,c1,c2,c3,f0,f1,f2,f3,hz,hB4⟩:=res4' (R:=w.heap.size) rfl (hB3.mono (by simp));have HB:Hid (Below w.heap.size w w2):=hB4;have HS:Hid (sw a3 a2 a1 a0=n):=hsw;clear hB hB2 hB3 hB4 hN hsw;go_wp2;refine bodyPost_ret (v:= .agg #[.int .u64 a3,.int .u64 a2,.int .u64 a1,.int .u64 a0]) (by simp[results,Tryz.results41,go_sem,World.cell?_alloc_past,c0,c1,c2,c3,hz]) rfl ?_;exact⟨a3,a2,a1,a0,rfl,g3,g2,g1,g0,HS.out,(tell_below HB.out (Nat.le_refl _)).alloc (by simp;omega) _⟩
 · rw[ht] at hf;cases hf
structure Wd (W:World) (g:Nat) (a3 a2 a1 a0:Int):Prop where
 c0:W.cell? ⟨g,0,none⟩=some (.int .u64 a3)
 c1:W.cell? ⟨g,1,none⟩=some (.int .u64 a2)
 c2:W.cell? ⟨g,2,none⟩=some (.int .u64 a1)
 c3:W.cell? ⟨g,3,none⟩=some (.int .u64 a0)
 f0:W.frozen? ⟨g,0,none⟩=false
 f1:W.frozen? ⟨g,1,none⟩=false
 f2:W.frozen? ⟨g,2,none⟩=false
 f3:W.frozen? ⟨g,3,none⟩=false
 lt:g<W.heap.size
theorem Wd.step {W W' :World} {g:Nat} {a3 a2 a1 a0:Int} (h:Wd W g a3 a2 a1 a0) (hb:Below W.heap.size W W'):Wd W' g a3 a2 a1 a0:=by
 have hc:=fun o=>hb.cell (p:=⟨g,o,none⟩) h.lt;have hf:=fun o=>hb.frozen (p:=⟨g,o,none⟩) h.lt;exact⟨(hc _).trans h.c0,(hc _).trans h.c1,(hc _).trans h.c2,(hc _).trans h.c3,(hf _).trans h.f0,(hf _).trans h.f1,(hf _).trans h.f2,(hf _).trans h.f3,Nat.lt_of_lt_of_le h.lt hb.size⟩
theorem Wd.alloc {W:World} {g:Nat} {a3 a2 a1 a0:Int} (h:Wd W g a3 a2 a1 a0) (o:Obj):Wd (W.alloc o) g a3 a2 a1 a0:=h.step ((Below.refl _ _).alloc (Nat.le_refl _) o)
theorem Wd.new (W:World) (a3 a2 a1 a0:Int) (T:TypeId) {g:Nat} (hg:g=W.heap.size):Wd (W.alloc (Obj.cells #[Value.int IntKind.u64 a3,Value.int IntKind.u64 a2,Value.int IntKind.u64 a1,Value.int IntKind.u64 a0] T)) g a3 a2 a1 a0:=by
 subst hg;exact⟨by simp[go_sem],by simp[go_sem],by simp[go_sem],by simp[go_sem],by simp[go_sem],by simp[go_sem],by simp[go_sem],by simp[go_sem],by simp⟩
theorem wordsOf_any (a3 a2 a1 a0:Int) (w:World) :
 Calls Tryz.prog 102 #[.agg #[.int .u64 a3,.int .u64 a2,.int .u64 a1,.int .u64 a0]] w (WideP a0 a1 a2 a3 w):=by
 go_enter Tryz.func102,Tryz.ntmps102
 go_wp2;refine bodyPost_ret (v:= .agg #[.int .u64 a0,.int .u64 a1,.int .u64 a2,.int .u64 a3]) (by simp[results,Tryz.results102,go_sem]) rfl ?_;exact⟨rfl,((Below.refl _ _).alloc (Nat.le_refl _) _).alloc (by simp) _⟩
theorem words4 {a0 a1 a2 a3:Int} (h0:Word a0) (h1:Word a1) (h2:Word a2) (h3:Word a3):Words [a0,a1,a2,a3]:=by
 intro d hd;simp only[List.mem_cons,List.not_mem_nil,or_false] at hd
 rcases hd with rfl | rfl | rfl | rfl
 · exact h0
 · exact h1
 · exact h2
 · exact h3
theorem words4_of {a0 a1 a2 a3:Int} (h:Words [a0,a1,a2,a3]):Word a0∧Word a1∧Word a2∧Word a3:=⟨h _ (by simp),h _ (by simp),h _ (by simp),h _ (by simp)⟩
theorem val64_4 (a0 a1 a2 a3:Int):val64 [a0,a1,a2,a3]=uw a3 a2 a1 a0:=by simp only[val64,uw];omega
theorem pw64_pos (n:Nat):0<pw64 n:=by
 induction n with
 | zero=>simp[pw64]
 | succ n ih=>simp only[pw64];omega
theorem val64_lt {a:List Int} (h:Words a):0≤val64 a∧val64 a<pw64 a.length:=by
 induction a with
 | nil=>simp[val64,pw64]
 | cons d t ih=>
  have h1:=h d (by simp);have h2:=ih (fun x hx=>h x (by simp[hx]));unfold Word at h1;simp only[val64,List.length_cons,pw64];omega
theorem val64_append (a b:List Int):val64 (a ++b)=val64 a+pw64 a.length*val64 b:=by
 induction a with
 | nil=>simp[val64,pw64]
 | cons d t ih=>simp only[List.cons_append,val64,List.length_cons,pw64,ih];grind
theorem val64_split (a:List Int) (k:Nat) (h:k<a.length):val64 a=val64 (a.take k)+pw64 k*(a[k]+18446744073709551616*val64 (a.drop (k+1))):=by
 have h1:=val64_append (a.take k) (a.drop k);rw[List.take_append_drop,List.drop_eq_getElem_cons h] at h1
 simpa [val64,Nat.min_eq_left (Nat.le_of_lt h)] using h1
theorem wd0:Word 0:=⟨by decide,by decide⟩
def SizeP (z:Int) (w:World) (e:Ending) (w' :World):Prop:=
 ∃x3 x2 x1 x0,e= .returned (.agg #[.int .u64 x0,.int .u64 x1,.int .u64 x2,.int .u64 x3])∧Word x3∧Word x2∧Word x1∧Word x0∧uw x3 x2 x1 x0=(z.natAbs:Int)∧Below w.heap.size w w'
theorem sizeP_set {z:Int} {w W:World} {R:Nat} {e:Ending} {u0 u1 u2 u3:Value} (hR:w.heap.size≤R) (h:SizeP z w e W):SizeP z w e ((((W.setCell ⟨R,0,none⟩ u0).setCell ⟨R,1,none⟩ u1).setCell ⟨R,2,none⟩ u2).setCell ⟨R,3,none⟩ u3):=by
 obtain⟨x3,x2,x1,x0,e1,h3,h2,h1,h0,hu,hB⟩:=h;exact⟨x3,x2,x1,x0,e1,h3,h2,h1,h0,hu,tell_below hB hR⟩
theorem sizeOf_any (a3 a2 a1 a0:Int) (h3:Word a3) (h2:Word a2) (h1:Word a1) (h0:Word a0) (w:World) :
 Calls Tryz.prog 88 #[.agg #[.int .u64 a3,.int .u64 a2,.int .u64 a1,.int .u64 a0]] w (SizeP (sw a3 a2 a1 a0) w):=by
 have hn:=sw_neg h3 h2 h1 h0;have A0:Wd ((w.alloc (Obj.cells #[Value.int IntKind.u64 a3,Value.int IntKind.u64 a2,Value.int IntKind.u64 a1,Value.int IntKind.u64 a0] 27)).alloc (Obj.cells #[Value.int IntKind.u64 0,Value.int IntKind.u64 0,Value.int IntKind.u64 0,Value.int IntKind.u64 0] 124)) w.heap.size a3 a2 a1 a0:=(Wd.new _ _ _ _ _ 27 rfl).alloc _;have R0:Wd ((w.alloc (Obj.cells #[Value.int IntKind.u64 a3,Value.int IntKind.u64 a2,Value.int IntKind.u64 a1,Value.int IntKind.u64 a0] 27)).alloc (Obj.cells #[Value.int IntKind.u64 0,Value.int IntKind.u64 0,Value.int IntKind.u64 0,Value.int IntKind.u64 0] 124)) (w.heap.size+1) 0 0 0 0:=Wd.new _ 0 0 0 0 124 (by simp);have HB:Below w.heap.size w ((w.alloc (Obj.cells #[Value.int IntKind.u64 a3,Value.int IntKind.u64 a2,Value.int IntKind.u64 a1,Value.int IntKind.u64 a0] 27)).alloc (Obj.cells #[Value.int IntKind.u64 0,Value.int IntKind.u64 0,Value.int IntKind.u64 0,Value.int IntKind.u64 0] 124)):=((Below.refl _ _).alloc (Nat.le_refl _) _).alloc (by simp) _
 by_cases hp:9223372036854775808≤a3
 · have hb:(a3 / 9223372036854775808==1)=true:=beq_iff_eq.2 (by have:=h3.2;omega)
   go_enter Tryz.func88,Tryz.ntmps88
   go_wp2_with fail;refine(isBelow_any a3 a2 a1 a0 h3 true hb _).mono ?_;rintro e w1 ⟨rfl,hB⟩;replace A0:=A0.step hB;replace R0:=R0.step hB;replace HB:=HB.trans (hB.mono HB.size);clear hB;have i0:=A0.c0;have i1:=A0.c1;have i2:=A0.c2;have i3:=A0.c3;go_wp2_with fail;refine(wordsOf_any a3 a2 a1 a0 _).mono ?_;rintro e w2 ⟨rfl,hB⟩;replace R0:=R0.step hB;replace HB:=HB.trans (hB.mono HB.size);clear hB A0 i0 i1 i2 i3;go_wp2_with fail;refine(minus4 0 0 0 0 a0 a1 a2 a3 (words4 wd0 wd0 wd0 wd0) (words4 h0 h1 h2 h3) _).mono ?_;rintro e w3 ⟨zs,c,rfl,g1,g2,g3,g4,g5,hB⟩;obtain⟨z0,z1,z2,z3,rfl⟩:=list4 g1;obtain⟨l0,l1,l2,l3⟩:=words4_of g2;rw[val64_4,val64_4,val64_4,show[(0:Int),0,0,0].length=4 from rfl] at g5;replace R0:=R0.step hB;replace HB:=HB.trans (hB.mono HB.size);have HP:Hid (SizeP (sw a3 a2 a1 a0) w (.returned (.agg #[.int .u64 z0,.int .u64 z1,.int .u64 z2,.int .u64 z3])) w3):=by
    refine⟨z3,z2,z1,z0,rfl,l3,l2,l1,l0,?_,HB⟩;have e1:pw64 4=115792089237316195423570985008687907853269984665640564039457584007913129639936:=by decide
    rw[e1] at g5;have e2:sw a3 a2 a1 a0=uw a3 a2 a1 a0-115792089237316195423570985008687907853269984665640564039457584007913129639936:=by unfold sw;rw[if_neg (by omega)]
    have e3:=uw_bound h3 h2 h1 h0;have e4:=uw_bound l3 l2 l1 l0;have e5:uw 0 0 0 0=0:=by decide
    have e6:uw a3 a2 a1 a0≠0:=by unfold uw;unfold Word at *;omega
    omega
   have r0:=R0.c0;have r1:=R0.c1;have r2:=R0.c2;have r3:=R0.c3;have f0:=R0.f0;have f1:=R0.f1;have f2:=R0.f2;have f3:=R0.f3;clear hB g5 g1 g2 g3 g4 HB R0;go_wp2;refine bodyPost_ret (v:= .agg #[.int .u64 z0,.int .u64 z1,.int .u64 z2,.int .u64 z3]) (by simp[results,Tryz.results88,go_sem,r0,r1,r2,r3]) rfl ?_;exact sizeP_set (Nat.le_succ _) HP.out
 · have hb:(a3 / 9223372036854775808==1)=false:=beq_eq_false_iff_ne.2 (by have:=h3.1;omega)
   go_enter Tryz.func88,Tryz.ntmps88
   go_wp2_with fail;refine(isBelow_any a3 a2 a1 a0 h3 false hb _).mono ?_;rintro e w1 ⟨rfl,hB⟩;replace A0:=A0.step hB;replace R0:=R0.step hB;replace HB:=HB.trans (hB.mono HB.size);clear hB;have i0:=A0.c0;have i1:=A0.c1;have i2:=A0.c2;have i3:=A0.c3;go_wp2_with fail;refine(wordsOf_any a3 a2 a1 a0 _).mono ?_;rintro e w2 ⟨rfl,hB⟩;replace R0:=R0.step hB;replace HB:=HB.trans (hB.mono HB.size);have HP:Hid (SizeP (sw a3 a2 a1 a0) w (.returned (.agg #[.int .u64 a0,.int .u64 a1,.int .u64 a2,.int .u64 a3])) w2):=by
    refine⟨a3,a2,a1,a0,rfl,h3,h2,h1,h0,?_,HB⟩;have e2:sw a3 a2 a1 a0=uw a3 a2 a1 a0:=by unfold sw;rw[if_pos (by omega)]
    have e3:=uw_bound h3 h2 h1 h0
    omega
   have r0:=R0.c0;have r1:=R0.c1;have r2:=R0.c2;have r3:=R0.c3;have f0:=R0.f0;have f1:=R0.f1;have f2:=R0.f2;have f3:=R0.f3;clear hB HB R0 A0 i0 i1 i2 i3;go_wp2;refine bodyPost_ret (v:= .agg #[.int .u64 a0,.int .u64 a1,.int .u64 a2,.int .u64 a3]) (by simp[results,Tryz.results88,go_sem,r0,r1,r2,r3]) rfl ?_;exact sizeP_set (Nat.le_succ _) HP.out
def CountP (xs:List Int) (w:World) (e:Ending) (w' :World):Prop:=
 ∃n:Nat,e= .returned (.int .i64 n)∧n≤xs.length∧(∀j,n≤j→(h:j<xs.length)→xs[j]=0)∧(∀m,n=m+1→(h:m<xs.length)→xs[m]≠0)∧w' =w
theorem count_some (w:World) {xs:List Int} {m:Nat} (hm:m<xs.length) (h0:xs[m]≠0) (hz:∀j,m+1≤j→(h:j<xs.length)→xs[j]=0) (v:Int) (hv:v=((m+1:Nat):Int)):CountP xs w (.returned (.int .i64 v)) w:=
 ⟨m+1,by rw[hv],hm,hz,fun i hi hl=>by
  have:m=i:=by omega
  subst this;exact h0,rfl⟩
theorem countWords_any (A off n cap:Nat) (xs:List Int) (w:World) (hn:xs.length=n) (hr:Row w A off xs) (hm:n≤1000) :
 Calls Tryz.prog 89 #[.slice (some ⟨A,off,none⟩) n cap] w (CountP xs w):=by
 go_enter Tryz.func89,Tryz.ntmps89
 go_wp2
 go_loop [3] (fun i=>∃k:Nat,k≤n∧i= .int .i64 k∧∀j,k≤j→(h:j<xs.length)→xs[j]=0) (fun i=>(intOf i).toNat)
 case atStart=>exact⟨n,Nat.le_refl _,rfl,fun j h1 h2=>by omega⟩
 case round=>
  obtain⟨k,hk,rfl,hz⟩:=hrel;have HN:Hid (xs.length=n):=hn;have HZ:Hid (∀j,k≤j→(h:j<xs.length)→xs[j]=0):=hz;have HR:Hid (Row w A off xs):=hr;clear hz hr hn
  by_cases hk0:0<k
  · obtain⟨m,rfl⟩:∃m,k=m+1:=⟨k-1,by omega⟩;have hml:m<xs.length:=by have:=HN.out;omega
    have hcell:=HR.out.cell m hml;go_wp2
    · go_round
      case rel=>
       have h0:(xs[m]==0)=true:=by assumption
       exact⟨m,by omega,by go_num,fun j h1 h2=>by
        by_cases e:j=m
        · subst e;simpa using h0
        · exact HZ.out j (by omega) h2⟩
      case measure=>simp[intOf]
    · have h0:(xs[m]==0)=false:=by assumption
      go_ret;exact count_some w hml (by simpa using h0) HZ.out _ (by omega)
  · go_wp2;go_ret;exact⟨k,rfl,by have:=HN.out;omega,HZ.out,fun i hi=>by omega,rfl⟩
theorem bits_words {xs:List Int} (hw:Words xs) (m:Nat) (hm:m<xs.length) (hz:∀j,m+1≤j→(h:j<xs.length)→xs[j]=0) (h0:xs[m]≠0) {b:Nat} (hb:BitsOf xs[m] b):BitsOf (val64 xs) (64*m+b):=by
 have hd:val64 (xs.drop (m+1))=0:=by
  have e:xs.drop (m+1)=List.replicate (xs.length-(m+1)) 0:=by
   apply List.ext_getElem
   · simp
   · intro i h1 h2;simp only[List.getElem_drop,List.getElem_replicate];exact hz _ (by omega) _
  rw[e];generalize xs.length-(m+1)=q
  induction q with
  | zero=>rfl
  | succ q ih=>simp[List.replicate_succ,val64,ih]
 have hl:=val64_lt (a:=xs.take m) (fun x hx=>hw x (List.mem_of_mem_take hx));have e3:(xs.take m).length=m:=by simp;omega
 rw[e3] at hl;rw[val64_split xs m hm,hd];simp only[Int.mul_zero,Int.add_zero];have hp:(2:Int) ^ (64*m)=pw64 m:=by
  clear hd hl e3 hz h0 hb hm
  induction m with
  | zero=>rfl
  | succ m ih=>rw[show 64*(m+1)=64*m+64 by omega,Int.pow_add,ih,pw64,show(2:Int) ^ 64=18446744073709551616 by decide,Int.mul_comm]
 obtain⟨g0,g1,g2⟩:=hb;have p0:=pw64_pos m;generalize xs[m]=t at *;have ht:0<t:=by omega
 refine⟨by have:=Int.mul_nonneg (Int.le_of_lt p0) g0;omega,?_,Or.inr ?_⟩
 · rw[Int.pow_add,hp];have:pw64 m*(t+1)≤pw64 m*2 ^ b:=Int.mul_le_mul_of_nonneg_left (by omega) (by omega);rw[Int.mul_add] at this
   omega
 · have hb0:b≠0:=by rintro rfl;simp at g1;omega
   rcases g2 with g2 | g2
   · exact absurd g2 hb0
   · rw[show 64*m+b-1=64*m+(b-1) by omega,Int.pow_add,hp];have:pw64 m*2 ^ (b-1)≤pw64 m*t:=Int.mul_le_mul_of_nonneg_left g2 (by omega)
     omega
theorem implBits_any (a3 a2 a1 a0:Int) (h3:Word a3) (h2:Word a2) (h1:Word a1) (h0:Word a0) (w:World) :
 Calls Tryz.prog 73 #[.agg #[.int .u64 a3,.int .u64 a2,.int .u64 a1,.int .u64 a0]] w (BitsP ((sw a3 a2 a1 a0).natAbs:Int) w):=by
 go_enter Tryz.func73,Tryz.ntmps73
 go_wp2_with fail;refine(sizeOf_any a3 a2 a1 a0 h3 h2 h1 h0 _).mono ?_;rintro e w1 ⟨x3,x2,x1,x0,rfl,l3,l2,l1,l0,hu,hB⟩;have hB1:Below w.heap.size w w1:=((Below.refl _ _).alloc (Nat.le_refl _) _).trans (hB.mono (by simp));clear hB;have HU:Hid (uw x3 x2 x1 x0=((sw a3 a2 a1 a0).natAbs:Int)):=hu;clear hu;have G0:=Wd.new w1 x0 x1 x2 x3 124 rfl;have HR:=row_of4 G0.lt G0.c0 G0.c1 G0.c2 G0.c3 G0.f0 G0.f1 G0.f2 G0.f3;have hB2:=hB1.alloc hB1.size (Obj.cells #[Value.int IntKind.u64 x0,Value.int IntKind.u64 x1,Value.int IntKind.u64 x2,Value.int IntKind.u64 x3] 124);clear G0;go_wp2_with fail;refine(countWords_any w1.heap.size 0 4 4 [x0,x1,x2,x3] _ rfl HR (by omega)).mono ?_;rintro e w2 ⟨n,rfl,hn,hz,hnz,rfl⟩;have HW:=words4 l0 l1 l2 l3;have HV:=val64_4 x0 x1 x2 x3;generalize hxs:[x0,x1,x2,x3]=xs at *;have hlx:xs.length=4:=by rw[←hxs];rfl
 rw[hlx] at hn
 by_cases hn0:n=0
 · subst hn0;have hv0:val64 xs=0:=by
    rw[HV];have c0:=hz 0 (by omega) (by omega);have c1:=hz 1 (by omega) (by omega);have c2:=hz 2 (by omega) (by omega);have c3:=hz 3 (by omega) (by omega);subst hxs
    simp at c0 c1 c2 c3
    subst c0 c1 c2 c3
    decide
   have HE:Hid (((sw a3 a2 a1 a0).natAbs:Int)=0):=by show _=_;rw[←HU.out,←HV,hv0]
   clear hz hnz HR HW HV hv0 hlx hxs;go_wp2;go_ret;exact⟨0,rfl,by rw[HE.out];exact⟨by decide,by decide,Or.inl rfl⟩,hB2⟩
 · obtain⟨m,rfl⟩:∃m,n=m+1:=⟨n-1,by omega⟩;have hml:m<xs.length:=by omega
   have hnz' :=hnz m rfl hml;have hc:=HR.cell m hml;rw[Nat.zero_add] at hc;have hwm:=words_at HW m hml;have HB:=fun b hb=>bits_words HW m hml hz hnz' (b:=b) hb;rw[HV,HU.out] at HB;have HB' :Hid (∀b:Nat,BitsOf xs[m] b→BitsOf ((sw a3 a2 a1 a0).natAbs:Int) (64*m+b)):=HB;have hm4:(m:Int)<4:=by omega
   have hmn:((m:Int)+1==0)=false:=beq_eq_false_iff_ne.2 (by omega);clear hz hnz HR HW HV hxs HB hnz';go_wp2_with fail;refine(len64_any xs[m] hwm _).mono ?_;rintro e w3 ⟨b,rfl,hb,hB3⟩;have hb64:b≤64:=(bits_le hb 64).2 (by rw[show(2:Int) ^ 64=18446744073709551616 by decide];exact hwm.2);have HH:Hid (BitsOf ((sw a3 a2 a1 a0).natAbs:Int) (64*m+b)):=HB'.out b hb;have hB4:=hB2.trans (hB3.mono hB2.size);clear hb hB3 hB2 HB';go_wp2;go_ret;exact⟨64*m+b,ret_int (by omega),HH.out,hB4⟩
theorem liftUp_det (xs:List Int) (r:Nat) (hl:xs.length=8) (hx:Words xs) (hr:r<64) (zs:List Int) (zl:zs.length=9) (zw:Words zs) (zv:val64 zs=2 ^ r*val64 xs) (w:World):Calls Tryz.prog 104 #[agg xs,.int .i64 r] w (fun e w' =>e= .returned (agg zs)∧Below w.heap.size w w'):=by
 refine(liftUp_any xs r hl hx hr w).mono ?_;rintro e w1 ⟨us,rfl,h1,h2,h3,hB⟩;obtain rfl:us=zs:=val64_inj h2 zw (h1.trans zl.symm) (h3.trans zv.symm);exact⟨rfl,hB⟩
theorem dl_cells {x0 x1 x2 x3 x4 x5 x6 x7 y0 y1 y2 y3 y4 y5 y6 y7:Int} {w W:World} (h:ArgsB w W [[.int .u64 x0,.int .u64 x1,.int .u64 x2,.int .u64 x3,.int .u64 x4,.int .u64 x5,.int .u64 x6,.int .u64 x7],[.int .u64 y0,.int .u64 y1,.int .u64 y2,.int .u64 y3,.int .u64 y4,.int .u64 y5,.int .u64 y6,.int .u64 y7],[.int .u64 0,.int .u64 0,.int .u64 0,.int .u64 0,.int .u64 0,.int .u64 0,.int .u64 0,.int .u64 0],[.int .u64 0,.int .u64 0,.int .u64 0,.int .u64 0,.int .u64 0,.int .u64 0,.int .u64 0,.int .u64 0]]):(fun w' =>w'.cell? ⟨w.heap.size,0,none⟩=some (.int .u64 x0)∧w'.cell? ⟨w.heap.size,1,none⟩=some (.int .u64 x1)∧w'.cell? ⟨w.heap.size,2,none⟩=some (.int .u64 x2)∧w'.cell? ⟨w.heap.size,3,none⟩=some (.int .u64 x3)∧w'.cell? ⟨w.heap.size,4,none⟩=some (.int .u64 x4)∧w'.cell? ⟨w.heap.size,5,none⟩=some (.int .u64 x5)∧w'.cell? ⟨w.heap.size,6,none⟩=some (.int .u64 x6)∧w'.cell? ⟨w.heap.size,7,none⟩=some (.int .u64 x7)∧w'.cell? ⟨w.heap.size+1,0,none⟩=some (.int .u64 y0)∧w'.cell? ⟨w.heap.size+1,1,none⟩=some (.int .u64 y1)∧w'.cell? ⟨w.heap.size+1,2,none⟩=some (.int .u64 y2)∧w'.cell? ⟨w.heap.size+1,3,none⟩=some (.int .u64 y3)∧w'.cell? ⟨w.heap.size+1,4,none⟩=some (.int .u64 y4)∧w'.cell? ⟨w.heap.size+1,5,none⟩=some (.int .u64 y5)∧w'.cell? ⟨w.heap.size+1,6,none⟩=some (.int .u64 y6)∧w'.cell? ⟨w.heap.size+1,7,none⟩=some (.int .u64 y7)) W:=
 ⟨(h.b 0 rfl).c 0 rfl,(h.b 0 rfl).c 1 rfl,(h.b 0 rfl).c 2 rfl,(h.b 0 rfl).c 3 rfl,(h.b 0 rfl).c 4 rfl,(h.b 0 rfl).c 5 rfl,(h.b 0 rfl).c 6 rfl,(h.b 0 rfl).c 7 rfl,(h.b 1 rfl).c 0 rfl,(h.b 1 rfl).c 1 rfl,(h.b 1 rfl).c 2 rfl,(h.b 1 rfl).c 3 rfl,(h.b 1 rfl).c 4 rfl,(h.b 1 rfl).c 5 rfl,(h.b 1 rfl).c 6 rfl,(h.b 1 rfl).c 7 rfl⟩
theorem dl_args (x0 x1 x2 x3 x4 x5 x6 x7 y0 y1 y2 y3 y4 y5 y6 y7:Int) (w:World):ArgsB w ((((w.alloc (.cells #[.int .u64 x0,.int .u64 x1,.int .u64 x2,.int .u64 x3,.int .u64 x4,.int .u64 x5,.int .u64 x6,.int .u64 x7] 88)).alloc (.cells #[.int .u64 y0,.int .u64 y1,.int .u64 y2,.int .u64 y3,.int .u64 y4,.int .u64 y5,.int .u64 y6,.int .u64 y7] 88)).alloc (.cells #[.int .u64 0,.int .u64 0,.int .u64 0,.int .u64 0,.int .u64 0,.int .u64 0,.int .u64 0,.int .u64 0] 88)).alloc (.cells #[.int .u64 0,.int .u64 0,.int .u64 0,.int .u64 0,.int .u64 0,.int .u64 0,.int .u64 0,.int .u64 0] 88)) [[.int .u64 x0,.int .u64 x1,.int .u64 x2,.int .u64 x3,.int .u64 x4,.int .u64 x5,.int .u64 x6,.int .u64 x7],[.int .u64 y0,.int .u64 y1,.int .u64 y2,.int .u64 y3,.int .u64 y4,.int .u64 y5,.int .u64 y6,.int .u64 y7],[.int .u64 0,.int .u64 0,.int .u64 0,.int .u64 0,.int .u64 0,.int .u64 0,.int .u64 0,.int .u64 0],[.int .u64 0,.int .u64 0,.int .u64 0,.int .u64 0,.int .u64 0,.int .u64 0,.int .u64 0,.int .u64 0]]:=by
 refine⟨((((Below.refl _ _).alloc (Nat.le_refl _) _).alloc (by simp) _).alloc (by simp;omega) _).alloc (by simp;omega) _,fun j vs hj=>?_⟩
 match j,hj with
 | 0,hj=>cases hj;exact(((Blk.new w [.int .u64 x0,.int .u64 x1,.int .u64 x2,.int .u64 x3,.int .u64 x4,.int .u64 x5,.int .u64 x6,.int .u64 x7] 88 rfl).alloc _).alloc _).alloc _
 | 1,hj=>cases hj;exact((Blk.new (w.alloc (.cells #[.int .u64 x0,.int .u64 x1,.int .u64 x2,.int .u64 x3,.int .u64 x4,.int .u64 x5,.int .u64 x6,.int .u64 x7] 88)) [.int .u64 y0,.int .u64 y1,.int .u64 y2,.int .u64 y3,.int .u64 y4,.int .u64 y5,.int .u64 y6,.int .u64 y7] 88 (by simp)).alloc _).alloc _
 | 2,hj=>cases hj;exact(Blk.new ((w.alloc (.cells #[.int .u64 x0,.int .u64 x1,.int .u64 x2,.int .u64 x3,.int .u64 x4,.int .u64 x5,.int .u64 x6,.int .u64 x7] 88)).alloc (.cells #[.int .u64 y0,.int .u64 y1,.int .u64 y2,.int .u64 y3,.int .u64 y4,.int .u64 y5,.int .u64 y6,.int .u64 y7] 88)) [.int .u64 0,.int .u64 0,.int .u64 0,.int .u64 0,.int .u64 0,.int .u64 0,.int .u64 0,.int .u64 0] 88 (by simp)).alloc _
 | 3,hj=>cases hj;exact Blk.new (((w.alloc (.cells #[.int .u64 x0,.int .u64 x1,.int .u64 x2,.int .u64 x3,.int .u64 x4,.int .u64 x5,.int .u64 x6,.int .u64 x7] 88)).alloc (.cells #[.int .u64 y0,.int .u64 y1,.int .u64 y2,.int .u64 y3,.int .u64 y4,.int .u64 y5,.int .u64 y6,.int .u64 y7] 88)).alloc (.cells #[.int .u64 0,.int .u64 0,.int .u64 0,.int .u64 0,.int .u64 0,.int .u64 0,.int .u64 0,.int .u64 0] 88)) [.int .u64 0,.int .u64 0,.int .u64 0,.int .u64 0,.int .u64 0,.int .u64 0,.int .u64 0,.int .u64 0] 88 (by simp)
 | j+4,hj=>simp at hj
theorem ArgsB.lt4 {w W:World} {a b c d:List Value} (h:ArgsB w W [a,b,c,d]):w.heap.size+3<W.heap.size:=(h.b 3 rfl).lt
theorem Blk.newS (W:World) (o:Obj) (vs:List Value) (T:TypeId):Blk ((W.alloc o).alloc (.cells vs.toArray T)) (W.heap.size+1) vs:=Blk.new _ _ _ (by simp)
theorem size_cells (b:Nat):∀(vs:List Value) (o:Nat) (w:World),(w.setCells b o vs).heap.size=w.heap.size
 | [],_,_=>rfl
 | v::r,o,w=>by rw[World.setCells,size_cells b r];simp[World.setCell]
theorem Blk.cellsO {g b:Nat} {zs:List Value} (hne:g≠b):∀(vs:List Value) (o:Nat) {w:World},Blk w g zs→Blk (w.setCells b o vs) g zs
 | [],_,_,h=>h
 | v::r,o,w,h=>by rw[World.setCells];exact Blk.cellsO hne r (o+1) (h.setO hne v)
theorem Blk.cellsI {w:World} {g:Nat} {zs vs:List Value} (h:Blk w g zs) (hl:vs.length=zs.length):Blk (w.setCells g 0 vs) g vs:=by
 refine⟨by rw[size_cells];exact h.lt,fun i v hi=>?_⟩;have hil:i<vs.length:=by
  apply Decidable.byContradiction
  intro hn;rw[List.getElem?_eq_none (by omega)] at hi
  simp at hi
 have hc:∀j,j<vs.length→(w.cell? ⟨g,0+j,none⟩).isSome=true:=fun j hj=>by
  rw[Nat.zero_add,h.c j (List.getElem?_eq_getElem (by omega))];rfl
 have e:=World.cell?_setCells_in g vs 0 w hc i hil;rw[Nat.zero_add] at e;rw[List.getElem?_eq_getElem hil] at hi;cases hi;exact⟨e,by rw[World.frozen?_setCells];exact h.f i (List.getElem?_eq_getElem (by omega))⟩
theorem below_cells {B g:Nat} {w0:World} (hg:B≤g):∀(vs:List Value) (o:Nat) {w:World},Below B w0 w→Below B w0 (w.setCells g o vs)
 | [],_,_,h=>h
 | v::r,o,w,h=>by rw[World.setCells];exact below_cells hg r (o+1) (h.setCell hg v)
theorem ArgsB.cells {w W:World} {a b c d:List Value} (h:ArgsB w W [a,b,c,d]) {g:Nat} (hg:w.heap.size+3<g) (vs:List Value):ArgsB w (W.setCells g 0 vs) [a,b,c,d]:=by
 refine⟨below_cells (by omega) vs 0 h.1,fun j us hj=>Blk.cellsO ?_ vs 0 (h.2 j us hj)⟩;have:j<4:=by
  apply Decidable.byContradiction
  intro hn;rw[List.getElem?_eq_none (by simp;omega)] at hj
  simp at hj
 omega
theorem Blk.there {W:World} {g:Nat} {vs:List Value} (h:Blk W g vs) {n:Nat} (hn:vs.length=n):W.there g 0 n:=fun j hj=>by
 rw[Nat.zero_add,h.c j (List.getElem?_eq_getElem (by omega)),h.f j (List.getElem?_eq_getElem (by omega))];exact⟨rfl,rfl⟩
theorem there_cells (W:World) (b:Nat) (vs:List Value) (g n:Nat) (h:W.there g 0 n):(W.setCells b 0 vs).there g 0 n:=World.there_setCells h b 0 vs
theorem ArgsB.set9 {w W:World} {a b c d:List Value} (h:ArgsB w W [a,b,c,d]) {g:Nat} (hg:w.heap.size+3<g) (v0 v1 v2 v3 v4 v5 v6 v7 v8:Value):ArgsB w (((((((((W.setCell ⟨g,0,none⟩ v0).setCell ⟨g,1,none⟩ v1).setCell ⟨g,2,none⟩ v2).setCell ⟨g,3,none⟩ v3).setCell ⟨g,4,none⟩ v4).setCell ⟨g,5,none⟩ v5).setCell ⟨g,6,none⟩ v6).setCell ⟨g,7,none⟩ v7).setCell ⟨g,8,none⟩ v8) [a,b,c,d]:=
 (((((((((h.set (by exact hg) _).set (by exact hg) _).set (by exact hg) _).set (by exact hg) _).set (by exact hg) _).set (by exact hg) _).set (by exact hg) _).set (by exact hg) _).set (by exact hg) _)
theorem Blk.stored9 {W:World} {g:Nat} {z0 z1 z2 z3 z4 z5 z6 z7 z8:Value} (G:Blk W g [z0,z1,z2,z3,z4,z5,z6,z7,z8]) (v0 v1 v2 v3 v4 v5 v6 v7 v8:Value):Blk (((((((((W.setCell ⟨g,0,none⟩ v0).setCell ⟨g,1,none⟩ v1).setCell ⟨g,2,none⟩ v2).setCell ⟨g,3,none⟩ v3).setCell ⟨g,4,none⟩ v4).setCell ⟨g,5,none⟩ v5).setCell ⟨g,6,none⟩ v6).setCell ⟨g,7,none⟩ v7).setCell ⟨g,8,none⟩ v8) g [v0,v1,v2,v3,v4,v5,v6,v7,v8]:=
 (((((((((G.setI 0 (by simp) v0).setI 1 (by simp) v1).setI 2 (by simp) v2).setI 3 (by simp) v3).setI 4 (by simp) v4).setI 5 (by simp) v5).setI 6 (by simp) v6).setI 7 (by simp) v7).setI 8 (by simp) v8)
theorem Blk.set9 {W:World} {vs:List Value} {v0 v1 v2 v3 v4 v5 v6 v7 v8:Value} {g g' :Nat} (G:Blk W g' vs) (hg:g' ≠g):Blk (((((((((W.setCell ⟨g,0,none⟩ v0).setCell ⟨g,1,none⟩ v1).setCell ⟨g,2,none⟩ v2).setCell ⟨g,3,none⟩ v3).setCell ⟨g,4,none⟩ v4).setCell ⟨g,5,none⟩ v5).setCell ⟨g,6,none⟩ v6).setCell ⟨g,7,none⟩ v7).setCell ⟨g,8,none⟩ v8) g' vs:=
 (((((((((G.setO (by exact hg) _).setO (by exact hg) _).setO (by exact hg) _).setO (by exact hg) _).setO (by exact hg) _).setO (by exact hg) _).setO (by exact hg) _).setO (by exact hg) _).setO (by exact hg) _)
theorem below_set8 {B g:Nat} {w W:World} {v0 v1 v2 v3 v4 v5 v6 v7:Value} (hg:B≤g) (h:Below B w W):Below B w ((((((((W.setCell ⟨g,0,none⟩ v0).setCell ⟨g,1,none⟩ v1).setCell ⟨g,2,none⟩ v2).setCell ⟨g,3,none⟩ v3).setCell ⟨g,4,none⟩ v4).setCell ⟨g,5,none⟩ v5).setCell ⟨g,6,none⟩ v6).setCell ⟨g,7,none⟩ v7):=
 ((((((((h.setCell hg _).setCell hg _).setCell hg _).setCell hg _).setCell hg _).setCell hg _).setCell hg _).setCell hg _)
def CutD (w wx:World) (vss:List (List Value)) (xs ys:List Value) (p q:Value):Prop:=
 ∃g g',p= .pointer (some ⟨g,0,none⟩)∧q= .pointer (some ⟨g',0,none⟩)∧g≠g' ∧w.heap.size+3<g∧w.heap.size+3<g' ∧ArgsB w wx vss∧Blk wx g xs∧Blk wx g' ys
theorem cutD_cells {w X:World} {a b c d:List Value} {zs zs' xs ys:List Value} {g g' :Nat} (h:ArgsB w X [a,b,c,d]) (G:Blk X g zs) (G' :Blk X g' zs') (lx:zs.length=xs.length) (ly:zs'.length=ys.length) (hg:w.heap.size+3<g) (hg' :w.heap.size+3<g') (hne:g≠g') :
 CutD w ((X.setCells g 0 xs).setCells g' 0 ys) [a,b,c,d] xs ys (.pointer (some ⟨g,0,none⟩)) (.pointer (some ⟨g',0,none⟩)):=
 ⟨_,_,rfl,rfl,hne,hg,hg',(h.cells hg _).cells hg' _,Blk.cellsO hne _ _ (G.cellsI lx.symm),(Blk.cellsO (fun e=>hne e.symm) _ _ G').cellsI ly.symm⟩
def DivLP (X Y:Int) (w:World) (e:Ending) (w' :World):Prop:=
 ∃qs rs:List Int,e= .returned (.tuple #[agg qs,agg rs])∧qs.length=8∧rs.length=8∧Words qs∧Words rs∧val64 qs=X / Y∧val64 rs=X%Y∧Below w.heap.size w w'
theorem divideLong_any (xs ys:List Int) (hl:xs.length=8) (hm:ys.length=8) (hx:Words xs) (hy:Words ys) (h0:0<val64 ys) (w:World):Calls Tryz.prog 91 #[agg xs,agg ys] w (DivLP (val64 xs) (val64 ys) w):=by
 have HL:Hid (xs.length=8):=hl;have HM:Hid (ys.length=8):=hm;have HX:Hid (Words xs):=hx;have HY:Hid (Words ys):=hy;have H0:Hid (0<val64 ys):=h0;obtain⟨x0,x1,x2,x3,x4,x5,x6,x7,hxs⟩:=list8' hl;have HAX:Hid (agg xs= .agg #[.int .u64 x0,.int .u64 x1,.int .u64 x2,.int .u64 x3,.int .u64 x4,.int .u64 x5,.int .u64 x6,.int .u64 x7]):=by show _=_;rw[hxs];rfl
 rw[HAX.out];obtain⟨y0,y1,y2,y3,y4,y5,y6,y7,hys⟩:=list8' hm;have HAY:Hid (agg ys= .agg #[.int .u64 y0,.int .u64 y1,.int .u64 y2,.int .u64 y3,.int .u64 y4,.int .u64 y5,.int .u64 y6,.int .u64 y7]):=by show _=_;rw[hys];rfl
 have HMY:Hid (ys.map (Value.int .u64)=[.int .u64 y0,.int .u64 y1,.int .u64 y2,.int .u64 y3,.int .u64 y4,.int .u64 y5,.int .u64 y6,.int .u64 y7]):=by show _=_;rw[hys];rfl
 rw[HAY.out];have T0:=dl_args x0 x1 x2 x3 x4 x5 x6 x7 y0 y1 y2 y3 y4 y5 y6 y7 w;clear hl hm hx hy h0 hxs hys;have tok1:True:=trivial
 go_enter Tryz.func91,Tryz.ntmps91
 go_wp2_with fail;generalize ((((w.alloc (.cells #[.int .u64 x0,.int .u64 x1,.int .u64 x2,.int .u64 x3,.int .u64 x4,.int .u64 x5,.int .u64 x6,.int .u64 x7] 88)).alloc (.cells #[.int .u64 y0,.int .u64 y1,.int .u64 y2,.int .u64 y3,.int .u64 y4,.int .u64 y5,.int .u64 y6,.int .u64 y7] 88)).alloc (.cells #[.int .u64 0,.int .u64 0,.int .u64 0,.int .u64 0,.int .u64 0,.int .u64 0,.int .u64 0,.int .u64 0] 88)).alloc (.cells #[.int .u64 0,.int .u64 0,.int .u64 0,.int .u64 0,.int .u64 0,.int .u64 0,.int .u64 0,.int .u64 0] 88))=W at *;have BY:Blk W (w.heap.size+1) (ys.map (Value.int .u64)):=by rw[HMY.out];exact T0.b 1 rfl
 have RY:=blk_row_take BY (k:=8) (by have:=HM.out;omega);rw[List.take_of_length_le (by have:=HM.out;omega)] at RY;refine(countWords_any (w.heap.size+1) 0 8 8 ys _ HM.out RY (by decide)).mono ?_;rintro e w1 ⟨n,rfl,c1,c2,c3,rfl⟩;have hn1:1≤n:=by
  apply Decidable.byContradiction
  intro hn;have:=(val64_few HY.out n c1 c2).2;obtain rfl:n=0:=by omega
  have:=H0.out;simp only[pw64] at *
  omega
 obtain⟨m,hmn⟩:∃m,m+1=n:=⟨n-1,by omega⟩;have im:m<ys.length:=by omega
 have hn8:n≤8:=by have:=HM.out;omega
 have htop:=c3 m hmn.symm im;have C2:Hid (∀j,n≤j→(h:j<ys.length)→ys[j]=0):=c2;have HMN:Hid (m+1=n):=hmn;have cm:w1.cell? ⟨w.heap.size+1,m,none⟩=some (.int .u64 ys[m]):=BY.c m (by simp[im]);have am:(n:Int)-1=(m:Int):=by omega
 have bm1:(0:Int)≤m:=by omega
 have bm2:(m:Int)<8:=by omega
 have HT:Hid (ys[m]≠0):=htop;have wm:=words_at HY.out m im;clear RY c1 c2 c3 BY htop hmn;go_wp2_with fail;refine(lead_any ys[m] wm _).mono ?_;rintro e w2 ⟨s,rfl,hs,hb,hB⟩;replace T0:=T0.step hB;clear hB cm;have y0p:=val64_nonneg HY.out;have x0p:=val64_nonneg HX.out;have ylt:=vq_lt HY.out;have xlt:=vq_lt HX.out;rw[HM.out] at ylt;rw[HL.out] at xlt;have s64:s<64:=by
  apply Decidable.byContradiction
  intro hn;have g1:=hb.2.1;rw[show 64-s=0 by omega] at g1
  simp at g1
  have:=wm.1;have:=HT.out
  omega
 have ps:=pow_le64 s64;have ps0:(0:Int)<2 ^ s:=Int.pow_pos (by decide);have p9:(9223372036854775808:Int)*pw64 8≤pw64 9:=by decide
 obtain⟨bs,bl,bw,bv⟩:=words_ex 9 (2 ^ s*val64 ys) (Int.mul_nonneg (by omega) y0p) (by
  have h1:(2:Int) ^ s*(val64 ys+1)≤2 ^ s*pw64 8:=Int.mul_le_mul_of_nonneg_left (by omega) (by omega);have h2:(2:Int) ^ s*pw64 8≤9223372036854775808*pw64 8:=Int.mul_le_mul_of_nonneg_right ps (Int.le_of_lt (pq_pos 8));rw[Int.mul_add] at h1
  omega)
 obtain⟨rs,rl,rw',rv⟩:=words_ex 9 (2 ^ s*val64 xs) (Int.mul_nonneg (by omega) x0p) (by
  have h1:(2:Int) ^ s*(val64 xs+1)≤2 ^ s*pw64 8:=Int.mul_le_mul_of_nonneg_left (by omega) (by omega);have h2:(2:Int) ^ s*pw64 8≤9223372036854775808*pw64 8:=Int.mul_le_mul_of_nonneg_right ps (Int.le_of_lt (pq_pos 8));rw[Int.mul_add] at h1
  omega)
 obtain⟨_,tk,lowB,highB,topB⟩:=kn_by HM.out HY.out HMN.out hn8 C2.out im HT.out hs hb bl bw bv;have LY:=liftUp_det ys s HM.out HY.out s64 bs bl bw bv;have LX:=liftUp_det xs s HL.out HX.out s64 rs rl rw' rv;rw[HAY.out] at LY;rw[HAX.out] at LX;have HBL:Hid (bs.length=9):=bl;have HBW:Hid (Words bs):=bw;have HBV:Hid (val64 bs=2 ^ s*val64 ys):=bv;have HRL:Hid (rs.length=9):=rl;have HRW:Hid (Words rs):=rw';have HRV:Hid (val64 rs=2 ^ s*val64 xs):=rv;have HTK:Hid (val64 (bs.take n)=val64 bs):=tk;have HLO:Hid (9223372036854775808*pw64 m≤val64 bs):=lowB;have HHI:Hid (val64 bs<pw64 n):=highB;have HTP:Hid (∀k,k+1=n→(h:k<bs.length)→bs[k]≠0):=topB;have HXL:Hid (val64 xs<pw64 8):=xlt;unfold agg at LY LX;clear bl bw bv rl rw' rv tk lowB highB topB xlt ylt y0p x0p ps ps0 p9 hb wm;go_upto_region 3 with fail
 go_cut [8,9] (fun p q wx=>CutD w wx [[.int .u64 x0,.int .u64 x1,.int .u64 x2,.int .u64 x3,.int .u64 x4,.int .u64 x5,.int .u64 x6,.int .u64 x7],[.int .u64 y0,.int .u64 y1,.int .u64 y2,.int .u64 y3,.int .u64 y4,.int .u64 y5,.int .u64 y6,.int .u64 y7],[.int .u64 0,.int .u64 0,.int .u64 0,.int .u64 0,.int .u64 0,.int .u64 0,.int .u64 0,.int .u64 0],[.int .u64 0,.int .u64 0,.int .u64 0,.int .u64 0,.int .u64 0,.int .u64 0,.int .u64 0,.int .u64 0]] (bs.map (Value.int .u64)) (rs.map (Value.int .u64)) p q)
 case first=>
  have is0:Option.map (fun x=>x.size) (Tryz.prog.info? 139)=some 9:=by kernel_rfl
  have hbl:(bs.map (Value.int .u64)).length=9:=by rw[List.length_map];exact HBL.out
  have hrl:(rs.map (Value.int .u64)).length=9:=by rw[List.length_map];exact HRL.out
  have hbl9:([.int .u64 0,.int .u64 0,.int .u64 0,.int .u64 0,.int .u64 0,.int .u64 0,.int .u64 0,.int .u64 0,.int .u64 0]:List Value).length=(bs.map (Value.int .u64)).length:=hbl.symm;have hrl9:([.int .u64 0,.int .u64 0,.int .u64 0,.int .u64 0,.int .u64 0,.int .u64 0,.int .u64 0,.int .u64 0,.int .u64 0]:List Value).length=(rs.map (Value.int .u64)).length:=hrl.symm;have ob1:∀v∈(bs.map (Value.int .u64)),v.oneCell' =true:=by
   intro v hv;obtain⟨d,_,rfl⟩:=List.mem_map.1 hv
   rfl
  have ob2:∀v∈(rs.map (Value.int .u64)),v.oneCell' =true:=by
   intro v hv;obtain⟨d,_,rfl⟩:=List.mem_map.1 hv
   rfl
  have is1:Option.map (fun x=>x.size) (Tryz.prog.info? 139)=some (bs.map (Value.int .u64)).length:=by rw[hbl];exact is0
  have is2:Option.map (fun x=>x.size) (Tryz.prog.info? 139)=some (rs.map (Value.int .u64)).length:=by rw[hrl];exact is0
  have thab:∀(W:World),(W.alloc (.cells #[.int .u64 0,.int .u64 0,.int .u64 0,.int .u64 0,.int .u64 0,.int .u64 0,.int .u64 0,.int .u64 0,.int .u64 0] 139)).there W.heap.size 0 (bs.map (Value.int .u64)).length:=fun W=>(Blk.new W [.int .u64 0,.int .u64 0,.int .u64 0,.int .u64 0,.int .u64 0,.int .u64 0,.int .u64 0,.int .u64 0,.int .u64 0] _ rfl).there hbl9;have thbb:∀(W:World) (o:Obj),((W.alloc (.cells #[.int .u64 0,.int .u64 0,.int .u64 0,.int .u64 0,.int .u64 0,.int .u64 0,.int .u64 0,.int .u64 0,.int .u64 0] 139)).alloc o).there W.heap.size 0 (bs.map (Value.int .u64)).length:=fun W o=>((Blk.new W [.int .u64 0,.int .u64 0,.int .u64 0,.int .u64 0,.int .u64 0,.int .u64 0,.int .u64 0,.int .u64 0,.int .u64 0] _ rfl).alloc o).there hbl9;have thcb:∀(W:World) (o:Obj),((W.alloc o).alloc (.cells #[.int .u64 0,.int .u64 0,.int .u64 0,.int .u64 0,.int .u64 0,.int .u64 0,.int .u64 0,.int .u64 0,.int .u64 0] 139)).there (W.heap.size+1) 0 (bs.map (Value.int .u64)).length:=fun W o=>(Blk.newS W o [.int .u64 0,.int .u64 0,.int .u64 0,.int .u64 0,.int .u64 0,.int .u64 0,.int .u64 0,.int .u64 0,.int .u64 0] _).there hbl9;have thdb:∀(W:World) (o:Obj) (b:Nat) (vs:List Value),(((W.alloc o).alloc (.cells #[.int .u64 0,.int .u64 0,.int .u64 0,.int .u64 0,.int .u64 0,.int .u64 0,.int .u64 0,.int .u64 0,.int .u64 0] 139)).setCells b 0 vs).there (W.heap.size+1) 0 (bs.map (Value.int .u64)).length:=fun W o b vs=>there_cells _ _ _ _ _ ((Blk.newS W o [.int .u64 0,.int .u64 0,.int .u64 0,.int .u64 0,.int .u64 0,.int .u64 0,.int .u64 0,.int .u64 0,.int .u64 0] _).there hbl9);have theb:∀(W:World) (o:Obj) (b:Nat) (vs:List Value),(((W.alloc (.cells #[.int .u64 0,.int .u64 0,.int .u64 0,.int .u64 0,.int .u64 0,.int .u64 0,.int .u64 0,.int .u64 0,.int .u64 0] 139)).alloc o).setCells b 0 vs).there W.heap.size 0 (bs.map (Value.int .u64)).length:=fun W o b vs=>there_cells _ _ _ _ _ (((Blk.new W [.int .u64 0,.int .u64 0,.int .u64 0,.int .u64 0,.int .u64 0,.int .u64 0,.int .u64 0,.int .u64 0,.int .u64 0] _ rfl).alloc o).there hbl9);have thfb:∀(W:World) (b g:Nat) (vs:List Value),W.there g 0 (bs.map (Value.int .u64)).length→(W.setCells b 0 vs).there g 0 (bs.map (Value.int .u64)).length:=fun W b g vs h=>there_cells _ _ _ _ _ h;have thgb:∀(W:World) (o:Obj) (g:Nat),W.there g 0 (bs.map (Value.int .u64)).length→(W.alloc o).there g 0 (bs.map (Value.int .u64)).length:=fun W o g h=>World.there_alloc h o;have thar:∀(W:World),(W.alloc (.cells #[.int .u64 0,.int .u64 0,.int .u64 0,.int .u64 0,.int .u64 0,.int .u64 0,.int .u64 0,.int .u64 0,.int .u64 0] 139)).there W.heap.size 0 (rs.map (Value.int .u64)).length:=fun W=>(Blk.new W [.int .u64 0,.int .u64 0,.int .u64 0,.int .u64 0,.int .u64 0,.int .u64 0,.int .u64 0,.int .u64 0,.int .u64 0] _ rfl).there hrl9;have thbr:∀(W:World) (o:Obj),((W.alloc (.cells #[.int .u64 0,.int .u64 0,.int .u64 0,.int .u64 0,.int .u64 0,.int .u64 0,.int .u64 0,.int .u64 0,.int .u64 0] 139)).alloc o).there W.heap.size 0 (rs.map (Value.int .u64)).length:=fun W o=>((Blk.new W [.int .u64 0,.int .u64 0,.int .u64 0,.int .u64 0,.int .u64 0,.int .u64 0,.int .u64 0,.int .u64 0,.int .u64 0] _ rfl).alloc o).there hrl9;have thcr:∀(W:World) (o:Obj),((W.alloc o).alloc (.cells #[.int .u64 0,.int .u64 0,.int .u64 0,.int .u64 0,.int .u64 0,.int .u64 0,.int .u64 0,.int .u64 0,.int .u64 0] 139)).there (W.heap.size+1) 0 (rs.map (Value.int .u64)).length:=fun W o=>(Blk.newS W o [.int .u64 0,.int .u64 0,.int .u64 0,.int .u64 0,.int .u64 0,.int .u64 0,.int .u64 0,.int .u64 0,.int .u64 0] _).there hrl9;have thdr:∀(W:World) (o:Obj) (b:Nat) (vs:List Value),(((W.alloc o).alloc (.cells #[.int .u64 0,.int .u64 0,.int .u64 0,.int .u64 0,.int .u64 0,.int .u64 0,.int .u64 0,.int .u64 0,.int .u64 0] 139)).setCells b 0 vs).there (W.heap.size+1) 0 (rs.map (Value.int .u64)).length:=fun W o b vs=>there_cells _ _ _ _ _ ((Blk.newS W o [.int .u64 0,.int .u64 0,.int .u64 0,.int .u64 0,.int .u64 0,.int .u64 0,.int .u64 0,.int .u64 0,.int .u64 0] _).there hrl9);have ther:∀(W:World) (o:Obj) (b:Nat) (vs:List Value),(((W.alloc (.cells #[.int .u64 0,.int .u64 0,.int .u64 0,.int .u64 0,.int .u64 0,.int .u64 0,.int .u64 0,.int .u64 0,.int .u64 0] 139)).alloc o).setCells b 0 vs).there W.heap.size 0 (rs.map (Value.int .u64)).length:=fun W o b vs=>there_cells _ _ _ _ _ (((Blk.new W [.int .u64 0,.int .u64 0,.int .u64 0,.int .u64 0,.int .u64 0,.int .u64 0,.int .u64 0,.int .u64 0,.int .u64 0] _ rfl).alloc o).there hrl9);have thfr:∀(W:World) (b g:Nat) (vs:List Value),W.there g 0 (rs.map (Value.int .u64)).length→(W.setCells b 0 vs).there g 0 (rs.map (Value.int .u64)).length:=fun W b g vs h=>there_cells _ _ _ _ _ h;have thgr:∀(W:World) (o:Obj) (g:Nat),W.there g 0 (rs.map (Value.int .u64)).length→(W.alloc o).there g 0 (rs.map (Value.int .u64)).length:=fun W o g h=>World.there_alloc h o;clear hbl hrl is0
  go_region_held3 (fun w' =>w'.cell? ⟨w.heap.size,0,none⟩=some (.int .u64 x0)∧w'.cell? ⟨w.heap.size,1,none⟩=some (.int .u64 x1)∧w'.cell? ⟨w.heap.size,2,none⟩=some (.int .u64 x2)∧w'.cell? ⟨w.heap.size,3,none⟩=some (.int .u64 x3)∧w'.cell? ⟨w.heap.size,4,none⟩=some (.int .u64 x4)∧w'.cell? ⟨w.heap.size,5,none⟩=some (.int .u64 x5)∧w'.cell? ⟨w.heap.size,6,none⟩=some (.int .u64 x6)∧w'.cell? ⟨w.heap.size,7,none⟩=some (.int .u64 x7)∧w'.cell? ⟨w.heap.size+1,0,none⟩=some (.int .u64 y0)∧w'.cell? ⟨w.heap.size+1,1,none⟩=some (.int .u64 y1)∧w'.cell? ⟨w.heap.size+1,2,none⟩=some (.int .u64 y2)∧w'.cell? ⟨w.heap.size+1,3,none⟩=some (.int .u64 y3)∧w'.cell? ⟨w.heap.size+1,4,none⟩=some (.int .u64 y4)∧w'.cell? ⟨w.heap.size+1,5,none⟩=some (.int .u64 y5)∧w'.cell? ⟨w.heap.size+1,6,none⟩=some (.int .u64 y6)∧w'.cell? ⟨w.heap.size+1,7,none⟩=some (.int .u64 y7)) ((refine dl_cells ?_;repeat (first | (with_reducible exact T0) | (with_reducible refine ArgsB.drew ?_) | (with_reducible refine ArgsB.alloc ?_ _) | (with_reducible refine ArgsB.cells ?_ (by have:=T0.lt4;first | omega | (simp;omega)) _))))
   (first
    | (go_at_call 104;have _t:=tok1;refine(LY _).mono ?_;rintro e w3 ⟨rfl,hB⟩;(first | (have T1:ArgsB w w3 _:=(by with_reducible exact T0.step hB);have hltw3:=T0.lt4;try (replace G0:=G0.step hB;have jtb:=G0.there (n:=(bs.map (Value.int .u64)).length) hbl9;have jtr:=G0.there (n:=(rs.map (Value.int .u64)).length) hrl9;obtain⟨j0c,j0f,j1c,j1f,j2c,j2f,j3c,j3f,j4c,j4f,j5c,j5f,j6c,j6f,j7c,j7f,j8c,j8f⟩:=G0.cf9;have jlt:=G0.lt);try (replace G1:=G1.step hB;have ktb:=G1.there (n:=(bs.map (Value.int .u64)).length) hbl9;have ktr:=G1.there (n:=(rs.map (Value.int .u64)).length) hrl9;obtain⟨k0c,k0f,k1c,k1f,k2c,k2f,k3c,k3f,k4c,k4f,k5c,k5f,k6c,k6f,k7c,k7f,k8c,k8f⟩:=G1.cf9;have klt:=G1.lt)) | (have T1:ArgsB w w3 _:=(by with_reducible exact T0.drew.step hB);have hltw3:=T0.lt4;try (replace G0:=G0.drew.step hB;have jtb:=G0.there (n:=(bs.map (Value.int .u64)).length) hbl9;have jtr:=G0.there (n:=(rs.map (Value.int .u64)).length) hrl9;obtain⟨j0c,j0f,j1c,j1f,j2c,j2f,j3c,j3f,j4c,j4f,j5c,j5f,j6c,j6f,j7c,j7f,j8c,j8f⟩:=G0.cf9;have jlt:=G0.lt);try (replace G1:=G1.drew.step hB;have ktb:=G1.there (n:=(bs.map (Value.int .u64)).length) hbl9;have ktr:=G1.there (n:=(rs.map (Value.int .u64)).length) hrl9;obtain⟨k0c,k0f,k1c,k1f,k2c,k2f,k3c,k3f,k4c,k4f,k5c,k5f,k6c,k6f,k7c,k7f,k8c,k8f⟩:=G1.cf9;have klt:=G1.lt)) | (have T1:ArgsB w w3 _:=(by with_reducible exact(T0.alloc _).step hB);have hltw3:=T0.lt4;(first | (have G1:=(Blk.new _ [.int .u64 0,.int .u64 0,.int .u64 0,.int .u64 0,.int .u64 0,.int .u64 0,.int .u64 0,.int .u64 0,.int .u64 0] _ rfl).step hB;have hgg:=G0.lt;replace G0:=(G0.alloc _).step hB;have jtb:=G0.there (n:=(bs.map (Value.int .u64)).length) hbl9;have jtr:=G0.there (n:=(rs.map (Value.int .u64)).length) hrl9;obtain⟨j0c,j0f,j1c,j1f,j2c,j2f,j3c,j3f,j4c,j4f,j5c,j5f,j6c,j6f,j7c,j7f,j8c,j8f⟩:=G0.cf9;have jlt:=G0.lt;have ktb:=G1.there (n:=(bs.map (Value.int .u64)).length) hbl9;have ktr:=G1.there (n:=(rs.map (Value.int .u64)).length) hrl9;obtain⟨k0c,k0f,k1c,k1f,k2c,k2f,k3c,k3f,k4c,k4f,k5c,k5f,k6c,k6f,k7c,k7f,k8c,k8f⟩:=G1.cf9;have klt:=G1.lt) | (have G0:=(Blk.new _ [.int .u64 0,.int .u64 0,.int .u64 0,.int .u64 0,.int .u64 0,.int .u64 0,.int .u64 0,.int .u64 0,.int .u64 0] _ rfl).step hB;have jtb:=G0.there (n:=(bs.map (Value.int .u64)).length) hbl9;have jtr:=G0.there (n:=(rs.map (Value.int .u64)).length) hrl9;obtain⟨j0c,j0f,j1c,j1f,j2c,j2f,j3c,j3f,j4c,j4f,j5c,j5f,j6c,j6f,j7c,j7f,j8c,j8f⟩:=G0.cf9;have jlt:=G0.lt))) | (have T1:ArgsB w w3 _:=(by with_reducible exact(T0.alloc _).drew.step hB);have hltw3:=T0.lt4;(first | (have G1:=(Blk.new _ [.int .u64 0,.int .u64 0,.int .u64 0,.int .u64 0,.int .u64 0,.int .u64 0,.int .u64 0,.int .u64 0,.int .u64 0] _ rfl).drew.step hB;have hgg:=G0.lt;replace G0:=(G0.alloc _).drew.step hB;have jtb:=G0.there (n:=(bs.map (Value.int .u64)).length) hbl9;have jtr:=G0.there (n:=(rs.map (Value.int .u64)).length) hrl9;obtain⟨j0c,j0f,j1c,j1f,j2c,j2f,j3c,j3f,j4c,j4f,j5c,j5f,j6c,j6f,j7c,j7f,j8c,j8f⟩:=G0.cf9;have jlt:=G0.lt;have ktb:=G1.there (n:=(bs.map (Value.int .u64)).length) hbl9;have ktr:=G1.there (n:=(rs.map (Value.int .u64)).length) hrl9;obtain⟨k0c,k0f,k1c,k1f,k2c,k2f,k3c,k3f,k4c,k4f,k5c,k5f,k6c,k6f,k7c,k7f,k8c,k8f⟩:=G1.cf9;have klt:=G1.lt) | (have G0:=(Blk.new _ [.int .u64 0,.int .u64 0,.int .u64 0,.int .u64 0,.int .u64 0,.int .u64 0,.int .u64 0,.int .u64 0,.int .u64 0] _ rfl).drew.step hB;have jtb:=G0.there (n:=(bs.map (Value.int .u64)).length) hbl9;have jtr:=G0.there (n:=(rs.map (Value.int .u64)).length) hrl9;obtain⟨j0c,j0f,j1c,j1f,j2c,j2f,j3c,j3f,j4c,j4f,j5c,j5f,j6c,j6f,j7c,j7f,j8c,j8f⟩:=G0.cf9;have jlt:=G0.lt))) | (have T1:ArgsB w w3 _:=(by with_reducible exact((T0.alloc _).alloc _).step hB);have hltw3:=T0.lt4;have G0:=((Blk.new _ [.int .u64 0,.int .u64 0,.int .u64 0,.int .u64 0,.int .u64 0,.int .u64 0,.int .u64 0,.int .u64 0,.int .u64 0] _ rfl).alloc _).step hB;have G1:=(Blk.newS _ _ [.int .u64 0,.int .u64 0,.int .u64 0,.int .u64 0,.int .u64 0,.int .u64 0,.int .u64 0,.int .u64 0,.int .u64 0] _).step hB;have jtb:=G0.there (n:=(bs.map (Value.int .u64)).length) hbl9;have jtr:=G0.there (n:=(rs.map (Value.int .u64)).length) hrl9;obtain⟨j0c,j0f,j1c,j1f,j2c,j2f,j3c,j3f,j4c,j4f,j5c,j5f,j6c,j6f,j7c,j7f,j8c,j8f⟩:=G0.cf9;have jlt:=G0.lt;have ktb:=G1.there (n:=(bs.map (Value.int .u64)).length) hbl9;have ktr:=G1.there (n:=(rs.map (Value.int .u64)).length) hrl9;obtain⟨k0c,k0f,k1c,k1f,k2c,k2f,k3c,k3f,k4c,k4f,k5c,k5f,k6c,k6f,k7c,k7f,k8c,k8f⟩:=G1.cf9;have klt:=G1.lt) | (have T1:ArgsB w w3 _:=(by with_reducible exact((T0.alloc _).alloc _).drew.step hB);have hltw3:=T0.lt4;have G0:=((Blk.new _ [.int .u64 0,.int .u64 0,.int .u64 0,.int .u64 0,.int .u64 0,.int .u64 0,.int .u64 0,.int .u64 0,.int .u64 0] _ rfl).alloc _).drew.step hB;have G1:=(Blk.newS _ _ [.int .u64 0,.int .u64 0,.int .u64 0,.int .u64 0,.int .u64 0,.int .u64 0,.int .u64 0,.int .u64 0,.int .u64 0] _).drew.step hB;have jtb:=G0.there (n:=(bs.map (Value.int .u64)).length) hbl9;have jtr:=G0.there (n:=(rs.map (Value.int .u64)).length) hrl9;obtain⟨j0c,j0f,j1c,j1f,j2c,j2f,j3c,j3f,j4c,j4f,j5c,j5f,j6c,j6f,j7c,j7f,j8c,j8f⟩:=G0.cf9;have jlt:=G0.lt;have ktb:=G1.there (n:=(bs.map (Value.int .u64)).length) hbl9;have ktr:=G1.there (n:=(rs.map (Value.int .u64)).length) hrl9;obtain⟨k0c,k0f,k1c,k1f,k2c,k2f,k3c,k3f,k4c,k4f,k5c,k5f,k6c,k6f,k7c,k7f,k8c,k8f⟩:=G1.cf9;have klt:=G1.lt));clear T0;have T0:=T1;clear T1;clear tok1 _t hB)
    | (go_at_call 104;refine(LX _).mono ?_;rintro e w4 ⟨rfl,hB⟩;(first | (have T1:ArgsB w w4 _:=(by with_reducible exact T0.step hB);have hltw4:=T0.lt4;try (replace G0:=G0.step hB;have jtb:=G0.there (n:=(bs.map (Value.int .u64)).length) hbl9;have jtr:=G0.there (n:=(rs.map (Value.int .u64)).length) hrl9;obtain⟨j0c,j0f,j1c,j1f,j2c,j2f,j3c,j3f,j4c,j4f,j5c,j5f,j6c,j6f,j7c,j7f,j8c,j8f⟩:=G0.cf9;have jlt:=G0.lt);try (replace G1:=G1.step hB;have ktb:=G1.there (n:=(bs.map (Value.int .u64)).length) hbl9;have ktr:=G1.there (n:=(rs.map (Value.int .u64)).length) hrl9;obtain⟨k0c,k0f,k1c,k1f,k2c,k2f,k3c,k3f,k4c,k4f,k5c,k5f,k6c,k6f,k7c,k7f,k8c,k8f⟩:=G1.cf9;have klt:=G1.lt)) | (have T1:ArgsB w w4 _:=(by with_reducible exact T0.drew.step hB);have hltw4:=T0.lt4;try (replace G0:=G0.drew.step hB;have jtb:=G0.there (n:=(bs.map (Value.int .u64)).length) hbl9;have jtr:=G0.there (n:=(rs.map (Value.int .u64)).length) hrl9;obtain⟨j0c,j0f,j1c,j1f,j2c,j2f,j3c,j3f,j4c,j4f,j5c,j5f,j6c,j6f,j7c,j7f,j8c,j8f⟩:=G0.cf9;have jlt:=G0.lt);try (replace G1:=G1.drew.step hB;have ktb:=G1.there (n:=(bs.map (Value.int .u64)).length) hbl9;have ktr:=G1.there (n:=(rs.map (Value.int .u64)).length) hrl9;obtain⟨k0c,k0f,k1c,k1f,k2c,k2f,k3c,k3f,k4c,k4f,k5c,k5f,k6c,k6f,k7c,k7f,k8c,k8f⟩:=G1.cf9;have klt:=G1.lt)) | (have T1:ArgsB w w4 _:=(by with_reducible exact(T0.alloc _).step hB);have hltw4:=T0.lt4;(first | (have G1:=(Blk.new _ [.int .u64 0,.int .u64 0,.int .u64 0,.int .u64 0,.int .u64 0,.int .u64 0,.int .u64 0,.int .u64 0,.int .u64 0] _ rfl).step hB;have hgg:=G0.lt;replace G0:=(G0.alloc _).step hB;have jtb:=G0.there (n:=(bs.map (Value.int .u64)).length) hbl9;have jtr:=G0.there (n:=(rs.map (Value.int .u64)).length) hrl9;obtain⟨j0c,j0f,j1c,j1f,j2c,j2f,j3c,j3f,j4c,j4f,j5c,j5f,j6c,j6f,j7c,j7f,j8c,j8f⟩:=G0.cf9;have jlt:=G0.lt;have ktb:=G1.there (n:=(bs.map (Value.int .u64)).length) hbl9;have ktr:=G1.there (n:=(rs.map (Value.int .u64)).length) hrl9;obtain⟨k0c,k0f,k1c,k1f,k2c,k2f,k3c,k3f,k4c,k4f,k5c,k5f,k6c,k6f,k7c,k7f,k8c,k8f⟩:=G1.cf9;have klt:=G1.lt) | (have G0:=(Blk.new _ [.int .u64 0,.int .u64 0,.int .u64 0,.int .u64 0,.int .u64 0,.int .u64 0,.int .u64 0,.int .u64 0,.int .u64 0] _ rfl).step hB;have jtb:=G0.there (n:=(bs.map (Value.int .u64)).length) hbl9;have jtr:=G0.there (n:=(rs.map (Value.int .u64)).length) hrl9;obtain⟨j0c,j0f,j1c,j1f,j2c,j2f,j3c,j3f,j4c,j4f,j5c,j5f,j6c,j6f,j7c,j7f,j8c,j8f⟩:=G0.cf9;have jlt:=G0.lt))) | (have T1:ArgsB w w4 _:=(by with_reducible exact(T0.alloc _).drew.step hB);have hltw4:=T0.lt4;(first | (have G1:=(Blk.new _ [.int .u64 0,.int .u64 0,.int .u64 0,.int .u64 0,.int .u64 0,.int .u64 0,.int .u64 0,.int .u64 0,.int .u64 0] _ rfl).drew.step hB;have hgg:=G0.lt;replace G0:=(G0.alloc _).drew.step hB;have jtb:=G0.there (n:=(bs.map (Value.int .u64)).length) hbl9;have jtr:=G0.there (n:=(rs.map (Value.int .u64)).length) hrl9;obtain⟨j0c,j0f,j1c,j1f,j2c,j2f,j3c,j3f,j4c,j4f,j5c,j5f,j6c,j6f,j7c,j7f,j8c,j8f⟩:=G0.cf9;have jlt:=G0.lt;have ktb:=G1.there (n:=(bs.map (Value.int .u64)).length) hbl9;have ktr:=G1.there (n:=(rs.map (Value.int .u64)).length) hrl9;obtain⟨k0c,k0f,k1c,k1f,k2c,k2f,k3c,k3f,k4c,k4f,k5c,k5f,k6c,k6f,k7c,k7f,k8c,k8f⟩:=G1.cf9;have klt:=G1.lt) | (have G0:=(Blk.new _ [.int .u64 0,.int .u64 0,.int .u64 0,.int .u64 0,.int .u64 0,.int .u64 0,.int .u64 0,.int .u64 0,.int .u64 0] _ rfl).drew.step hB;have jtb:=G0.there (n:=(bs.map (Value.int .u64)).length) hbl9;have jtr:=G0.there (n:=(rs.map (Value.int .u64)).length) hrl9;obtain⟨j0c,j0f,j1c,j1f,j2c,j2f,j3c,j3f,j4c,j4f,j5c,j5f,j6c,j6f,j7c,j7f,j8c,j8f⟩:=G0.cf9;have jlt:=G0.lt))) | (have T1:ArgsB w w4 _:=(by with_reducible exact((T0.alloc _).alloc _).step hB);have hltw4:=T0.lt4;have G0:=((Blk.new _ [.int .u64 0,.int .u64 0,.int .u64 0,.int .u64 0,.int .u64 0,.int .u64 0,.int .u64 0,.int .u64 0,.int .u64 0] _ rfl).alloc _).step hB;have G1:=(Blk.newS _ _ [.int .u64 0,.int .u64 0,.int .u64 0,.int .u64 0,.int .u64 0,.int .u64 0,.int .u64 0,.int .u64 0,.int .u64 0] _).step hB;have jtb:=G0.there (n:=(bs.map (Value.int .u64)).length) hbl9;have jtr:=G0.there (n:=(rs.map (Value.int .u64)).length) hrl9;obtain⟨j0c,j0f,j1c,j1f,j2c,j2f,j3c,j3f,j4c,j4f,j5c,j5f,j6c,j6f,j7c,j7f,j8c,j8f⟩:=G0.cf9;have jlt:=G0.lt;have ktb:=G1.there (n:=(bs.map (Value.int .u64)).length) hbl9;have ktr:=G1.there (n:=(rs.map (Value.int .u64)).length) hrl9;obtain⟨k0c,k0f,k1c,k1f,k2c,k2f,k3c,k3f,k4c,k4f,k5c,k5f,k6c,k6f,k7c,k7f,k8c,k8f⟩:=G1.cf9;have klt:=G1.lt) | (have T1:ArgsB w w4 _:=(by with_reducible exact((T0.alloc _).alloc _).drew.step hB);have hltw4:=T0.lt4;have G0:=((Blk.new _ [.int .u64 0,.int .u64 0,.int .u64 0,.int .u64 0,.int .u64 0,.int .u64 0,.int .u64 0,.int .u64 0,.int .u64 0] _ rfl).alloc _).drew.step hB;have G1:=(Blk.newS _ _ [.int .u64 0,.int .u64 0,.int .u64 0,.int .u64 0,.int .u64 0,.int .u64 0,.int .u64 0,.int .u64 0,.int .u64 0] _).drew.step hB;have jtb:=G0.there (n:=(bs.map (Value.int .u64)).length) hbl9;have jtr:=G0.there (n:=(rs.map (Value.int .u64)).length) hrl9;obtain⟨j0c,j0f,j1c,j1f,j2c,j2f,j3c,j3f,j4c,j4f,j5c,j5f,j6c,j6f,j7c,j7f,j8c,j8f⟩:=G0.cf9;have jlt:=G0.lt;have ktb:=G1.there (n:=(bs.map (Value.int .u64)).length) hbl9;have ktr:=G1.there (n:=(rs.map (Value.int .u64)).length) hrl9;obtain⟨k0c,k0f,k1c,k1f,k2c,k2f,k3c,k3f,k4c,k4f,k5c,k5f,k6c,k6f,k7c,k7f,k8c,k8f⟩:=G1.cf9;have klt:=G1.lt));clear T0;have T0:=T1;clear T1;clear hB))
  all_goals go_wp2_with fail
  all_goals go_meet
  all_goals first | (with_reducible exact cutD_cells ((T0.alloc _).alloc _) ((Blk.new w4 [.int .u64 0,.int .u64 0,.int .u64 0,.int .u64 0,.int .u64 0,.int .u64 0,.int .u64 0,.int .u64 0,.int .u64 0] _ rfl).alloc _) (Blk.newS w4 _ [.int .u64 0,.int .u64 0,.int .u64 0,.int .u64 0,.int .u64 0,.int .u64 0,.int .u64 0,.int .u64 0,.int .u64 0] _) hbl9 hrl9 (by have:=T0.lt4;omega) (by have:=T0.lt4;omega) (by have:=T0.lt4;omega)) | (with_reducible exact cutD_cells ((T0.alloc _).alloc _) (Blk.newS w4 _ [.int .u64 0,.int .u64 0,.int .u64 0,.int .u64 0,.int .u64 0,.int .u64 0,.int .u64 0,.int .u64 0,.int .u64 0] _) ((Blk.new w4 [.int .u64 0,.int .u64 0,.int .u64 0,.int .u64 0,.int .u64 0,.int .u64 0,.int .u64 0,.int .u64 0,.int .u64 0] _ rfl).alloc _) hbl9 hrl9 (by have:=T0.lt4;omega) (by have:=T0.lt4;omega) (by have:=T0.lt4;omega)) | (with_reducible exact cutD_cells (T0.alloc _) (G0.alloc _) (Blk.new w4 [.int .u64 0,.int .u64 0,.int .u64 0,.int .u64 0,.int .u64 0,.int .u64 0,.int .u64 0,.int .u64 0,.int .u64 0] _ rfl) hbl9 hrl9 (by have:=T0.lt4;omega) (by have:=T0.lt4;omega) (by have:=T0.lt4;have:=G0.lt;omega)) | (with_reducible exact cutD_cells (T0.alloc _) (Blk.new w4 [.int .u64 0,.int .u64 0,.int .u64 0,.int .u64 0,.int .u64 0,.int .u64 0,.int .u64 0,.int .u64 0,.int .u64 0] _ rfl) (G0.alloc _) hbl9 hrl9 (by have:=T0.lt4;omega) (by have:=T0.lt4;omega) (by have:=T0.lt4;have:=G0.lt;omega)) | (with_reducible exact cutD_cells T0 G0 G1 hbl9 hrl9 (by have:=T0.lt4;omega) (by have:=T0.lt4;omega) (by have:=T0.lt4;have:=G0.lt;omega)) | (with_reducible exact cutD_cells T0 G1 G0 hbl9 hrl9 (by have:=T0.lt4;omega) (by have:=T0.lt4;omega) (by have:=T0.lt4;have:=G0.lt;omega))
 case rest=>
  clear T0 tok1 LY LX;obtain⟨gb,gr,hp,hq,hne,hgb,hgr,T0,GB,GR⟩:=hcut;subst hp;subst hq;have hl4:=T0.lt4;have GBL:=GB.lt;have GRL:=GR.lt;have GQ:=Blk.new wc [.int .u64 0,.int .u64 0,.int .u64 0,.int .u64 0,.int .u64 0,.int .u64 0,.int .u64 0,.int .u64 0] 88 rfl;replace T0:=T0.alloc (.cells #[.int .u64 0,.int .u64 0,.int .u64 0,.int .u64 0,.int .u64 0,.int .u64 0,.int .u64 0,.int .u64 0] 88);replace GB:=GB.alloc (.cells #[.int .u64 0,.int .u64 0,.int .u64 0,.int .u64 0,.int .u64 0,.int .u64 0,.int .u64 0,.int .u64 0] 88);replace GR:=GR.alloc (.cells #[.int .u64 0,.int .u64 0,.int .u64 0,.int .u64 0,.int .u64 0,.int .u64 0,.int .u64 0,.int .u64 0] 88);have gbl:gb<wc.heap.size:=GBL;have grl:gr<wc.heap.size:=GRL;go_upto_region 5 with fail;generalize wc.alloc (.cells #[.int .u64 0,.int .u64 0,.int .u64 0,.int .u64 0,.int .u64 0,.int .u64 0,.int .u64 0,.int .u64 0] 88)=W1 at *;generalize wc.heap.size=gq at *
  go_cut [11] (fun p wx=>wx=W1∧∃c:Nat,c≤9∧(∀j,c≤j→(h:j<rs.length)→rs[j]=0)∧p= .int .i64 (((min c 8:Nat):Int)-(n:Int)))
  case first=>
   have RR:=blk_row_take GR (k:=9) (by have:=HRL.out;omega);rw[List.take_of_length_le (by have:=HRL.out;omega)] at RR;go_wp2_with fail;refine(countWords_any gr 0 9 9 rs _ HRL.out RR (by decide)).mono ?_;rintro e w5 ⟨c,rfl,c1,c2,c3,rfl⟩;clear RR c3;rw[HRL.out] at c1;have hc9:(c:Int)≤9:=by omega
   go_wp2_with fail
   all_goals go_meet
   all_goals exact⟨rfl,c,c1,c2,by congr 1;omega⟩
  case rest=>
   obtain⟨rfl,c,c1,c2,rfl⟩:=hcut;obtain⟨k0,hk0⟩:∃k:Nat,(k:Int)=(if (min c 8:Nat)<n then 0 else(min c 8:Nat)-n+1):=by
    split
    · exact⟨0,rfl⟩
    · exact⟨min c 8-n+1,by omega⟩
   have D0:=dl_start HRL.out HRW.out HMN.out hn8 c1 c2 HLO.out s64 HRV.out HXL.out k0 hk0;rw[HRV.out] at D0;have hk9:k0+n≤9:=by split at hk0<;>omega
   have hp0:∃i:Int,(((min c 8:Nat):Int)-(n:Int))=i∧(i+1=(k0:Int)∨(k0=0∧i<0)):=⟨_,rfl,by split at hk0<;>omega⟩;obtain⟨i0,hi0,hi1⟩:=hp0;rw[hi0];have i0l:i0<9:=by omega
   have i0g: -9<i0:=by omega
   clear hi0 hk0 c1 c2;go_wp2_with fail
   go_loopg [11] k0 (fun k p wr=>∃(i:Int) (us qs:List Int),p= .int .i64 i∧(i+1=(k:Int)∨(k=0∧i<0))∧-9<i∧k+n≤9∧DlI (2 ^ s*val64 xs) (val64 bs) us qs k∧ArgsB w wr [[.int .u64 x0,.int .u64 x1,.int .u64 x2,.int .u64 x3,.int .u64 x4,.int .u64 x5,.int .u64 x6,.int .u64 x7],[.int .u64 y0,.int .u64 y1,.int .u64 y2,.int .u64 y3,.int .u64 y4,.int .u64 y5,.int .u64 y6,.int .u64 y7],[.int .u64 0,.int .u64 0,.int .u64 0,.int .u64 0,.int .u64 0,.int .u64 0,.int .u64 0,.int .u64 0],[.int .u64 0,.int .u64 0,.int .u64 0,.int .u64 0,.int .u64 0,.int .u64 0,.int .u64 0,.int .u64 0]]∧Blk wr gb (bs.map (Value.int .u64))∧Blk wr gr (us.map (Value.int .u64))∧Blk wr gq (qs.map (Value.int .u64)))
   case atStart=>exact⟨i0,rs,List.replicate 8 0,rfl,hi1,i0g,hk9,D0,T0,GB,GR,GQ⟩
   case round=>
    clear T0 GB GR GQ D0 hi1 hk9 i0l i0g;obtain⟨i,us,qs,rfl,hi,ig,hkn,hD,T0,GB,GR,GQ⟩:=hrel
    rcases Nat.eq_zero_or_pos gk with hg0 | hg0
    · subst hg0;have hneg:i<0:=by omega
      obtain⟨E1,E2⟩:=dl_end hD H0.out HBV.out;have EM:val64 xs%val64 ys<pw64 8:=by
       have h1:=Int.emod_lt_of_pos (val64 xs) H0.out;have h2:=vq_lt HY.out;rw[HM.out] at h2
       omega
      have LD:=liftDown_any us s (val64 xs%val64 ys) hD.rl hD.rw s64 E2 EM;have HE1:Hid (val64 qs=val64 xs / val64 ys):=E1;have HQW:Hid (Words qs):=hD.qw;have HB:=T0.below;obtain⟨u0,u1,u2,u3,u4,u5,u6,u7,u8,hus⟩:=list9 hD.rl;obtain⟨q0,q1,q2,q3,q4,q5,q6,q7,rfl⟩:=list8' hD.ql;have UA:agg us= .agg #[.int .u64 u0,.int .u64 u1,.int .u64 u2,.int .u64 u3,.int .u64 u4,.int .u64 u5,.int .u64 u6,.int .u64 u7,.int .u64 u8]:=by rw[hus];rfl
      rw[UA] at LD;have GR9:Blk wr gr [.int .u64 u0,.int .u64 u1,.int .u64 u2,.int .u64 u3,.int .u64 u4,.int .u64 u5,.int .u64 u6,.int .u64 u7,.int .u64 u8]:=by have:=GR;rw[hus] at this;exact this
      clear E1 E2 EM UA hus GR hD hi;have OA:Blk wr (w.heap.size+1+1) [.int .u64 0,.int .u64 0,.int .u64 0,.int .u64 0,.int .u64 0,.int .u64 0,.int .u64 0,.int .u64 0]:=T0.b 2 rfl;have OB:Blk wr (w.heap.size+1+1+1) [.int .u64 0,.int .u64 0,.int .u64 0,.int .u64 0,.int .u64 0,.int .u64 0,.int .u64 0,.int .u64 0]:=T0.b 3 rfl;replace GQ:Blk wr gq [.int .u64 q0,.int .u64 q1,.int .u64 q2,.int .u64 q3,.int .u64 q4,.int .u64 q5,.int .u64 q6,.int .u64 q7]:=GQ;have uu0c:=GR9.c 0 rfl;have uu1c:=GR9.c 1 rfl;have uu2c:=GR9.c 2 rfl;have uu3c:=GR9.c 3 rfl;have uu4c:=GR9.c 4 rfl;have uu5c:=GR9.c 5 rfl;have uu6c:=GR9.c 6 rfl;have uu7c:=GR9.c 7 rfl;have uu8c:=GR9.c 8 rfl;obtain⟨qq0c,qq1c,qq2c,qq3c,qq4c,qq5c,qq6c,qq7c⟩:=GQ.cs8;have oa0c:=OA.c 0 rfl;have oa0f:=OA.f 0 rfl;have ob0c:=OB.c 0 rfl;have ob0f:=OB.f 0 rfl;have oa1c:=OA.c 1 rfl;have oa1f:=OA.f 1 rfl;have ob1c:=OB.c 1 rfl;have ob1f:=OB.f 1 rfl;have oa2c:=OA.c 2 rfl;have oa2f:=OA.f 2 rfl;have ob2c:=OB.c 2 rfl;have ob2f:=OB.f 2 rfl;have oa3c:=OA.c 3 rfl;have oa3f:=OA.f 3 rfl;have ob3c:=OB.c 3 rfl;have ob3f:=OB.f 3 rfl;have oa4c:=OA.c 4 rfl;have oa4f:=OA.f 4 rfl;have ob4c:=OB.c 4 rfl;have ob4f:=OB.f 4 rfl;have oa5c:=OA.c 5 rfl;have oa5f:=OA.f 5 rfl;have ob5c:=OB.c 5 rfl;have ob5f:=OB.f 5 rfl;have oa6c:=OA.c 6 rfl;have oa6f:=OA.f 6 rfl;have ob6c:=OB.c 6 rfl;have ob6f:=OB.f 6 rfl;have oa7c:=OA.c 7 rfl;have oa7f:=OA.f 7 rfl;have ob7c:=OB.c 7 rfl;have ob7f:=OB.f 7 rfl;have olta:=OA.lt;have oltb:=OB.lt;clear T0 GB;go_wp2_with fail
      go_region_with ((go_at_call 106;refine(LD _).mono ?_;rintro e w8 ⟨zs,rfl,z1,z2,z3,hB⟩;(first | (replace GQ:=GQ.step hB;replace OA:=OA.step hB;replace OB:=OB.step hB;replace HB:=HB.trans (hB.mono HB.size)) | (replace GQ:=GQ.drew.step hB;replace OA:=OA.drew.step hB;replace OB:=OB.drew.step hB;replace HB:=HB.drew.trans (hB.mono HB.size)));clear hB;obtain⟨qq0c,qq1c,qq2c,qq3c,qq4c,qq5c,qq6c,qq7c⟩:=GQ.cs8;have oa0c:=OA.c 0 rfl;have oa0f:=OA.f 0 rfl;have ob0c:=OB.c 0 rfl;have ob0f:=OB.f 0 rfl;have oa1c:=OA.c 1 rfl;have oa1f:=OA.f 1 rfl;have ob1c:=OB.c 1 rfl;have ob1f:=OB.f 1 rfl;have oa2c:=OA.c 2 rfl;have oa2f:=OA.f 2 rfl;have ob2c:=OB.c 2 rfl;have ob2f:=OB.f 2 rfl;have oa3c:=OA.c 3 rfl;have oa3f:=OA.f 3 rfl;have ob3c:=OB.c 3 rfl;have ob3f:=OB.f 3 rfl;have oa4c:=OA.c 4 rfl;have oa4f:=OA.f 4 rfl;have ob4c:=OB.c 4 rfl;have ob4f:=OB.f 4 rfl;have oa5c:=OA.c 5 rfl;have oa5f:=OA.f 5 rfl;have ob5c:=OB.c 5 rfl;have ob5f:=OB.f 5 rfl;have oa6c:=OA.c 6 rfl;have oa6f:=OA.f 6 rfl;have ob6c:=OB.c 6 rfl;have ob6f:=OB.f 6 rfl;have oa7c:=OA.c 7 rfl;have oa7f:=OA.f 7 rfl;have ob7c:=OB.c 7 rfl;have ob7f:=OB.f 7 rfl;have olta8:=OA.lt;have oltb8:=OB.lt;obtain⟨z0,z1',z2',z3',z4,z5,z6,z7,rfl⟩:=list8' z1;unfold agg;simp only[List.map_cons,List.map_nil]))
      all_goals clear GQ OA OB LD GR9
      all_goals go_wp2
      all_goals refine bodyPost_ret (v:= .tuple #[.agg #[.int .u64 q0,.int .u64 q1,.int .u64 q2,.int .u64 q3,.int .u64 q4,.int .u64 q5,.int .u64 q6,.int .u64 q7],.agg #[.int .u64 z0,.int .u64 z1',.int .u64 z2',.int .u64 z3',.int .u64 z4,.int .u64 z5,.int .u64 z6,.int .u64 z7]]) (by simp[results,Tryz.results91,go_sem,oa0c,ob0c,oa1c,ob1c,oa2c,ob2c,oa3c,ob3c,oa4c,ob4c,oa5c,ob5c,oa6c,ob6c,oa7c,ob7c]) rfl ?_
      all_goals refine⟨[q0,q1,q2,q3,q4,q5,q6,q7],[z0,z1',z2',z3',z4,z5,z6,z7],rfl,rfl,rfl,HQW.out,z2,HE1.out,z3,?_⟩
      all_goals exact below_set8 (g:=w.heap.size+1+1+1) (by omega) (below_set8 (g:=w.heap.size+1+1) (by omega) HB)
    · obtain⟨p,rfl⟩:∃p,gk=p+1:=⟨gk-1,by omega⟩;obtain rfl:i=(p:Int):=by omega
      have hpn:p+n≤8:=by omega
      have HKN:=dl_kn hD HBL.out HBW.out hn1 hpn HTK.out HTP.out;have TD:=takeDigit_any us bs n p HKN;have HUL:Hid (us.length=9):=hD.rl;have HQL:Hid (qs.length=8):=hD.ql;obtain⟨u0,u1,u2,u3,u4,u5,u6,u7,u8,hus⟩:=list9 hD.rl;obtain⟨b0,b1,b2,b3,b4,b5,b6,b7,b8,hbs⟩:=list9 HBL.out;have UA:agg us= .agg #[.int .u64 u0,.int .u64 u1,.int .u64 u2,.int .u64 u3,.int .u64 u4,.int .u64 u5,.int .u64 u6,.int .u64 u7,.int .u64 u8]:=by rw[hus];rfl
      have BA:agg bs= .agg #[.int .u64 b0,.int .u64 b1,.int .u64 b2,.int .u64 b3,.int .u64 b4,.int .u64 b5,.int .u64 b6,.int .u64 b7,.int .u64 b8]:=by rw[hbs];rfl
      rw[UA,BA] at TD;have GR9:Blk wr gr [.int .u64 u0,.int .u64 u1,.int .u64 u2,.int .u64 u3,.int .u64 u4,.int .u64 u5,.int .u64 u6,.int .u64 u7,.int .u64 u8]:=by have:=GR;rw[hus] at this;exact this
      have GB9:Blk wr gb [.int .u64 b0,.int .u64 b1,.int .u64 b2,.int .u64 b3,.int .u64 b4,.int .u64 b5,.int .u64 b6,.int .u64 b7,.int .u64 b8]:=by have:=GB;rw[hbs] at this;exact this
      have uu0c:=GR9.c 0 rfl;have uu0f:=GR9.f 0 rfl;have uu1c:=GR9.c 1 rfl;have uu1f:=GR9.f 1 rfl;have uu2c:=GR9.c 2 rfl;have uu2f:=GR9.f 2 rfl;have uu3c:=GR9.c 3 rfl;have uu3f:=GR9.f 3 rfl;have uu4c:=GR9.c 4 rfl;have uu4f:=GR9.f 4 rfl;have uu5c:=GR9.c 5 rfl;have uu5f:=GR9.f 5 rfl;have uu6c:=GR9.c 6 rfl;have uu6f:=GR9.f 6 rfl;have uu7c:=GR9.c 7 rfl;have uu7f:=GR9.f 7 rfl;have uu8c:=GR9.c 8 rfl;have uu8f:=GR9.f 8 rfl;have bb0c:=GB9.c 0 rfl;have bb0f:=GB9.f 0 rfl;have bb1c:=GB9.c 1 rfl;have bb1f:=GB9.f 1 rfl;have bb2c:=GB9.c 2 rfl;have bb2f:=GB9.f 2 rfl;have bb3c:=GB9.c 3 rfl;have bb3f:=GB9.f 3 rfl;have bb4c:=GB9.c 4 rfl;have bb4f:=GB9.f 4 rfl;have bb5c:=GB9.c 5 rfl;have bb5f:=GB9.f 5 rfl;have bb6c:=GB9.c 6 rfl;have bb6f:=GB9.f 6 rfl;have bb7c:=GB9.c 7 rfl;have bb7f:=GB9.f 7 rfl;have bb8c:=GB9.c 8 rfl;have bb8f:=GB9.f 8 rfl;clear UA BA hus hbs GR;go_wp2_with fail;refine(TD _).mono ?_;rintro e w7 ⟨zs,rfl,z1,z2,z3,hB⟩;have HLT:=HKN.lt;rw[HTK.out] at z3 HLT⊢;have BP:0<val64 bs:=by have:=HKN.pos;rwa [HTK.out] at this
      obtain⟨HQW,HD2⟩:=dl_step hD hn1 hpn BP HHI.out HLT z1 z2 z3;replace T0:=T0.step hB;replace GB:=GB.step hB;replace GR9:=GR9.step hB;replace GQ:=GQ.step hB;have hpq:p<qs.length:=by have:=HQL.out;omega
      have qc:w7.cell? ⟨gq,p,none⟩=some (.int .u64 qs[p]):=GQ.c p (by simp[hpq]);have qf:w7.frozen? ⟨gq,p,none⟩=false:=GQ.f p (v:= .int .u64 qs[p]) (by simp[hpq]);have hp8:(p:Int)<8:=by omega
      generalize val64 (win us p (n+1)) / val64 bs=qd at *;have HDH:Hid (DlI (2 ^ s*val64 xs) (val64 bs) zs (qs.set p qd) p):=HD2;obtain⟨z0,z1,z2,z3,z4,z5,z6,z7,z8,hzs⟩:=list9 z1;have ZA:agg zs= .agg #[.int .u64 z0,.int .u64 z1,.int .u64 z2,.int .u64 z3,.int .u64 z4,.int .u64 z5,.int .u64 z6,.int .u64 z7,.int .u64 z8]:=by rw[hzs];rfl
      have HZM:Hid (zs.map (Value.int .u64)=[.int .u64 z0,.int .u64 z1,.int .u64 z2,.int .u64 z3,.int .u64 z4,.int .u64 z5,.int .u64 z6,.int .u64 z7,.int .u64 z8]):=by show _=_;rw[hzs];rfl
      rw[ZA];have uu0c:=GR9.c 0 rfl;have uu0f:=GR9.f 0 rfl;have uu1c:=GR9.c 1 rfl;have uu1f:=GR9.f 1 rfl;have uu2c:=GR9.c 2 rfl;have uu2f:=GR9.f 2 rfl;have uu3c:=GR9.c 3 rfl;have uu3f:=GR9.f 3 rfl;have uu4c:=GR9.c 4 rfl;have uu4f:=GR9.f 4 rfl;have uu5c:=GR9.c 5 rfl;have uu5f:=GR9.f 5 rfl;have uu6c:=GR9.c 6 rfl;have uu6f:=GR9.f 6 rfl;have uu7c:=GR9.c 7 rfl;have uu7f:=GR9.f 7 rfl;have uu8c:=GR9.c 8 rfl;have uu8f:=GR9.f 8 rfl;clear ZA hzs hB HD2 hD HKN TD GB9;go_wp2
      go_roundg p
      case measure=>omega
      case rel=>
       refine⟨(p:Int)-1,zs,qs.set p qd,by go_num,Or.inl (by omega),by omega,by omega,HDH.out,?_,?_,?_,?_⟩
       · exact(T0.set (p:=⟨gq,p,none⟩) (by show w.heap.size+4≤gq;omega) _).set9 hgr _ _ _ _ _ _ _ _ _
       · exact(GB.setO (p:=⟨gq,p,none⟩) (by show gb≠gq;omega) _).set9 hne
       · rw[HZM.out];exact(GR9.setO (p:=⟨gq,p,none⟩) (by show gr≠gq;omega) _).stored9 _ _ _ _ _ _ _ _ _
       · have:=GQ.setI p (by simpa using hpq) (.int .u64 qd);rw[←List.map_set] at this;exact this.set9 (by omega)
end Go.Proofs.YtbogliojkabbjaaGreat
