/- FlatNear: part 7. -/
import Derived.BigQuiet
import Derived.Deep.RegionHeld3
import Derived.Test.YtlpogecpdfdggaaGreatKFlatNear0
import Derived.Test.YtlpogecpdfdggaaGreatKFlatNear1
import Derived.Test.YtlpogecpdfdggaaGreatKFlatNear3
import Derived.Test.YtlpogecpdfdggaaGreatKFlatNear4
import Derived.Test.YtlpogecpdfdggaaGreatKFlatNear5
import Derived.Test.YtlpogecpdfdggaaGreatKFlatNear6
set_option linter.unusedVariables false
set_option maxRecDepth 100000
set_option maxHeartbeats 16000000
variable {w:Go.World}
namespace Go.Proofs.YtlpogecpdfdggaaGreat
section
open Go.RowKit
def GivesTwo (w:World) (Q R:Nat) (e:Ending) (w':World):Prop :=
 ∃ A n c A' n' c',e=.returned (.agg #[.slice A n c,.slice A' n' c'])∧n≤c∧n'≤c'∧Rd .u32 w' A n (limbs B32 Q)∧Rd .u32 w' A' n' (limbs B32 R)∧Below w.heap.size w w'
def GivesTwoF (w:World) (Q R:Nat) (e:Ending) (w':World):Prop :=
 ∃ A n c A' n' c',e=.returned (.agg #[.slice A n c,.slice A' n' c'])∧n≤c∧n'≤c'∧Rd .u32 w' A n (limbs B32 Q)∧Rd .u32 w' A' n' (limbs B32 R)∧Below w.heap.size w w'∧(∀ ad,A=some ad→w.heap.size≤ad.block)∧(∀ ad,A'=some ad→w.heap.size≤ad.block)
theorem or32 {r x:Nat} (hr:r < B32) (hx:x < B32):bits .or .u64 (IntKind.u64.wrap ((r:Int)*4294967296)) (x:Int)=((r*B32+x:Nat):Int):=by
 have h:=or_up (s:=32) (by omega) r (y:=x) hx
 have e:r*2 ^ 32 % B64=r*B32:=Nat.mod_eq_of_lt (by
  have:r*4294967296 < 4294967296*4294967296:=Nat.mul_lt_mul_of_pos_right hr (by omega)
  exact this)
 rw [e] at h
 exact h
theorem or32' {r x:Nat} (hr:r < B32) (hx:x < B32):bits .or .u64 ((r:Int)*4294967296) (IntKind.u64.wrap (x:Int))=((r*B32+x:Nat):Int):=by
 have h:=or32 hr hx
 have e:r*4294967296 < 4294967296*4294967296:=Nat.mul_lt_mul_of_pos_right hr (by omega)
 have e2:x < 4294967296:=hx
 rw [show IntKind.u64.wrap ((r:Int)*4294967296)=(r:Int)*4294967296 by rw [IntKind.wrap_u64];omega] at h
 rw [show IntKind.u64.wrap (x:Int)=(x:Int) by rw [IntKind.wrap_u64];omega]
 exact h
theorem e_div32 {v b:Nat} (h:v / b < B32):IntKind.u64.wrap ((v:Int) / (b:Int)) % 4294967296=((v / b:Nat):Int):=by
 have h2:v / b < 4294967296:=h
 rw [← Int.natCast_ediv,IntKind.wrap_u64]
 generalize v / b=q at *
 omega
theorem short_step {D q r x b:Nat} (h1:q=D / b) (h2:r=D % b) (hb:0 < b):(r*B32+x) / b+B32*q=(x+B32*D) / b∧(r*B32+x) % b=(x+B32*D) % b:=by
 have e:x+B32*D=b*(B32*q)+(r*B32+x):=by
  have:=Nat.div_add_mod D b
  rw [← h1,← h2] at this
  rw [← this]
  generalize B32=B
  grind
 rw [e,Nat.mul_add_div hb,Nat.mul_add_mod]
 exact ⟨Nat.add_comm _ _,rfl⟩
theorem short_fit {r x b:Nat} (hr:r < b) (hx:x < B32):(r*B32+x) / b < B32:=by
 refine Nat.div_lt_of_lt_mul ?_
 have:=Nat.mul_le_mul_right B32 (show r+1≤b from hr)
 rw [Nat.succ_mul] at this
 omega
theorem Fr.base9 {K:IntKind} {e:TypeId} {B n c:Nat} {A:Option Addr} {l:List Nat} (h:Fr K e w B A n c l):∀ ad,A=some ad→B≤ad.block:=by
 intro ad hA
 rcases h.2.2 with ⟨h2,_⟩ | ⟨g,cap,cur,hv,hg,r⟩
 · subst hA;cases h2
 · subst hA
   injection hv with ha
   injection ha with ha
   subst ha
   exact hg
theorem rof_any (v:Nat) (hv:v < B64) (w:World):Calls Tryz.prog 35 #[.int .u64 (v:Int)] w (GivesS .u32 113 w (limbs B32 v)):=by
 go_enter Tryz.func35,Tryz.ntmps35
 go_wp2_with (go_at_call 34;(refine (rin_any [v] _ 1 1 _ (lit2_rd (K:=.u64) (e:=74) w [v] 1 rfl) (Lim.cons hv Lim.nil) (by omega)).mono ?_);rintro e w1 ⟨A1,n1,c1,rfl,p1,p2,p3,p4⟩)
 go_ret
 have hs:(w.alloc (.cells (nums .u64 [v]).toArray 74)).heap.size=w.heap.size+1:=by simp
 refine ⟨A1,n1,c1,rfl,p1,p2,?_,((Below.refl _ _).alloc (Nat.le_refl _) _).trans (p4.mono (by rw [hs];omega))⟩
 have:=p3.more (B':=w.heap.size) (by rw [hs];omega)
 simpa using this
theorem short_any (V b:Nat) (A:Option Addr) (n c:Nat) (w:World) (ha:Rd .u32 w A n (limbs B32 V)) (hn0:n≤1000000) (hb:0 < b) (hbB:b < B32) :
 Calls Tryz.prog 108 #[.slice A n c,.int .u32 (b:Int)] w (GivesTwoF w (V / b) (V % b)):=by
 have hn1:n≤2 ^ 45:=by omega
 have HL:=Lib.hid ha.1;have La:=lim_limbs B32_two V
 go_enter Tryz.func108,Tryz.ntmps108
 go_wp2_with (at_make;refine wpList_make32 _ rfl (.tmp 10) (.tmp 10) rfl .i64 .i64 _ _ n rfl rfl (by omega) (by omega) (by omega) ?_;intro w1 hown1 hb1)
 have hs1:(w.alloc (.cells #[.slice none 0 0,.slice none 0 0] 117)).heap.size=w.heap.size+1:=by simp
 have hb2:Below w.heap.size w w1:=((Below.refl _ _).alloc (Nat.le_refl _) _).trans (hb1.mono (by rw [hs1];omega))
 have hv1:Vow 117 w1 w.heap.size [.slice none 0 0,.slice none 0 0]:=(hb1.block w.heap.size (by rw [hs1];omega)).trans (heap_alloc_new w _)
 rw [hs1] at hown1;have HB:=Lib.hid hb
 have hbI:((b:Int) == 0)=false:=by simp;omega
 have hbi:b≤4294967295:=by have:B32=4294967296:=rfl;omega
 clear hb1
 go_loopw [6,7] (fun tr ti wr=>∃ (j:Nat) (Q:List Nat) (r:Nat),j≤n∧ti=.int .i64 ((j:Int) - 1)∧tr=.int .u64 (r:Int)∧r < b∧Own .u32 113 wr (w.heap.size+1) (List.replicate j 0 ++ Q)∧Vow 117 wr w.heap.size [.slice none 0 0,.slice none 0 0]∧Below w.heap.size w wr ∧
  Hid (Q.length+j=n∧Lim B32 Q∧val B32 Q=val B32 ((limbs B32 V).drop j) / b∧r=val B32 ((limbs B32 V).drop j) % b)) (fun _ ti _=>(intOf ti+1).toNat)
 case atStart =>
  refine ⟨n,[],0,Nat.le_refl _,by go_num,rfl,hb,by simpa using hown1,hv1,hb2,by simp,Lim.nil,?_,?_⟩
  · rw [List.drop_of_length_le (by have:=HL.out;omega)];simp
  · rw [List.drop_of_length_le (by have:=HL.out;omega)];simp
 case round =>
  obtain ⟨j,Q,r,hj,rfl,rfl,hr,hQ,hV,hbw,HI⟩:=hrel
  by_cases hj0:0 < j
  · obtain ⟨i,rfl⟩:∃ i,j=i+1:=⟨j - 1,by omega⟩
    have h':=ha.below hbw
    obtain ⟨b0,o,rfl,hc⟩:=h'.at_ (by omega)
    obtain ⟨x,hx,hcx⟩:=hc i (by omega)
    have hxB:=La.get hx
    have hq:Own .u32 113 wr (w.heap.size+1) (List.replicate i 0 ++ (0 :: Q)):=by
     rw [List.replicate_succ',List.append_assoc] at hQ;exact hQ
    have hlz:(List.replicate i 0).length=i:=by simp
    have hcz:=hq.cell_len hlz;have hfz:=Own.frozen hq i
    have hor:=or32' (show r < B32 by omega) hxB
    obtain ⟨v,hv⟩:∃ v,v=r*B32+x:=⟨_,rfl⟩
    rw [← hv] at hor
    have hvB:v < B64:=by
     have h1:(r+1)*B32≤B32*B32:=Nat.mul_le_mul_right _ (by omega)
     rw [Nat.succ_mul] at h1
     have h2:B32*B32=B64:=by decide
     omega
    have hqf:v / b < B32:=by rw [hv];exact short_fit hr hxB
    have hst:=hq.store_len hlz (v / b)
    rw [List.append_assoc] at hst;have HST:=Lib.hid hst;have HX:=Lib.hid hx;have HV:=Lib.hid hv;have HQ:=Lib.hid hq;clear hst hx hc hq hlz hQ hv
    go_wp2_with fail
    go_roundw
    case rel=>
     obtain ⟨i1,i2,i3,i4⟩:=HI.out
     obtain ⟨s1,s2⟩:=short_step (x:=x) i3 i4 hb
     have hd:val B32 ((limbs B32 V).drop i)=x+B32*val B32 ((limbs B32 V).drop (i+1)):=by
      have hk:=(List.getElem?_eq_some_iff.1 HX.out).1
      rw [List.drop_eq_getElem_cons hk,(List.getElem?_eq_some_iff.1 HX.out).2,val_cons]
     rw [e_div32 hqf,e_mod]
     refine ⟨i,(v / b) :: Q,v % b,by omega,by go_num,rfl,Nat.mod_lt _ hb,HST.out,hV.other (by omega) _,hbw.setCell (p:=⟨w.heap.size+1,i,none⟩) (by show w.heap.size≤w.heap.size+1;omega) _,?_,Lim.cons hqf i2,?_,?_⟩
     · rw [List.length_cons];omega
     · rw [val_cons,hd,HV.out];exact s1
     · rw [hd,HV.out];exact s2
    case measure=>simp [intOf]
  · obtain rfl:j=0:=by omega
    rw [List.replicate_zero,List.nil_append] at hQ
    obtain ⟨i1,i2,i3,i4⟩:=HI.out
    rw [List.drop_zero,val_limbs B32_two] at i3 i4
    have v0:=hV.cell (i:=0) rfl
    have v1:=hV.cell (i:=1) rfl
    have f0:=hV.frozen 0;have f1:=hV.frozen 1
    have HE:=Lib.hid (And.intro i1 (And.intro i3 i4))
    clear i1 i3 i4
    go_wp2_with (first
     | (go_at_call 73;(refine (rtrim_any Q _ n n wr (hQ.rd (by have:=HE.out;omega) (fun j x hx=>by simpa using hx)) i2 (by unfold maxLen;omega) (Nat.le_refl _)).mono ?_);rintro e w' ⟨⟨k,hk,rfl,hkt,hkr⟩,rfl⟩)
     | (go_at_call 35;(refine (rof_any r (by have:B64=18446744073709551616:=rfl;omega) wr).mono ?_);rintro e w9 ⟨A9,n9,c9,rfl,p1,p2,p3,p4⟩
        have hV9:=hV.below p4
        have v0:=hV9.cell (i:=0) rfl
        have v1:=hV9.cell (i:=1) rfl
        have f0:=hV9.frozen 0;have f1:=hV9.frozen 1))
    have hV10:=(hV9.set_ 0 (.slice (some ⟨w.heap.size+1,0,none⟩) k n)).set_ 1 (.slice A9 n9 c9)
    have z0:=hV10.cell (i:=0) rfl
    have z1:=hV10.cell (i:=1) rfl
    refine bodyPost_ret (v:=.agg #[.slice (some ⟨w.heap.size+1,0,none⟩) k n,.slice A9 n9 c9]) (by simp [results,Tryz.results108,go_sem,z0,z1]) rfl ?_
    obtain ⟨i1,i3,i4⟩:=HE.out
    rw [i3] at hkr;rw [i4] at p3
    have hbz:Below w.heap.size w w9:=hbw.trans (p4.mono hbw.size)
    have keep:∀ {A:Option Addr} {m:Nat} {l:List Nat},Rd .u32 w9 A m l→(0 < m→∀ ad,A=some ad→ad.block ≠ w.heap.size)→Rd .u32 ((w9.setCell ⟨w.heap.size,0,none⟩ (.slice (some ⟨w.heap.size+1,0,none⟩) k n)).setCell ⟨w.heap.size,1,none⟩ (.slice A9 n9 c9)) A m l :=
     fun h ho=>h.only (g:=w.heap.size) (fun hm ad e=>ho hm ad e) (((Only.refl w.heap.size w9).setCell 0 _).setCell 1 _)
    refine ⟨_,_,_,_,_,_,rfl,hk,p1,keep (hkr.below p4) (fun _ ad e=>by cases e;show w.heap.size+1 ≠ w.heap.size;omega),keep p3.rd (fun hm ad e=>?_),(hbz.setCell (Nat.le_refl _) _).setCell (Nat.le_refl _) _,fun ad e=>by cases e;show w.heap.size≤w.heap.size+1;omega,fun ad e=>?_⟩
    · have h1:=p3.base9 ad e
      have h2:=hV.lt
      omega
    · have h1:=p3.base9 ad e
      have h2:=hV.lt
      omega
end
section
open Go.RowKit
theorem len_two {x n:Nat} (hx:x < B64) (h:(limbs B32 x).length=n):n≤2:=by
 rw [← h];exact length_limbs_le B32_two (Nat.lt_of_lt_of_le hx (by decide))
theorem top_ge {U n t:Nat} (hl:(limbs B32 U).length=n) (hn:1≤n) (ht:(limbs B32 U)[n - 1]?=some t):t*B32 ^ (n - 1)≤U:=by
 have e:val B32 (limbs B32 U)=val B32 ((limbs B32 U).take (n - 1+1)):=by rw [List.take_of_length_le (by omega)]
 rw [val_limbs B32_two,val_take_succ ht] at e
 rw [Nat.mul_comm];omega
theorem top_ge2 {U n t x:Nat} (hl:(limbs B32 U).length=n) (hn:2≤n) (ht:(limbs B32 U)[n - 1]?=some t) (hx:(limbs B32 U)[n - 2]?=some x):(t*B32+x)*B32 ^ (n - 2)≤U:=by
 obtain ⟨j,rfl⟩:∃ j,n=j+2:=⟨n - 2,by omega⟩
 have e:val B32 (limbs B32 U)=val B32 ((limbs B32 U).take (j+1+1)):=by rw [List.take_of_length_le (by omega)]
 rw [val_limbs B32_two,val_take_succ (by simpa using ht),val_take_succ (by simpa using hx),Nat.pow_succ] at e
 simp only [Nat.add_sub_cancel]
 have e2:(t*B32+x)*B32 ^ j=B32 ^ j*x+B32 ^ j*B32*t:=by
  generalize B32 ^ j=p
  generalize B32=b
  grind
 omega
theorem top_lt {V n t:Nat} (hl:(limbs B32 V).length=n) (hn:1≤n) (ht:(limbs B32 V)[n - 1]?=some t):V < (t+1)*B32 ^ (n - 1):=by
 have e:val B32 (limbs B32 V)=val B32 ((limbs B32 V).take (n - 1+1)):=by rw [List.take_of_length_le (by omega)]
 rw [val_limbs B32_two,val_take_succ ht] at e
 have h:=val_lt ((lim_limbs B32_two V).take (n - 1))
 rw [List.length_take,Nat.min_eq_left (by omega)] at h
 rw [Nat.add_mul,Nat.mul_comm t];omega
theorem guess_top32 {U V lo:Nat} (h:U < V*B32) (hl:lo*V≤U):4294967296≤4294967296∧U < 4294967296*V∧lo < 4294967296:=by
 have h2:U < 4294967296*V:=by rw [Nat.mul_comm];exact h
 exact ⟨Nat.le_refl _,h2,Nat.lt_of_mul_lt_mul_right (a:=V) (by omega)⟩
theorem guess_topH {U V lo hi H:Nat} (h:U < V*B32) (hl:lo*V≤U) (hH:H=min hi 4294967296) (hh:U < hi*V):H≤4294967296∧U < H*V∧lo < H:=by
 have h2:U < 4294967296*V:=by rw [Nat.mul_comm];exact h
 have h3:U < H*V:=by
  rcases Nat.le_total hi 4294967296 with k | k
  · rw [hH,Nat.min_eq_left k];exact hh
  · rw [hH,Nat.min_eq_right k];exact h2
 exact ⟨by omega,h3,Nat.lt_of_mul_lt_mul_right (a:=V) (by omega)⟩
theorem guess_end {U V l:Nat} (h1:l*V≤U) (h2:U < (l+1)*V):U / V=l:=by
 have hV:0 < V:=by
  rcases Nat.eq_zero_or_pos V with h | h
  · subst h;rw [Nat.mul_zero] at h2;omega
  · exact h
 exact Nat.div_eq_of_lt_le h1 h2
theorem guess_low {U V P T v d:Nat} (hT:T*P≤U) (hV:V < (v+1)*P) (hd:d=T / (v+1)):d*V≤U:=by
 subst hd
 have h1:T / (v+1)*(v+1)≤T:=Nat.div_mul_le_self _ _
 have h2:=Nat.mul_le_mul_right P h1
 have h3:T / (v+1)*V≤T / (v+1)*((v+1)*P):=Nat.mul_le_mul_left _ (Nat.le_of_lt hV)
 rw [← Nat.mul_assoc] at h3
 omega
theorem guess_same (U V:Nat) (A B:Option Addr) (n c m e0:Nat) (w:World) (ha:Rd .u32 w A n (limbs B32 U)) (hb:Rd .u32 w B m (limbs B32 V)) (hn0:n≤1000000) (hm0:m≤1000000) (hm:2≤m) (_hnc:n≤c) (_hmd:m≤e0) (_hle:V≤U) (hUV:U < V*B32) (hnm:n=m) :
 Calls Tryz.prog 109 #[.slice A n c,.slice B m e0] w fun e w'=>e=.returned (.int .u32 ((U / V:Nat):Int))∧Below w.heap.size w w':=by
 obtain ⟨b1,o1,rfl,hc1⟩:=ha.at_ (by omega)
 obtain ⟨b2,o2,rfl,hc2⟩:=hb.at_ (by omega)
 obtain ⟨t,ht,hct⟩:=hc1 (n - 1) (by omega)
 obtain ⟨v,hv,hcv⟩:=hc2 (m - 1) (by omega)
 have htB:=(lim_limbs B32_two U).get ht
 have hvB:=(lim_limbs B32_two V).get hv
 have ht32:t≤4294967295:=by have:B32=4294967296:=rfl;omega
 have hv32:v≤4294967295:=by have:B32=4294967296:=rfl;omega
 obtain ⟨d,hd⟩:∃ d,d=t / (v+1):=⟨_,rfl⟩
 have hdi:(t:Int) / ((v:Int)+1)=(d:Int):=by rw [hd];simp
 have hDR:=guess_low (P:=B32 ^ (n - 1)) (T:=t) (top_ge ha.1 (by omega) ht) (by have:=top_lt hb.1 (by omega) hv;rwa [show m - 1=n - 1 by omega] at this) hd
 have hdt:d≤t:=by rw [hd];exact Nat.div_le_self _ _
 have hdw:=wrap_fit d (by have:B64=18446744073709551616:=rfl;omega)
 have hnmI:¬ m < n:=by omega
 have hn2:2≤n:=by omega
 have HNM:=Lib.hid hnm;clear hd hc1 hc2 ht hv htB hvB hnm
 have hbS:Below w.heap.size w w:=Below.refl _ _
 go_enter Tryz.func109,Tryz.ntmps109
 go_wp2_with fail
 have hdR:d*V≤U:=hDR
 have hdB:d < B32:=Nat.lt_of_mul_lt_mul_left (a:=V) (by rw [Nat.mul_comm V d];omega)
 have HUV:=Lib.hid hUV;have HhDR:=Lib.hid hdR
 have hd32:d≤4294967295:=by have:B32=4294967296:=rfl;omega
 clear hdR hUV
 go_loopw [8,9,10] (fun tl th ts wr=>∃ lo hi st:Nat,tl=.int .u64 (lo:Int)∧th=.int .u64 (hi:Int)∧ts=.int .u64 (st:Int)∧1≤st∧hi+1=d+st∧st≤8589934592∧hi≤8589934592∧Below w.heap.size w wr∧Hid (lo*V≤U)) (fun _ th _ _=>8589934593 - (intOf th).toNat)
 case atStart=>exact ⟨d,d,1,rfl,rfl,rfl,Nat.le_refl _,rfl,by omega,by omega,hbS,HhDR.out⟩
 case round =>
  clear hbS
  obtain ⟨lo,hi,st,rfl,rfl,rfl,hst,hhi,hst2,hhi2,hbw,HL⟩:=hrel
  have hr:=ha.below hbw;have hbb:=hb.below hbw
  have hhB:hi < B64:=by have:B64=18446744073709551616:=rfl;omega
  by_cases hle:V*hi≤U
  · have HLE:Hid (hi*V≤U):=by show _≤_;rw [Nat.mul_comm];exact hle
    have hcm:decide (cmpN (V*hi) U≤0)=true:=by
     rcases Nat.lt_or_eq_of_le hle with h | h
     · rw [cmpN_lt h];rfl
     · rw [cmpN_eq h];rfl
    by_cases h32:hi < 4294967296
    · have h32i:¬ (4294967296:Int)≤(hi:Int):=by omega
      have HH:=Lib.hid h32;clear h32 hle
      go_wp2_with (first
       | (go_at_call 35;(with_reducible refine (rof_any hi hhB _).mono ?_);rintro e w3 ⟨A3,n3,c3,rfl,p1,p2,p3,p4⟩
          have hn3:=len_two hhB p3.1)
       | (go_at_call 72;(refine (rmul_any (limbs B32 V) (limbs B32 hi) _ A3 m e0 n3 c3 w3 (hbb.below p4) p3.rd (lim_limbs B32_two _) (lim_limbs B32_two _) (by omega) (by omega)).mono ?_);rintro e w4 ⟨A4,n4,c4,rfl,q1,q2,q3,q4⟩
          rw [val_limbs B32_two,val_limbs B32_two] at q3)
       | (go_at_call 107;(refine (rcmp_any (V*hi) U A4 _ n4 c4 n c w4 q3.rd ((hr.below p4).below q4) (Nat.le_trans q1 q2)).mono ?_);rintro e w5 ⟨rfl,q,rfl⟩
          have bq:Below w.heap.size w (w4.drewN q):=below_drawn ((hbw.trans (p4.mono hbw.size)).trans (q4.mono (Nat.le_trans hbw.size p4.size))) q))
      go_roundw
      case rel=>exact ⟨hi,hi+st,st*2,rfl,by go_num,by go_num,by omega,by omega,by have:=HH.out;omega,by have:=HH.out;omega,bq,HLE.out⟩
      case measure=>simp [intOf];omega
    · have h32i:decide ((hi:Int) < 4294967296)=false:=by simp;omega
      have HT:Hid (4294967296≤4294967296∧U < 4294967296*V∧lo < 4294967296):=guess_top32 HUV.out HL.out
      have hmin:min (hi:Int) 4294967296=4294967296:=by omega
      clear h32 hle
      go_wp2_with (first
       | (go_at_call 35;(with_reducible refine (rof_any hi hhB _).mono ?_);rintro e w3 ⟨A3,n3,c3,rfl,p1,p2,p3,p4⟩
          have hn3:=len_two hhB p3.1)
       | (go_at_call 72;(refine (rmul_any (limbs B32 V) (limbs B32 hi) _ A3 m e0 n3 c3 w3 (hbb.below p4) p3.rd (lim_limbs B32_two _) (lim_limbs B32_two _) (by omega) (by omega)).mono ?_);rintro e w4 ⟨A4,n4,c4,rfl,q1,q2,q3,q4⟩
          rw [val_limbs B32_two,val_limbs B32_two] at q3)
       | (go_at_call 107;(refine (rcmp_any (V*hi) U A4 _ n4 c4 n c w4 q3.rd ((hr.below p4).below q4) (Nat.le_trans q1 q2)).mono ?_);rintro e w5 ⟨rfl,q,rfl⟩
          have bq:Below w.heap.size w (w4.drewN q):=below_drawn ((hbw.trans (p4.mono hbw.size)).trans (q4.mono (Nat.le_trans hbw.size p4.size))) q))
      obtain ⟨hT1,hT2,hT3⟩:=HT.out
      have HB2:=Lib.hid bq;have HL0:=Lib.hid HL.out;clear HT bq p1 p2 p3 p4 q1 q2 q3 q4 hbw hr hbb
      go_loopw [8,9] (fun tl th wr=>∃ l2 h2:Nat,tl=.int .u64 (l2:Int)∧th=.int .u64 (h2:Int)∧l2 < h2∧h2≤4294967296∧Below w.heap.size w wr∧Hid (l2*V≤U∧U < h2*V)) (fun tl th _=>(intOf th).toNat - (intOf tl).toNat)
      case atStart=>exact ⟨lo,4294967296,rfl,rfl,by omega,by omega,HB2.out,⟨HL0.out,hT2⟩⟩
      case round =>
       obtain ⟨l2,h2,rfl,rfl,hlh,hh2,hbw,HI⟩:=hrel
       have hr:=ha.below hbw;have hbb:=hb.below hbw
       obtain ⟨D,hD⟩:∃ D,D+l2=h2:=⟨h2 - l2,by omega⟩
       have hDw:=wrap_sub hD (by have:B64=18446744073709551616:=rfl;omega)
       obtain ⟨M,hM⟩:∃ M,M=D / 2:=⟨_,rfl⟩
       have hMi:(D:Int) / 2=(M:Int):=by omega
       obtain ⟨mid,hmid⟩:∃ x,x=l2+M:=⟨_,rfl⟩
       have hmB:mid < B64:=by have:B64=18446744073709551616:=rfl;omega
       have hmw:=wrap_sum hmid hmB;have hmidw:=wrap_fit mid hmB
       have hMw:=wrap_fit M (by have:B64=18446744073709551616:=rfl;omega)
       have hmi:(l2:Int)+(M:Int)=(mid:Int):=by omega
       have HM:=Lib.hid (And.intro hD (And.intro hM (And.intro hmid (And.intro hlh hh2))))
       by_cases h1:1 < D
       · have h1i:(1:Int) < (D:Int):=by omega
         by_cases hle2:V*mid≤U
         · have HLE2:Hid (mid*V≤U):=by show _≤_;rw [Nat.mul_comm];exact hle2
           have hcm2:decide (cmpN (V*mid) U≤0)=true:=by
            rcases Nat.lt_or_eq_of_le hle2 with h | h
            · rw [cmpN_lt h];rfl
            · rw [cmpN_eq h];rfl
           clear hle2 hD hM hmid hlh hh2
           go_wp2_with (first
          | (go_at_call 35;(with_reducible refine (rof_any mid hmB _).mono ?_);rintro e w3 ⟨A3,n3,c3,rfl,p1,p2,p3,p4⟩
             have hn3:=len_two hmB p3.1)
          | (go_at_call 72;(refine (rmul_any (limbs B32 V) (limbs B32 mid) _ A3 m e0 n3 c3 w3 (hbb.below p4) p3.rd (lim_limbs B32_two _) (lim_limbs B32_two _) (by omega) (by omega)).mono ?_);rintro e w4 ⟨A4,n4,c4,rfl,q1,q2,q3,q4⟩
             rw [val_limbs B32_two,val_limbs B32_two] at q3)
          | (go_at_call 107;(refine (rcmp_any (V*mid) U A4 _ n4 c4 n c w4 q3.rd ((hr.below p4).below q4) (Nat.le_trans q1 q2)).mono ?_);rintro e w5 ⟨rfl,q,rfl⟩
             have bq:Below w.heap.size w (w4.drewN q):=below_drawn ((hbw.trans (p4.mono hbw.size)).trans (q4.mono (Nat.le_trans hbw.size p4.size))) q))
           go_roundw
           case rel =>
            have:=HM.out
            exact ⟨mid,h2,rfl,rfl,by omega,by omega,bq,HLE2.out,HI.out.2⟩
           case measure=>(have:=HM.out;simp [intOf];omega)
         · have HLE2:Hid (U < mid*V):=by show _ < _;rw [Nat.mul_comm];omega
           have hcm2:decide (cmpN (V*mid) U≤0)=false:=by rw [cmpN_gt (by omega)];rfl
           clear hle2 hD hM hmid hlh hh2
           go_wp2_with (first
          | (go_at_call 35;(with_reducible refine (rof_any mid hmB _).mono ?_);rintro e w3 ⟨A3,n3,c3,rfl,p1,p2,p3,p4⟩
             have hn3:=len_two hmB p3.1)
          | (go_at_call 72;(refine (rmul_any (limbs B32 V) (limbs B32 mid) _ A3 m e0 n3 c3 w3 (hbb.below p4) p3.rd (lim_limbs B32_two _) (lim_limbs B32_two _) (by omega) (by omega)).mono ?_);rintro e w4 ⟨A4,n4,c4,rfl,q1,q2,q3,q4⟩
             rw [val_limbs B32_two,val_limbs B32_two] at q3)
          | (go_at_call 107;(refine (rcmp_any (V*mid) U A4 _ n4 c4 n c w4 q3.rd ((hr.below p4).below q4) (Nat.le_trans q1 q2)).mono ?_);rintro e w5 ⟨rfl,q,rfl⟩
             have bq:Below w.heap.size w (w4.drewN q):=below_drawn ((hbw.trans (p4.mono hbw.size)).trans (q4.mono (Nat.le_trans hbw.size p4.size))) q))
           go_roundw
           case rel =>
            have:=HM.out
            exact ⟨l2,mid,rfl,rfl,by omega,by omega,bq,HI.out.1,HLE2.out⟩
           case measure=>(have:=HM.out;simp [intOf];omega)
       · have h1i:¬ (1:Int) < (D:Int):=by omega
         have hl32:l2≤4294967295:=by omega
         have hlw:(l2:Int) % 4294967296=(l2:Int):=by omega
         clear hM hmid hmw hmi hMi hMw hmidw
         go_wp2_with fail
         go_ret
         refine ⟨ret_int ?_,hbw⟩
         rw [← Int.natCast_ediv,guess_end HI.out.1 (by have:=HI.out.2;rwa [show h2=l2+1 by omega] at this)]
  · have hcm:decide (cmpN (V*hi) U≤0)=false:=by rw [cmpN_gt (by omega)];rfl
    obtain ⟨H,hH⟩:∃ H,H=min hi 4294967296:=⟨_,rfl⟩
    have hmin:min (hi:Int) 4294967296=(H:Int):=by omega
    have HT:Hid (H≤4294967296∧U < H*V∧lo < H):=guess_topH HUV.out HL.out hH (by rw [Nat.mul_comm];omega)
    clear hH hle
    go_wp2_with (first
     | (go_at_call 35;(with_reducible refine (rof_any hi hhB _).mono ?_);rintro e w3 ⟨A3,n3,c3,rfl,p1,p2,p3,p4⟩
        have hn3:=len_two hhB p3.1)
     | (go_at_call 72;(refine (rmul_any (limbs B32 V) (limbs B32 hi) _ A3 m e0 n3 c3 w3 (hbb.below p4) p3.rd (lim_limbs B32_two _) (lim_limbs B32_two _) (by omega) (by omega)).mono ?_);rintro e w4 ⟨A4,n4,c4,rfl,q1,q2,q3,q4⟩
        rw [val_limbs B32_two,val_limbs B32_two] at q3)
     | (go_at_call 107;(refine (rcmp_any (V*hi) U A4 _ n4 c4 n c w4 q3.rd ((hr.below p4).below q4) (Nat.le_trans q1 q2)).mono ?_);rintro e w5 ⟨rfl,q,rfl⟩
        have bq:Below w.heap.size w (w4.drewN q):=below_drawn ((hbw.trans (p4.mono hbw.size)).trans (q4.mono (Nat.le_trans hbw.size p4.size))) q))
    obtain ⟨hT1,hT2,hT3⟩:=HT.out
    have HB2:=Lib.hid bq;have HL0:=Lib.hid HL.out;clear HT bq p1 p2 p3 p4 q1 q2 q3 q4 hbw hr hbb
    go_loopw [8,9] (fun tl th wr=>∃ l2 h2:Nat,tl=.int .u64 (l2:Int)∧th=.int .u64 (h2:Int)∧l2 < h2∧h2≤4294967296∧Below w.heap.size w wr∧Hid (l2*V≤U∧U < h2*V)) (fun tl th _=>(intOf th).toNat - (intOf tl).toNat)
    case atStart=>exact ⟨lo,H,rfl,rfl,by omega,by omega,HB2.out,⟨HL0.out,hT2⟩⟩
    case round =>
     obtain ⟨l2,h2,rfl,rfl,hlh,hh2,hbw,HI⟩:=hrel
     have hr:=ha.below hbw;have hbb:=hb.below hbw
     obtain ⟨D,hD⟩:∃ D,D+l2=h2:=⟨h2 - l2,by omega⟩
     have hDw:=wrap_sub hD (by have:B64=18446744073709551616:=rfl;omega)
     obtain ⟨M,hM⟩:∃ M,M=D / 2:=⟨_,rfl⟩
     have hMi:(D:Int) / 2=(M:Int):=by omega
     obtain ⟨mid,hmid⟩:∃ x,x=l2+M:=⟨_,rfl⟩
     have hmB:mid < B64:=by have:B64=18446744073709551616:=rfl;omega
     have hmw:=wrap_sum hmid hmB;have hmidw:=wrap_fit mid hmB
     have hMw:=wrap_fit M (by have:B64=18446744073709551616:=rfl;omega)
     have hmi:(l2:Int)+(M:Int)=(mid:Int):=by omega
     have HM:=Lib.hid (And.intro hD (And.intro hM (And.intro hmid (And.intro hlh hh2))))
     by_cases h1:1 < D
     · have h1i:(1:Int) < (D:Int):=by omega
       by_cases hle2:V*mid≤U
       · have HLE2:Hid (mid*V≤U):=by show _≤_;rw [Nat.mul_comm];exact hle2
         have hcm2:decide (cmpN (V*mid) U≤0)=true:=by
          rcases Nat.lt_or_eq_of_le hle2 with h | h
          · rw [cmpN_lt h];rfl
          · rw [cmpN_eq h];rfl
         clear hle2 hD hM hmid hlh hh2
         go_wp2_with (first
        | (go_at_call 35;(with_reducible refine (rof_any mid hmB _).mono ?_);rintro e w3 ⟨A3,n3,c3,rfl,p1,p2,p3,p4⟩
           have hn3:=len_two hmB p3.1)
        | (go_at_call 72;(refine (rmul_any (limbs B32 V) (limbs B32 mid) _ A3 m e0 n3 c3 w3 (hbb.below p4) p3.rd (lim_limbs B32_two _) (lim_limbs B32_two _) (by omega) (by omega)).mono ?_);rintro e w4 ⟨A4,n4,c4,rfl,q1,q2,q3,q4⟩
           rw [val_limbs B32_two,val_limbs B32_two] at q3)
        | (go_at_call 107;(refine (rcmp_any (V*mid) U A4 _ n4 c4 n c w4 q3.rd ((hr.below p4).below q4) (Nat.le_trans q1 q2)).mono ?_);rintro e w5 ⟨rfl,q,rfl⟩
           have bq:Below w.heap.size w (w4.drewN q):=below_drawn ((hbw.trans (p4.mono hbw.size)).trans (q4.mono (Nat.le_trans hbw.size p4.size))) q))
         go_roundw
         case rel =>
          have:=HM.out
          exact ⟨mid,h2,rfl,rfl,by omega,by omega,bq,HLE2.out,HI.out.2⟩
         case measure=>(have:=HM.out;simp [intOf];omega)
       · have HLE2:Hid (U < mid*V):=by show _ < _;rw [Nat.mul_comm];omega
         have hcm2:decide (cmpN (V*mid) U≤0)=false:=by rw [cmpN_gt (by omega)];rfl
         clear hle2 hD hM hmid hlh hh2
         go_wp2_with (first
        | (go_at_call 35;(with_reducible refine (rof_any mid hmB _).mono ?_);rintro e w3 ⟨A3,n3,c3,rfl,p1,p2,p3,p4⟩
           have hn3:=len_two hmB p3.1)
        | (go_at_call 72;(refine (rmul_any (limbs B32 V) (limbs B32 mid) _ A3 m e0 n3 c3 w3 (hbb.below p4) p3.rd (lim_limbs B32_two _) (lim_limbs B32_two _) (by omega) (by omega)).mono ?_);rintro e w4 ⟨A4,n4,c4,rfl,q1,q2,q3,q4⟩
           rw [val_limbs B32_two,val_limbs B32_two] at q3)
        | (go_at_call 107;(refine (rcmp_any (V*mid) U A4 _ n4 c4 n c w4 q3.rd ((hr.below p4).below q4) (Nat.le_trans q1 q2)).mono ?_);rintro e w5 ⟨rfl,q,rfl⟩
           have bq:Below w.heap.size w (w4.drewN q):=below_drawn ((hbw.trans (p4.mono hbw.size)).trans (q4.mono (Nat.le_trans hbw.size p4.size))) q))
         go_roundw
         case rel =>
          have:=HM.out
          exact ⟨l2,mid,rfl,rfl,by omega,by omega,bq,HI.out.1,HLE2.out⟩
         case measure=>(have:=HM.out;simp [intOf];omega)
     · have h1i:¬ (1:Int) < (D:Int):=by omega
       have hl32:l2≤4294967295:=by omega
       have hlw:(l2:Int) % 4294967296=(l2:Int):=by omega
       clear hM hmid hmw hmi hMi hMw hmidw
       go_wp2_with fail
       go_ret
       refine ⟨ret_int ?_,hbw⟩
       rw [← Int.natCast_ediv,guess_end HI.out.1 (by have:=HI.out.2;rwa [show h2=l2+1 by omega] at this)]
theorem guess_more (U V:Nat) (A B:Option Addr) (n c m e0:Nat) (w:World) (ha:Rd .u32 w A n (limbs B32 U)) (hb:Rd .u32 w B m (limbs B32 V)) (hn0:n≤1000000) (hm0:m≤1000000) (hm:2≤m) (_hnc:n≤c) (_hmd:m≤e0) (_hle:V≤U) (hUV:U < V*B32) (hnm:n=m+1) :
 Calls Tryz.prog 109 #[.slice A n c,.slice B m e0] w fun e w'=>e=.returned (.int .u32 ((U / V:Nat):Int))∧Below w.heap.size w w':=by
 obtain ⟨b1,o1,rfl,hc1⟩:=ha.at_ (by omega)
 obtain ⟨b2,o2,rfl,hc2⟩:=hb.at_ (by omega)
 obtain ⟨t,ht,hct⟩:=hc1 (n - 1) (by omega)
 obtain ⟨x0,hx0,hcx⟩:=hc1 (n - 2) (by omega)
 obtain ⟨v,hv,hcv⟩:=hc2 (m - 1) (by omega)
 have htB:=(lim_limbs B32_two U).get ht
 have hxB:=(lim_limbs B32_two U).get hx0
 have hvB:=(lim_limbs B32_two V).get hv
 have hv32:v≤4294967295:=by have:B32=4294967296:=rfl;omega
 have ht32:t≤4294967295:=by have:B32=4294967296:=rfl;omega
 have hor:=or32' htB hxB
 obtain ⟨T,hT⟩:∃ T,T=t*B32+x0:=⟨_,rfl⟩
 rw [← hT] at hor
 obtain ⟨d,hd⟩:∃ d,d=T / (v+1):=⟨_,rfl⟩
 have hTB:T < B64:=by
  have h1:(t+1)*B32≤B32*B32:=Nat.mul_le_mul_right _ (by omega)
  rw [Nat.succ_mul] at h1
  have h2:B32*B32=B64:=by decide
  omega
 have hdi:(T:Int) / ((v:Int)+1)=(d:Int):=by rw [hd];simp
 have hDR:=guess_low (P:=B32 ^ (m - 1)) (T:=T) (by rw [hT];have:=top_ge2 ha.1 (by omega) ht hx0;rwa [show n - 2=m - 1 by omega] at this) (top_lt hb.1 (by omega) hv) hd
 have hdt:d≤T:=by rw [hd];exact Nat.div_le_self _ _
 have hdw:=wrap_fit d (by omega)
 have hnmI:m < n:=by omega
 have hn2:2≤n:=by omega
 have HNM:=Lib.hid hnm;clear hd hc1 hc2 ht hv htB hvB hnm hx0 hxB hT hdt hTB
 have hbS:Below w.heap.size w w:=Below.refl _ _
 go_enter Tryz.func109,Tryz.ntmps109
 go_wp2_with fail
 have hdR:d*V≤U:=hDR
 have hdB:d < B32:=Nat.lt_of_mul_lt_mul_left (a:=V) (by rw [Nat.mul_comm V d];omega)
 have HUV:=Lib.hid hUV;have HhDR:=Lib.hid hdR
 have hd32:d≤4294967295:=by have:B32=4294967296:=rfl;omega
 clear hdR hUV
 go_loopw [8,9,10] (fun tl th ts wr=>∃ lo hi st:Nat,tl=.int .u64 (lo:Int)∧th=.int .u64 (hi:Int)∧ts=.int .u64 (st:Int)∧1≤st∧hi+1=d+st∧st≤8589934592∧hi≤8589934592∧Below w.heap.size w wr∧Hid (lo*V≤U)) (fun _ th _ _=>8589934593 - (intOf th).toNat)
 case atStart=>exact ⟨d,d,1,rfl,rfl,rfl,Nat.le_refl _,rfl,by omega,by omega,hbS,HhDR.out⟩
 case round =>
  clear hbS
  obtain ⟨lo,hi,st,rfl,rfl,rfl,hst,hhi,hst2,hhi2,hbw,HL⟩:=hrel
  have hr:=ha.below hbw;have hbb:=hb.below hbw
  have hhB:hi < B64:=by have:B64=18446744073709551616:=rfl;omega
  by_cases hle:V*hi≤U
  · have HLE:Hid (hi*V≤U):=by show _≤_;rw [Nat.mul_comm];exact hle
    have hcm:decide (cmpN (V*hi) U≤0)=true:=by
     rcases Nat.lt_or_eq_of_le hle with h | h
     · rw [cmpN_lt h];rfl
     · rw [cmpN_eq h];rfl
    by_cases h32:hi < 4294967296
    · have h32i:¬ (4294967296:Int)≤(hi:Int):=by omega
      have HH:=Lib.hid h32;clear h32 hle
      go_wp2_with (first
       | (go_at_call 35;(with_reducible refine (rof_any hi hhB _).mono ?_);rintro e w3 ⟨A3,n3,c3,rfl,p1,p2,p3,p4⟩
          have hn3:=len_two hhB p3.1)
       | (go_at_call 72;(refine (rmul_any (limbs B32 V) (limbs B32 hi) _ A3 m e0 n3 c3 w3 (hbb.below p4) p3.rd (lim_limbs B32_two _) (lim_limbs B32_two _) (by omega) (by omega)).mono ?_);rintro e w4 ⟨A4,n4,c4,rfl,q1,q2,q3,q4⟩
          rw [val_limbs B32_two,val_limbs B32_two] at q3)
       | (go_at_call 107;(refine (rcmp_any (V*hi) U A4 _ n4 c4 n c w4 q3.rd ((hr.below p4).below q4) (Nat.le_trans q1 q2)).mono ?_);rintro e w5 ⟨rfl,q,rfl⟩
          have bq:Below w.heap.size w (w4.drewN q):=below_drawn ((hbw.trans (p4.mono hbw.size)).trans (q4.mono (Nat.le_trans hbw.size p4.size))) q))
      go_roundw
      case rel=>exact ⟨hi,hi+st,st*2,rfl,by go_num,by go_num,by omega,by omega,by have:=HH.out;omega,by have:=HH.out;omega,bq,HLE.out⟩
      case measure=>simp [intOf];omega
    · have h32i:decide ((hi:Int) < 4294967296)=false:=by simp;omega
      have HT:Hid (4294967296≤4294967296∧U < 4294967296*V∧lo < 4294967296):=guess_top32 HUV.out HL.out
      have hmin:min (hi:Int) 4294967296=4294967296:=by omega
      clear h32 hle
      go_wp2_with (first
       | (go_at_call 35;(with_reducible refine (rof_any hi hhB _).mono ?_);rintro e w3 ⟨A3,n3,c3,rfl,p1,p2,p3,p4⟩
          have hn3:=len_two hhB p3.1)
       | (go_at_call 72;(refine (rmul_any (limbs B32 V) (limbs B32 hi) _ A3 m e0 n3 c3 w3 (hbb.below p4) p3.rd (lim_limbs B32_two _) (lim_limbs B32_two _) (by omega) (by omega)).mono ?_);rintro e w4 ⟨A4,n4,c4,rfl,q1,q2,q3,q4⟩
          rw [val_limbs B32_two,val_limbs B32_two] at q3)
       | (go_at_call 107;(refine (rcmp_any (V*hi) U A4 _ n4 c4 n c w4 q3.rd ((hr.below p4).below q4) (Nat.le_trans q1 q2)).mono ?_);rintro e w5 ⟨rfl,q,rfl⟩
          have bq:Below w.heap.size w (w4.drewN q):=below_drawn ((hbw.trans (p4.mono hbw.size)).trans (q4.mono (Nat.le_trans hbw.size p4.size))) q))
      obtain ⟨hT1,hT2,hT3⟩:=HT.out
      have HB2:=Lib.hid bq;have HL0:=Lib.hid HL.out;clear HT bq p1 p2 p3 p4 q1 q2 q3 q4 hbw hr hbb
      go_loopw [8,9] (fun tl th wr=>∃ l2 h2:Nat,tl=.int .u64 (l2:Int)∧th=.int .u64 (h2:Int)∧l2 < h2∧h2≤4294967296∧Below w.heap.size w wr∧Hid (l2*V≤U∧U < h2*V)) (fun tl th _=>(intOf th).toNat - (intOf tl).toNat)
      case atStart=>exact ⟨lo,4294967296,rfl,rfl,by omega,by omega,HB2.out,⟨HL0.out,hT2⟩⟩
      case round =>
       obtain ⟨l2,h2,rfl,rfl,hlh,hh2,hbw,HI⟩:=hrel
       have hr:=ha.below hbw;have hbb:=hb.below hbw
       obtain ⟨D,hD⟩:∃ D,D+l2=h2:=⟨h2 - l2,by omega⟩
       have hDw:=wrap_sub hD (by have:B64=18446744073709551616:=rfl;omega)
       obtain ⟨M,hM⟩:∃ M,M=D / 2:=⟨_,rfl⟩
       have hMi:(D:Int) / 2=(M:Int):=by omega
       obtain ⟨mid,hmid⟩:∃ x,x=l2+M:=⟨_,rfl⟩
       have hmB:mid < B64:=by have:B64=18446744073709551616:=rfl;omega
       have hmw:=wrap_sum hmid hmB;have hmidw:=wrap_fit mid hmB
       have hMw:=wrap_fit M (by have:B64=18446744073709551616:=rfl;omega)
       have hmi:(l2:Int)+(M:Int)=(mid:Int):=by omega
       have HM:=Lib.hid (And.intro hD (And.intro hM (And.intro hmid (And.intro hlh hh2))))
       by_cases h1:1 < D
       · have h1i:(1:Int) < (D:Int):=by omega
         by_cases hle2:V*mid≤U
         · have HLE2:Hid (mid*V≤U):=by show _≤_;rw [Nat.mul_comm];exact hle2
           have hcm2:decide (cmpN (V*mid) U≤0)=true:=by
            rcases Nat.lt_or_eq_of_le hle2 with h | h
            · rw [cmpN_lt h];rfl
            · rw [cmpN_eq h];rfl
           clear hle2 hD hM hmid hlh hh2
           go_wp2_with (first
          | (go_at_call 35;(with_reducible refine (rof_any mid hmB _).mono ?_);rintro e w3 ⟨A3,n3,c3,rfl,p1,p2,p3,p4⟩
             have hn3:=len_two hmB p3.1)
          | (go_at_call 72;(refine (rmul_any (limbs B32 V) (limbs B32 mid) _ A3 m e0 n3 c3 w3 (hbb.below p4) p3.rd (lim_limbs B32_two _) (lim_limbs B32_two _) (by omega) (by omega)).mono ?_);rintro e w4 ⟨A4,n4,c4,rfl,q1,q2,q3,q4⟩
             rw [val_limbs B32_two,val_limbs B32_two] at q3)
          | (go_at_call 107;(refine (rcmp_any (V*mid) U A4 _ n4 c4 n c w4 q3.rd ((hr.below p4).below q4) (Nat.le_trans q1 q2)).mono ?_);rintro e w5 ⟨rfl,q,rfl⟩
             have bq:Below w.heap.size w (w4.drewN q):=below_drawn ((hbw.trans (p4.mono hbw.size)).trans (q4.mono (Nat.le_trans hbw.size p4.size))) q))
           go_roundw
           case rel =>
            have:=HM.out
            exact ⟨mid,h2,rfl,rfl,by omega,by omega,bq,HLE2.out,HI.out.2⟩
           case measure=>(have:=HM.out;simp [intOf];omega)
         · have HLE2:Hid (U < mid*V):=by show _ < _;rw [Nat.mul_comm];omega
           have hcm2:decide (cmpN (V*mid) U≤0)=false:=by rw [cmpN_gt (by omega)];rfl
           clear hle2 hD hM hmid hlh hh2
           go_wp2_with (first
          | (go_at_call 35;(with_reducible refine (rof_any mid hmB _).mono ?_);rintro e w3 ⟨A3,n3,c3,rfl,p1,p2,p3,p4⟩
             have hn3:=len_two hmB p3.1)
          | (go_at_call 72;(refine (rmul_any (limbs B32 V) (limbs B32 mid) _ A3 m e0 n3 c3 w3 (hbb.below p4) p3.rd (lim_limbs B32_two _) (lim_limbs B32_two _) (by omega) (by omega)).mono ?_);rintro e w4 ⟨A4,n4,c4,rfl,q1,q2,q3,q4⟩
             rw [val_limbs B32_two,val_limbs B32_two] at q3)
          | (go_at_call 107;(refine (rcmp_any (V*mid) U A4 _ n4 c4 n c w4 q3.rd ((hr.below p4).below q4) (Nat.le_trans q1 q2)).mono ?_);rintro e w5 ⟨rfl,q,rfl⟩
             have bq:Below w.heap.size w (w4.drewN q):=below_drawn ((hbw.trans (p4.mono hbw.size)).trans (q4.mono (Nat.le_trans hbw.size p4.size))) q))
           go_roundw
           case rel =>
            have:=HM.out
            exact ⟨l2,mid,rfl,rfl,by omega,by omega,bq,HI.out.1,HLE2.out⟩
           case measure=>(have:=HM.out;simp [intOf];omega)
       · have h1i:¬ (1:Int) < (D:Int):=by omega
         have hl32:l2≤4294967295:=by omega
         have hlw:(l2:Int) % 4294967296=(l2:Int):=by omega
         clear hM hmid hmw hmi hMi hMw hmidw
         go_wp2_with fail
         go_ret
         refine ⟨ret_int ?_,hbw⟩
         rw [← Int.natCast_ediv,guess_end HI.out.1 (by have:=HI.out.2;rwa [show h2=l2+1 by omega] at this)]
  · have hcm:decide (cmpN (V*hi) U≤0)=false:=by rw [cmpN_gt (by omega)];rfl
    obtain ⟨H,hH⟩:∃ H,H=min hi 4294967296:=⟨_,rfl⟩
    have hmin:min (hi:Int) 4294967296=(H:Int):=by omega
    have HT:Hid (H≤4294967296∧U < H*V∧lo < H):=guess_topH HUV.out HL.out hH (by rw [Nat.mul_comm];omega)
    clear hH hle
    go_wp2_with (first
     | (go_at_call 35;(with_reducible refine (rof_any hi hhB _).mono ?_);rintro e w3 ⟨A3,n3,c3,rfl,p1,p2,p3,p4⟩
        have hn3:=len_two hhB p3.1)
     | (go_at_call 72;(refine (rmul_any (limbs B32 V) (limbs B32 hi) _ A3 m e0 n3 c3 w3 (hbb.below p4) p3.rd (lim_limbs B32_two _) (lim_limbs B32_two _) (by omega) (by omega)).mono ?_);rintro e w4 ⟨A4,n4,c4,rfl,q1,q2,q3,q4⟩
        rw [val_limbs B32_two,val_limbs B32_two] at q3)
     | (go_at_call 107;(refine (rcmp_any (V*hi) U A4 _ n4 c4 n c w4 q3.rd ((hr.below p4).below q4) (Nat.le_trans q1 q2)).mono ?_);rintro e w5 ⟨rfl,q,rfl⟩
        have bq:Below w.heap.size w (w4.drewN q):=below_drawn ((hbw.trans (p4.mono hbw.size)).trans (q4.mono (Nat.le_trans hbw.size p4.size))) q))
    obtain ⟨hT1,hT2,hT3⟩:=HT.out
    have HB2:=Lib.hid bq;have HL0:=Lib.hid HL.out;clear HT bq p1 p2 p3 p4 q1 q2 q3 q4 hbw hr hbb
    go_loopw [8,9] (fun tl th wr=>∃ l2 h2:Nat,tl=.int .u64 (l2:Int)∧th=.int .u64 (h2:Int)∧l2 < h2∧h2≤4294967296∧Below w.heap.size w wr∧Hid (l2*V≤U∧U < h2*V)) (fun tl th _=>(intOf th).toNat - (intOf tl).toNat)
    case atStart=>exact ⟨lo,H,rfl,rfl,by omega,by omega,HB2.out,⟨HL0.out,hT2⟩⟩
    case round =>
     obtain ⟨l2,h2,rfl,rfl,hlh,hh2,hbw,HI⟩:=hrel
     have hr:=ha.below hbw;have hbb:=hb.below hbw
     obtain ⟨D,hD⟩:∃ D,D+l2=h2:=⟨h2 - l2,by omega⟩
     have hDw:=wrap_sub hD (by have:B64=18446744073709551616:=rfl;omega)
     obtain ⟨M,hM⟩:∃ M,M=D / 2:=⟨_,rfl⟩
     have hMi:(D:Int) / 2=(M:Int):=by omega
     obtain ⟨mid,hmid⟩:∃ x,x=l2+M:=⟨_,rfl⟩
     have hmB:mid < B64:=by have:B64=18446744073709551616:=rfl;omega
     have hmw:=wrap_sum hmid hmB;have hmidw:=wrap_fit mid hmB
     have hMw:=wrap_fit M (by have:B64=18446744073709551616:=rfl;omega)
     have hmi:(l2:Int)+(M:Int)=(mid:Int):=by omega
     have HM:=Lib.hid (And.intro hD (And.intro hM (And.intro hmid (And.intro hlh hh2))))
     by_cases h1:1 < D
     · have h1i:(1:Int) < (D:Int):=by omega
       by_cases hle2:V*mid≤U
       · have HLE2:Hid (mid*V≤U):=by show _≤_;rw [Nat.mul_comm];exact hle2
         have hcm2:decide (cmpN (V*mid) U≤0)=true:=by
          rcases Nat.lt_or_eq_of_le hle2 with h | h
          · rw [cmpN_lt h];rfl
          · rw [cmpN_eq h];rfl
         clear hle2 hD hM hmid hlh hh2
         go_wp2_with (first
        | (go_at_call 35;(with_reducible refine (rof_any mid hmB _).mono ?_);rintro e w3 ⟨A3,n3,c3,rfl,p1,p2,p3,p4⟩
           have hn3:=len_two hmB p3.1)
        | (go_at_call 72;(refine (rmul_any (limbs B32 V) (limbs B32 mid) _ A3 m e0 n3 c3 w3 (hbb.below p4) p3.rd (lim_limbs B32_two _) (lim_limbs B32_two _) (by omega) (by omega)).mono ?_);rintro e w4 ⟨A4,n4,c4,rfl,q1,q2,q3,q4⟩
           rw [val_limbs B32_two,val_limbs B32_two] at q3)
        | (go_at_call 107;(refine (rcmp_any (V*mid) U A4 _ n4 c4 n c w4 q3.rd ((hr.below p4).below q4) (Nat.le_trans q1 q2)).mono ?_);rintro e w5 ⟨rfl,q,rfl⟩
           have bq:Below w.heap.size w (w4.drewN q):=below_drawn ((hbw.trans (p4.mono hbw.size)).trans (q4.mono (Nat.le_trans hbw.size p4.size))) q))
         go_roundw
         case rel =>
          have:=HM.out
          exact ⟨mid,h2,rfl,rfl,by omega,by omega,bq,HLE2.out,HI.out.2⟩
         case measure=>(have:=HM.out;simp [intOf];omega)
       · have HLE2:Hid (U < mid*V):=by show _ < _;rw [Nat.mul_comm];omega
         have hcm2:decide (cmpN (V*mid) U≤0)=false:=by rw [cmpN_gt (by omega)];rfl
         clear hle2 hD hM hmid hlh hh2
         go_wp2_with (first
        | (go_at_call 35;(with_reducible refine (rof_any mid hmB _).mono ?_);rintro e w3 ⟨A3,n3,c3,rfl,p1,p2,p3,p4⟩
           have hn3:=len_two hmB p3.1)
        | (go_at_call 72;(refine (rmul_any (limbs B32 V) (limbs B32 mid) _ A3 m e0 n3 c3 w3 (hbb.below p4) p3.rd (lim_limbs B32_two _) (lim_limbs B32_two _) (by omega) (by omega)).mono ?_);rintro e w4 ⟨A4,n4,c4,rfl,q1,q2,q3,q4⟩
           rw [val_limbs B32_two,val_limbs B32_two] at q3)
        | (go_at_call 107;(refine (rcmp_any (V*mid) U A4 _ n4 c4 n c w4 q3.rd ((hr.below p4).below q4) (Nat.le_trans q1 q2)).mono ?_);rintro e w5 ⟨rfl,q,rfl⟩
           have bq:Below w.heap.size w (w4.drewN q):=below_drawn ((hbw.trans (p4.mono hbw.size)).trans (q4.mono (Nat.le_trans hbw.size p4.size))) q))
         go_roundw
         case rel =>
          have:=HM.out
          exact ⟨l2,mid,rfl,rfl,by omega,by omega,bq,HI.out.1,HLE2.out⟩
         case measure=>(have:=HM.out;simp [intOf];omega)
     · have h1i:¬ (1:Int) < (D:Int):=by omega
       have hl32:l2≤4294967295:=by omega
       have hlw:(l2:Int) % 4294967296=(l2:Int):=by omega
       clear hM hmid hmw hmi hMi hMw hmidw
       go_wp2_with fail
       go_ret
       refine ⟨ret_int ?_,hbw⟩
       rw [← Int.natCast_ediv,guess_end HI.out.1 (by have:=HI.out.2;rwa [show h2=l2+1 by omega] at this)]
theorem rguess_any (U V:Nat) (A B:Option Addr) (n c m e0:Nat) (w:World) (ha:Rd .u32 w A n (limbs B32 U)) (hb:Rd .u32 w B m (limbs B32 V)) (hn0:n≤1000000) (hm0:m≤1000000) (hm:2≤m) (hnc:n≤c) (hmd:m≤e0) (hle:V≤U) (hUV:U < V*B32) :
 Calls Tryz.prog 109 #[.slice A n c,.slice B m e0] w fun e w'=>e=.returned (.int .u32 ((U / V:Nat):Int))∧Below w.heap.size w w':=by
 have h1:=length_limbs_mono B32_two hle
 have h2:(limbs B32 U).length≤m+1:=by
  refine length_limbs_le B32_two ?_
  have:=lt_pow_limbs B32_two V
  rw [hb.1] at this
  have h3:=Nat.mul_le_mul_right B32 (Nat.le_of_lt this)
  rw [Nat.pow_succ];omega
 rw [ha.1,hb.1] at h1
 rw [ha.1] at h2
 rcases (show n=m ∨ n=m+1 by omega) with h | h
 · exact guess_same U V A B n c m e0 w ha hb hn0 hm0 hm hnc hmd hle hUV h
 · exact guess_more U V A B n c m e0 w ha hb hn0 hm0 hm hnc hmd hle hUV h
end
section
open Go.RowKit
theorem Fr.nilcap {K:IntKind} {e:TypeId} {B n c:Nat} {A:Option Addr} {l:List Nat} (h:Fr K e w B A n c l):A=none→c=0:=by
 intro hA
 rcases h.2.2 with ⟨h2,_⟩ | ⟨g,cap,cur,hv,hg,r⟩
 · injection h2
 · subst hA;cases hv
theorem rdm_step {D V x q r:Nat} (h1:q=D / V) (h2:r=D % V) (hV:0 < V):(x+B32*r) / V+B32*q=(x+B32*D) / V∧(x+B32*r) % V=(x+B32*D) % V∧(x < B32→x+B32*r < V*B32):=by
 have e:x+B32*D=V*(B32*q)+(x+B32*r):=by
  have:=Nat.div_add_mod D V
  rw [← h1,← h2] at this
  rw [← this]
  generalize B32=B
  grind
 rw [e,Nat.mul_add_div hV,Nat.mul_add_mod]
 refine ⟨Nat.add_comm _ _,rfl,fun hx=>?_⟩
 have hr:r+1≤V:=by rw [h2];exact Nat.mod_lt _ hV
 have:=Nat.mul_le_mul_left B32 hr
 rw [Nat.mul_succ] at this
 rw [Nat.mul_comm V];omega
theorem two_close {w W w3:World} {Q R n n' c c':Nat} {A A':Option Addr} (hlt:w.heap.size < W.heap.size) (hb:Below w.heap.size w W) (p1:n≤c) (p2:n'≤c') (p3:Rd .u32 w3 A n (limbs B32 Q)) (p4:Rd .u32 w3 A' n' (limbs B32 R)) (p5:Below W.heap.size W w3)
 (o1:0 < n→∀ ad,A=some ad→ad.block ≠ w.heap.size) (o2:0 < n'→∀ ad,A'=some ad→ad.block ≠ w.heap.size) :
 GivesTwo w Q R (.returned (.agg #[.slice A n c,.slice A' n' c'])) ((w3.setCell ⟨w.heap.size,0,none⟩ (.slice A n c)).setCell ⟨w.heap.size,1,none⟩ (.slice A' n' c')):=by
 have keep:∀ {B:Option Addr} {m:Nat} {l:List Nat},Rd .u32 w3 B m l→(0 < m→∀ ad,B=some ad→ad.block ≠ w.heap.size)→Rd .u32 ((w3.setCell ⟨w.heap.size,0,none⟩ (.slice A n c)).setCell ⟨w.heap.size,1,none⟩ (.slice A' n' c')) B m l :=
  fun h ho=>h.only (g:=w.heap.size) (fun hm ad e=>ho hm ad e) (((Only.refl w.heap.size w3).setCell 0 _).setCell 1 _)
 have hbz:Below w.heap.size w w3:=hb.trans (p5.mono (Nat.le_of_lt hlt))
 exact ⟨_,_,_,_,_,_,rfl,p1,p2,keep p3 o1,keep p4 o2,(hbz.setCell (Nat.le_refl _) _).setCell (Nat.le_refl _) _⟩
theorem rdm_below (U V:Nat) (A B:Option Addr) (n c m d:Nat) (w:World) (ha:Rd .u32 w A n (limbs B32 U)) (hb:Rd .u32 w B m (limbs B32 V)) (hn0:n≤1000000) (hnc:n≤c) (hlt:U < V) :
 Calls Tryz.prog 75 #[.slice A n c,.slice B m d] w (GivesTwo w 0 U):=by
 have hcm:cmpN U V=-1:=cmpN_lt hlt
 have hb1:Below w.heap.size w (w.alloc (.cells #[.slice none 0 0,.slice none 0 0] 117)):=(Below.refl _ _).alloc (Nat.le_refl _) _
 have HV:Vow 117 (w.alloc (.cells #[.slice none 0 0,.slice none 0 0] 117)) w.heap.size [.slice none 0 0,.slice none 0 0]:=heap_alloc_new w _
 have HH:=Lib.hid hlt;clear hlt
 go_enter Tryz.func75,Tryz.ntmps75
 go_wp2_with (first
  | (go_at_call 107;(refine (rcmp_any U V A B n c m d _ (ha.below hb1) (hb.below hb1) (by unfold maxLen;omega)).mono ?_);rintro e w' ⟨rfl,q,rfl⟩;rw [hcm]))
 have hV2:=((show Vow 117 ((w.alloc (.cells #[.slice none 0 0,.slice none 0 0] 117)).drewN q) w.heap.size [.slice none 0 0,.slice none 0 0] from HV).set_ 0 (.slice none 0 0)).set_ 1 (.slice A n c)
 have z0:=hV2.cell (i:=0) rfl
 have z1:=hV2.cell (i:=1) rfl
 refine bodyPost_ret (v:=.agg #[.slice none 0 0,.slice A n c]) (by simp [results,Tryz.results75,go_sem,z0,z1]) rfl ?_
 have keep:Rd .u32 ((((w.alloc (.cells #[.slice none 0 0,.slice none 0 0] 117)).drewN q).setCell ⟨w.heap.size,0,none⟩ (.slice none 0 0)).setCell ⟨w.heap.size,1,none⟩ (.slice A n c)) A n (limbs B32 U) :=
  ((ha.below hb1).drewN q).only (g:=w.heap.size) (fun hm ad e=>Nat.ne_of_lt (ha.lt hm ad e)) (((Only.refl w.heap.size _).setCell 0 _).setCell 1 _)
 refine ⟨none,0,0,A,n,c,rfl,Nat.le_refl _,hnc,by rw [limbs_zero];exact Rd.nil,keep,((below_drawn hb1 q).setCell (Nat.le_refl _) _).setCell (Nat.le_refl _) _⟩
theorem rdm_one (U V:Nat) (A B:Option Addr) (n c d:Nat) (w:World) (ha:Rd .u32 w A n (limbs B32 U)) (hb:Rd .u32 w B 1 (limbs B32 V)) (hn0:n≤1000000) (hle:V≤U) :
 Calls Tryz.prog 75 #[.slice A n c,.slice B 1 d] w (GivesTwo w (U / V) (U % V)):=by
 have hcm:decide (cmpN U V < 0)=false:=by
  rcases Nat.lt_or_eq_of_le hle with h | h
  · rw [cmpN_gt h];rfl
  · rw [cmpN_eq h.symm];rfl
 have hVB:V < B32:=by have:=lt_pow_limbs B32_two V;rwa [hb.1,Nat.pow_one] at this
 have hV0:0 < V:=by
  rcases Nat.eq_zero_or_pos V with h | h
  · have:=hb.1;rw [h,limbs_zero] at this;simp at this
  · exact h
 have hl:limbs B32 V=[V]:=limbs_small B32_two hVB (by omega)
 have hb1:Below w.heap.size w (w.alloc (.cells #[.slice none 0 0,.slice none 0 0] 117)):=(Below.refl _ _).alloc (Nat.le_refl _) _
 have HV:Vow 117 (w.alloc (.cells #[.slice none 0 0,.slice none 0 0] 117)) w.heap.size [.slice none 0 0,.slice none 0 0]:=heap_alloc_new w _
 obtain ⟨b0,o0,rfl,hc⟩:=hb.2 (by omega)
 have hcv:w.cell? ⟨b0,o0,none⟩=some (.int .u32 (V:Int)):=hc 0 V (by rw [hl];rfl)
 have hcv2:(w.alloc (.cells #[.slice none 0 0,.slice none 0 0] 117)).cell? ⟨b0,o0,none⟩=some (.int .u32 (V:Int)):=(World.cell?_alloc_lt w _ ⟨b0,o0,none⟩ (hb.lt (by omega) _ rfl)).trans hcv
 have HH:=Lib.hid hle;clear hle hc hl hcv
 generalize hW:w.alloc (.cells #[.slice none 0 0,.slice none 0 0] 117)=W at hb1 HV hcv2
 go_enter Tryz.func75,Tryz.ntmps75
 go_wp2_with (first
  | (go_at_call 107;(refine (rcmp_any U V A _ n c 1 d W (ha.below hb1) (hb.below hb1) (by unfold maxLen;omega)).mono ?_);rintro e w' ⟨rfl,q,rfl⟩)
  | (go_at_call 108;(refine (short_any U V A n c (W.drewN q) ((ha.below hb1).drewN q) hn0 hV0 hVB).mono ?_);rintro e w3 ⟨A1,n1,c1,A2,n2,c2,rfl,p1,p2,p3,p4,p5,p6,p7⟩
     have HV3:=(show Vow 117 (W.drewN q) w.heap.size [.slice none 0 0,.slice none 0 0] from HV).below p5
     have v0:=HV3.cell (i:=0) rfl
     have v1:=HV3.cell (i:=1) rfl
     have f0:=HV3.frozen 0;have f1:=HV3.frozen 1))
 have hV2:=(HV3.set_ 0 (.slice A1 n1 c1)).set_ 1 (.slice A2 n2 c2)
 have z0:=hV2.cell (i:=0) rfl
 have z1:=hV2.cell (i:=1) rfl
 refine bodyPost_ret (v:=.agg #[.slice A1 n1 c1,.slice A2 n2 c2]) (by simp [results,Tryz.results75,go_sem,z0,z1]) rfl ?_
 have hsz:w.heap.size < (W.drewN q).heap.size:=by rw [← hW];simp [World.drewN]
 exact two_close hsz (below_drawn hb1 q) p1 p2 p3 p4 p5 (fun _ ad e=>Nat.ne_of_gt (Nat.lt_of_lt_of_le hsz (p6 ad e))) (fun _ ad e=>Nat.ne_of_gt (Nat.lt_of_lt_of_le hsz (p7 ad e)))
theorem rdm_long (U V:Nat) (A B:Option Addr) (n c m d:Nat) (w:World) (ha:Rd .u32 w A n (limbs B32 U)) (hb:Rd .u32 w B m (limbs B32 V)) (hn0:n≤900000) (hm0:m≤900000) (hmd:m≤d) (hm2:2≤m) (hle:V≤U) :
 Calls Tryz.prog 75 #[.slice A n c,.slice B m d] w (GivesTwo w (U / V) (U % V)):=by
 have hcm:decide (cmpN U V < 0)=false:=by
  rcases Nat.lt_or_eq_of_le hle with h | h
  · rw [cmpN_gt h];rfl
  · rw [cmpN_eq h.symm];rfl
 have hV0:0 < V:=by
  rcases Nat.eq_zero_or_pos V with h | h
  · have:=hb.1;rw [h,limbs_zero] at this;simp at this;omega
  · exact h
 have hne:((m:Int) == 1)=false:=by simp;omega
 have HL:=Lib.hid ha.1;have La:=lim_limbs B32_two U
 have HMn:=Lib.hid (length_limbs_mono B32_two hle)
 have hVm:V < B32 ^ m:=by have:=lt_pow_limbs B32_two V;rwa [hb.1] at this
 have HVm:=Lib.hid hVm
 have hb1:Below w.heap.size w (w.alloc (.cells #[.slice none 0 0,.slice none 0 0] 117)):=(Below.refl _ _).alloc (Nat.le_refl _) _
 have HV:Vow 117 (w.alloc (.cells #[.slice none 0 0,.slice none 0 0] 117)) w.heap.size [.slice none 0 0,.slice none 0 0]:=heap_alloc_new w _
 have hs1:(w.alloc (.cells #[.slice none 0 0,.slice none 0 0] 117)).heap.size=w.heap.size+1:=by simp
 have HH:=Lib.hid hle
 have hn1:n≤2 ^ 45:=by omega
 clear hle hVm
 go_enter Tryz.func75,Tryz.ntmps75
 go_wp2_with (first
  | (go_at_call 107;(refine (rcmp_any U V A B n c m d _ (ha.below hb1) (hb.below hb1) (by unfold maxLen;omega)).mono ?_);rintro e w' ⟨rfl,q,rfl⟩)
  | (at_make;refine wpList_make32 _ rfl (.tmp 24) (.tmp 24) rfl .i64 .i64 _ _ n rfl rfl (by omega) (by omega) (by omega) ?_;intro w1 hown1 hb2))
 have hs2:((w.alloc (.cells #[.slice none 0 0,.slice none 0 0] 117)).drewN q).heap.size=w.heap.size+1:=hs1
 rw [hs2] at hown1 hb2
 have hbw1:Below w.heap.size w w1:=(below_drawn hb1 q).trans (hb2.mono (by omega))
 have hv1:Vow 117 w1 w.heap.size [.slice none 0 0,.slice none 0 0]:=(hb2.block w.heap.size (by omega)).trans HV
 clear hb2 HV hb1
 go_loopw [6,7] (fun tr ti wr=>∃ (j:Nat) (Q:List Nat) (R:Nat) (A':Option Addr) (n' c':Nat),j≤n∧ti=.int .i64 ((j:Int) - 1)∧tr=.slice A' n' c'∧Rd .u32 wr A' n' (limbs B32 R)∧n'≤c'∧(A'=none→c'=0)∧(∀ ad,A'=some ad→w.heap.size+1 < ad.block) ∧
  Own .u32 113 wr (w.heap.size+1) (List.replicate j 0 ++ Q)∧Vow 117 wr w.heap.size [.slice none 0 0,.slice none 0 0]∧Below w.heap.size w wr ∧
  Hid (Q.length+j=n∧Lim B32 Q∧val B32 Q=val B32 ((limbs B32 U).drop j) / V∧R=val B32 ((limbs B32 U).drop j) % V)) (fun _ ti _=>(intOf ti+1).toNat)
 case atStart =>
  refine ⟨n,[],0,none,0,0,Nat.le_refl _,by go_num,rfl,by rw [limbs_zero];exact Rd.nil,Nat.le_refl _,fun _=>rfl,(fun ad e=>by cases e),by simpa using hown1,hv1,hbw1,by simp,Lim.nil,?_,?_⟩
  · rw [List.drop_of_length_le (by have:=HL.out;omega)];simp
  · rw [List.drop_of_length_le (by have:=HL.out;omega)];simp
 case round =>
  obtain ⟨j,Q,R,A',n',c',hj,rfl,rfl,hR,hnc',hcap,hblk,hQ,hV,hbw,HI⟩:=hrel
  by_cases hj0:0 < j
  · obtain ⟨i,rfl⟩:∃ i,j=i+1:=⟨j - 1,by omega⟩
    have h':=ha.below hbw
    have hbb:=hb.below hbw
    obtain ⟨b0,o,rfl,hc⟩:=h'.at_ (by omega)
    obtain ⟨x,hx,hcx⟩:=hc i (by omega)
    have hxB:=La.get hx
    have hRV:R < V:=by rw [HI.out.2.2.2];exact Nat.mod_lt _ hV0
    have hn'm:n'≤m:=by
     rw [← hR.1]
     exact length_limbs_le B32_two (Nat.lt_trans hRV HVm.out)
    obtain ⟨R',hR'⟩:∃ R',R'=x+B32*R:=⟨_,rfl⟩
    obtain ⟨s1,s2,s3⟩:=rdm_step (x:=x) HI.out.2.2.1 HI.out.2.2.2 hV0
    rw [← hR'] at s1 s2 s3
    have s3':=s3 hxB
    have HS:=Lib.hid (And.intro s1 (And.intro s2 s3'))
    have hqlt:=hQ.lt
    have hfr0:Fr .u32 113 (wr.alloc (.cells #[.int .u32 (x:Int)] 113)) wr.heap.size (some ⟨wr.heap.size,0,none⟩) 1 1 [x]:=by
     have:=Fr.of_own (L:=[x]) (k:=1) (heap_alloc_new wr (.cells (nums .u32 [x]).toArray 113)) (Nat.le_refl _) (Nat.le_refl _) (show 1≤maxLen by decide)
     exact this
    have HF0:=Lib.hid hfr0;have HCAP:=Lib.hid hcap;have HX:=Lib.hid hx
    have hlimR:Lim B32 ([x] ++ limbs B32 R):=(Lim.cons hxB Lim.nil).append (lim_limbs B32_two _)
    have HRE:Hid (limbs B32 (val B32 ([x] ++ limbs B32 R))=limbs B32 R'):=by
     show _=_
     rw [List.singleton_append,val_cons,val_limbs B32_two,hR']
    have hq:Own .u32 113 wr (w.heap.size+1) (List.replicate i 0 ++ (0 :: Q)):=by
     rw [List.replicate_succ',List.append_assoc] at hQ;exact hQ
    have hd:Hid (val B32 ((limbs B32 U).drop i)=x+B32*val B32 ((limbs B32 U).drop (i+1))):=by
     show _=_
     have hk:=(List.getElem?_eq_some_iff.1 hx).1
     rw [List.drop_eq_getElem_cons hk,(List.getElem?_eq_some_iff.1 hx).2,val_cons]
    clear hc hx s1 s2 s3 s3' hfr0 hcap hQ hR'
    by_cases hlt:R' < V
    · have hc2:decide (cmpN R' V < 0)=true:=by rw [cmpN_lt hlt];rfl
      have HLT:=Lib.hid hlt;clear hlt
      go_wp2_with (first
       | (at_builtin;refine wpList_appendR .u32 39 113 4 (.int .u32 0) rfl Tryz.underlying39 info_u32 (by omega) _ rfl (.tmp 37) (.tmp 38) rfl wr.heap.size (some ⟨wr.heap.size,0,none⟩) 1 1 [x] rfl HF0.out (Nat.le_refl _) (by decide) A' n' c' (limbs B32 R) rfl HCAP.out (hR.alloc _) (by omega) (by simp) ?_
          intro A2 c2 w2 p1 p2 p3 p4 _
          have b2:Below wr.heap.size wr w2:=((Below.refl _ _).alloc (Nat.le_refl _) _).trans p4)
       | (go_at_call 73;(refine (rtrim_any ([x] ++ limbs B32 R) A2 (1+n') c2 w2 p1.rd hlimR (by unfold maxLen;omega) p2).mono ?_);rintro e w' ⟨⟨k2,hk2,rfl,_,hkr⟩,rfl⟩
          rw [HRE.out] at hkr)
       | (go_at_call 107;(refine (rcmp_any R' V A2 B k2 c2 m d w2 hkr (hbb.below b2) (by unfold maxLen;omega)).mono ?_);rintro e w' ⟨rfl,qq,rfl⟩))
      go_roundw
      case rel =>
       obtain ⟨i1,i2,i3,i4⟩:=HI.out
       have hbz:Below w.heap.size w w2:=hbw.trans (b2.mono hbw.size)
       refine ⟨i,0 :: Q,R',A2,k2,c2,by omega,by go_num,rfl,hkr.drewN qq,by omega,p1.nilcap,fun ad e=>Nat.lt_of_lt_of_le hqlt (p1.base9 ad e),hq.below (below_drawn b2 qq) hqlt,hV.below (below_drawn b2 qq),below_drawn hbz qq,?_,Lim.cons (by decide) i2,?_,?_⟩
       · rw [List.length_cons];omega
       · rw [val_cons,hd.out,← HS.out.1,Nat.div_eq_of_lt HLT.out]
       · rw [hd.out,← HS.out.2.1,Nat.mod_eq_of_lt HLT.out]
      case measure=>simp [intOf]
    · have hc2 : decide (cmpN R' V < 0) = false := by
        rcases Nat.lt_or_eq_of_le (Nat.not_lt.1 hlt) with h | h
        · rw [cmpN_gt h];rfl
        · rw [cmpN_eq h.symm];rfl
      have HLT:Hid (V≤R'):=Nat.not_lt.1 hlt
      clear hlt
      have hlz:Hid ((List.replicate i 0).length=i):=by show _=_;simp
      have hqf:Hid (R' / V < B32):=Nat.div_lt_of_lt_mul HS.out.2.2
      have hv1d:Hid (val B32 [R' / V]=R' / V):=by show _=_;simp
      have hsubd:Hid (R' - V*(R' / V)=R' % V):=by show _=_;have:=Nat.div_add_mod R' V;omega
      have hoffB:Hid (Off B m (w.heap.size+1)):=fun hm ad e=>Nat.ne_of_lt (Nat.lt_succ_of_lt (hb.lt hm ad e))
      go_wp2_with (first
       | (at_builtin;refine wpList_appendR .u32 39 113 4 (.int .u32 0) rfl Tryz.underlying39 info_u32 (by omega) _ rfl (.tmp 37) (.tmp 38) rfl wr.heap.size (some ⟨wr.heap.size,0,none⟩) 1 1 [x] rfl HF0.out (Nat.le_refl _) (by decide) A' n' c' (limbs B32 R) rfl HCAP.out (hR.alloc _) (by omega) (by simp) ?_
          intro A2 c2 w2 p1 p2 p3 p4 _
          have b2:Below wr.heap.size wr w2:=((Below.refl _ _).alloc (Nat.le_refl _) _).trans p4)
       | (go_at_call 73;(refine (rtrim_any ([x] ++ limbs B32 R) A2 (1+n') c2 w2 p1.rd hlimR (by unfold maxLen;omega) p2).mono ?_);rintro e w' ⟨⟨k2,hk2,rfl,_,hkr⟩,rfl⟩
          rw [HRE.out] at hkr)
       | (go_at_call 107;(refine (rcmp_any R' V A2 B k2 c2 m d w2 hkr (hbb.below b2) (by unfold maxLen;omega)).mono ?_);rintro e w' ⟨rfl,qq,rfl⟩)
       | (go_at_call 109;(refine (rguess_any R' V A2 B k2 c2 m d _ (hkr.drewN qq) ((hbb.below b2).drewN qq) (by omega) (by omega) hm2 (by omega) hmd HLT.out HS.out.2.2).mono ?_);rintro e w5 ⟨rfl,b5⟩
          have b5':Below wr.heap.size wr w5:=(below_drawn b2 qq).trans (b5.mono b2.size)
          have hq5:=hq.below b5' hqlt
          have hcz:=hq5.cell_len hlz.out;have hfz:=Own.frozen hq5 i
          have hst:=hq5.store_len hlz.out (R' / V)
          rw [List.append_assoc] at hst;have HST:=Lib.hid hst;clear hst)
       | (go_at_call 72
          have HS5:=HST.out
          obtain ⟨w6,hw6⟩:∃ w6,w6=w5.setCell ⟨w.heap.size+1,i,none⟩ (.int .u32 ((R' / V:Nat):Int)):=⟨_,rfl⟩
          rw [← Int.natCast_ediv,← hw6]
          rw [← hw6] at HS5
          have o6:Only (w.heap.size+1) w5 w6:=by rw [hw6];exact (Only.refl _ _).setCell _ _
          have hk6:Rd .u32 w6 A2 k2 (limbs B32 R'):=((hkr.drewN qq).below b5).only (fun hm ad e=>Nat.ne_of_gt (Nat.lt_of_lt_of_le hqlt (p1.base9 ad e))) o6
          have hb6:Rd .u32 w6 B m (limbs B32 V):=(hbb.below b5').only hoffB.out o6
          have hV6:Vow 117 w6 w.heap.size [.slice none 0 0,.slice none 0 0]:=by rw [hw6];exact (hV.below b5').other (by omega) _
          have b6:Below w.heap.size w w6:=Below.only (hbw.trans (b5'.mono hbw.size)) (by omega) (hbw.trans (b5'.mono hbw.size)).size o6
          have e7:Below w6.heap.size w6 (w6.alloc (.cells #[.int .u32 ((R' / V:Nat):Int)] 113)):=(Below.refl _ _).alloc (Nat.le_refl _) _
          have hlit:Rd .u32 (w6.alloc (.cells #[.int .u32 ((R' / V:Nat):Int)] 113)) (some ⟨w5.heap.size,0,none⟩) 1 [R' / V]:=by
           have hs6:w5.heap.size=w6.heap.size:=by rw [hw6];simp
           rw [hs6];exact lit2_rd (K:=.u32) (e:=113) w6 [R' / V] 1 rfl
          (with_reducible refine (rmul_any (limbs B32 V) [R' / V] B _ m d 1 1 _ (hb6.below e7) hlit (lim_limbs B32_two _) (Lim.cons hqf.out Lim.nil) (by omega) (by omega)).mono ?_);rintro e w8 ⟨A8,n8,c8,rfl,q1,q2,q3,q4⟩
          rw [val_limbs B32_two,hv1d.out] at q3
          have b8:Below w6.heap.size w6 w8:=e7.trans (q4.mono e7.size))
       | (go_at_call 110
          (refine (rsub_any (limbs B32 R') (limbs B32 (V*(R' / V))) A2 A8 k2 c2 n8 c8 w8 (hk6.below b8) q3.rd (lim_limbs B32_two _) (lim_limbs B32_two _) (by omega) ?_ ?_).mono ?_)
          · rw [← q3.1,← hkr.1];exact length_limbs_mono B32_two (Nat.mul_div_le _ _)
          · rw [val_limbs B32_two,val_limbs B32_two];exact Nat.mul_div_le _ _
          rintro e w9 ⟨A9,n9,c9,rfl,r1,r2,r3,r4⟩
          rw [val_limbs B32_two,val_limbs B32_two,hsubd.out] at r3
          have b9:Below w6.heap.size w6 w9:=b8.trans (r4.mono b8.size)))
      go_roundw
      case rel =>
       obtain ⟨i1,i2,i3,i4⟩:=HI.out
       have hwsz:w.heap.size+1 < w6.heap.size:=HS5.lt
       refine ⟨i,(R' / V) :: Q,R' % V,A9,n9,c9,by omega,by go_num,rfl,r3.rd,r1,r3.nilcap,fun ad e=>Nat.lt_of_lt_of_le hwsz (Nat.le_trans b8.size (r3.base9 ad e)),HS5.below b9 hwsz,hV6.below b9,b6.trans (b9.mono b6.size),?_,Lim.cons hqf.out i2,?_,?_⟩
       · rw [List.length_cons];omega
       · rw [val_cons,hd.out];exact HS.out.1
       · rw [hd.out];exact HS.out.2.1
      case measure=>simp [intOf]
  · obtain rfl:j=0:=by omega
    rw [List.replicate_zero,List.nil_append] at hQ
    obtain ⟨i1,i2,i3,i4⟩:=HI.out
    rw [List.drop_zero,val_limbs B32_two] at i3 i4
    have v0:=hV.cell (i:=0) rfl
    have v1:=hV.cell (i:=1) rfl
    have f0:=hV.frozen 0;have f1:=hV.frozen 1
    have HE:=Lib.hid (And.intro i1 (And.intro i3 i4))
    clear i1 i3 i4
    go_wp2_with (first
     | (go_at_call 73;(refine (rtrim_any Q _ n n wr (hQ.rd (by have:=HE.out;omega) (fun j x hx=>by simpa using hx)) i2 (by unfold maxLen;omega) (Nat.le_refl _)).mono ?_);rintro e w' ⟨⟨k,hk,rfl,hkt,hkr⟩,rfl⟩))
    have hV10:=(hV.set_ 0 (.slice (some ⟨w.heap.size+1,0,none⟩) k n)).set_ 1 (.slice A' n' c')
    have z0:=hV10.cell (i:=0) rfl
    have z1:=hV10.cell (i:=1) rfl
    refine bodyPost_ret (v:=.agg #[.slice (some ⟨w.heap.size+1,0,none⟩) k n,.slice A' n' c']) (by simp [results,Tryz.results75,go_sem,z0,z1]) rfl ?_
    rw [HE.out.2.1] at hkr;rw [HE.out.2.2] at hR
    exact two_close (W:=wr) (by have:=hQ.lt;omega) hbw hk hnc' hkr hR (Below.refl _ _) (fun _ ad e=>by cases e;show w.heap.size+1 ≠ w.heap.size;omega) (fun _ ad e=>by have:=hblk ad e;omega)
theorem rdivmod_any (U V:Nat) (A B:Option Addr) (n c m d:Nat) (w:World) (ha:Rd .u32 w A n (limbs B32 U)) (hb:Rd .u32 w B m (limbs B32 V)) (hn0:n≤900000) (hm0:m≤900000) (hnc:n≤c) (hmd:m≤d) (hV:V ≠ 0) :
 Calls Tryz.prog 75 #[.slice A n c,.slice B m d] w (GivesTwo w (U / V) (U % V)):=by
 rcases Nat.lt_or_ge U V with h | h
 · rw [Nat.div_eq_of_lt h,Nat.mod_eq_of_lt h]
   exact rdm_below U V A B n c m d w ha hb (by omega) hnc h
 · by_cases h1:m=1
   · subst h1
     exact rdm_one U V A B n c d w ha hb (by omega) h
   · have hm : m ≠ 0 := by
       intro e
       have:=hb.1
       rw [limbs_pos B32_two hV] at this
       simp at this;omega
     exact rdm_long U V A B n c m d w ha hb hn0 hm0 hmd (by omega) h
end
section
open Go.RowKit
def RN (w:World) (A:Option Addr) (n c V k:Nat):Prop:=Rd .u32 w A n (limbs B32 V)∧n≤c∧n≤k
theorem RN.below {w w':World} {A:Option Addr} {n c V k:Nat} (h:RN w A n c V k) (hb:Below w.heap.size w w'):RN w' A n c V k:=⟨h.1.below hb,h.2.1,h.2.2⟩
theorem RN.lt {A:Option Addr} {n c V k:Nat} (h:RN w A n c V k):V < B32 ^ k:=by
 have:=lt_pow_limbs B32_two V
 rw [h.1.1] at this
 exact Nat.lt_of_lt_of_le this (Nat.pow_le_pow_right (by decide) h.2.2)
theorem RN.of {A:Option Addr} {n c V k:Nat} (h:Rd .u32 w A n (limbs B32 V)) (hc:n≤c) (hk:V < B32 ^ k):RN w A n c V k:=⟨h,hc,by rw [← h.1];exact length_limbs_le B32_two hk⟩
def GivesR (w:World) (V k:Nat) (e:Ending) (w':World):Prop:=∃ A n c,e=.returned (.slice A n c)∧RN w' A n c V k∧Below w.heap.size w w'
def GivesRR (w:World) (Q R k1 k2:Nat) (e:Ending) (w':World):Prop:=∃ A n c A' n' c',e=.returned (.agg #[.slice A n c,.slice A' n' c'])∧RN w' A n c Q k1∧RN w' A' n' c' R k2∧Below w.heap.size w w'
theorem GivesS.r {w w':World} {V k:Nat} {e:Ending} (h:GivesS .u32 113 w (limbs B32 V) e w') (hk:V < B32 ^ k):GivesR w V k e w':=by
 obtain ⟨A,n,c,rfl,h1,h2,h3,h4⟩:=h
 exact ⟨A,n,c,rfl,RN.of h3.rd h1 hk,h4⟩
theorem b32_pow (k:Nat):B32 ^ (2*k)=B64 ^ k:=by rw [Nat.pow_mul];rfl
section
variable {w:World} {A B:Option Addr} {n c m d U V k k1 k2:Nat}
theorem rin_nr (j:Nat) (X:NR w A n c V k) (hk:k≤100000) (hj:2*k=j):Calls Tryz.prog 34 #[.slice A n c] w (GivesR w V j):=by
 have hV:=X.lt
 obtain ⟨l,a1,a2,rfl,a4,a5⟩:=X
 exact (rin_any l A n c w a1 a2 (by omega)).mono fun e w' h=>h.r (by rw [← hj,b32_pow];exact hV)
theorem rdm_nr (X:RN w A n c U k1) (Y:RN w B m d V k2) (h1:k1≤200000) (h2:k2≤200000) (hV:V ≠ 0):Calls Tryz.prog 75 #[.slice A n c,.slice B m d] w (GivesRR w (U / V) (U % V) k1 k2):=by
 have hX:=X.lt;have hY:=Y.lt
 have hr:=Nat.mod_lt U (show V > 0 by omega)
 have hq:=Nat.div_le_self U V
 obtain ⟨a1,a2,a3⟩:=X
 obtain ⟨b1,b2,b3⟩:=Y
 refine (rdivmod_any U V A B n c m d w a1 b1 (by omega) (by omega) a2 b2 hV).mono ?_
 rintro e w' ⟨A1,n1,c1,A2,n2,c2,rfl,p1,p2,p3,p4,p5⟩
 exact ⟨A1,n1,c1,A2,n2,c2,rfl,RN.of p3 p1 (by omega),RN.of p4 p2 (by omega),p5⟩
end
def rd32 (w:World):Value→Nat
 | .slice (some a) n _=>val B32 ((List.range n).map fun i=>match w.cell? (a.add i) with | some (.int _ x)=>x.toNat | _=>0)
 | _=>0
theorem rd32_eq {A:Option Addr} {n c:Nat} {l:List Nat} (h:Rd .u32 w A n l):rd32 w (.slice A n c)=val B32 l:=by
 rcases Nat.eq_zero_or_pos n with h0 | h0
 · subst h0
   have:l=[]:=List.eq_nil_of_length_eq_zero h.1
   subst this
   cases A <;> simp [rd32]
 · obtain ⟨b,o,rfl,hc⟩:=h.2 h0
   show val B32 _=_
   congr 1
   apply List.ext_getElem
   · simp [h.1]
   · intro i h1 h2
     simp only [List.getElem_map,List.getElem_range,add_at]
     rw [hc i _ (List.getElem?_eq_getElem h2)]
     simp
theorem rgcd_nr {A B:Option Addr} {n c m d U V k:Nat} (X:RN w A n c U k) (Y:RN w B m d V k) (hk:k≤200000):Calls Tryz.prog 74 #[.slice A n c,.slice B m d] w (GivesR w (Nat.gcd U V) k):=by
 have hfd:∀ (A:Option Addr) (n c:Nat) (A':Option Addr) (n' c':Nat) (w:World),(Instr.field 117 (.agg #[.slice A n c,.slice A' n' c']) 1).run Tryz.prog w=.ok (.slice A' n' c') w:=fun _ _ _ _ _ _ _=>by kernel_rfl
 go_enter Tryz.func74,Tryz.ntmps74
 go_wp2_with fail
 go_loopw [0,1] (fun ta tb wr=>∃ (A':Option Addr) (n' c':Nat) (B':Option Addr) (m' d' u v:Nat),ta=.slice A' n' c'∧tb=.slice B' m' d'∧RN wr A' n' c' u k∧RN wr B' m' d' v k∧Below w.heap.size w wr∧Hid (Nat.gcd u v=Nat.gcd U V)) (fun _ tb wr=>rd32 wr tb)
 case atStart=>exact ⟨A,n,c,B,m,d,U,V,rfl,rfl,X,Y,Below.refl _ _,rfl⟩
 case round =>
  obtain ⟨A',n',c',B',m',d',u,v,rfl,rfl,hu,hv,hbw,HG⟩:=hrel
  have hm':m'≤2 ^ 45:=by have:=hv.2.2;omega
  by_cases h0:v=0
  · subst h0
    have hz:m'=0:=by have:=hv.1.1;rw [limbs_zero] at this;exact this.symm
    subst hz
    go_wp2_with fail
    go_ret
    have:=HG.out
    rw [Nat.gcd_zero_right] at this;rw [← this]
    exact ⟨A',n',c',rfl,hu,hbw⟩
  · have hpos : 0 < m' := by
      have:=hv.1.1
      rw [limbs_pos B32_two h0] at this
      simp at this;omega
    have H0:=Lib.hid h0;clear h0
    go_wp2_with (go_at_call 75;(with_reducible refine (rdm_nr hu hv hk hk H0.out).mono ?_);rintro e w3 ⟨A1,n1,c1,A2,n2,c2,rfl,p1,p2,p3⟩)
    go_roundw
    case rel =>
     refine ⟨B',m',d',A2,n2,c2,v,u % v,rfl,rfl,hv.below p3,p2,hbw.trans (p3.mono hbw.size),?_⟩
     show _=_
     rw [← HG.out,Nat.gcd_comm v,← Nat.gcd_rec,Nat.gcd_comm]
    case measure =>
     rw [rd32_eq p2.1,rd32_eq hv.1,val_limbs B32_two,val_limbs B32_two]
     exact Nat.mod_lt _ (Nat.pos_of_ne_zero H0.out)
theorem rofv_rn (v:Nat) (hv:v < B64) (w:World):Calls Tryz.prog 35 #[.int .u64 (v:Int)] w (GivesR w v 2) :=
 (rof_any v hv w).mono fun _ _ g=>g.r (Nat.lt_of_lt_of_le hv (by decide))
end
section
open Go.RowKit
end
section
open Go.RowKit
theorem rof_rn (w:World):Calls Tryz.prog 35 #[.int .u64 1] w (GivesR w 1 1) :=
 (rof_any 1 (by decide) w).mono fun _ _ g=>g.r (by decide)
def IsRoot (V R:Nat):Prop:=R*R≤V∧V < (R+1)*(R+1)
theorem IsRoot.one {V R S:Nat} (h:IsRoot V R) (k:IsRoot V S):R=S:=by
 rcases Nat.lt_trichotomy R S with c | c | c
 · have:=Nat.mul_le_mul (show R+1≤S from c) (show R+1≤S from c)
   have h1:=h.2;have h2:=k.1;omega
 · exact c
 · have:=Nat.mul_le_mul (show S+1≤R from c) (show S+1≤R from c)
   have h1:=h.1;have h2:=k.2;omega
end
section
open Go.RowKit
end
section
theorem root_up {x y M:Nat} (h:M < 4*(x*y)):M < (x+y)*(x+y):=by
 have e:(x+y)*(x+y)=x*x+2*(x*y)+y*y:=by grind
 have k:2*(x*y)≤x*x+y*y:=by
  rcases Nat.le_total x y with c | c
  · obtain ⟨d,rfl⟩:=Nat.exists_eq_add_of_le c
    have:(x+d)*(x+d)=x*x+2*(x*d)+d*d:=by grind
    have:x*(x+d)=x*x+x*d:=by grind
    omega
  · obtain ⟨d,rfl⟩:=Nat.exists_eq_add_of_le c
    have:(y+d)*(y+d)=y*y+2*(y*d)+d*d:=by grind
    have:(y+d)*y=y*y+y*d:=by grind
    omega
 omega
theorem root_dn {A P M t:Int} (hP:0 < P) (hA:2*(P*P)≤A) (hAP:2*P≤A) (h1:(A - 2*P)*(A - 2*P) < M) (h2:M < (A+2*P)*(A+2*P)) (h3:2*(A*(t+1))≤M+A*A) (ht:0≤t):t*t < M:=by
 have e1:(A - 2*P)*(A - 2*P)=A*A - 4*(A*P)+4*(P*P):=by grind
 have e2:(A+2*P)*(A+2*P)=A*A+4*(A*P)+4*(P*P):=by grind
 have e3:A*(t+1)=A*t+A:=by grind
 refine Int.not_le.1 fun hM=>?_
 rcases Int.lt_or_le t (A+2*P) with c | c
 · rcases Int.lt_or_le (A - 2*P) t with d | d
   · have k : (t - A) * (t - A) < 4 * (P * P) := by
       have f:0 < (2*P - (t - A))*(2*P+(t - A)):=Int.mul_pos (by omega) (by omega)
       have g:(2*P - (t - A))*(2*P+(t - A))=4*(P*P) - (t - A)*(t - A):=by grind
       omega
     have k2:(t - A)*(t - A)=t*t - 2*(A*t)+A*A:=by grind
     omega
   · have f:t*t≤(A - 2*P)*(A - 2*P):=Int.mul_le_mul d d ht (by omega)
     omega
 · have f:A*(A+2*P)≤A*t:=Int.mul_le_mul_of_nonneg_left c (by omega)
   have g:A*(A+2*P)=A*A+2*(A*P):=by grind
   omega
theorem root_step {a P m M:Nat} (hP:0 < P) (ha:P≤a) (hm:m=M / (4*(P*P))) (h1:(a - 1)*(a - 1) < m) (h2:m < (a+1)*(a+1)) :
 (P*a+M / (4*P) / a - 1)*(P*a+M / (4*P) / a - 1) < M∧M < (P*a+M / (4*P) / a+1)*(P*a+M / (4*P) / a+1):=by
 have ha0:0 < a:=by omega
 have hPa:0 < P*a:=Nat.mul_pos hP ha0
 obtain ⟨q,hq⟩:∃ q,q=M / (4*P) / a:=⟨_,rfl⟩
 rw [← hq];rw [Nat.div_div_eq_div_mul] at hq
 have hpos:0 < 4*P*a:=Nat.mul_pos (by omega) ha0
 have q1:4*P*a*q≤M:=by rw [hq];exact Nat.mul_div_le M _
 have q2:M < 4*P*a*(q+1):=by rw [hq];exact Nat.lt_mul_div_succ M hpos
 have hPP:0 < P*P:=Nat.mul_pos hP hP
 have m1:4*(P*P)*m≤M:=by rw [hm];exact Nat.mul_div_le M _
 have m2:M < 4*(P*P)*(m+1):=by rw [hm];exact Nat.lt_mul_div_succ M (by omega)
 constructor
 · obtain ⟨b,rfl⟩:∃ b,a=b+1:=⟨a - 1,by omega⟩
   rw [Nat.add_sub_cancel] at h1
   obtain ⟨t,ht⟩:∃ t,P*(b+1)+q=t+1:=⟨P*(b+1)+q - 1,by omega⟩
   have m3:4*(P*P)*(b*b+1)≤4*(P*P)*m:=Nat.mul_le_mul_left _ h1
   have m4:4*(P*P)*(m+1)≤4*(P*P)*((b+1+1)*(b+1+1)):=Nat.mul_le_mul_left _ h2
   have k1:P*P≤P*(b+1):=Nat.mul_le_mul_left _ ha
   have k2:P*1≤P*(b+1):=Nat.mul_le_mul_left _ (by omega)
   have c1:(2*((P:Int)*((b:Int)+1)) - 2*(P:Int))*(2*((P:Int)*((b:Int)+1)) - 2*(P:Int)) < (M:Int):=by
    have e:(2*((P:Int)*((b:Int)+1)) - 2*(P:Int))*(2*((P:Int)*((b:Int)+1)) - 2*(P:Int))=((4*(P*P)*(b*b):Nat):Int):=by push_cast;grind
    have f:4*(P*P)*(b*b+1)=4*(P*P)*(b*b)+4*(P*P):=by grind
    rw [e];omega
   have c2:(M:Int) < (2*((P:Int)*((b:Int)+1))+2*(P:Int))*(2*((P:Int)*((b:Int)+1))+2*(P:Int)):=by
    have e:(2*((P:Int)*((b:Int)+1))+2*(P:Int))*(2*((P:Int)*((b:Int)+1))+2*(P:Int))=((4*(P*P)*((b+1+1)*(b+1+1)):Nat):Int):=by push_cast;grind
    rw [e];omega
   have c3:2*((2*((P:Int)*((b:Int)+1)))*((t:Int)+1))≤(M:Int)+(2*((P:Int)*((b:Int)+1)))*(2*((P:Int)*((b:Int)+1))):=by
    have et:(t:Int)+1=(P:Int)*((b:Int)+1)+(q:Int):=by
     have:((P*(b+1)+q:Nat):Int)=((t+1:Nat):Int):=by rw [ht]
     push_cast at this;omega
    rw [et]
    have e:2*((2*((P:Int)*((b:Int)+1)))*((P:Int)*((b:Int)+1)+(q:Int)))=((4*P*(b+1)*q:Nat):Int)+(2*((P:Int)*((b:Int)+1)))*(2*((P:Int)*((b:Int)+1))):=by push_cast;grind
    rw [e];omega
   have z1:((P*P:Nat):Int)≤((P*(b+1):Nat):Int):=by omega
   have z2:((P*1:Nat):Int)≤((P*(b+1):Nat):Int):=by omega
   push_cast at z1 z2
   have r:=root_dn (A:=2*((P:Int)*((b:Int)+1))) (P:=(P:Int)) (M:=(M:Int)) (t:=(t:Int)) (by omega) (by omega) (by omega) c1 c2 c3 (by omega)
   rw [ht,Nat.add_sub_cancel]
   have r2:((t*t:Nat):Int) < (M:Int):=by push_cast;exact r
   omega
 · have := root_up (x := P * a) (y := q + 1) (M := M) (by
     have e:4*(P*a*(q+1))=4*P*a*(q+1):=by grind
     omega)
   rw [show P*a+q+1=P*a+(q+1) by omega]
   exact this
theorem root_low {a D M:Nat} (h:M < (a+1)*(a+1)) (hM:D*D≤M):D≤a:=by
 refine Nat.not_lt.1 fun c=>?_
 have:=Nat.mul_le_mul (show a+1≤D from c) (show a+1≤D from c)
 omega
theorem root_high {a D M:Nat} (h:(a - 1)*(a - 1) < M) (hM:M≤D*D):a≤D:=by
 refine Nat.not_lt.1 fun c=>?_
 have:=Nat.mul_le_mul (show D≤a - 1 by omega) (show D≤a - 1 by omega)
 omega
def RootOk (V c e a:Nat):Prop:=(a - 1)*(a - 1) < V / 2 ^ (2*(c - e))∧V / 2 ^ (2*(c - e)) < (a+1)*(a+1)∧2 ^ e≤a∧a≤2 ^ (e+1)
theorem RootOk.start {V c:Nat} (h1:2 ^ (2*c)≤V) (h2:V < 2 ^ (2*c+2)):RootOk V c 0 1:=by
 have e1:1≤V / 2 ^ (2*c):=(Nat.le_div_iff_mul_le (Nat.two_pow_pos _)).2 (by omega)
 have e2:V / 2 ^ (2*c) < 4:=Nat.div_lt_of_lt_mul (by rw [Nat.pow_add] at h2;omega)
 unfold RootOk
 rw [Nat.sub_zero]
 exact ⟨by omega,by omega,by simp,by simp⟩
theorem RootOk.next {V c e d a:Nat} (h1:2 ^ (2*c)≤V) (h2:V < 2 ^ (2*c+2)) (h:RootOk V c e a) (hed:e < d) (hd:d≤2*e+1) (hdc:d≤c) :
 RootOk V c d (a*2 ^ (d - e - 1)+V / 2 ^ (2*c - e - d+1) / a):=by
 obtain ⟨k1,k2,k3,k4⟩:=h
 obtain ⟨P,hP⟩:∃ P,P=2 ^ (d - e - 1):=⟨_,rfl⟩
 obtain ⟨M,hM⟩:∃ M,M=V / 2 ^ (2*(c - d)):=⟨_,rfl⟩
 have hP0:0 < P:=by rw [hP];exact Nat.two_pow_pos _
 have hPa:P≤a:=Nat.le_trans (by rw [hP];exact Nat.pow_le_pow_right (by decide) (by omega)) k3
 have e1:V / 2 ^ (2*(c - e))=M / (4*(P*P)):=by
  rw [hM,hP,Nat.div_div_eq_div_mul,show (4:Nat)=2 ^ 2 from rfl,← Nat.pow_add,← Nat.pow_add,← Nat.pow_add]
  congr 2;omega
 have e2:V / 2 ^ (2*c - e - d+1)=M / (4*P):=by
  rw [hM,hP,Nat.div_div_eq_div_mul,show (4:Nat)=2 ^ 2 from rfl,← Nat.pow_add,← Nat.pow_add]
  congr 2;omega
 rw [e1] at k1 k2
 have r:=root_step hP0 hPa rfl k1 k2
 rw [← hP,e2,Nat.mul_comm a P]
 generalize P*a+M / (4*P) / a=b at r ⊢
 have l1:2 ^ d*2 ^ d≤M:=by
  rw [hM,← Nat.pow_add,Nat.le_div_iff_mul_le (Nat.two_pow_pos _),← Nat.pow_add]
  exact Nat.le_trans (Nat.pow_le_pow_right (by decide) (by omega)) h1
 have l2:M≤2 ^ (d+1)*2 ^ (d+1):=by
  rw [hM,← Nat.pow_add]
  refine Nat.le_of_lt (Nat.div_lt_of_lt_mul ?_)
  rw [← Nat.pow_add]
  exact Nat.lt_of_lt_of_le h2 (Nat.pow_le_pow_right (by decide) (by omega))
 rw [hM] at r l1 l2
 exact ⟨r.1,r.2,root_low r.2 l1,root_high r.1 l2⟩
theorem RootOk.top {V c e d:Nat} (h2:V < 2 ^ (2*c+2)) (hed:e+d≤2*c):V / 2 ^ (2*c - e - d+1) < 2 ^ (e+d+1):=by
 refine Nat.div_lt_of_lt_mul ?_
 rw [← Nat.pow_add]
 exact Nat.lt_of_lt_of_le h2 (Nat.pow_le_pow_right (by decide) (by omega))
end
section
open Go.RowKit
end
section
open Go.RowKit
def OwnN (w:World) (B g n c V:Nat):Prop :=
 ∃ L,Own .u64 74 w g L∧L.length=c∧n≤c∧c≤35184372088832∧Lim B64 L∧L.take n=limbs B64 V∧B≤g
def GivesO (w:World) (V:Nat) (e:Ending) (w':World):Prop :=
 ∃ g n c,e=.returned (.slice (some ⟨g,0,none⟩) n c)∧OwnN w' w.heap.size g n c V∧Below w.heap.size w w'
theorem OwnN.below {w w':World} {B g n c V:Nat} (h:OwnN w B g n c V) (hb:Below w.heap.size w w'):OwnN w' B g n c V:=by
 obtain ⟨L,h1,h2⟩:=h
 exact ⟨L,h1.below hb h1.lt,h2⟩
theorem OwnN.more {B B' g n c V:Nat} (h:OwnN w B g n c V) (hB:B'≤B):OwnN w B' g n c V:=by
 obtain ⟨L,h1,h2,h3,h4,h5,h6,h7⟩:=h
 exact ⟨L,h1,h2,h3,h4,h5,h6,Nat.le_trans hB h7⟩
theorem of_own (v:Nat) (hv:v < B64) (h0:v ≠ 0) (w:World) :
 Calls Tryz.prog 90 #[.int .u64 (v:Int)] w (GivesO w v):=by
 have hne:((v:Int) == 0)=false:=by simp;omega
 go_enter Tryz.func90,Tryz.ntmps90
 go_wp2
 go_ret
 refine ⟨_,_,_,rfl,⟨[v],heap_alloc_new w _,rfl,Nat.le_refl _,by decide,lim1 hv,?_,Nat.le_refl _⟩,(Below.refl _ _).alloc (Nat.le_refl _) _⟩
 rw [limbs_small B64_two hv h0];rfl
section
variable {w:World} {A B:Option Addr} {n c m d U V k k1 k2:Nat}
theorem bits_nr (X:NR w A n c V k) (hk:k≤1000000) :
 Calls Tryz.prog 87 #[.slice A n c] w fun e w'=>e=.returned (.int .i64 (bl V:Nat))∧w=w':=by
 obtain ⟨la,a1,a2,rfl,a4,a5⟩:=X
 exact bits_any la A n c w a1 a2 (by omega) a4
end
end
section
open Go.RowKit
theorem OwnN.lt {B g n c V:Nat} (h:OwnN w B g n c V):g < w.heap.size:=by
 obtain ⟨L,h1,_⟩:=h
 exact h1.lt
theorem OwnN.le {B g n c V:Nat} (h:OwnN w B g n c V):B≤g:=by
 obtain ⟨L,_,_,_,_,_,_,h⟩:=h
 exact h
end
section
open Go.RowKit
theorem b32_pos (k:Nat):0 < B32 ^ k:=Nat.pow_pos (by decide)
theorem RN.zero (w:World) (k:Nat):RN w none 0 0 0 k:=RN.of (by rw [limbs_zero];exact Rd.nil) (Nat.le_refl _) (b32_pos _)
end
section
open Go.RowKit
def By (W:World) (g:Nat) (x y:Value):Prop:=W.heap[g]?=some (.cells #[x,y] 41 (0,0))
section
variable {W W':World} {g:Nat} {x y:Value}
theorem By.c0 (h:By W g x y):W.cell? ⟨g,0,none⟩=some x:=by rw [cell_of_row W g 0 _ _ (0,0) h];rfl
theorem By.c1 (h:By W g x y):W.cell? ⟨g,1,none⟩=some y:=by rw [cell_of_row W g 1 _ _ (0,0) h];rfl
theorem By.all (h:By W g x y):W.cell? ⟨g,0,none⟩=some x∧W.cell? ⟨g,1,none⟩=some y:=⟨h.c0,h.c1⟩
theorem By.f0 (h:By W g x y):W.frozen? ⟨g,0,none⟩=false:=frozen_of_row W g 0 _ _ h
theorem By.f1 (h:By W g x y):W.frozen? ⟨g,1,none⟩=false:=frozen_of_row W g 1 _ _ h
theorem By.lt (h:By W g x y):g < W.heap.size:=World.block_lt_of_cell? W _ h.c0
theorem By.below (h:By W g x y) (hb:Below W.heap.size W W'):By W' g x y:=(hb.block g h.lt).trans h
theorem By.drew (h:By W g x y):By W.drew g x y:=h
theorem By.alloc (h:By W g x y) (o:Obj):By (W.alloc o) g x y:=(Below.heap_alloc W o g h.lt).trans h
theorem By.new (W:World) (x y:Value):By (W.alloc (.cells #[x,y] 41)) W.heap.size x y:=heap_alloc_new W _
theorem By.new' (W:World) (x y:Value) (g:Nat) (hg:g=W.heap.size):By (W.alloc (.cells #[x,y] 41)) g x y:=by subst hg;exact By.new W x y
theorem By.set2 (h:By W g x y) (u v:Value):By ((W.setCell ⟨g,0,none⟩ u).setCell ⟨g,1,none⟩ v) g u v:=by
 unfold By at h ⊢
 simp [World.setCell,Array.getElem?_modify,h]
theorem By.off {s:Bool} {A' A:Option Addr} {n' c' n:Nat} {K:IntKind} {l:List Nat} (h:By W g (.bool s) (.slice A' n' c')) (hr:Rd K W A n l):Off A n g:=by
 intro hn ad e hg
 obtain ⟨b,o,eA,hc⟩:=hr.at_ hn
 obtain ⟨x,_,hx⟩:=hc 0 hn
 rw [eA] at e
 cases e
 have hg2:b=g:=hg
 subst hg2
 rw [cell_of_row W b (o+0) _ _ (0,0) h] at hx
 match o,hx with
 | 0,hx=>cases hx
 | 1,hx=>cases hx
 | o+2,hx=>cases hx
end
def RZ (w:World) (s:Bool) (A:Option Addr) (n c:Nat) (v:Int) (k:Nat):Prop:=∃ U,RN w A n c U k∧iv s U=v
def RG (w:World) (s:Bool) (A:Option Addr) (n c:Nat) (v:Int) (k:Nat):Prop:=s=decide (v < 0)∧RN w A n c v.natAbs k
def GivesRZ (w:World) (v:Int) (k:Nat) (e:Ending) (w':World):Prop :=
 ∃ s A n c,e=.returned (.agg #[.bool s,.slice A n c])∧RG w' s A n c v k∧Below w.heap.size w w'
theorem iv_canon (v:Int):iv (decide (v < 0)) v.natAbs=v:=by
 unfold iv
 by_cases h:v < 0
 · simp [h];omega
 · simp [h];omega
theorem RG.rz {s:Bool} {A:Option Addr} {n c k:Nat} {v:Int} (h:RG w s A n c v k):RZ w s A n c v k:=⟨_,h.2,by rw [h.1];exact iv_canon v⟩
theorem RG.below {w w':World} {s:Bool} {A:Option Addr} {n c k:Nat} {v:Int} (h:RG w s A n c v k) (hb:Below w.heap.size w w'):RG w' s A n c v k:=⟨h.1,h.2.below hb⟩
theorem RZ.below {w w':World} {s:Bool} {A:Option Addr} {n c k:Nat} {v:Int} (h:RZ w s A n c v k) (hb:Below w.heap.size w w'):RZ w' s A n c v k:=by
 obtain ⟨U,h1,h2⟩:=h
 exact ⟨U,h1.below hb,h2⟩
theorem rn_pos {A:Option Addr} {n c V k:Nat} (h:RN w A n c V k):decide (0 < n)=decide (0 < V):=by
 have hl:=h.1.1
 by_cases h0:V=0
 · rw [h0,limbs_zero] at hl
   rw [h0,← hl];rfl
 · rw [limbs_pos B32_two h0] at hl
   simp at hl
   rw [decide_eq_true (by omega:0 < n),decide_eq_true (by omega:0 < V)]
theorem close_rz {w W:World} {g k:Nat} {s z:Bool} {A A':Option Addr} {n c n' c' V:Nat} {v:Int} (hb:Below w.heap.size w W) (hg:w.heap.size≤g) (Z:By W g (.bool z) (.slice A' n' c')) (X:RN W A n c V k) (hv:v=iv s V) (u x:Value) :
 GivesRZ w v k (.returned (.agg #[.bool (s && decide (0 < n)),.slice A n c])) ((W.setCell ⟨g,0,none⟩ u).setCell ⟨g,1,none⟩ x):=by
 subst hv
 refine ⟨_,A,n,c,rfl,⟨?_,?_⟩,(hb.setCell hg _).setCell hg _⟩
 · rw [iv_neg,rn_pos X]
 · rw [iv_natAbs]
   exact ⟨X.1.only (Z.off X.1) (((Only.refl g W).setCell 0 u).setCell 1 x),X.2⟩
theorem made_any (neg:Bool) (A:Option Addr) (n c:Nat) (w:World) :
 Calls Tryz.prog 76 #[.bool neg,.slice A n c] w fun e w'=>e=.returned (.agg #[.bool (neg && decide (0 < n)),.slice A n c])∧Below w.heap.size w w':=by
 cases neg
 · go_enter Tryz.func76,Tryz.ntmps76
   go_wp2
   go_returns
   exact ⟨rfl,(Below.refl _ _).alloc (Nat.le_refl _) _⟩
 · go_enter Tryz.func76,Tryz.ntmps76
   go_wp2
   go_returns
   exact ⟨by simp,(Below.refl _ _).alloc (Nat.le_refl _) _⟩
theorem mkbx5_7 {w W:World} {x0 x1 x2 x3:Value} (h:((w.alloc (Obj.cells #[x0,x1] 25)).alloc (Obj.cells #[x2,x3] 41))=W):Below w.heap.size w W∧Bx W (w.heap.size) x0 x1∧By W (w.heap.size+1) x2 x3∧W.heap.size=w.heap.size+2:=by subst h;exact ⟨by exact (((Below.refl _ _).alloc (Nat.le_refl _) _).alloc (by simp) _),by exact (Bx.new w _ _).alloc _,by exact By.new' _ _ _ _ (by simp),by simp⟩
theorem rin2 {s:Bool} {A:Option Addr} {n c k:Nat} {v:Int} (X0:ZR w s A n c v k) (hk:k≤1000) :
 Calls Tryz.prog 37 #[.agg #[.bool s,.slice A n c]] w (GivesRZ w (v) (2*k)):=by
 obtain ⟨V,X,hv⟩:∃ V,NR w A n c V k∧iv s V=v:=by
  obtain ⟨l,h1,h2,h3,h4,h5,h6⟩:=X0
  exact ⟨_,⟨l,h1,h2,rfl,h4,h5⟩,h3⟩
 subst hv
 clear X0
 go_enter Tryz.func37,Tryz.ntmps37
 go_wp2_with fail
 generalize hW:World.alloc _ _=W
 obtain ⟨hb,XA,Z,hz⟩:=mkbx5_7 hW;clear hW;replace X:=X.below hb
 replace X:=X.below (Below.refl _ _).drew
 replace XA:=XA.below (Below.refl _ _).drew
 replace Z:=Z.below (Below.refl _ _).drew
 replace hb:=hb.drew
 go_region_held3 (fun w'=>w'.cell? ⟨w.heap.size,0,none⟩=some (Value.bool s)∧w'.cell? ⟨w.heap.size,1,none⟩=some (Value.slice A n c))
  (first | with_reducible exact ⟨XA.c0,XA.c1⟩ | with_reducible exact ⟨(set2_cell _ _ _ _ _ _ (by omega)).trans XA.c0,(set2_cell _ _ _ _ _ _ (by omega)).trans XA.c1⟩)
  (first
  | (go_at_call 34;(with_reducible refine (rin_nr (2*k) X (by omega) rfl).mono ?_);rintro e w_x ⟨A_x,n_x,c_x,rfl,x,hh⟩
     (try replace X:=X.below hh);(try replace Y:=Y.below hh);(try replace XA:=XA.below hh);(try replace XB:=XB.below hh);(try replace Z:=Z.below hh);(try replace T:=T.below hh);replace hb:=bend hb hh)
  | (go_at_call 76;(with_reducible refine (made_any _ _ _ _ _).mono ?_);rintro e w_m ⟨rfl,hh⟩
     (try replace X:=X.below hh);(try replace Y:=Y.below hh);(try replace x:=x.below hh);(try replace XA:=XA.below hh);(try replace XB:=XB.below hh);(try replace Z:=Z.below hh);(try replace T:=T.below hh);replace hb:=bend hb hh;obtain ⟨r0,r1⟩:=Z.all;have r2:=Z.f0;have r3:=Z.f1))
 go_wp2
 have hf0:=(Z.set2 (.bool (s && decide (0 < n_x))) (.slice A_x n_x c_x)).c0
 have hf1:=(Z.set2 (.bool (s && decide (0 < n_x))) (.slice A_x n_x c_x)).c1
 refine bodyPost_ret (v:=.agg #[.bool (s && decide (0 < n_x)),.slice A_x n_x c_x]) (by simp [results,Tryz.results37,go_sem,hf0,hf1]) rfl ?_
 exact close_rz (s:=s) (g:=w.heap.size+1) hb (by omega) Z x rfl _ _
theorem RN.more {A:Option Addr} {n c V k k1:Nat} (h:RN w A n c V k) (hk:k≤k1):RN w A n c V k1:=⟨h.1,h.2.1,Nat.le_trans h.2.2 hk⟩
theorem sgn_iv_t {U:Nat} (h:U ≠ 0):sgn (iv true U)=-1:=by unfold sgn iv;rw [if_pos (by simp;omega)]
theorem sgn_iv_f {U:Nat} (h:U ≠ 0):sgn (iv false U)=1:=by unfold sgn iv;rw [if_neg (by simp),if_neg (by simp;omega)]
theorem rsign2 {s:Bool} {A:Option Addr} {n c k:Nat} {v:Int} (X:RZ w s A n c v k) :
 Calls Tryz.prog 68 #[.agg #[.bool s,.slice A n c]] w fun e w'=>e=.returned (.int .i64 (sgn v))∧Below w.heap.size w w':=by
 obtain ⟨U,X,rfl⟩:=X
 by_cases h0:U=0
 · subst h0
   have hn:n=0:=by have:=X.1.1;rw [limbs_zero] at this;exact this.symm
   subst hn
   have HS:Hid (sgn (iv s 0)=0):=by show _=_;cases s <;> rfl
   go_enter Tryz.func68,Tryz.ntmps68
   go_wp2_with fail
   go_ret
   exact ⟨ret_int (by rw [HS.out]),(Below.refl _ _).alloc (Nat.le_refl _) _⟩
 · have hn : 0 < n := by
     have:=X.1.1
     rw [limbs_pos B32_two h0] at this
     simp at this;omega
   have hnz:((n:Int) == 0)=false:=by simp;omega
   cases s
   · have HS:=Lib.hid (sgn_iv_f h0)
     clear h0 hn
     go_enter Tryz.func68,Tryz.ntmps68
     go_wp2_with fail
     go_ret
     exact ⟨ret_int (by rw [HS.out]),(Below.refl _ _).alloc (Nat.le_refl _) _⟩
   · have HS:=Lib.hid (sgn_iv_t h0)
     clear h0 hn
     go_enter Tryz.func68,Tryz.ntmps68
     go_wp2_with fail
     go_ret
     exact ⟨ret_int (by rw [HS.out]),(Below.refl _ _).alloc (Nat.le_refl _) _⟩
end
section
open Go.RowKit
def ZG (w:World) (s:Bool) (A:Option Addr) (n c:Nat) (v:Int) (k:Nat):Prop:=s=decide (v < 0)∧Rd .u64 w A n (limbs B64 v.natAbs)∧n≤c∧n≤k
theorem ZG.below {w w':World} {s:Bool} {A:Option Addr} {n c k:Nat} {v:Int} (h:ZG w s A n c v k) (hb:Below w.heap.size w w'):ZG w' s A n c v k:=⟨h.1,h.2.1.below hb,h.2.2⟩
theorem ZG.zr {s:Bool} {A:Option Addr} {n c k:Nat} {v:Int} (h:ZG w s A n c v k):ZR w s A n c v k:=by
 obtain ⟨h1,h2,h3,h4⟩:=h
 have hl:=val_lt (lim_limbs B64_two v.natAbs)
 rw [val_limbs B64_two,h2.1] at hl
 exact ⟨_,h2,lim_limbs B64_two _,by rw [val_limbs B64_two,h1,iv_canon],h3,h4,Nat.lt_of_lt_of_le hl (Nat.pow_le_pow_right (by decide) h4)⟩
theorem Bx.offx {W:World} {g:Nat} {s:Bool} {A' A:Option Addr} {n' c' n:Nat} {K:IntKind} {l:List Nat} (h:Bx W g (.bool s) (.slice A' n' c')) (hr:Rd K W A n l):Off A n g:=by
 intro hn ad e hg
 obtain ⟨b,o,eA,hc⟩:=hr.at_ hn
 obtain ⟨x,_,hx⟩:=hc 0 hn
 rw [eA] at e
 cases e
 have hg2:b=g:=hg
 subst hg2
 rw [cell_of_row W b (o+0) _ _ (0,0) h] at hx
 match o,hx with
 | 0,hx=>cases hx
 | 1,hx=>cases hx
 | o+2,hx=>cases hx
end
section
open Go.RowKit
section
variable {W W':World} {g:Nat} {x y z u:Value}
end
theorem mkbx6_7 {w W:World} {x0 x1:Value} (h:(w.alloc (Obj.cells #[x0,x1] 41))=W):Below w.heap.size w W∧By W (w.heap.size) x0 x1∧W.heap.size=w.heap.size+1:=by subst h;exact ⟨by exact ((Below.refl _ _).alloc (Nat.le_refl _) _),by exact By.new w _ _,by simp⟩
theorem rof2_pos (V:Nat) (hV:V < 9223372036854775808) (w:World) :
 Calls Tryz.prog 82 #[.int .i64 ((V:Int))] w (GivesRZ w ((V:Int)) 2):=by
 have hV64:V < B64:=by unfold B64;omega
 go_enter Tryz.func82,Tryz.ntmps82
 go_wp2_with fail
 generalize hW:World.alloc _ _=W
 obtain ⟨hb,Z,hz⟩:=mkbx6_7 hW;clear hW
 go_wp2_with (first
  | (go_at_call 35;(with_reducible refine (rofv_rn V hV64 _).mono ?_);rintro e w_x ⟨A_x,n_x,c_x,rfl,x,hh⟩
     (try replace X:=X.below hh);(try replace Y:=Y.below hh);(try replace XA:=XA.below hh);(try replace XB:=XB.below hh);(try replace Z:=Z.below hh);(try replace T:=T.below hh);replace hb:=bend hb hh)
  | (go_at_call 76;(with_reducible refine (made_any _ _ _ _ _).mono ?_);rintro e w_m ⟨rfl,hh⟩
     (try replace X:=X.below hh);(try replace Y:=Y.below hh);(try replace x:=x.below hh);(try replace XA:=XA.below hh);(try replace XB:=XB.below hh);(try replace Z:=Z.below hh);(try replace T:=T.below hh);replace hb:=bend hb hh;obtain ⟨r0,r1⟩:=Z.all;have r2:=Z.f0;have r3:=Z.f1))
 have hf0:=(Z.set2 (.bool (false && decide (0 < n_x))) (.slice A_x n_x c_x)).c0
 have hf1:=(Z.set2 (.bool (false && decide (0 < n_x))) (.slice A_x n_x c_x)).c1
 simp only [Bool.false_and] at hf0 hf1
 refine bodyPost_ret (v:=.agg #[.bool (false && decide (0 < n_x)),.slice A_x n_x c_x]) (by simp [results,Tryz.results82,go_sem,hf0,hf1]) rfl ?_
 exact close_rz (s:=false) (g:=w.heap.size) hb (Nat.le_refl _) Z x (by simp [iv]) _ _
theorem rof2_neg (V:Nat) (hV0:0 < V) (hV:V≤9223372036854775808) (w:World) :
 Calls Tryz.prog 82 #[.int .i64 (-(V:Int))] w (GivesRZ w (-(V:Int)) 2):=by
 have hV64:V < B64:=by unfold B64;omega
 obtain ⟨V',hV'⟩:∃ V',V=V'+1:=⟨V - 1,by omega⟩
 have e1:-(-(V:Int)+1)=(V':Int):=by omega
 have e2:(V':Int)+1=(V:Int):=by omega
 have hV2:V' < 9223372036854775808:=by omega
 clear hV'
 go_enter Tryz.func82,Tryz.ntmps82
 go_wp2_with fail
 generalize hW:World.alloc _ _=W
 obtain ⟨hb,Z,hz⟩:=mkbx6_7 hW;clear hW
 go_wp2_with (first
  | (go_at_call 35;(with_reducible refine (rofv_rn V hV64 _).mono ?_);rintro e w_x ⟨A_x,n_x,c_x,rfl,x,hh⟩
     (try replace X:=X.below hh);(try replace Y:=Y.below hh);(try replace XA:=XA.below hh);(try replace XB:=XB.below hh);(try replace Z:=Z.below hh);(try replace T:=T.below hh);replace hb:=bend hb hh)
  | (go_at_call 76;(with_reducible refine (made_any _ _ _ _ _).mono ?_);rintro e w_m ⟨rfl,hh⟩
     (try replace X:=X.below hh);(try replace Y:=Y.below hh);(try replace x:=x.below hh);(try replace XA:=XA.below hh);(try replace XB:=XB.below hh);(try replace Z:=Z.below hh);(try replace T:=T.below hh);replace hb:=bend hb hh;obtain ⟨r0,r1⟩:=Z.all;have r2:=Z.f0;have r3:=Z.f1))
 have hf0:=(Z.set2 (.bool (true && decide (0 < n_x))) (.slice A_x n_x c_x)).c0
 have hf1:=(Z.set2 (.bool (true && decide (0 < n_x))) (.slice A_x n_x c_x)).c1
 simp only [Bool.true_and] at hf0 hf1
 refine bodyPost_ret (v:=.agg #[.bool (true && decide (0 < n_x)),.slice A_x n_x c_x]) (by simp [results,Tryz.results82,go_sem,hf0,hf1]) rfl ?_
 exact close_rz (s:=true) (g:=w.heap.size) hb (Nat.le_refl _) Z x (by simp [iv]) _ _
theorem RG.of_made {s neg:Bool} {A:Option Addr} {n c V k:Nat} (h:RN w A n c V k) (hs:s=(neg && decide (0 < n))):RG w s A n c (iv neg V) k :=
 ⟨by rw [hs,iv_neg,rn_pos h],by rw [iv_natAbs];exact h⟩
theorem below_set2 {B g:Nat} {w W:World} (h:Below B w W) (hg:B≤g) (x y:Value):Below B w ((W.setCell ⟨g,0,none⟩ x).setCell ⟨g,1,none⟩ y):=(h.setCell hg _).setCell hg _
theorem RG.set2 {W:World} {g:Nat} {s0 s:Bool} {A1 A:Option Addr} {n1 c1 n c k:Nat} {v:Int} (X:RG W s A n c v k) (Z:By W g (.bool s0) (.slice A1 n1 c1)) (x y:Value):RG ((W.setCell ⟨g,0,none⟩ x).setCell ⟨g,1,none⟩ y) s A n c v k :=
 ⟨X.1,X.2.1.only (Z.off X.2.1) (((Only.refl g W).setCell 0 x).setCell 1 y),X.2.2⟩
theorem RN.set2 {W:World} {g:Nat} {s0:Bool} {A1 A:Option Addr} {n1 c1 n c V k:Nat} (X:RN W A n c V k) (Z:By W g (.bool s0) (.slice A1 n1 c1)) (x y:Value):RN ((W.setCell ⟨g,0,none⟩ x).setCell ⟨g,1,none⟩ y) A n c V k :=
 ⟨X.1.only (Z.off X.1) (((Only.refl g W).setCell 0 x).setCell 1 y),X.2⟩
theorem By.other {W:World} {g k:Nat} {x y:Value} (h:By W g x y) (hne:g ≠ k) (u v:Value):By ((W.setCell ⟨k,0,none⟩ u).setCell ⟨k,1,none⟩ v) g x y:=by
 unfold By at h ⊢
 rw [Below.heap_setCell _ _ _ _ hne,Below.heap_setCell _ _ _ _ hne];exact h
end
end Go.Proofs.YtlpogecpdfdggaaGreat
