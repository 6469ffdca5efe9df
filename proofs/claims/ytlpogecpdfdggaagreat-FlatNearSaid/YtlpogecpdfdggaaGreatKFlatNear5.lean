/- FlatNear: part 5. -/
import Derived.BigRegion
import Derived.Deep.Cut
import Derived.Deep.CutRange
import Derived.Deep.RegionHeld3
import Derived.Test.YtlpogecpdfdggaaGreatKFlatNear1
import Derived.Test.YtlpogecpdfdggaaGreatKFlatNear3
import Derived.Test.YtlpogecpdfdggaaGreatKFlatNear4
set_option linter.unusedVariables false
set_option maxRecDepth 100000
set_option maxHeartbeats 16000000
variable {w:Go.World}
namespace Go.Proofs.YtlpogecpdfdggaaGreat
section
open Go Go.RowKit
theorem add_into {B:Nat} {Z Q P:List Nat} {h N X:Nat} (hZ:Z.length=N) (hh:h≤N) (hX:val B Z+B ^ h*val B Q=X) (hlt:X < B ^ N) (hP:val B P=(val B (Z.drop h)+val B Q) % B ^ (N - h)) :
 val B (Z.take h ++ P)=X:=by
 have h1:=val_take_drop (B:=B) Z h (by omega)
 have h2:B ^ N=B ^ h*B ^ (N - h):=by rw [← Nat.pow_add];congr 1;omega
 have h3:B ^ h*(val B (Z.drop h)+val B Q)≤X:=by rw [← hX,h1,Nat.mul_add];omega
 have h4:val B (Z.drop h)+val B Q < B ^ (N - h):=by
  rcases Nat.lt_or_ge (val B (Z.drop h)+val B Q) (B ^ (N - h)) with h5 | h5
  · exact h5
  · have h6:=Nat.mul_le_mul_left (B ^ h) h5
    rw [← h2] at h6;omega
 rw [val_append,List.length_take,Nat.min_eq_left (by omega),hP,Nat.mod_eq_of_lt h4,← hX,h1,Nat.mul_add]
 omega
theorem kara_math {a0 a1 b0 b1 p L H S:Nat} (hL:L=a0*b0) (hH:H=a1*b1) (hS:S=(a0+a1)*(b0+b1)) :
 L≤S∧H≤S - L∧(L+p*p*H)+p*(S - L - H)=(a0+p*a1)*(b0+p*b1):=by
 have e:S=L+H+(a0*b1+a1*b0):=by rw [hL,hH,hS];grind
 have e2:S - L - H=a0*b1+a1*b0:=by omega
 refine ⟨by omega,by omega,?_⟩
 rw [e2,hL,hH];grind
def ProdOf (la lb:List Nat) (n m:Nat) (w:World) (e:Ending) (w':World):Prop :=
 ∃ N g L,N=n+m∧e=.returned (.slice (some ⟨g,0,none⟩) N N)∧w.heap.size≤g∧L.length=N∧Lim B64 L∧val B64 L=val B64 la*val B64 lb∧Own .u64 74 w' g L∧Below w.heap.size w w'
def PHyp (T:Nat):Prop:=∀ (la lb:List Nat) (A B:Option Addr) (n c m d:Nat) (w:World),Rd .u64 w A n la→Rd .u64 w B m lb→Lim B64 la→Lim B64 lb→n≤c→m≤d→n+m < T →
 Calls Tryz.prog 124 #[.slice A n c,.slice B m d] w (ProdOf la lb n m w)
theorem kbend {w w1 w2:World} (h:Below w.heap.size w w1) (k:Below w1.heap.size w1 w2):Below w.heap.size w w2:=h.trans (k.mono h.size)
theorem PHyp.use {T:Nat} (H:PHyp T) {la lb:List Nat} {A B:Option Addr} {n c m d:Nat} (h1:Rd .u64 w A n la) (h2:Rd .u64 w B m lb) (h3:Lim B64 la) (h4:Lim B64 lb) (h5:n≤c) (h6:m≤d) (h7:n+m < T) :
 Calls Tryz.prog 124 #[.slice A n c,.slice B m d] w (ProdOf la lb n m w):=H la lb A B n c m d w h1 h2 h3 h4 h5 h6 h7
theorem Own.rdc {K:IntKind} {e:TypeId} {g n:Nat} {L:List Nat} (h:Own K e w g L) (hl:L.length=n):Rd K w (some ⟨g,0,none⟩) n L:=h.rd hl (fun j x hx=>by rw [Nat.zero_add];exact hx)
theorem mul_fits {la lb:List Nat} {n m:Nat} (La:Lim B64 la) (Lb:Lim B64 lb) (h1:la.length=n) (h2:lb.length=m):val B64 la*val B64 lb < B64 ^ (n+m):=by
 have e1:=val_lt La;have e2:=val_lt Lb;rw [h1] at e1;rw [h2] at e2;rw [Nat.pow_add]
 exact Nat.mul_lt_mul'' e1 e2
theorem uneven_any (la lb:List Nat) (b o n c m d h:Nat) (B:Option Addr) (w:World) (ha:Rd .u64 w (some ⟨b,o,none⟩) n la) (hb:Rd .u64 w B m lb) (La:Lim B64 la) (Lb:Lim B64 lb) (hnc:n≤c) (hmd:m≤d)
 (hnm0:n+m≤1000000) (IH:PHyp (n+m)) (hh0:0 < h) (hhn:h < n) :
 Calls Tryz.prog 146 #[.slice (some ⟨b,o,none⟩) n c,.slice B m d,.int .i64 (h:Int)] w (ProdOf la lb n m w):=by
 have HNM:=Lib.hid hnm0
 have ha1:=ha.take (k:=h) (by omega)
 have ha2:=ha.drop (k:=h) (A':=some ⟨b,o+h,none⟩) (by omega) (fun _=>by simp [add_at])
 have hal:=Lib.hid ha.1;have hbl:=Lib.hid hb.1;have HI:=Lib.hid IH
 have hX:=Lib.hid (mul_fits La Lb ha.1 hb.1)
 have hle:(h:Int)≤(c:Int):=by omega
 have hle2:(h:Int)≤(n:Int):=by omega
 clear IH
 go_enter Tryz.func146,Tryz.ntmps146
 go_upto_region 3 with (first
  | (at_make;refine wpList_make64 _ rfl (.tmp 12) (.tmp 12) rfl .i64 .i64 _ _ (n+m) rfl rfl (by omega) (by omega) (by omega) ?_;intro w1 hown1 hb1)
  | (go_at_call 124;(with_reducible refine (HI.out.use (ha1.below hb1) (hb.below hb1) (La.take _) Lb (by omega) hmd (by omega)).mono ?_);rintro e w2 ⟨N1,g1,L1,hN1,rfl,hg1,hl1,hL1,hv1,ho1,hb2⟩
     have HN1:=Lib.hid hN1
     have hle3:(N1:Int)≤(n+m:Nat):=by omega
     clear hN1)
  | (refine wpList_copy64 _ rfl (.tmp 14) (.tmp 19) rfl w.heap.size 0 _ _ N1 N1 (some ⟨g1,0,none⟩) rfl rfl [] (List.replicate N1 0) (List.replicate (n+m - N1) 0) L1 (by rw [List.nil_append,List.replicate_append_replicate,Nat.add_sub_cancel' (by have:=HN1.out;omega)];exact hown1.below hb2 (by have:=hown1.lt;omega)) rfl (by simp) (by have:=HN1.out;omega) (ho1.rdc hl1) ?_;intro w3 hown3 ho3))
 rw [List.nil_append] at hown3
 have hb3:Below w.heap.size w w3:=Below.only (kbend hb1 hb2) (Nat.le_refl _) (by have:=hb1.size;have:=hb2.size;omega) ho3
 have hg3:w.heap.size < w3.heap.size:=hown3.lt
 have ha3:=ha2.below hb3;have hbb3:=hb.below hb3
 generalize hZ:L1 ++ List.replicate (n+m - N1) 0=Z at hown3
 have hZl:Z.length=n+m:=by rw [← hZ,List.length_append,List.length_replicate,hl1];have:=HN1.out;omega
 have hZL:Lim B64 Z:=by rw [← hZ];exact hL1.append (Lim.zeros _ (by decide))
 have hZv:val B64 Z=val B64 (List.take h la)*val B64 lb:=by rw [← hZ,val_snoc_zeros,hv1]
 have HZ:Hid (Z.length=n+m∧val B64 Z=val B64 (List.take h la)*val B64 lb):=⟨hZl,hZv⟩
 clear hZ hZl hZv hl1 hL1 hv1 ho1 hg1
 have hs1:n - h≤c - h:=by omega
 have hs2:n - h+m < n+m:=by omega
 have hch:¬ c=h:=by omega
 have hzh:¬ n+m=h:=by omega
 have hle4:(h:Int)≤(n:Int)+(m:Int):=by omega
 replace hown3:=hown3.drew;replace ha3:=ha3.drew;replace hbb3:=hbb3.drew;replace hb3:=hb3.drew
 replace hg3:w.heap.size < w3.drew.heap.size:=hg3
 go_region_held3 (fun _=>True)
  (first | exact trivial)
  (first
  | (go_at_call 124;(with_reducible refine (HI.out.use ha3 hbb3 (La.drop _) Lb hs1 hmd hs2).mono ?_);rintro e w4 ⟨N2,g2,L2,hN2,rfl,hg2,hl2,hL2,hv2,ho2,hb4⟩
     have HN2:=Lib.hid hN2;clear hN2;have hown4:=hown3.below hb4 hg3
     have hne:w.heap.size ≠ g2:=by have:=hg2;omega)
  | (go_at_call 149
     refine (addTo_any L2 (Z.take h) (Z.drop h) [] w.heap.size h (n+m - h) _ N2 N2 (some ⟨g2,0,none⟩) _ (by rw [List.append_nil,List.take_append_drop];exact hown4) (by rw [List.length_take];have:=HZ.out.1;omega) (by rw [List.length_drop];have:=HZ.out.1;omega) (ho2.rdc hl2) (fun _ ad e=>by cases e;exact fun q=>hne q.symm) hL2 (hZL.drop _) (by have:=HN2.out;omega) (by unfold maxLen;omega)).mono ?_
     rintro e w5 ⟨rfl,⟨P,hP1,hP2,hP3,hP4⟩,ho5⟩))
 have e1:val B64 Z+B64 ^ h*val B64 L2=val B64 la*val B64 lb:=by
  rw [HZ.out.2,hv2,val_take_drop la h (by have:=hal.out;omega),Nat.add_mul,Nat.mul_assoc]
 have e2:=add_into HZ.out.1 (by omega) e1 hX.out hP3
 have e3:(Z.take h ++ P).length=n+m:=by rw [List.length_append,List.length_take,hP1];have:=HZ.out.1;omega
 rw [List.append_nil] at hP4
 have e4:Below w.heap.size w w5:=Below.only (kbend hb3 hb4) (Nat.le_refl _) (by have:=hb4.size;have:=hb3.size;omega) ho5
 clear hP3 hv2 e1 hle4 hle3
 go_wp2_with fail
 go_ret
 exact ⟨n+m,w.heap.size,Z.take h ++ P,rfl,rfl,Nat.le_refl _,e3,(hZL.take _).append hP2,e2,hP4,e4⟩
theorem take_lt2 {l:List Nat} (h:Lim B64 l) (k:Nat) {n:Nat} (_hl:l.length=n):val B64 (l.take k) < B64 ^ k:=by
 have e:=val_lt (h.take k)
 rw [List.length_take] at e
 exact Nat.lt_of_lt_of_le e (Nat.pow_le_pow_right (by decide) (Nat.min_le_left _ _))
theorem drop_lt2 {l:List Nat} (h:Lim B64 l) (k:Nat) {n:Nat} (hl:l.length=n):val B64 (l.drop k) < B64 ^ (n - k):=by
 have e:=val_lt (h.drop k)
 rwa [List.length_drop,hl] at e
theorem kara_end {la lb:List Nat} {n m h:Nat} {L1 L2:List Nat} {M:Nat} (hn:la.length=n) (hm:lb.length=m) (hh:h≤n) (hh2:h≤m) (h1:L1.length=h+h)
 (v1:val B64 L1=val B64 (la.take h)*val B64 (lb.take h)) (v2:val B64 L2=val B64 (la.drop h)*val B64 (lb.drop h))
 (vM:M=(val B64 (la.take h)+val B64 (la.drop h))*(val B64 (lb.take h)+val B64 (lb.drop h)) - val B64 L1 - val B64 L2) :
 val B64 (L1 ++ L2)+B64 ^ h*M=val B64 la*val B64 lb:=by
 have e:=(kara_math (p:=B64 ^ h) v1 v2 rfl).2.2
 rw [← vM] at e
 rw [val_append,h1,Nat.pow_add,e,← val_take_drop la h (by omega),← val_take_drop lb h (by omega)]
theorem kara_le {L1 L2:List Nat} {a0 a1 b0 b1:Nat} (v1:val B64 L1=a0*b0) (v2:val B64 L2=a1*b1) :
 val B64 L1≤(a0+a1)*(b0+b1)∧val B64 L2≤(a0+a1)*(b0+b1) - val B64 L1:=by
 have e:=kara_math (p:=1) v1 v2 rfl
 exact ⟨e.1,e.2.1⟩
theorem limbs_sum_len {a b n m h:Nat} (ha:a < B64 ^ n) (hb:b < B64 ^ m) (hn:n≤h) (hm:m≤h):(limbs B64 (a+b)).length≤h+1:=by
 refine length_limbs_le B64_two ?_
 have e1:B64 ^ n≤B64 ^ h:=Nat.pow_le_pow_right (by decide) hn
 have e2:B64 ^ m≤B64 ^ h:=Nat.pow_le_pow_right (by decide) hm
 have h3:B64 ^ h*2≤B64 ^ (h+1):=by rw [Nat.pow_succ];exact Nat.mul_le_mul_left _ (by decide)
 omega
theorem halves_any (la lb:List Nat) (b o b2 o2 n c m d h:Nat) (w:World) (ha:Rd .u64 w (some ⟨b,o,none⟩) n la) (hb:Rd .u64 w (some ⟨b2,o2,none⟩) m lb) (La:Lim B64 la) (Lb:Lim B64 lb) (hnc:n≤c) (hmd:m≤d)
 (hnm0:n+m≤1000000) (IH:PHyp (n+m)) (hh0:3≤h) (hhn:h < n) (hhm:h < m) (hmn:m≤n) (hnh:n≤2*h) (hnh2:2*h≤n+1) :
 Calls Tryz.prog 147 #[.slice (some ⟨b,o,none⟩) n c,.slice (some ⟨b2,o2,none⟩) m d,.int .i64 (h:Int)] w (ProdOf la lb n m w):=by
 have HNM:=Lib.hid hnm0
 have ha1:=ha.take (k:=h) (by omega)
 have ha2:=ha.drop (k:=h) (A':=some ⟨b,o+h,none⟩) (by omega) (fun _=>by simp [add_at])
 have hb1:=hb.take (k:=h) (by omega)
 have hb2:=hb.drop (k:=h) (A':=some ⟨b2,o2+h,none⟩) (by omega) (fun _=>by simp [add_at])
 have hal:=Lib.hid ha.1;have hbl:=Lib.hid hb.1;have HI:=Lib.hid IH
 have hX:=Lib.hid (mul_fits La Lb ha.1 hb.1)
 have l1:=limbs_sum_len (take_lt2 La h hal.out) (drop_lt2 La h hal.out) (Nat.le_refl h) (show n - h≤h by omega)
 have l2:=limbs_sum_len (take_lt2 Lb h hbl.out) (drop_lt2 Lb h hbl.out) (Nat.le_refl h) (show m - h≤h by omega)
 have HL:=Lib.hid (And.intro l1 l2)
 clear IH l1 l2
 have hle:(h:Int)≤(c:Int):=by omega
 have hle2:(h:Int)≤(n:Int):=by omega
 have hle3:(h:Int)≤(d:Int):=by omega
 have hle4:(h:Int)≤(m:Int):=by omega
 have hch:¬ c=h:=by omega
 have hdh:¬ d=h:=by omega
 have hs1:n - h≤c - h:=by omega
 have hs2:m - h≤d - h:=by omega
 have hs3:h+h < n+m:=by omega
 have hs4:n - h+(m - h) < n+m:=by omega
 have hs5:h≤c:=by omega
 have hs6:h≤d:=by omega
 have hbw:Below w.heap.size w w:=Below.refl _ _
 go_enter Tryz.func147,Tryz.ntmps147
 go_upto_region 1 with (fail)
 replace ha1:=ha1.drew;replace ha2:=ha2.drew;replace hb1:=hb1.drew;replace hb2:=hb2.drew;replace hbw:=hbw.drew
 go_region_held3 (fun _=>True)
  (first | exact trivial)
  (first
  | (go_at_call 124;(with_reducible refine (HI.out.use ha1 hb1 (La.take _) (Lb.take _) hs5 hs6 hs3).mono ?_);rintro e w1 ⟨N1,g1,L1,hN1,rfl,hg1,hl1,hL1,hv1,ho1,hh1⟩
     have HN1:=Lib.hid hN1;clear hN1;replace ha1:=ha1.below hh1;replace ha2:=ha2.below hh1;replace hb1:=hb1.below hh1;replace hb2:=hb2.below hh1
     replace hg1:w.heap.size≤g1:=hg1
     replace hbw:=kbend hbw hh1))
 go_upto_region 2 with (fail)
 clear hh1;replace ha1:=ha1.drew;replace ha2:=ha2.drew;replace hb1:=hb1.drew;replace hb2:=hb2.drew;replace ho1:=ho1.drew
 have hlt1:g1 < w1.drew.heap.size:=ho1.lt
 replace hbw:=hbw.drew
 go_region_held3 (fun _=>True)
  (first | exact trivial)
  (first
  | (go_at_call 124;(with_reducible refine (HI.out.use ha2 hb2 (La.drop _) (Lb.drop _) hs1 hs2 hs4).mono ?_);rintro e w2 ⟨N2,g2,L2,hN2,rfl,hg2,hl2,hL2,hv2,ho2,hh2⟩
     have HN2:=Lib.hid hN2;clear hN2;replace ha1:=ha1.below hh2;replace ha2:=ha2.below hh2;replace hb1:=hb1.below hh2;replace hb2:=hb2.below hh2;replace ho1:=ho1.below hh2 hlt1
     have hne12:g1 ≠ g2:=by omega
     have hg2':w.heap.size≤g2:=by omega
     replace hbw:=kbend hbw hh2))
 go_upto_region 3 with (fail)
 clear hh2 hg2 hlt1;replace ha1:=ha1.drew;replace ha2:=ha2.drew;replace hb1:=hb1.drew;replace hb2:=hb2.drew;replace ho1:=ho1.drew;replace ho2:=ho2.drew
 have hlt1:g1 < w2.drew.heap.size:=ho1.lt
 have hlt2:g2 < w2.drew.heap.size:=ho2.lt
 replace hbw:=hbw.drew
 have hs7:h+(n - h)≤35184372088831:=by omega
 have hs8:h+(m - h)≤35184372088831:=by omega
 have HS:Hid (h+(n - h)≤35184372088831∧h+(m - h)≤35184372088831):=⟨hs7,hs8⟩
 clear hs7 hs8
 go_region_held3 (fun _=>True)
  (first | exact trivial)
  (first
  | (go_at_call 126;(with_reducible refine (add_any _ _ _ _ _ _ _ _ _ ha1 ha2 (La.take _) (La.drop _) HS.out.1 hs5 hs1).mono ?_);rintro e w3 ⟨A3,n3,c3,rfl,h3c,h3d,h3f,hh3⟩
     have h3r:=h3f.rd
     have h3n:n3≤h+1:=by rw [← h3r.1];exact HL.out.1
     replace ha1:=ha1.below hh3;replace ha2:=ha2.below hh3;replace hb1:=hb1.below hh3;replace hb2:=hb2.below hh3;replace ho1:=ho1.below hh3 hlt1;replace ho2:=ho2.below hh3 hlt2
     have hlt1:g1 < w3.heap.size:=ho1.lt
     have hlt2:g2 < w3.heap.size:=ho2.lt
     clear h3f;replace hbw:=kbend hbw hh3)
  | (go_at_call 126;(with_reducible refine (add_any _ _ _ _ _ _ _ _ _ hb1 hb2 (Lb.take _) (Lb.drop _) HS.out.2 hs6 hs2).mono ?_);rintro e w4 ⟨A4,n4,c4,rfl,h4c,h4d,h4f,hh4⟩
     have h4r:=h4f.rd
     have h4n:n4≤h+1:=by rw [← h4r.1];exact HL.out.2
     replace h3r:=h3r.below hh4;replace ho1:=ho1.below hh4 hlt1;replace ho2:=ho2.below hh4 hlt2
     have hlt1:g1 < w4.heap.size:=ho1.lt
     have hlt2:g2 < w4.heap.size:=ho2.lt
     have hs9:n3+n4 < n+m:=by omega
     clear h4f;replace hbw:=kbend hbw hh4)
  | (go_at_call 124;(with_reducible refine (HI.out.use h3r h4r (lim_limbs B64_two _) (lim_limbs B64_two _) h3c h4c hs9).mono ?_);rintro e w5 ⟨N5,g5,L5,hN5,rfl,hg5,hl5,hL5,hv5,ho5,hh5⟩
     have HN5:Hid (N5≤1000000):=by show _≤_;omega
     clear hN5;replace ho1:=ho1.below hh5 hlt1;replace ho2:=ho2.below hh5 hlt2
     have hne15:g1 ≠ g5:=by omega
     have hne25:g2 ≠ g5:=by omega
     have hg5':w.heap.size≤g5:=by omega
     replace hbw:=kbend hbw hh5))
 rw [val_limbs B64_two,val_limbs B64_two] at hv5
 clear ha1 ha2 hb1 hb2 h3r h4r hh3 hh4 hh5 hg5 hlt1 hlt2 hs1 hs2 hs3 hs4 hs5 hs6 hs9 h3n h4n h3c h4c h3d h4d hle hle2 hle3 hle4 hch hdh HL HS HI;have hK:=kara_le hv1 hv2;rw [← hv5] at hK
 have HK1:Hid (val B64 (limbs B64 (val B64 L1))≤val B64 L5):=by show _≤_;rw [val_limbs B64_two];exact hK.1
 have HK2:Hid (val B64 L2≤val B64 L5 - val B64 L1):=hK.2
 have HV:Hid (val B64 L1=val B64 (la.take h)*val B64 (lb.take h)∧val B64 L2=val B64 (la.drop h)*val B64 (lb.drop h)):=⟨hv1,hv2⟩
 have HV5:=Lib.hid hv5;clear hK hv1 hv2 hv5
 have HM1:Hid (N1≤maxLen∧N2≤maxLen∧N5≤maxLen):=by show _∧_∧_;have e1:=HN1.out;have e2:=HN2.out;have e5:=HN5.out;unfold maxLen;omega
 go_upto_region 5 with (first
  | (go_at_call 103;(with_reducible refine (trim_any L1 _ _ _ w5 (ho1.rdc hl1) hL1 HM1.out.1 (Nat.le_refl _)).mono ?_);rintro e w' ⟨⟨k1,hk1,rfl,hr1⟩,rfl⟩
     have hk5:k1≤N5:=by rw [← hr1.1,← hl5];exact Nat.le_trans (length_limbs_mono B64_two (by have:=HK1.out;rwa [val_limbs B64_two] at this)) (limbs_prefix B64_two hL5).2)
  | (go_at_call 150
     refine (takeFrom_any (limbs B64 (val B64 L1)) [] L5 [] g5 0 N5 N5 k1 N1 (some ⟨g1,0,none⟩) w5 (by simpa using ho5) rfl hl5 hr1 (fun _ ad e=>by cases e;exact hne15) (lim_limbs B64_two _) hL5 hk5 HM1.out.2.2 HK1.out).mono ?_
     rintro e w6 ⟨rfl,⟨P5,hl6,hL6,hv6,hp6⟩,hon6⟩))
 rw [val_limbs B64_two] at hv6
 rw [List.nil_append,List.append_nil] at hp6
 have ho1:=ho1.only hon6 hne15;have ho2:=ho2.only hon6 hne25
 have HK3:Hid (val B64 (limbs B64 (val B64 L2))≤val B64 P5):=by show _≤_;rw [val_limbs B64_two,hv6];exact HK2.out
 replace hbw:Below w.heap.size w w6:=Below.only hbw hg5' hbw.size hon6
 go_upto_region 6 with (first
  | (go_at_call 103;(with_reducible refine (trim_any L2 _ _ _ w6 (ho2.rdc hl2) hL2 HM1.out.2.1 (Nat.le_refl _)).mono ?_);rintro e w' ⟨⟨k2,hk2,rfl,hr2⟩,rfl⟩
     have hk6:k2≤N5:=by rw [← hr2.1,← hl6];exact Nat.le_trans (length_limbs_mono B64_two (by have:=HK3.out;rwa [val_limbs B64_two] at this)) (limbs_prefix B64_two hL6).2)
  | (go_at_call 150
     refine (takeFrom_any (limbs B64 (val B64 L2)) [] P5 [] g5 0 N5 N5 k2 N2 (some ⟨g2,0,none⟩) w6 (by simpa using hp6) rfl hl6 hr2 (fun _ ad e=>by cases e;exact hne25) (lim_limbs B64_two _) hL6 hk6 HM1.out.2.2 HK3.out).mono ?_
     rintro e w7 ⟨rfl,⟨P6,hl7,hL7,hv7,hp7⟩,hon7⟩))
 rw [val_limbs B64_two,hv6] at hv7
 rw [List.nil_append,List.append_nil] at hp7
 replace ho1:=ho1.only hon7 hne15;replace ho2:=ho2.only hon7 hne25
 replace hbw:Below w.heap.size w w7:=Below.only hbw hg5' hbw.size hon7
 have HV7:Hid (val B64 P6=val B64 L5 - val B64 L1 - val B64 L2):=hv7
 clear hv7 hv6 hL6 hl6 hp6 hr1 hr2 hon6 hon7 hk1 hk2 hk5 hk6 HK1 HK2 HK3 ho5
 have hq1:g1 < w7.heap.size:=ho1.lt
 have hq2:g2 < w7.heap.size:=ho2.lt
 have hq5:g5 < w7.heap.size:=hp7.lt
 go_upto_region 7 with (at_make;refine wpList_make64 _ rfl (.tmp 52) (.tmp 52) rfl .i64 .i64 _ _ (n+m) rfl rfl (by omega) (by omega) (by omega) ?_;intro w8 hown8 hb8)
 have hle1:(N1:Int)≤(n+m:Nat):=by have:=HN1.out;omega
 go_upto_region 8 with (refine wpList_copy64 _ rfl (.tmp 54) (.tmp 55) rfl w7.heap.size 0 _ _ N1 N1 (some ⟨g1,0,none⟩) rfl rfl [] (List.replicate N1 0) (List.replicate (n+m - N1) 0) L1 (by rw [List.nil_append,List.replicate_append_replicate,Nat.add_sub_cancel' (by have:=HN1.out;omega)];exact hown8) rfl (by simp) (by have:=HN1.out;omega) ((ho1.below hb8 hq1).rdc hl1) ?_;intro w9 hown9 hon9)
 rw [List.nil_append] at hown9;have hz5:=hp7.below hb8 hq5;have hz2:=ho2.below hb8 hq2
 replace hz5:=hz5.only hon9 (by omega)
 replace hz2:=hz2.only hon9 (by omega)
 replace hbw:Below w.heap.size w w9:=Below.only (kbend hbw hb8) hbw.size (by have:=hbw.size;have:=hb8.size;omega) hon9
 have hzs:w7.heap.size < w9.heap.size:=hown9.lt
 generalize hg8:w7.heap.size=g8 at hown9 hzs
 have hne85:g5 ≠ g8:=by omega
 have hw8:w.heap.size≤g8:=by have:=hg5';omega
 clear hg8 hown8 hb8 hon9 hp7 ho1 ho2 hq1 hq2 hq5
 have hle2:(2:Int)*(h:Int)≤(n:Int)+(m:Int):=by omega
 have hlh:(h:Int)≤1000000:=by omega
 have hnz:¬ n+m=2*h:=by omega
 have hq:N1=2*h∧N2=n+m - 2*h:=by have e1:=HN1.out;have e2:=HN2.out;omega
 have HQ:=Lib.hid hq
 have hown9:Own .u64 74 w9 g8 (L1 ++ (List.replicate N2 0 ++ [])):=by
  rw [List.append_nil,show N2=n+m - N1 by omega];exact hown9
 have hle5:N2≤n+m - 2*h:=by omega
 have hpl:L1.length=2*h:=by omega
 have HPL:=Lib.hid hpl;clear hq hpl
 go_upto_region 9 with (refine wpList_copy64 _ rfl (.tmp 60) (.tmp 61) rfl g8 (2*h) _ _ N2 N2 (some ⟨g2,0,none⟩) rfl rfl L1 (List.replicate N2 0) [] L2 hown9 HPL.out (by simp) hle5 (hz2.rdc hl2) ?_;intro w10 hown10 hon10)
 rw [List.append_nil] at hown10;replace hz5:=hz5.only hon10 hne85
 replace hbw:Below w.heap.size w w10:=Below.only hbw hw8 hbw.size hon10
 clear hz2 hon10 hown9 hle2 hlh hnz hle5
 have hll:(L1 ++ L2).length=n+m:=by rw [List.length_append,hl1,hl2];have:=HQ.out;omega
 have HLL:=Lib.hid hll
 have hL12:Lim B64 (L1 ++ L2):=hL1.append hL2
 generalize hZ:L1 ++ L2=Z at hown10 hL12 hll HLL
 have hX2:=kara_end (M:=val B64 P6) hal.out hbl.out (by omega) (by omega) (by rw [hl1];have:=HN1.out;omega) HV.out.1 HV.out.2 (by rw [← HV5.out];exact HV7.out)
 rw [hZ] at hX2;have HX2:=Lib.hid hX2
 have hmt:(limbs B64 (val B64 P6)).length≤n+m - h:=by
  refine length_limbs_le B64_two ?_
  have e1:=hX.out
  rw [← hX2,show n+m=h+(n+m - h) by omega,Nat.pow_add] at e1
  rcases Nat.lt_or_ge (val B64 P6) (B64 ^ (n+m - h)) with e2 | e2
  · exact e2
  · have e3:=Nat.mul_le_mul_left (B64 ^ h) e2
    omega
 have HMT:=Lib.hid hmt;clear hX2 hll hmt hZ HV HV5 HV7 HPL HQ hl1 hl2 hL1 hL2
 have hzh:¬ n+m=h:=by omega
 have hle6:(h:Int)≤(n:Int)+(m:Int):=by omega
 have hwl:=hown10.lt;replace hz5:=hz5.drew;replace hown10:=hown10.drew;replace hbw:=hbw.drew
 go_region_held3 (fun _=>True)
  (first | exact trivial)
  (first
  | (go_at_call 103;(with_reducible refine (trim_any P6 _ _ _ _ (hz5.rdc hl7) hL7 HM1.out.2.2 (Nat.le_refl _)).mono ?_);rintro e w' ⟨⟨k3,hk3,rfl,hr3⟩,rfl⟩
     have hk7:k3≤n+m - h:=by rw [← hr3.1];exact HMT.out)
  | (go_at_call 149
     refine (addTo_any (limbs B64 (val B64 P6)) (Z.take h) (Z.drop h) [] g8 h (n+m - h) _ k3 N5 (some ⟨g5,0,none⟩) _ (by rw [List.append_nil,List.take_append_drop];exact hown10) (by rw [List.length_take,HLL.out];omega) (by rw [List.length_drop,HLL.out]) hr3 (fun _ ad e=>by cases e;exact hne85) (lim_limbs B64_two _) (hL12.drop _) hk7 (by unfold maxLen;omega)).mono ?_
     rintro e w11 ⟨rfl,⟨P,hP1,hP2,hP3,hP4⟩,hon11⟩))
 rw [val_limbs B64_two] at hP3
 have e2:=add_into HLL.out (by omega) HX2.out hX.out hP3
 have e3:(Z.take h ++ P).length=n+m:=by rw [List.length_append,List.length_take,hP1,HLL.out];omega
 rw [List.append_nil] at hP4
 have e4:Below w.heap.size w w11:=Below.only hbw hw8 hbw.size hon11
 clear hP3 hle6
 go_wp2_with fail
 go_ret
 exact ⟨n+m,g8,Z.take h ++ P,rfl,rfl,hw8,e3,(hL12.take _).append hP2,e2,hP4,e4⟩
theorem prodof_comm {la lb:List Nat} {n m:Nat} {e:Ending} {w':World} (h:ProdOf lb la m n w e w'):ProdOf la lb n m w e w':=by
 obtain ⟨N,g,L,rfl,h2,h3,h4,h5,h6,h7⟩:=h
 exact ⟨m+n,g,L,Nat.add_comm m n,h2,h3,h4,h5,by rw [h6,Nat.mul_comm],h7⟩
theorem prodof_few {la lb:List Nat} {n m:Nat} {e:Ending} {w':World} (h:ProductOf la lb n m w e w'):ProdOf la lb n m w e w':=by
 obtain ⟨N,rfl,h2,⟨L,h3,h4,h5,h6⟩,h7⟩:=h
 exact ⟨n+m,w.heap.size,L,rfl,h2,Nat.le_refl _,h3,h4,h5,h6,h7⟩
theorem Rd.some_at {K:IntKind} {A:Option Addr} {n:Nat} {l:List Nat} (h:Rd K w A n l) (hn:0 < n):∃ b o,A=some ⟨b,o,none⟩:=by
 obtain ⟨b,o,rfl,_⟩:=h.at_ hn
 exact ⟨b,o,rfl⟩
theorem product_big (la lb:List Nat) (A B:Option Addr) (n c m d:Nat) (w:World) (ha:Rd .u64 w A n la) (hb:Rd .u64 w B m lb) (La:Lim B64 la) (Lb:Lim B64 lb) (hnc:n≤c) (hmd:m≤d) (hnm0:n+m≤1000000) (IH:PHyp (n+m)) (hm:40 < m) (hn:40 < n) :
 Calls Tryz.prog 124 #[.slice A n c,.slice B m d] w (ProdOf la lb n m w):=by
 have hnm:n+m≤2 ^ 45:=by omega
 obtain ⟨b,o,rfl⟩:=ha.some_at (by omega)
 obtain ⟨b2,o2,rfl⟩:=hb.some_at (by omega)
 by_cases hlt:n < m
 · obtain ⟨h,hh⟩:∃ h,(m+1) / 2=h:=⟨_,rfl⟩
   have hhi:((m:Int)+1) / 2=(h:Int):=by omega
   have hd:decide ((n:Int)≤40)=false:=by simp;omega
   by_cases hle:n≤h
   · have hd2:decide ((n:Int)≤(h:Int))=true:=by simp;omega
     have HC:=Lib.hid (uneven_any lb la b2 o2 m d n c h (some ⟨b,o,none⟩) w hb ha Lb La hmd hnc (by omega) (by rw [Nat.add_comm];exact IH) (by omega) (by omega))
     clear hh IH ha hb
     go_enter Tryz.func124,Tryz.ntmps124
     go_wp2_with (go_at_call 146;refine HC.out.mono ?_;rintro e w' hP;obtain ⟨N,g,L,h1,rfl,h3⟩:=prodof_comm hP;have H1:=Lib.hid h1;clear h1 hP)
     go_ret
     exact ⟨N,g,L,H1.out,rfl,h3⟩
   · have hd2:decide ((n:Int)≤(h:Int))=false:=by simp;omega
     have HC:=Lib.hid (halves_any lb la b2 o2 b o m d n c h w hb ha Lb La hmd hnc (by omega) (by rw [Nat.add_comm];exact IH) (by omega) (by omega) (by omega) (by omega) (by omega) (by omega))
     clear hh IH ha hb
     go_enter Tryz.func124,Tryz.ntmps124
     go_wp2_with (go_at_call 147;refine HC.out.mono ?_;rintro e w' hP;obtain ⟨N,g,L,h1,rfl,h3⟩:=prodof_comm hP;have H1:=Lib.hid h1;clear h1 hP)
     go_ret
     exact ⟨N,g,L,H1.out,rfl,h3⟩
 · obtain ⟨h,hh⟩:∃ h,(n+1) / 2=h:=⟨_,rfl⟩
   have hhi:((n:Int)+1) / 2=(h:Int):=by omega
   have hd:decide ((m:Int)≤40)=false:=by simp;omega
   by_cases hle:m≤h
   · have hd2:decide ((m:Int)≤(h:Int))=true:=by simp;omega
     have HC:=Lib.hid (uneven_any la lb b o n c m d h (some ⟨b2,o2,none⟩) w ha hb La Lb hnc hmd hnm0 IH (by omega) (by omega))
     clear hh IH ha hb
     go_enter Tryz.func124,Tryz.ntmps124
     go_wp2_with (go_at_call 146;refine HC.out.mono ?_;rintro e w' hP;obtain ⟨N,g,L,h1,rfl,h3⟩:=hP;have H1:=Lib.hid h1;clear h1)
     go_ret
     exact ⟨N,g,L,H1.out,rfl,h3⟩
   · have hd2:decide ((m:Int)≤(h:Int))=false:=by simp;omega
     have HC:=Lib.hid (halves_any la lb b o b2 o2 n c m d h w ha hb La Lb hnc hmd hnm0 IH (by omega) (by omega) (by omega) (by omega) (by omega) (by omega))
     clear hh IH ha hb
     go_enter Tryz.func124,Tryz.ntmps124
     go_wp2_with (go_at_call 147;refine HC.out.mono ?_;rintro e w' hP;obtain ⟨N,g,L,h1,rfl,h3⟩:=hP;have H1:=Lib.hid h1;clear h1)
     go_ret
     exact ⟨N,g,L,H1.out,rfl,h3⟩
theorem phyp_all (T:Nat) (hT:T≤1000001):PHyp T:=by
 induction T with
 | zero=>intro la lb A B n c m d w _ _ _ _ _ _ h;omega
 | succ T ih =>
   have IH:=ih (by omega)
   intro la lb A B n c m d w ha hb La Lb hnc hmd h
   by_cases hf:n≤40 ∨ m≤40
   · exact (product_few la lb A B n c m d w ha hb La Lb (by omega) hf).mono fun e w' h=>prodof_few h
   · have IH2:PHyp (n+m):=fun la lb A B n' c m' d w h1 h2 h3 h4 h5 h6 h7=>IH la lb A B n' c m' d w h1 h2 h3 h4 h5 h6 (by omega)
     exact product_big la lb A B n c m d w ha hb La Lb hnc hmd (by omega) IH2 (by omega) (by omega)
theorem mul_any (la lb:List Nat) (A B:Option Addr) (n c m d:Nat) (w:World) (ha:Rd .u64 w A n la) (hb:Rd .u64 w B m lb) (La:Lim B64 la) (Lb:Lim B64 lb) (hnm0:n+m≤1000000)
 (hnc:n≤c) (hmd:m≤d) :
 Calls Tryz.prog 96 #[.slice A n c,.slice B m d] w (GivesS .u64 74 w (limbs B64 (val B64 la*val B64 lb))):=by
 have HN:Hid (n≤maxLen∧m≤maxLen):=⟨by unfold maxLen;omega,by unfold maxLen;omega⟩
 have HNM:=Lib.hid hnm0;clear hnm0
 generalize hX:limbs B64 (val B64 la)=xs
 have LX:Lim B64 xs:=by rw [← hX];exact lim_limbs B64_two _
 generalize hY:limbs B64 (val B64 lb)=ys
 have LY:Lim B64 ys:=by rw [← hY];exact lim_limbs B64_two _
 have HX:=Lib.hid hX;have HY:=Lib.hid hY;clear hX hY
 go_enter Tryz.func96,Tryz.ntmps96
 go_wp2_with (first
  | (go_at_call 103;(with_reducible refine (trim_any la A n c w ha La HN.out.1 hnc).mono ?_);rintro e w' ⟨⟨k,hk,rfl,hka⟩,rfl⟩;rw [HX.out] at hka)
  | (go_at_call 103;(with_reducible refine (trim_any lb B m d w hb Lb HN.out.2 hmd).mono ?_);rintro e w' ⟨⟨k2,hk2,rfl,hkb⟩,rfl⟩;rw [HY.out] at hkb)
  | (go_at_call 124;refine ((phyp_all 1000001 (Nat.le_refl _)).use hka hkb LX LY (by omega) (by omega) (by have:=HNM.out;omega)).mono ?_;rintro e w1 ⟨N,g,L,hN,rfl,hg,h1,h2,h3,h4,h5⟩
     have HN':=Lib.hid h1
     have H3:=Lib.hid h3
     have HNN:Hid (N≤maxLen):=by (show N≤maxLen;have:=HNM.out;unfold maxLen;omega)
     clear hN h1 h3)
  | (go_at_call 103;refine (trim_own L g N w.heap.size w1 h4 hg HN'.out h2 HNN.out).mono ?_;rintro e w' ⟨⟨k3,hk3,rfl,hfr⟩,rfl⟩))
 go_ret
 rw [H3.out,← HX.out,← HY.out,val_limbs B64_two,val_limbs B64_two] at hfr
 exact ⟨_,_,_,rfl,hk3,HNN.out,hfr,h5⟩
end
section
open Go.RowKit
def NR (w:World) (A:Option Addr) (n c V k:Nat):Prop:=∃ l,Rd .u64 w A n l∧Lim B64 l∧val B64 l=V∧n≤c∧n≤k
def NG (w:World) (A:Option Addr) (n c V k:Nat):Prop:=Rd .u64 w A n (limbs B64 V)∧n≤c∧n≤k
def GivesN (w:World) (V k:Nat) (e:Ending) (w':World):Prop :=
 ∃ A n c,e=.returned (.slice A n c)∧NG w' A n c V k∧Below w.heap.size w w'
section
variable {w w':World} {A B:Option Addr} {n c m d U V k k1 k2:Nat}
theorem NG.nr (h:NG w A n c V k):NR w A n c V k:=⟨_,h.1,lim_limbs B64_two _,val_limbs B64_two _,h.2.1,h.2.2⟩
theorem NR.below (h:NR w A n c V k) (hb:Below w.heap.size w w'):NR w' A n c V k:=by
 obtain ⟨l,h1,h2,h3,h4,h5⟩:=h
 exact ⟨l,h1.below hb,h2,h3,h4,h5⟩
theorem NG.below (h:NG w A n c V k) (hb:Below w.heap.size w w'):NG w' A n c V k:=⟨h.1.below hb,h.2.1,h.2.2⟩
theorem NR.lt (h:NR w A n c V k):V < B64 ^ k:=by
 obtain ⟨l,h1,h2,h3,h4,h5⟩:=h
 have:=val_lt h2
 rw [h3,h1.1] at this
 exact Nat.lt_of_lt_of_le this (Nat.pow_le_pow_right (by decide) h5)
theorem NR.nil (w:World) (k:Nat):NR w none 0 0 0 k:=⟨[],Rd.nil,Lim.nil,rfl,Nat.le_refl _,Nat.zero_le _⟩
theorem NR.more (h:NR w A n c V k) (hk:k≤k1):NR w A n c V k1:=by
 obtain ⟨l,h1,h2,h3,h4,h5⟩:=h
 exact ⟨l,h1,h2,h3,h4,by omega⟩
theorem GivesS.toN {w0:World} {e:Ending} (h:GivesS .u64 74 w0 (limbs B64 V) e w') (hV:V < B64 ^ k):GivesN w0 V k e w':=by
 obtain ⟨A,n,c,rfl,h1,h2,h3,h4⟩:=h
 refine ⟨A,n,c,rfl,⟨h3.rd,h1,?_⟩,h4⟩
 rw [← h3.1];exact length_limbs_le B64_two hV
theorem gcd_nr (X:NR w A n c U k) (Y:NR w B m d V k) (hk:k≤900000) :
 Calls Tryz.prog 118 #[.slice A n c,.slice B m d] w (GivesN w (Nat.gcd U V) k):=by
 have hs:Nat.gcd U V < B64 ^ k:=by
  rcases Nat.eq_zero_or_pos U with h0 | h0
  · rw [h0,Nat.gcd_zero_left];exact Y.lt
  · exact Nat.lt_of_le_of_lt (Nat.gcd_le_left _ h0) X.lt
 obtain ⟨la,a1,a2,rfl,a4,a5⟩:=X
 obtain ⟨lb,b1,b2,rfl,b4,b5⟩:=Y
 exact (gcd_any la lb A B n c m d w a1 b1 a2 b2 (by omega) (by omega) a4 b4).mono fun e w' h=>h.toN hs
def GivesNN (w:World) (Q R k1 k2:Nat) (e:Ending) (w':World):Prop :=
 ∃ A n c A' n' c',e=.returned (.tuple #[.slice A n c,.slice A' n' c',.int .i64 0])∧NG w' A n c Q k1∧NG w' A' n' c' R k2∧Below w.heap.size w w'
theorem dm_nr (X:NR w A n c U k1) (Y:NR w B m d V k2) (h1:k1≤900000) (h2:k2≤900000) (hV:V ≠ 0) :
 Calls Tryz.prog 119 #[.slice A n c,.slice B m d] w (GivesNN w (U / V) (U % V) k1 k2):=by
 have hX:=X.lt;have hY:=Y.lt
 have hr:=Nat.mod_lt U (show V > 0 by omega)
 have hq:=Nat.div_le_self U V
 obtain ⟨la,a1,a2,rfl,a4,a5⟩:=X
 obtain ⟨lb,b1,b2,rfl,b4,b5⟩:=Y
 refine (divmod_any la lb A B n c m d w a1 b1 a2 b2 (by omega) (by omega) a4 b4 hV).mono ?_
 rintro e w' ⟨A1,n1,c1,A2,n2,c2,rfl,p1,p2,p3,p4,p5,p6,p7⟩
 refine ⟨A1,n1,c1,A2,n2,c2,rfl,⟨p5.rd,p1,?_⟩,⟨p6.rd,p3,?_⟩,p7⟩
 · rw [← p5.1];exact length_limbs_le B64_two (by omega)
 · rw [← p6.1];exact length_limbs_le B64_two (by omega)
theorem NG.zero (h:NG w A n c V k) (hV:V=0):n=0:=by
 have:=h.1.1
 rw [hV,limbs_zero] at this
 exact this.symm
theorem NG.pos (h:NG w A n c V k) (hV:V ≠ 0):0 < n:=by
 have:=h.1.1
 rw [limbs_pos B64_two hV] at this
 simp at this;omega
end
theorem bend {w w1 w2:World} (h:Below w.heap.size w w1) (k:Below w1.heap.size w1 w2):Below w.heap.size w w2:=h.trans (k.mono h.size)
theorem NG.le {A:Option Addr} {n c V k:Nat} (h:NG w A n c V k):n≤k:=h.2.2
theorem NG.rd {A:Option Addr} {n c V k:Nat} (h:NG w A n c V k):Rd .u64 w A n (limbs B64 V):=h.1
theorem NG.more {A:Option Addr} {n c V k k1:Nat} (h:NG w A n c V k) (hk:k≤k1):NG w A n c V k1:=⟨h.1,h.2.1,Nat.le_trans h.2.2 hk⟩
theorem NG.only {w w':World} {A:Option Addr} {n c V k g:Nat} (h:NG w A n c V k) (ho:Off A n g) (hb:Only g w w'):NG w' A n c V k:=⟨h.1.only ho hb,h.2.1,h.2.2⟩
end
section
open Go.RowKit
def tenP (i:Nat):Nat:=10 ^ (19*2 ^ i)
theorem tenP_succ (i:Nat):tenP (i+1)=tenP i*tenP i:=by
 unfold tenP
 rw [← Nat.pow_add]
 congr 1
 rw [Nat.pow_succ];omega
theorem tenP_pos (i:Nat):0 < tenP i:=Nat.pow_pos (by decide)
def SqRow (w:World) (A:Option Addr) (n g:Nat):Prop :=
 ∀ i,i < n→∃ b o Ai ni ci,A=some ⟨b,o,none⟩∧b ≠ g∧w.cell? ⟨b,o+i,none⟩=some (.slice Ai ni ci)∧NG w Ai ni ci (tenP i) (2 ^ i)∧Off Ai ni g
theorem SqRow.only {w w':World} {A:Option Addr} {n g:Nat} (h:SqRow w A n g) (hb:Only g w w'):SqRow w' A n g:=by
 intro i hi
 obtain ⟨b,o,Ai,ni,ci,h1,h2,h3,h4,h5⟩:=h i hi
 exact ⟨b,o,Ai,ni,ci,h1,h2,(World.cell?_of_block (hb.block b (World.block_lt_of_cell? w _ h3) h2)).trans h3,h4.only h5 hb,h5⟩
theorem SqRow.below {w w':World} {A:Option Addr} {n g:Nat} (h:SqRow w A n g) (hb:Below w.heap.size w w'):SqRow w' A n g:=by
 intro i hi
 obtain ⟨b,o,Ai,ni,ci,h1,h2,h3,h4,h5⟩:=h i hi
 exact ⟨b,o,Ai,ni,ci,h1,h2,(World.cell?_of_block (hb.block b (World.block_lt_of_cell? w _ h3))).trans h3,h4.below hb,h5⟩
theorem SqRow.take {A:Option Addr} {n m g:Nat} (h:SqRow w A n g) (hm:m≤n):SqRow w A m g:=fun i hi=>h i (by omega)
theorem SqRow.drew {A:Option Addr} {n g:Nat} (h:SqRow w A n g):SqRow w.drew A n g:=h.below (Below.refl _ _).drew
theorem Fr.off {K:IntKind} {e:TypeId} {B n c:Nat} {A:Option Addr} {l:List Nat} (h:Fr K e w B A n c l) {g:Nat} (hg:g < B):Off A n g:=by
 intro hn ad e
 obtain ⟨g',h1,h2,_⟩:=h.own hn
 rw [h1] at e;cases e
 show g' ≠ g
 omega
theorem dm_fr {A B:Option Addr} {n c m d U V k1 k2:Nat} (X:NR w A n c U k1) (Y:NR w B m d V k2) (h1:k1≤100000) (h2:k2≤100000) (hV:V ≠ 0) :
 Calls Tryz.prog 119 #[.slice A n c,.slice B m d] w fun e w'=>∃ A n c A' n' c',e=.returned (.tuple #[.slice A n c,.slice A' n' c',.int .i64 0])∧NG w' A n c (U / V) k1∧NG w' A' n' c' (U % V) k2∧(∀ g,g < w.heap.size→Off A n g∧Off A' n' g)∧Below w.heap.size w w':=by
 have hX:=X.lt;have hY:=Y.lt
 have hr:=Nat.mod_lt U (show V > 0 by omega)
 have hq:=Nat.div_le_self U V
 obtain ⟨la,a1,a2,rfl,a4,a5⟩:=X
 obtain ⟨lb,b1,b2,rfl,b4,b5⟩:=Y
 refine (divmod_any la lb A B n c m d w a1 b1 a2 b2 (by omega) (by omega) a4 b4 hV).mono ?_
 rintro e w' ⟨A1,n1,c1,A2,n2,c2,rfl,p1,p2,p3,p4,p5,p6,p7⟩
 refine ⟨A1,n1,c1,A2,n2,c2,rfl,⟨p5.rd,p1,?_⟩,⟨p6.rd,p3,?_⟩,fun g hg=>⟨p5.off hg,p6.off hg⟩,p7⟩
 · rw [← p5.1];exact length_limbs_le B64_two (by omega)
 · rw [← p6.1];exact length_limbs_le B64_two (by omega)
theorem write_math {V i d K P:Nat} (hP:P=19*2 ^ i) (hK:d=K+P) (hd:V < 10 ^ d) (hV:V < tenP (i+1)) :
 V / tenP i < 10 ^ K∧V / tenP i < tenP i∧V % tenP i < 10 ^ P∧V % tenP i < tenP i∧decs (V / tenP i) K ++ decs (V % tenP i) P=decs V d:=by
 have e:tenP i=10 ^ P:=by rw [tenP,hP]
 have hm:=Nat.mod_lt V (tenP_pos i)
 refine ⟨?_,?_,by rw [← e];exact hm,hm,?_⟩
 · refine Nat.div_lt_of_lt_mul ?_
   rw [e,← Nat.pow_add,Nat.add_comm,← hK];exact hd
 · refine Nat.div_lt_of_lt_mul ?_
   rw [← tenP_succ];exact hV
 · rw [hK,decs_add,e,decs_mod V (Nat.le_refl P)]
theorem write_any:∀ (j V:Nat) (pre seg post:List Nat) (gd o d cd n c:Nat) (A As:Option Addr) (cs:Nat) (w:World),j≤7→Own .u8 5 w gd (pre ++ (seg ++ post))→pre.length=o→seg.length=d →
 NG w A n c V 78→Off A n gd→SqRow w As j gd→d≤1000000→d≤cd→j≤cs→V < 10 ^ d→(n≤16 ∨ V < tenP j) →
 Calls Tryz.prog 104 #[.slice (some ⟨gd,o,none⟩) d cd,.slice A n c,.slice As j cs] w fun e w'=>e=.returned (.tuple #[])∧Own .u8 5 w' gd (pre ++ (decs V d ++ post))∧Only gd w w':=by
 intro j
 induction j with
 | zero =>
   intro V pre seg post gd o d cd n c A As cs w _ h1 h2 h3 h4 h5 _ h6 h7 _ _ h8
   have hn:n≤16:=by
    rcases h8 with h | h
    · exact h
    · have:=length_limbs_le B64_two (n:=V) (k:=1) (Nat.lt_trans h (by decide))
      rw [h4.1.1] at this;omega
   have:=write_small (limbs B64 V) pre seg post gd o d cd n c A (.slice As 0 cs) w h1 h2 h3 h4.1 (lim_limbs B64_two _) (by omega) h7 hn
   rw [val_limbs B64_two] at this
   exact this
 | succ i ih =>
   intro V pre seg post gd o d cd n c A As cs w hj hO ho hs hX hoff hS hd6 hcd hcs hVd hor
   by_cases hn:n≤16
   · have:=write_small (limbs B64 V) pre seg post gd o d cd n c A (.slice As (i+1) cs) w hO ho hs hX.1 (lim_limbs B64_two _) (by omega) hcd hn
     rw [val_limbs B64_two] at this
     exact this
   · have hV : V < tenP (i + 1) := by
       rcases hor with h | h
       · exact absurd h hn
       · exact h
     obtain ⟨P,hP⟩:∃ P,P=19*2 ^ i:=⟨_,rfl⟩
     have h2i:2 ^ i≤64:=Nat.le_trans (Nat.pow_le_pow_right (by decide) (show i≤6 by omega)) (by decide)
     have hPI:(19:Int)*2 ^ i=(P:Int):=by rw [hP];push_cast;rfl
     have hPb:P≤1216:=by omega
     have hnI:¬ (n:Int)≤16:=by omega
     have hiI:(i:Int)+1 - 1=(i:Int):=by omega
     have hXn:=hX.2.2
     by_cases hdP:d≤P
     · have HV:=Lib.hid (show V < tenP i by unfold tenP;rw [← hP];exact Nat.lt_of_lt_of_le hVd (Nat.pow_le_pow_right (by decide) hdP))
       have HVd:=Lib.hid hVd;have HO:=Lib.hid hO;have Ho:=Lib.hid ho;have Hs:=Lib.hid hs
       have hdI:(d:Int) - (P:Int)≤0:=by omega
       clear hV hVd hO ho hs hor hP
       go_enter Tryz.func104,Tryz.ntmps104
       go_wp2_with (go_at_call 104;(refine (ih V pre seg post gd o d cd n c A As cs w (by omega) HO.out Ho.out Hs.out hX hoff (hS.take (by omega)) hd6 hcd (by omega) HVd.out (Or.inr HV.out)).mono ?_);rintro e w1 ⟨rfl,p1,p2⟩)
       refine bodyPost_ret (results_none rfl _ _ _) rfl ?_
       exact ⟨rfl,p1,p2⟩
     · obtain ⟨K,hK⟩:∃ K,K=d - P:=⟨_,rfl⟩
       have hdK:d=K+P:=by omega
       obtain ⟨m1,m2,m3,m4,m5⟩:=write_math hP hdK hVd hV
       have hKI:(d:Int) - (P:Int)=(K:Int):=by omega
       have hK0:¬ (K:Int)≤0:=by omega
       have hKc:(K:Int)≤(cd:Int):=by omega
       have hKd:K≤d:=by omega
       have h2p:=Nat.two_pow_pos i
       have hcdK:¬ cd=K:=by omega
       have hic:(i:Int)≤(cs:Int):=by omega
       have hi0:(0:Int)≤(i:Int):=by omega
       have hKdI:(K:Int)≤(d:Int):=by omega
       have hK00:(0:Int)≤(K:Int):=by omega
       have hdKP:d - K=P:=by omega
       obtain ⟨b,oo,Ai,ni,ci,rfl,hbg,hcell,hY,hYo⟩:=hS i (by omega)
       have hO1:Own .u8 5 w gd (pre ++ (seg.take K ++ (seg.drop K ++ post))):=by
        rw [← List.append_assoc (seg.take K),List.take_append_drop];exact hO
       have hglt:=hO.lt
       have HT:Hid ((seg.take K).length=K):=by show _=_;rw [List.length_take];omega
       have HD:Hid ((seg.drop K).length=P):=by show _=_;rw [List.length_drop];omega
       have HPL:Hid ((pre ++ decs (V / tenP i) K).length=o+K):=by show _=_;rw [List.length_append,length_decs,ho]
       have HO:=Lib.hid hO1;have Ho:=Lib.hid ho;have M1:=Lib.hid m1;have M2:=Lib.hid m2;have M3:=Lib.hid m3;have M4:=Lib.hid m4;have M5:=Lib.hid m5;clear hV hVd hO hO1 ho hs hor hP m1 m2 m3 m4 m5 hK hdK
       go_enter Tryz.func104,Tryz.ntmps104
       go_wp2_with (go_at_call 119;(with_reducible refine (dm_fr hX.nr hY.nr (by omega) (by omega) (Nat.ne_of_gt (tenP_pos i))).mono ?_);rintro e w1 ⟨A4,n4,c4,A5,n5,c5,rfl,y4,y5,off,b1⟩)
       have hoffs:=off gd hglt;have O1:=Own.below HO.out b1 hglt;have S1:=hS.below b1
       have IH1:=ih (V / tenP i) pre (seg.take K) (seg.drop K ++ post) gd o K cd n4 c4 A4 (some ⟨b,oo,none⟩) cs w1.drew (by omega) O1.drew Ho.out HT.out (y4.below (Below.refl _ _).drew) hoffs.1 (S1.drew.take (by omega)) (by omega) (by omega) (by omega) M1.out (Or.inr M2.out)
       go_region_held3 (fun _=>True) (trivial) ((go_at_call 104;(with_reducible refine IH1.mono ?_);rintro e w2 ⟨rfl,p1,p2⟩))
       have hon:Only gd w1 w2:=⟨p2.os,p2.tape,p2.output,p2.size,p2.block⟩
       have S2:=S1.only hon
       have Y5:=(y5.more (show 2 ^ i≤78 by omega)).only hoffs.2 hon
       have p1':Own .u8 5 w2 gd ((pre ++ decs (V / tenP i) K) ++ (seg.drop K ++ post)):=by rw [List.append_assoc];exact p1
       go_wp2_with fail
       have IH2:=ih (V % tenP i) (pre ++ decs (V / tenP i) K) (seg.drop K) post gd (o+K) P (cd - K) n5 c5 A5 (some ⟨b,oo,none⟩) cs w2.drew (by omega) p1'.drew HPL.out HD.out (Y5.below (Below.refl _ _).drew) hoffs.2 (S2.drew.take (by omega)) (by omega) (by omega) (by omega) M3.out (Or.inr M4.out)
       go_region_held3 (fun _=>True) (trivial) ((go_at_call 104;(with_reducible refine IH2.mono ?_);rintro e w3 ⟨rfl,q1,q2⟩))
       go_wp2_with fail
       go_end0
       have hon2:Only gd w2 w3:=⟨q2.os,q2.tape,q2.output,q2.size,q2.block⟩
       refine ⟨rfl,?_,((Below.to_only b1 (Nat.le_refl _)).trans hon).trans hon2⟩
       rw [← M5.out,List.append_assoc,← List.append_assoc pre]
       exact q1
theorem tenP_len {i:Nat} (hi:i≤6):B64 ^ (2 ^ i - 1)≤tenP i∧tenP i < B64 ^ (2 ^ i):=by
 unfold tenP
 rcases (by omega:i=0 ∨ i=1 ∨ i=2 ∨ i=3 ∨ i=4 ∨ i=5 ∨ i=6) with h | h | h | h | h | h | h <;> subst h <;> decide +kernel
theorem tenP_limbs {i:Nat} (hi:i≤6):(limbs B64 (tenP i)).length=2 ^ i:=by
 obtain ⟨h1,h2⟩:=tenP_len hi
 have h3:=length_limbs_le B64_two h2
 rcases Nat.lt_or_ge (limbs B64 (tenP i)).length (2 ^ i) with h | h
 · have h4:=lt_pow_limbs B64_two (tenP i)
   have h5:B64 ^ (limbs B64 (tenP i)).length≤B64 ^ (2 ^ i - 1):=Nat.pow_le_pow_right (by decide) (by omega)
   omega
 · omega
theorem tenP_enough {i n V:Nat} (hi:i≤6) (h:¬ 2*2 ^ i - 1≤n) (hV:V < B64 ^ n):V < tenP (i+1):=by
 have hp:=Nat.two_pow_pos i;rw [tenP_succ]
 have h1:=(tenP_len hi).1
 have h2:=Nat.mul_le_mul h1 h1;rw [← Nat.pow_add] at h2
 exact Nat.lt_of_lt_of_le hV (Nat.le_trans (Nat.pow_le_pow_right (by decide) (by omega)) h2)
def SqOwn (B:Nat) (w:World) (v:Value) (n:Nat):Prop :=
 ∃ vals,w.ownsRow B 23 1 v n vals∧∀ i,i < n→∃ Ai ni ci,vals[i]?=some (.slice Ai ni ci)∧Fr .u64 74 w B Ai ni ci (limbs B64 (tenP i))∧ni≤ci
theorem own_same {w w':World} {B:Nat} {e:TypeId} {v:Value} {n:Nat} {xs:List Value} (h:w.ownsRow B e 1 v n xs) (hb:∀ k,k < w.heap.size→v.ownBlock=some k→w'.heap[k]?=w.heap[k]?):w'.ownsRow B e 1 v n xs:=by
 refine ⟨h.1,?_⟩
 rcases h.2 with h2 | ⟨g,cap,cur,rfl,hg,hh,r⟩
 · exact .inl h2
 · refine .inr ⟨g,cap,cur,rfl,hg,?_,r⟩
   have hlt:g < w.heap.size:=by
    rcases Nat.lt_or_ge g w.heap.size with hlt | hge
    · exact hlt
    · rw [Array.getElem?_eq_none hge] at hh;cases hh
   rw [hb g hlt rfl];exact hh
theorem own_apart {B B':Nat} {e e':TypeId} {v v':Value} {n n':Nat} {xs xs':List Value} (h:w.ownsRow B e 1 v n xs) (h':w.ownsRow B' e' 1 v' n' xs') (he:e ≠ e') (k:Nat) (hv:v.ownBlock=some k):v'.ownBlock ≠ some k:=by
 intro hv'
 rcases h.2 with ⟨rfl,_⟩ | ⟨g,cap,cur,rfl,hg,hh,r⟩
 · cases hv
 · rcases h'.2 with ⟨rfl,_⟩ | ⟨g',cap',cur',rfl,hg',hh',r'⟩
   · cases hv'
   · have e1:g=k:=by simpa [Value.ownBlock] using hv
     have e2:g'=k:=by simpa [Value.ownBlock] using hv'
     subst e1;subst e2
     rw [hh] at hh'
     simp only [Option.some.injEq,Obj.cells.injEq] at hh'
     exact he hh'.2.1
theorem Fr.same {K:IntKind} {e:TypeId} {w w':World} {B n c:Nat} {A:Option Addr} {l:List Nat} (h:Fr K e w B A n c l) (hb:∀ k,k < w.heap.size→(Value.slice A n c).ownBlock=some k→w'.heap[k]?=w.heap[k]?):Fr K e w' B A n c l :=
 ⟨h.1,own_same h.2 hb⟩
theorem SqOwn.below {B:Nat} {w w':World} {v:Value} {n:Nat} (h:SqOwn B w v n) (hb:Below w.heap.size w w'):SqOwn B w' v n:=by
 obtain ⟨vals,h1,h2⟩:=h
 refine ⟨vals,own_same h1 (fun k hk _=>hb.block k hk),fun i hi=>?_⟩
 obtain ⟨Ai,ni,ci,e1,e2,e3⟩:=h2 i hi
 exact ⟨Ai,ni,ci,e1,e2.same (fun k hk _=>hb.block k hk),e3⟩
theorem SqOwn.row {w w':World} {v:Value} {n:Nat} (h:SqOwn w.heap.size w' v n) (hn:0 < n) (h7:n≤7):∃ A c,v=.slice A n c∧n≤c∧∀ g,g < w.heap.size→SqRow w' A n g:=by
 obtain ⟨vals,h1,h2⟩:=h
 rcases h1.2 with ⟨_,h0⟩ | ⟨b,cap,cur,rfl,hg,hh,hc,r⟩
 · omega
 · refine ⟨_,_,rfl,hc,fun g hgl i hi=>?_⟩
   obtain ⟨Ai,ni,ci,e1,e2,e3⟩:=h2 i hi
   refine ⟨b,0,Ai,ni,ci,rfl,by omega,?_,⟨e2.rd,e3,?_⟩,e2.off hgl⟩
   · rw [Nat.zero_add,h1.cellAt i (by omega),e1]
   · rw [← e2.1,tenP_limbs (by omega)];exact Nat.le_refl _
theorem own_ge {B:Nat} {e:TypeId} {v:Value} {n:Nat} {xs:List Value} (h:w.ownsRow B e 1 v n xs) (k:Nat) (hv:v.ownBlock=some k):B≤k:=by
 rcases h.2 with ⟨rfl,_⟩ | ⟨g,cap,cur,rfl,hg,_⟩
 · cases hv
 · have:g=k:=by simpa [Value.ownBlock] using hv
   omega
theorem cell_one (w:World) (v:Value) (t:TypeId):(w.alloc (.cells #[v] t)).cell? ((⟨w.heap.size,0,none⟩:Addr).add 0)=some v :=
 (World.ownsRow_lit (base:=0) (size:=1) (e:=t) w #[v] 1 (Nat.zero_le _) (by decide) rfl).cellAt 0 (by decide)
theorem info_sl:(Tryz.prog.info? 23).map (fun i=>(i.zero,i.size,i.bytes))=some (some (.slice none 0 0),1,24):=by kernel_rfl
theorem SqOwn.push {B:Nat} {w w':World} {v v':Value} {n:Nat} {vals:List Value} {A:Option Addr} {m c:Nat} (h1:w.ownsRow B 23 1 v n vals)
 (h2:∀ i,i < n→∃ Ai ni ci,vals[i]?=some (.slice Ai ni ci)∧Fr .u64 74 w B Ai ni ci (limbs B64 (tenP i))∧ni≤ci) (hf:Fr .u64 74 w B A m c (limbs B64 (tenP n))) (hmc:m≤c)
 (hown:w'.ownsRow B 23 1 v' (n+1) (vals ++ [.slice A m c])) (hg:w.grownBy w' v.ownBlock):SqOwn B w' v' (n+1)∧Fr .u64 74 w' B A m c (limbs B64 (tenP n)):=by
 have tr:∀ {l:List Nat} {A:Option Addr} {m c:Nat},Fr .u64 74 w B A m c l→Fr .u64 74 w' B A m c l:=fun hf=>hf.same fun k hk hv=>hg.block k hk fun e=>own_apart hf.2 h1 (by decide) k hv e.symm
 have hl:vals.length=n:=by have:=h1.1;omega
 refine ⟨⟨_,hown,fun i hi=>?_⟩,tr hf⟩
 rcases Nat.lt_or_ge i n with h | h
 · obtain ⟨Ai,ni,ci,e1,e2,e3⟩:=h2 i h
   exact ⟨Ai,ni,ci,by rw [List.getElem?_append_left (by omega)];exact e1,tr e2,e3⟩
 · obtain rfl:i=n:=by omega
   exact ⟨A,m,c,by rw [List.getElem?_append_right (by omega),hl,Nat.sub_self];rfl,tr hf,hmc⟩
theorem squares_any (n:Nat) (w:World) (hn16:16 < n) (hn:n≤78) :
 Calls Tryz.prog 105 #[.int .i64 (n:Int)] w fun e w'=>∃ i v,e=.returned v∧i≤6∧SqOwn w.heap.size w' v (i+1)∧¬ 2*2 ^ i - 1≤n∧Below w.heap.size w w':=by
 obtain ⟨i0,hi0,hz0,hz1,hz2⟩:=info_parts info_sl
 have HT:Hid (limbs B64 (tenTo 19)=limbs B64 (tenP 0)):=rfl
 go_enter Tryz.func105,Tryz.ntmps105
 go_wp2_with (first
  | (go_at_call 132;refine (powerOfTen_any 19 w (by omega)).mono ?_;rintro e w' ⟨rfl,hw⟩;obtain rfl:=hw.symm)
  | (go_at_call 90;refine (of_any (tenTo 19) (tenTo_lt (by omega)) _).mono ?_;rintro e w1 ⟨A1,n1,c1,rfl,p1,p2,p3,p4⟩
     rw [HT.out] at p3))
 have hbw:Below w.heap.size w (w1.alloc (.cells #[.slice A1 n1 c1] 23)):=p4.alloc p4.size _
 have hq:SqOwn w.heap.size (w1.alloc (.cells #[.slice A1 n1 c1] 23)) (.slice (some ⟨w1.heap.size,0,none⟩) 1 1) 1:=by
  refine ⟨_,World.ownsRow_lit w1 #[.slice A1 n1 c1] 1 p4.size (by decide) rfl,fun i hi=>?_⟩
  obtain rfl:i=0:=by omega
  exact ⟨A1,n1,c1,rfl,p3.same (fun k hk _=>Below.heap_alloc _ _ _ hk),p1⟩
 have hfr:=p3.same (w':=w1.alloc (.cells #[.slice A1 n1 c1] 23)) (fun k hk _=>Below.heap_alloc _ _ _ hk)
 clear p2 p3 p4
 go_loopw [3,4] (fun tt tl wr=>∃ (i nt ct:Nat) (At:Option Addr),i≤6∧tt=.slice At nt ct∧nt≤ct∧Fr .u64 74 wr w.heap.size At nt ct (limbs B64 (tenP i))∧SqOwn w.heap.size wr tl (i+1)∧Below w.heap.size w wr) (fun tt _ _=>200 - sLen tt)
 case atStart=>exact ⟨0,n1,c1,A1,by omega,rfl,p1,hfr,hq,hbw⟩
 case round =>
  clear hq hfr hbw p1
  obtain ⟨i,nt,ct,At,hi,rfl,hnc,hfr,hq,hbw⟩:=hrel
  have hnt:nt=2 ^ i:=by rw [← hfr.1];exact tenP_limbs hi
  have h2p:=Nat.two_pow_pos i
  by_cases hle:2*nt - 1≤n
  · have hi5 : i ≤ 5 := by
      refine Nat.not_lt.1 fun h=>?_
      obtain rfl:i=6:=by omega
      have:nt=64:=hnt
      omega
    have hleI:2*(nt:Int) - 1≤(n:Int):=by omega
    have hmul:val B64 (limbs B64 (tenP i))*val B64 (limbs B64 (tenP i))=tenP (i+1):=by rw [val_limbs B64_two,tenP_succ]
    have HM:=Lib.hid hmul;have HNT:=Lib.hid hnt;clear hmul hnt h2p
    go_wp2_with (first
     | (go_at_call 96;(with_reducible refine (mul_few _ _ At At nt ct nt ct wr hfr.rd hfr.rd (lim_limbs B64_two _) (lim_limbs B64_two _) (by omega) hnc hnc (by omega)).mono ?_);rintro e w2 ⟨A2,n2,c2,rfl,q1,q2,q3,q4⟩
        rw [HM.out] at q3;replace q3:=q3.more hbw.size;replace hq:=hq.below q4;replace hbw:=bend hbw q4)
     | (at_builtin
        obtain ⟨vals,hv1,hv2⟩:=hq
        refine wpList_append_own _ rfl (.tmp 20) (.tmp 22) 149 rfl w.heap.size 23 i0 (.slice none 0 0) 1 24 Tryz.underlying149 hi0 hz0 hz1 hz2 rfl (by omega) _ (i+1) vals rfl (own_same hv1 (fun k hk _=>Below.heap_alloc _ _ _ hk)) ⟨w2.heap.size,0,none⟩ 1 1 [.slice A2 n2 c2] rfl rfl ?_ ?_ (by unfold maxLen;omega) (by omega) (Nat.le_trans hbw.size (by simp)) ?_
        · intro j u hu
          match j,hu with
          | 0,hu=>simp at hu;subst hu;exact cell_one w2 _ _
        · intro u hu;simp at hu;subst hu;rfl
        intro v' w3 hown hgr hnil))
    have hal:∀ k,k < w2.heap.size→(w2.alloc (.cells #[.slice A2 n2 c2] 23)).heap[k]?=w2.heap[k]?:=fun k hk=>Below.heap_alloc _ _ _ hk
    obtain ⟨hq3,hf3⟩:=SqOwn.push (own_same hv1 (fun k hk _=>hal k hk)) (fun j hj=>by
     obtain ⟨Ai,ni,ci,e1,e2,e3⟩:=hv2 j hj
     exact ⟨Ai,ni,ci,e1,e2.same (fun k hk _=>hal k hk),e3⟩) (q3.same (fun k hk _=>hal k hk)) q1 hown hgr
    have hb3:Below w.heap.size w w3:=(hbw.alloc hbw.size _).grown hgr (by simp;exact Nat.le_trans hbw.size (Nat.le_succ _)) (fun k hk=>own_ge hv1 k hk)
    go_roundw
    case rel=>exact ⟨i+1,n2,c2,A2,by omega,rfl,q1,hf3,hq3,hb3⟩
    case measure =>
     have h1:=HNT.out
     have h2:=tenP_limbs (i:=i+1) (by omega)
     have h3:n2=2 ^ (i+1):=by rw [← q3.1];exact h2
     have h4:2 ^ i≤32:=Nat.le_trans (Nat.pow_le_pow_right (by decide) hi5) (by decide)
     have h5:=Nat.two_pow_pos i;rw [Nat.pow_succ] at h3
     simp only [sLen];omega
  · have hleI:¬ 2*(nt:Int) - 1≤(n:Int):=by omega
    have hnb:nt≤64:=by rw [hnt];exact Nat.le_trans (Nat.pow_le_pow_right (by decide) hi) (by decide)
    have HNT:=Lib.hid hnt;have HLE:=Lib.hid hle;clear hnt hle
    go_wp2_with fail
    go_ret
    exact ⟨i,_,rfl,hi,hq,by have:=HLE.out;rw [← HNT.out];omega,hbw⟩
theorem pow_le64 {n m r:Nat} (h:n≤m) (hr:r=64*m):B64 ^ n≤2 ^ r:=by
 rw [pow64,hr];exact Nat.pow_le_pow_right (by decide) (Nat.mul_le_mul_left _ h)
theorem squares_all (k V:Nat) (w:World) (hk:k≤78) (hV:V < B64 ^ k) :
 Calls Tryz.prog 105 #[.int .i64 (k:Int)] w fun e w'=>∃ A c j,e=.returned (.slice A j c)∧j≤c∧j≤7∧(∀ g,g < w.heap.size→SqRow w' A j g)∧(k≤16 ∨ V < tenP j)∧Below w.heap.size w w':=by
 by_cases h:k≤16
 · refine (squares_small k w h).mono ?_
   rintro e w' ⟨rfl,rfl⟩
   exact ⟨none,0,0,rfl,Nat.le_refl _,by omega,fun g hg i hi=>absurd hi (by omega),.inl h,Below.refl _ _⟩
 · refine (squares_any k w (by omega) hk).mono ?_
   rintro e w' ⟨i,v,rfl,h1,h2,h3,h4⟩
   obtain ⟨A,c,rfl,h5,h6⟩:=h2.row (by omega) (by omega)
   exact ⟨A,c,i+1,rfl,h5,by omega,h6,.inr (tenP_enough h1 h3 hV),h4⟩
theorem text_any (l:List Nat) (A:Option Addr) (n c:Nat) (w:World) (h:Rd .u64 w A n l) (hL:Lim B64 l) (hn:n≤78) (hnc:n≤c) :
 Calls Tryz.prog 66 #[.slice A n c] w fun e w'=>e=.returned (.string ⟨(txt (val B64 l)).toArray⟩)∧Below w.heap.size w w':=by
 have HN:Hid (n≤maxLen):=by show n≤maxLen;unfold maxLen;omega
 generalize hX:limbs B64 (val B64 l)=xs
 have LX:Lim B64 xs:=by rw [← hX];exact lim_limbs B64_two _
 have HR:Hid (limbs B64 (val B64 l)=xs):=hX
 by_cases hV:val B64 l=0
 · have HX:Hid (xs=[]):=by show _=_;rw [← hX,hV,limbs_zero]
   have HV:=Lib.hid hV;clear hX hV
   go_enter Tryz.func66,Tryz.ntmps66
   go_wp2_with (go_at_call 103;((with_reducible refine (trim_any l A n c _ h hL HN.out hnc).mono ?_);rintro e w' ⟨⟨k,hk,rfl,hka⟩,rfl⟩;rw [HR.out] at hka;obtain rfl:k=0:=by (have:=hka.1;rw [HX.out] at this;exact this.symm)))
   go_ret;rw [HV.out]
   exact ⟨rfl,Below.refl _ _⟩
 · have hvx:val B64 xs=val B64 l:=by rw [← hX,val_limbs B64_two]
   have hlen:0 < xs.length:=by
    rcases Nat.eq_zero_or_pos xs.length with h0 | h0
    · exact absurd ((limbs_eq_nil B64_two).1 (by rw [hX];exact List.eq_nil_of_length_eq_zero h0)) hV
    · exact h0
   obtain ⟨V,hVV⟩:∃ V,V=val B64 l:=⟨_,rfl⟩
   rw [← hVV] at hvx hV ⊢
   have hb9:∀ T,T=64*78→bl V≤T:=fun T hT=>by
    refine bl_le ?_
    have h1:=val_lt hL
    rw [h.1,← hVV] at h1
    exact Nat.lt_of_lt_of_le h1 (pow_le64 hn hT)
   have hb:=hb9 4992 rfl;clear hb9
   obtain ⟨b,hbb⟩:∃ b,b=bl V:=⟨_,rfl⟩
   have hD:=@ten_bits V
   have hDl:=@length_limbs10 V
   rw [← hbb] at hb hD hDl
   obtain ⟨D,hDD⟩:∃ D,D=b*30103 / 100000+1:=⟨_,rfl⟩
   rw [← hDD] at hD hDl
   have hD1024:D≤1600:=by omega
   have hDe:(b:Int)*30103 / 100000+1=(D:Int):=by omega
   have HVX:=Lib.hid hvx
   have HXX:Hid (limbs B64 (val B64 xs)=xs):=by show _=_;rw [hvx,← HR.out,← hVV]
   have HLN:=Lib.hid hlen;have HBB:=Lib.hid hbb;have HD:=Lib.hid hD;have HDl:=Lib.hid hDl;have HV:=Lib.hid hV;clear hX hvx hlen hbb hD hDl hDD hVV hV
   go_enter Tryz.func66,Tryz.ntmps66
   go_wp2_with (first
    | (go_at_call 103;(with_reducible refine (trim_any l A n c _ h hL HN.out hnc).mono ?_);rintro e w' ⟨⟨k,hk,rfl,hka⟩,rfl⟩
       rw [HR.out] at hka;have hkl:=hka.1
       have hk0:0 < k:=by have:=HLN.out;omega
       have hkz:((k:Int) == 0)=false:=by simp;omega
       have HKL:=Lib.hid hkl
       have hNG:NG w A k c V 78:=⟨by rw [← HVX.out,HXX.out];exact hka,by omega,by omega⟩
       clear hkl)
    | (go_at_call 87;refine (bits_any xs A k c _ hka LX (by omega) (by omega)).mono ?_;rintro e w' ⟨rfl,rfl⟩;rw [HVX.out,← HBB.out])
    | (at_make;refine wpList_make8 _ rfl (.tmp 14) (.tmp 14) rfl .i64 .i64 _ _ D rfl rfl rfl rfl (by omega) ?_;intro w1 hown1 hb1)
    | (go_at_call 105;refine (squares_all k V w1 (by omega) (by rw [← HVX.out,← HKL.out];exact val_lt LX)).mono ?_;rintro e w3 ⟨As,cs,j,rfl,s1,s2,s3,s4,b3⟩
       have hg:=s3 w.heap.size hown1.lt;have hown3:=hown1.below b3 hown1.lt;have hb3:=bend hb1 b3)
    | (go_at_call 104;refine (write_any j V [] (List.replicate D 0) [] w.heap.size 0 D D k c A As cs w3 s2 (by simpa using hown3) rfl (by simp) (hNG.below hb3) (Off.of_lt hka (Nat.le_refl _)) hg (by omega) (Nat.le_refl _) s1 HD.out s4).mono ?_;rintro e w2 ⟨rfl,h2,h3⟩))
   have h2':Own .u8 5 w2 w.heap.size (decs V D):=by simpa using h2
   have hpos:Hid (0 < (limbs 10 V).length):=by
    show 0 < _
    rcases Nat.eq_zero_or_pos (limbs 10 V).length with h0 | h0
    · exact absurd ((limbs_eq_nil (by omega)).1 (List.eq_nil_of_length_eq_zero h0)) HV.out
    · exact h0
   obtain ⟨K,hK⟩:∃ K,K=D - (limbs 10 V).length:=⟨_,rfl⟩
   have hKD:K < D:=by have:=hpos.out;have:=HDl.out;omega
   have HK:=Lib.hid hK;clear hK h2
   go_loop [4] (fun i=>∃ f:Nat,f≤K∧i=.int .i64 f) (fun i=>D - (intOf i).toNat)
   case atStart=>exact ⟨0,Nat.zero_le _,rfl⟩
   case round =>
    obtain ⟨f,hf,rfl⟩:=hrel
    by_cases hlt:f < K
    · have hcz:=h2'.cell_at (decs_nought HD.out (by rw [← HK.out];exact hlt))
      go_wp2_with fail
      go_round
      case rel=>exact ⟨f+1,by omega,by go_num⟩
      case measure=>simp [intOf];omega
    · obtain rfl:f=K:=by omega
      obtain ⟨x,hx,hx48⟩:=decs_top HV.out HD.out
      rw [← HK.out] at hx
      have hcz:=h2'.cell_at hx
      have hne:((x:Int) == 48)=false:=by simp;omega
      have hcv:=run_string_of (decs V D) w.heap.size f (D - f) (D - f) w2 h2' (by rw [length_decs];omega)
      have htx:Hid (((decs V D).drop f).map (fun x=>UInt8.ofNat x)=txt V):=by
       show _=_
       rw [HK.out];exact txt_drop HV.out HD.out
      rw [htx.out] at hcv;have HX:=Lib.hid hx;clear hx hx48
      go_wp2_with fail
      go_ret
      exact ⟨rfl,Below.only hb3 (Nat.le_refl _) hb3.size h3⟩
theorem txt_len {V k:Nat} (hV:V < B64 ^ k) (hk:k≤900):(txt V).length≤20000:=by
 by_cases h:V=0
 · subst h;exact (by decide:1≤20000)
 · rw [txt,if_neg h,List.length_map,List.length_reverse]
   have h1:=@length_limbs10 V
   have h2:bl V≤64*k:=bl_le (by rw [← pow64];exact hV)
   omega
theorem text_nr {A:Option Addr} {n c V:Nat} (X:NR w A n c V 78) :
 Calls Tryz.prog 66 #[.slice A n c] w fun e w'=>e=.returned (.string ⟨(txt V).toArray⟩)∧Below w.heap.size w w':=by
 obtain ⟨la,a1,a2,rfl,a4,a5⟩:=X
 exact text_any la A n c w a1 a2 a5 a4
end
end Go.Proofs.YtlpogecpdfdggaaGreat
