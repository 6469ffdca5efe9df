/- HalveCuts: part 4. -/
import Derived.BigRegion
import Derived.Carry
import Derived.Deep.Cut
import Derived.Deep.CutRange
import Derived.Deep.RegionHeld3
import Derived.Handy
import Derived.MapKept
import Derived.Test.YtfpaeophfcoohaaGreatKHalveCuts1
import Derived.Test.YtfpaeophfcoohaaGreatKHalveCuts2
import Derived.Test.YtfpaeophfcoohaaGreatKHalveCuts3
set_option linter.unusedVariables false
set_option maxRecDepth 100000
set_option maxHeartbeats 16000000
variable {w:Go.World}
namespace Go.Proofs.YtfpaeophfcoohaaGreat
section
open Go Go.RowKit
theorem add_into {B:Nat} {Z Q P:List Nat} {h N X:Nat} (hZ:Z.length=N) (hh:h≤N) (hX:val B Z+B ^ h*val B Q=X) (hlt:X < B ^ N) (hP:val B P=(val B (Z.drop h)+val B Q) % B ^ (N - h)) :
 val B (Z.take h ++ P)=X:=by
 have h1:=val_take_drop (B:=B) Z h (by omega)
 have h2:B ^ N=B ^ h*B ^ (N - h):=by rw [← Nat.pow_add];congr 1;omega
 have h3:B ^ h*(val B (Z.drop h)+val B Q)≤X:=by rw [← hX,h1,Nat.mul_add];omega
 have h4:val B (Z.drop h)+val B Q < B ^ (N - h):=by
  rcases Nat.lt_or_ge (val B (Z.drop h)+val B Q) (B ^ (N - h)) with h5 | h5
  · exact h5
  · have h6:=Nat.mul_le_mul_left (B ^ h) h5
    rw [← h2] at h6;omega
 rw [val_append,List.length_take,Nat.min_eq_left (by omega),hP,Nat.mod_eq_of_lt h4,← hX,h1,Nat.mul_add]
 omega
theorem kara_math {a0 a1 b0 b1 p L H S:Nat} (hL:L=a0*b0) (hH:H=a1*b1) (hS:S=(a0+a1)*(b0+b1)) :
 L≤S∧H≤S - L∧(L+p*p*H)+p*(S - L - H)=(a0+p*a1)*(b0+p*b1):=by
 have e:S=L+H+(a0*b1+a1*b0):=by rw [hL,hH,hS];grind
 have e2:S - L - H=a0*b1+a1*b0:=by omega
 refine ⟨by omega,by omega,?_⟩
 rw [e2,hL,hH];grind
def ProdOf (la lb:List Nat) (n m:Nat) (w:World) (e:Ending) (w':World):Prop :=
 ∃ N g L,N=n+m∧e=.returned (.slice (some ⟨g,0,none⟩) N N)∧w.heap.size≤g∧L.length=N∧Lim B64 L∧val B64 L=val B64 la*val B64 lb∧Own .u64 140 w' g L∧Below w.heap.size w w'
def PHyp (T:Nat):Prop:=∀ (la lb:List Nat) (A B:Option Addr) (n c m d:Nat) (w:World),Rd .u64 w A n la→Rd .u64 w B m lb→Lim B64 la→Lim B64 lb→n≤c→m≤d→n+m < T →
 Calls Tryz.prog 132 #[.slice A n c,.slice B m d] w (ProdOf la lb n m w)
theorem kbend {w w1 w2:World} (h:Below w.heap.size w w1) (k:Below w1.heap.size w1 w2):Below w.heap.size w w2:=h.trans (k.mono h.size)
theorem PHyp.use {T:Nat} (H:PHyp T) {la lb:List Nat} {A B:Option Addr} {n c m d:Nat} (h1:Rd .u64 w A n la) (h2:Rd .u64 w B m lb) (h3:Lim B64 la) (h4:Lim B64 lb) (h5:n≤c) (h6:m≤d) (h7:n+m < T) :
 Calls Tryz.prog 132 #[.slice A n c,.slice B m d] w (ProdOf la lb n m w):=H la lb A B n c m d w h1 h2 h3 h4 h5 h6 h7
theorem Own.rdc {K:IntKind} {e:TypeId} {g n:Nat} {L:List Nat} (h:Own K e w g L) (hl:L.length=n):Rd K w (some ⟨g,0,none⟩) n L:=h.rd hl (fun j x hx=>by rw [Nat.zero_add];exact hx)
theorem mul_fits {la lb:List Nat} {n m:Nat} (La:Lim B64 la) (Lb:Lim B64 lb) (h1:la.length=n) (h2:lb.length=m):val B64 la*val B64 lb < B64 ^ (n+m):=by
 have e1:=val_lt La;have e2:=val_lt Lb;rw [h1] at e1;rw [h2] at e2;rw [Nat.pow_add]
 exact Nat.mul_lt_mul'' e1 e2
theorem uneven_any (la lb:List Nat) (b o n c m d h:Nat) (B:Option Addr) (w:World) (ha:Rd .u64 w (some ⟨b,o,none⟩) n la) (hb:Rd .u64 w B m lb) (La:Lim B64 la) (Lb:Lim B64 lb) (hnc:n≤c) (hmd:m≤d)
 (hnm0:n+m≤1000000) (IH:PHyp (n+m)) (hh0:0 < h) (hhn:h < n) :
 Calls Tryz.prog 156 #[.slice (some ⟨b,o,none⟩) n c,.slice B m d,.int .i64 (h:Int)] w (ProdOf la lb n m w):=by
 have HNM:=Lib.hid hnm0
 have ha1:=ha.take (k:=h) (by omega)
 have ha2:=ha.drop (k:=h) (A':=some ⟨b,o+h,none⟩) (by omega) (fun _=>by simp [add_at])
 have hal:=Lib.hid ha.1;have hbl:=Lib.hid hb.1;have HI:=Lib.hid IH
 have hX:=Lib.hid (mul_fits La Lb ha.1 hb.1)
 have hle:(h:Int)≤(c:Int):=by omega
 have hle2:(h:Int)≤(n:Int):=by omega
 clear IH
 go_enter Tryz.func156,Tryz.ntmps156
 go_upto_region 3 with (first
  | (at_make;refine wpList_make64 _ rfl (.tmp 12) (.tmp 12) rfl .i64 .i64 _ _ (n+m) rfl rfl (by omega) (by omega) (by omega) ?_;intro w1 hown1 hb1)
  | (go_at_call 132;(with_reducible refine (HI.out.use (ha1.below hb1) (hb.below hb1) (La.take _) Lb (by omega) hmd (by omega)).mono ?_);rintro e w2 ⟨N1,g1,L1,hN1,rfl,hg1,hl1,hL1,hv1,ho1,hb2⟩
     have HN1:=Lib.hid hN1
     have hle3:(N1:Int)≤(n+m:Nat):=by omega
     clear hN1)
  | (refine wpList_copy64 _ rfl (.tmp 14) (.tmp 19) rfl w.heap.size 0 _ _ N1 N1 (some ⟨g1,0,none⟩) rfl rfl [] (List.replicate N1 0) (List.replicate (n+m - N1) 0) L1 (by rw [List.nil_append,List.replicate_append_replicate,Nat.add_sub_cancel' (by have:=HN1.out;omega)];exact hown1.below hb2 (by have:=hown1.lt;omega)) rfl (by simp) (by have:=HN1.out;omega) (ho1.rdc hl1) ?_;intro w3 hown3 ho3))
 rw [List.nil_append] at hown3
 have hb3:Below w.heap.size w w3:=Below.only (kbend hb1 hb2) (Nat.le_refl _) (by have:=hb1.size;have:=hb2.size;omega) ho3
 have hg3:w.heap.size < w3.heap.size:=hown3.lt
 have ha3:=ha2.below hb3;have hbb3:=hb.below hb3
 generalize hZ:L1 ++ List.replicate (n+m - N1) 0=Z at hown3
 have hZl:Z.length=n+m:=by rw [← hZ,List.length_append,List.length_replicate,hl1];have:=HN1.out;omega
 have hZL:Lim B64 Z:=by rw [← hZ];exact hL1.append (Lim.zeros _ (by decide))
 have hZv:val B64 Z=val B64 (List.take h la)*val B64 lb:=by rw [← hZ,val_snoc_zeros,hv1]
 have HZ:Hid (Z.length=n+m∧val B64 Z=val B64 (List.take h la)*val B64 lb):=⟨hZl,hZv⟩
 clear hZ hZl hZv hl1 hL1 hv1 ho1 hg1
 have hs1:n - h≤c - h:=by omega
 have hs2:n - h+m < n+m:=by omega
 have hch:¬ c=h:=by omega
 have hzh:¬ n+m=h:=by omega
 have hle4:(h:Int)≤(n:Int)+(m:Int):=by omega
 replace hown3:=hown3.drew;replace ha3:=ha3.drew;replace hbb3:=hbb3.drew;replace hb3:=hb3.drew
 replace hg3:w.heap.size < w3.drew.heap.size:=hg3
 go_region_held3 (fun _=>True)
  (first | exact trivial)
  (first
  | (go_at_call 132;(with_reducible refine (HI.out.use ha3 hbb3 (La.drop _) Lb hs1 hmd hs2).mono ?_);rintro e w4 ⟨N2,g2,L2,hN2,rfl,hg2,hl2,hL2,hv2,ho2,hb4⟩
     have HN2:=Lib.hid hN2;clear hN2;have hown4:=hown3.below hb4 hg3
     have hne:w.heap.size ≠ g2:=by have:=hg2;omega)
  | (go_at_call 169
     refine (addTo_any L2 (Z.take h) (Z.drop h) [] w.heap.size h (n+m - h) _ N2 N2 (some ⟨g2,0,none⟩) _ (by rw [List.append_nil,List.take_append_drop];exact hown4) (by rw [List.length_take];have:=HZ.out.1;omega) (by rw [List.length_drop];have:=HZ.out.1;omega) (ho2.rdc hl2) (fun _ ad e=>by cases e;exact fun q=>hne q.symm) hL2 (hZL.drop _) (by have:=HN2.out;omega) (by unfold maxLen;omega)).mono ?_
     rintro e w5 ⟨rfl,⟨P,hP1,hP2,hP3,hP4⟩,ho5⟩))
 have e1:val B64 Z+B64 ^ h*val B64 L2=val B64 la*val B64 lb:=by
  rw [HZ.out.2,hv2,val_take_drop la h (by have:=hal.out;omega),Nat.add_mul,Nat.mul_assoc]
 have e2:=add_into HZ.out.1 (by omega) e1 hX.out hP3
 have e3:(Z.take h ++ P).length=n+m:=by rw [List.length_append,List.length_take,hP1];have:=HZ.out.1;omega
 rw [List.append_nil] at hP4
 have e4:Below w.heap.size w w5:=Below.only (kbend hb3 hb4) (Nat.le_refl _) (by have:=hb4.size;have:=hb3.size;omega) ho5
 clear hP3 hv2 e1 hle4 hle3
 go_wp2_with fail
 go_ret
 exact ⟨n+m,w.heap.size,Z.take h ++ P,rfl,rfl,Nat.le_refl _,e3,(hZL.take _).append hP2,e2,hP4,e4⟩
theorem take_lt2 {l:List Nat} (h:Lim B64 l) (k:Nat) {n:Nat} (_hl:l.length=n):val B64 (l.take k) < B64 ^ k:=by
 have e:=val_lt (h.take k)
 rw [List.length_take] at e
 exact Nat.lt_of_lt_of_le e (Nat.pow_le_pow_right (by decide) (Nat.min_le_left _ _))
theorem drop_lt2 {l:List Nat} (h:Lim B64 l) (k:Nat) {n:Nat} (hl:l.length=n):val B64 (l.drop k) < B64 ^ (n - k):=by
 have e:=val_lt (h.drop k)
 rwa [List.length_drop,hl] at e
theorem kara_end {la lb:List Nat} {n m h:Nat} {L1 L2:List Nat} {M:Nat} (hn:la.length=n) (hm:lb.length=m) (hh:h≤n) (hh2:h≤m) (h1:L1.length=h+h)
 (v1:val B64 L1=val B64 (la.take h)*val B64 (lb.take h)) (v2:val B64 L2=val B64 (la.drop h)*val B64 (lb.drop h))
 (vM:M=(val B64 (la.take h)+val B64 (la.drop h))*(val B64 (lb.take h)+val B64 (lb.drop h)) - val B64 L1 - val B64 L2) :
 val B64 (L1 ++ L2)+B64 ^ h*M=val B64 la*val B64 lb:=by
 have e:=(kara_math (p:=B64 ^ h) v1 v2 rfl).2.2
 rw [← vM] at e
 rw [val_append,h1,Nat.pow_add,e,← val_take_drop la h (by omega),← val_take_drop lb h (by omega)]
theorem kara_le {L1 L2:List Nat} {a0 a1 b0 b1:Nat} (v1:val B64 L1=a0*b0) (v2:val B64 L2=a1*b1) :
 val B64 L1≤(a0+a1)*(b0+b1)∧val B64 L2≤(a0+a1)*(b0+b1) - val B64 L1:=by
 have e:=kara_math (p:=1) v1 v2 rfl
 exact ⟨e.1,e.2.1⟩
theorem limbs_sum_len {a b n m h:Nat} (ha:a < B64 ^ n) (hb:b < B64 ^ m) (hn:n≤h) (hm:m≤h):(limbs B64 (a+b)).length≤h+1:=by
 refine length_limbs_le B64_two ?_
 have e1:B64 ^ n≤B64 ^ h:=Nat.pow_le_pow_right (by decide) hn
 have e2:B64 ^ m≤B64 ^ h:=Nat.pow_le_pow_right (by decide) hm
 have h3:B64 ^ h*2≤B64 ^ (h+1):=by rw [Nat.pow_succ];exact Nat.mul_le_mul_left _ (by decide)
 omega
theorem halves_any (la lb:List Nat) (b o b2 o2 n c m d h:Nat) (w:World) (ha:Rd .u64 w (some ⟨b,o,none⟩) n la) (hb:Rd .u64 w (some ⟨b2,o2,none⟩) m lb) (La:Lim B64 la) (Lb:Lim B64 lb) (hnc:n≤c) (hmd:m≤d)
 (hnm0:n+m≤1000000) (IH:PHyp (n+m)) (hh0:3≤h) (hhn:h < n) (hhm:h < m) (hmn:m≤n) (hnh:n≤2*h) (hnh2:2*h≤n+1) :
 Calls Tryz.prog 157 #[.slice (some ⟨b,o,none⟩) n c,.slice (some ⟨b2,o2,none⟩) m d,.int .i64 (h:Int)] w (ProdOf la lb n m w):=by
 have HNM:=Lib.hid hnm0
 have ha1:=ha.take (k:=h) (by omega)
 have ha2:=ha.drop (k:=h) (A':=some ⟨b,o+h,none⟩) (by omega) (fun _=>by simp [add_at])
 have hb1:=hb.take (k:=h) (by omega)
 have hb2:=hb.drop (k:=h) (A':=some ⟨b2,o2+h,none⟩) (by omega) (fun _=>by simp [add_at])
 have hal:=Lib.hid ha.1;have hbl:=Lib.hid hb.1;have HI:=Lib.hid IH
 have hX:=Lib.hid (mul_fits La Lb ha.1 hb.1)
 have l1:=limbs_sum_len (take_lt2 La h hal.out) (drop_lt2 La h hal.out) (Nat.le_refl h) (show n - h≤h by omega)
 have l2:=limbs_sum_len (take_lt2 Lb h hbl.out) (drop_lt2 Lb h hbl.out) (Nat.le_refl h) (show m - h≤h by omega)
 have HL:=Lib.hid (And.intro l1 l2)
 clear IH l1 l2
 have hle:(h:Int)≤(c:Int):=by omega
 have hle2:(h:Int)≤(n:Int):=by omega
 have hle3:(h:Int)≤(d:Int):=by omega
 have hle4:(h:Int)≤(m:Int):=by omega
 have hch:¬ c=h:=by omega
 have hdh:¬ d=h:=by omega
 have hs1:n - h≤c - h:=by omega
 have hs2:m - h≤d - h:=by omega
 have hs3:h+h < n+m:=by omega
 have hs4:n - h+(m - h) < n+m:=by omega
 have hs5:h≤c:=by omega
 have hs6:h≤d:=by omega
 have hbw:Below w.heap.size w w:=Below.refl _ _
 go_enter Tryz.func157,Tryz.ntmps157
 go_upto_region 1 with (fail)
 replace ha1:=ha1.drew;replace ha2:=ha2.drew;replace hb1:=hb1.drew;replace hb2:=hb2.drew;replace hbw:=hbw.drew
 go_region_held3 (fun _=>True)
  (first | exact trivial)
  (first
  | (go_at_call 132;(with_reducible refine (HI.out.use ha1 hb1 (La.take _) (Lb.take _) hs5 hs6 hs3).mono ?_);rintro e w1 ⟨N1,g1,L1,hN1,rfl,hg1,hl1,hL1,hv1,ho1,hh1⟩
     have HN1:=Lib.hid hN1;clear hN1;replace ha1:=ha1.below hh1;replace ha2:=ha2.below hh1;replace hb1:=hb1.below hh1;replace hb2:=hb2.below hh1
     replace hg1:w.heap.size≤g1:=hg1
     replace hbw:=kbend hbw hh1))
 go_upto_region 2 with (fail)
 clear hh1;replace ha1:=ha1.drew;replace ha2:=ha2.drew;replace hb1:=hb1.drew;replace hb2:=hb2.drew;replace ho1:=ho1.drew
 have hlt1:g1 < w1.drew.heap.size:=ho1.lt
 replace hbw:=hbw.drew
 go_region_held3 (fun _=>True)
  (first | exact trivial)
  (first
  | (go_at_call 132;(with_reducible refine (HI.out.use ha2 hb2 (La.drop _) (Lb.drop _) hs1 hs2 hs4).mono ?_);rintro e w2 ⟨N2,g2,L2,hN2,rfl,hg2,hl2,hL2,hv2,ho2,hh2⟩
     have HN2:=Lib.hid hN2;clear hN2;replace ha1:=ha1.below hh2;replace ha2:=ha2.below hh2;replace hb1:=hb1.below hh2;replace hb2:=hb2.below hh2;replace ho1:=ho1.below hh2 hlt1
     have hne12:g1 ≠ g2:=by omega
     have hg2':w.heap.size≤g2:=by omega
     replace hbw:=kbend hbw hh2))
 go_upto_region 3 with (fail)
 clear hh2 hg2 hlt1;replace ha1:=ha1.drew;replace ha2:=ha2.drew;replace hb1:=hb1.drew;replace hb2:=hb2.drew;replace ho1:=ho1.drew;replace ho2:=ho2.drew
 have hlt1:g1 < w2.drew.heap.size:=ho1.lt
 have hlt2:g2 < w2.drew.heap.size:=ho2.lt
 replace hbw:=hbw.drew
 have hs7:h+(n - h)≤35184372088831:=by omega
 have hs8:h+(m - h)≤35184372088831:=by omega
 have HS:Hid (h+(n - h)≤35184372088831∧h+(m - h)≤35184372088831):=⟨hs7,hs8⟩
 clear hs7 hs8
 go_region_held3 (fun _=>True)
  (first | exact trivial)
  (first
  | (go_at_call 170;(with_reducible refine (add_any _ _ _ _ _ _ _ _ _ ha1 ha2 (La.take _) (La.drop _) HS.out.1 hs5 hs1).mono ?_);rintro e w3 ⟨A3,n3,c3,rfl,h3c,h3d,h3f,hh3⟩
     have h3r:=h3f.rd
     have h3n:n3≤h+1:=by rw [← h3r.1];exact HL.out.1
     replace ha1:=ha1.below hh3;replace ha2:=ha2.below hh3;replace hb1:=hb1.below hh3;replace hb2:=hb2.below hh3;replace ho1:=ho1.below hh3 hlt1;replace ho2:=ho2.below hh3 hlt2
     have hlt1:g1 < w3.heap.size:=ho1.lt
     have hlt2:g2 < w3.heap.size:=ho2.lt
     clear h3f;replace hbw:=kbend hbw hh3)
  | (go_at_call 170;(with_reducible refine (add_any _ _ _ _ _ _ _ _ _ hb1 hb2 (Lb.take _) (Lb.drop _) HS.out.2 hs6 hs2).mono ?_);rintro e w4 ⟨A4,n4,c4,rfl,h4c,h4d,h4f,hh4⟩
     have h4r:=h4f.rd
     have h4n:n4≤h+1:=by rw [← h4r.1];exact HL.out.2
     replace h3r:=h3r.below hh4;replace ho1:=ho1.below hh4 hlt1;replace ho2:=ho2.below hh4 hlt2
     have hlt1:g1 < w4.heap.size:=ho1.lt
     have hlt2:g2 < w4.heap.size:=ho2.lt
     have hs9:n3+n4 < n+m:=by omega
     clear h4f;replace hbw:=kbend hbw hh4)
  | (go_at_call 132;(with_reducible refine (HI.out.use h3r h4r (lim_limbs B64_two _) (lim_limbs B64_two _) h3c h4c hs9).mono ?_);rintro e w5 ⟨N5,g5,L5,hN5,rfl,hg5,hl5,hL5,hv5,ho5,hh5⟩
     have HN5:Hid (N5≤1000000):=by show _≤_;omega
     clear hN5;replace ho1:=ho1.below hh5 hlt1;replace ho2:=ho2.below hh5 hlt2
     have hne15:g1 ≠ g5:=by omega
     have hne25:g2 ≠ g5:=by omega
     have hg5':w.heap.size≤g5:=by omega
     replace hbw:=kbend hbw hh5))
 rw [val_limbs B64_two,val_limbs B64_two] at hv5
 clear ha1 ha2 hb1 hb2 h3r h4r hh3 hh4 hh5 hg5 hlt1 hlt2 hs1 hs2 hs3 hs4 hs5 hs6 hs9 h3n h4n h3c h4c h3d h4d hle hle2 hle3 hle4 hch hdh HL HS HI;have hK:=kara_le hv1 hv2;rw [← hv5] at hK
 have HK1:Hid (val B64 (limbs B64 (val B64 L1))≤val B64 L5):=by show _≤_;rw [val_limbs B64_two];exact hK.1
 have HK2:Hid (val B64 L2≤val B64 L5 - val B64 L1):=hK.2
 have HV:Hid (val B64 L1=val B64 (la.take h)*val B64 (lb.take h)∧val B64 L2=val B64 (la.drop h)*val B64 (lb.drop h)):=⟨hv1,hv2⟩
 have HV5:=Lib.hid hv5;clear hK hv1 hv2 hv5
 have HM1:Hid (N1≤maxLen∧N2≤maxLen∧N5≤maxLen):=by show _∧_∧_;have e1:=HN1.out;have e2:=HN2.out;have e5:=HN5.out;unfold maxLen;omega
 go_upto_region 5 with (first
  | (go_at_call 108;(with_reducible refine (trim_any L1 _ _ _ w5 (ho1.rdc hl1) hL1 HM1.out.1 (Nat.le_refl _)).mono ?_);rintro e w' ⟨⟨k1,hk1,rfl,hr1⟩,rfl⟩
     have hk5:k1≤N5:=by rw [← hr1.1,← hl5];exact Nat.le_trans (length_limbs_mono B64_two (by have:=HK1.out;rwa [val_limbs B64_two] at this)) (limbs_prefix B64_two hL5).2)
  | (go_at_call 171
     refine (takeFrom_any (limbs B64 (val B64 L1)) [] L5 [] g5 0 N5 N5 k1 N1 (some ⟨g1,0,none⟩) w5 (by simpa using ho5) rfl hl5 hr1 (fun _ ad e=>by cases e;exact hne15) (lim_limbs B64_two _) hL5 hk5 HM1.out.2.2 HK1.out).mono ?_
     rintro e w6 ⟨rfl,⟨P5,hl6,hL6,hv6,hp6⟩,hon6⟩))
 rw [val_limbs B64_two] at hv6
 rw [List.nil_append,List.append_nil] at hp6
 have ho1:=ho1.only hon6 hne15;have ho2:=ho2.only hon6 hne25
 have HK3:Hid (val B64 (limbs B64 (val B64 L2))≤val B64 P5):=by show _≤_;rw [val_limbs B64_two,hv6];exact HK2.out
 replace hbw:Below w.heap.size w w6:=Below.only hbw hg5' hbw.size hon6
 go_upto_region 6 with (first
  | (go_at_call 108;(with_reducible refine (trim_any L2 _ _ _ w6 (ho2.rdc hl2) hL2 HM1.out.2.1 (Nat.le_refl _)).mono ?_);rintro e w' ⟨⟨k2,hk2,rfl,hr2⟩,rfl⟩
     have hk6:k2≤N5:=by rw [← hr2.1,← hl6];exact Nat.le_trans (length_limbs_mono B64_two (by have:=HK3.out;rwa [val_limbs B64_two] at this)) (limbs_prefix B64_two hL6).2)
  | (go_at_call 171
     refine (takeFrom_any (limbs B64 (val B64 L2)) [] P5 [] g5 0 N5 N5 k2 N2 (some ⟨g2,0,none⟩) w6 (by simpa using hp6) rfl hl6 hr2 (fun _ ad e=>by cases e;exact hne25) (lim_limbs B64_two _) hL6 hk6 HM1.out.2.2 HK3.out).mono ?_
     rintro e w7 ⟨rfl,⟨P6,hl7,hL7,hv7,hp7⟩,hon7⟩))
 rw [val_limbs B64_two,hv6] at hv7
 rw [List.nil_append,List.append_nil] at hp7
 replace ho1:=ho1.only hon7 hne15;replace ho2:=ho2.only hon7 hne25
 replace hbw:Below w.heap.size w w7:=Below.only hbw hg5' hbw.size hon7
 have HV7:Hid (val B64 P6=val B64 L5 - val B64 L1 - val B64 L2):=hv7
 clear hv7 hv6 hL6 hl6 hp6 hr1 hr2 hon6 hon7 hk1 hk2 hk5 hk6 HK1 HK2 HK3 ho5
 have hq1:g1 < w7.heap.size:=ho1.lt
 have hq2:g2 < w7.heap.size:=ho2.lt
 have hq5:g5 < w7.heap.size:=hp7.lt
 go_upto_region 7 with (at_make;refine wpList_make64 _ rfl (.tmp 52) (.tmp 52) rfl .i64 .i64 _ _ (n+m) rfl rfl (by omega) (by omega) (by omega) ?_;intro w8 hown8 hb8)
 have hle1:(N1:Int)≤(n+m:Nat):=by have:=HN1.out;omega
 go_upto_region 8 with (refine wpList_copy64 _ rfl (.tmp 54) (.tmp 55) rfl w7.heap.size 0 _ _ N1 N1 (some ⟨g1,0,none⟩) rfl rfl [] (List.replicate N1 0) (List.replicate (n+m - N1) 0) L1 (by rw [List.nil_append,List.replicate_append_replicate,Nat.add_sub_cancel' (by have:=HN1.out;omega)];exact hown8) rfl (by simp) (by have:=HN1.out;omega) ((ho1.below hb8 hq1).rdc hl1) ?_;intro w9 hown9 hon9)
 rw [List.nil_append] at hown9;have hz5:=hp7.below hb8 hq5;have hz2:=ho2.below hb8 hq2
 replace hz5:=hz5.only hon9 (by omega)
 replace hz2:=hz2.only hon9 (by omega)
 replace hbw:Below w.heap.size w w9:=Below.only (kbend hbw hb8) hbw.size (by have:=hbw.size;have:=hb8.size;omega) hon9
 have hzs:w7.heap.size < w9.heap.size:=hown9.lt
 generalize hg8:w7.heap.size=g8 at hown9 hzs
 have hne85:g5 ≠ g8:=by omega
 have hw8:w.heap.size≤g8:=by have:=hg5';omega
 clear hg8 hown8 hb8 hon9 hp7 ho1 ho2 hq1 hq2 hq5
 have hle2:(2:Int)*(h:Int)≤(n:Int)+(m:Int):=by omega
 have hlh:(h:Int)≤1000000:=by omega
 have hnz:¬ n+m=2*h:=by omega
 have hq:N1=2*h∧N2=n+m - 2*h:=by have e1:=HN1.out;have e2:=HN2.out;omega
 have HQ:=Lib.hid hq
 have hown9:Own .u64 140 w9 g8 (L1 ++ (List.replicate N2 0 ++ [])):=by
  rw [List.append_nil,show N2=n+m - N1 by omega];exact hown9
 have hle5:N2≤n+m - 2*h:=by omega
 have hpl:L1.length=2*h:=by omega
 have HPL:=Lib.hid hpl;clear hq hpl
 go_upto_region 9 with (refine wpList_copy64 _ rfl (.tmp 60) (.tmp 61) rfl g8 (2*h) _ _ N2 N2 (some ⟨g2,0,none⟩) rfl rfl L1 (List.replicate N2 0) [] L2 hown9 HPL.out (by simp) hle5 (hz2.rdc hl2) ?_;intro w10 hown10 hon10)
 rw [List.append_nil] at hown10;replace hz5:=hz5.only hon10 hne85
 replace hbw:Below w.heap.size w w10:=Below.only hbw hw8 hbw.size hon10
 clear hz2 hon10 hown9 hle2 hlh hnz hle5
 have hll:(L1 ++ L2).length=n+m:=by rw [List.length_append,hl1,hl2];have:=HQ.out;omega
 have HLL:=Lib.hid hll
 have hL12:Lim B64 (L1 ++ L2):=hL1.append hL2
 generalize hZ:L1 ++ L2=Z at hown10 hL12 hll HLL
 have hX2:=kara_end (M:=val B64 P6) hal.out hbl.out (by omega) (by omega) (by rw [hl1];have:=HN1.out;omega) HV.out.1 HV.out.2 (by rw [← HV5.out];exact HV7.out)
 rw [hZ] at hX2;have HX2:=Lib.hid hX2
 have hmt:(limbs B64 (val B64 P6)).length≤n+m - h:=by
  refine length_limbs_le B64_two ?_
  have e1:=hX.out
  rw [← hX2,show n+m=h+(n+m - h) by omega,Nat.pow_add] at e1
  rcases Nat.lt_or_ge (val B64 P6) (B64 ^ (n+m - h)) with e2 | e2
  · exact e2
  · have e3:=Nat.mul_le_mul_left (B64 ^ h) e2
    omega
 have HMT:=Lib.hid hmt;clear hX2 hll hmt hZ HV HV5 HV7 HPL HQ hl1 hl2 hL1 hL2
 have hzh:¬ n+m=h:=by omega
 have hle6:(h:Int)≤(n:Int)+(m:Int):=by omega
 have hwl:=hown10.lt;replace hz5:=hz5.drew;replace hown10:=hown10.drew;replace hbw:=hbw.drew
 go_region_held3 (fun _=>True)
  (first | exact trivial)
  (first
  | (go_at_call 108;(with_reducible refine (trim_any P6 _ _ _ _ (hz5.rdc hl7) hL7 HM1.out.2.2 (Nat.le_refl _)).mono ?_);rintro e w' ⟨⟨k3,hk3,rfl,hr3⟩,rfl⟩
     have hk7:k3≤n+m - h:=by rw [← hr3.1];exact HMT.out)
  | (go_at_call 169
     refine (addTo_any (limbs B64 (val B64 P6)) (Z.take h) (Z.drop h) [] g8 h (n+m - h) _ k3 N5 (some ⟨g5,0,none⟩) _ (by rw [List.append_nil,List.take_append_drop];exact hown10) (by rw [List.length_take,HLL.out];omega) (by rw [List.length_drop,HLL.out]) hr3 (fun _ ad e=>by cases e;exact hne85) (lim_limbs B64_two _) (hL12.drop _) hk7 (by unfold maxLen;omega)).mono ?_
     rintro e w11 ⟨rfl,⟨P,hP1,hP2,hP3,hP4⟩,hon11⟩))
 rw [val_limbs B64_two] at hP3
 have e2:=add_into HLL.out (by omega) HX2.out hX.out hP3
 have e3:(Z.take h ++ P).length=n+m:=by rw [List.length_append,List.length_take,hP1,HLL.out];omega
 rw [List.append_nil] at hP4
 have e4:Below w.heap.size w w11:=Below.only hbw hw8 hbw.size hon11
 clear hP3 hle6
 go_wp2_with fail
 go_ret
 exact ⟨n+m,g8,Z.take h ++ P,rfl,rfl,hw8,e3,(hL12.take _).append hP2,e2,hP4,e4⟩
theorem prodof_comm {la lb:List Nat} {n m:Nat} {e:Ending} {w':World} (h:ProdOf lb la m n w e w'):ProdOf la lb n m w e w':=by
 obtain ⟨N,g,L,rfl,h2,h3,h4,h5,h6,h7⟩:=h
 exact ⟨m+n,g,L,Nat.add_comm m n,h2,h3,h4,h5,by rw [h6,Nat.mul_comm],h7⟩
theorem prodof_few {la lb:List Nat} {n m:Nat} {e:Ending} {w':World} (h:ProductOf la lb n m w e w'):ProdOf la lb n m w e w':=by
 obtain ⟨N,rfl,h2,⟨L,h3,h4,h5,h6⟩,h7⟩:=h
 exact ⟨n+m,w.heap.size,L,rfl,h2,Nat.le_refl _,h3,h4,h5,h6,h7⟩
theorem Rd.some_at {K:IntKind} {A:Option Addr} {n:Nat} {l:List Nat} (h:Rd K w A n l) (hn:0 < n):∃ b o,A=some ⟨b,o,none⟩:=by
 obtain ⟨b,o,rfl,_⟩:=h.at_ hn
 exact ⟨b,o,rfl⟩
theorem product_big (la lb:List Nat) (A B:Option Addr) (n c m d:Nat) (w:World) (ha:Rd .u64 w A n la) (hb:Rd .u64 w B m lb) (La:Lim B64 la) (Lb:Lim B64 lb) (hnc:n≤c) (hmd:m≤d) (hnm0:n+m≤1000000) (IH:PHyp (n+m)) (hm:40 < m) (hn:40 < n) :
 Calls Tryz.prog 132 #[.slice A n c,.slice B m d] w (ProdOf la lb n m w):=by
 have hnm:n+m≤2 ^ 45:=by omega
 obtain ⟨b,o,rfl⟩:=ha.some_at (by omega)
 obtain ⟨b2,o2,rfl⟩:=hb.some_at (by omega)
 by_cases hlt:n < m
 · obtain ⟨h,hh⟩:∃ h,(m+1) / 2=h:=⟨_,rfl⟩
   have hhi:((m:Int)+1) / 2=(h:Int):=by omega
   have hd:decide ((n:Int)≤40)=false:=by simp;omega
   by_cases hle:n≤h
   · have hd2:decide ((n:Int)≤(h:Int))=true:=by simp;omega
     have HC:=Lib.hid (uneven_any lb la b2 o2 m d n c h (some ⟨b,o,none⟩) w hb ha Lb La hmd hnc (by omega) (by rw [Nat.add_comm];exact IH) (by omega) (by omega))
     clear hh IH ha hb
     go_enter Tryz.func132,Tryz.ntmps132
     go_wp2_with (go_at_call 156;refine HC.out.mono ?_;rintro e w' hP;obtain ⟨N,g,L,h1,rfl,h3⟩:=prodof_comm hP;have H1:=Lib.hid h1;clear h1 hP)
     go_ret
     exact ⟨N,g,L,H1.out,rfl,h3⟩
   · have hd2:decide ((n:Int)≤(h:Int))=false:=by simp;omega
     have HC:=Lib.hid (halves_any lb la b2 o2 b o m d n c h w hb ha Lb La hmd hnc (by omega) (by rw [Nat.add_comm];exact IH) (by omega) (by omega) (by omega) (by omega) (by omega) (by omega))
     clear hh IH ha hb
     go_enter Tryz.func132,Tryz.ntmps132
     go_wp2_with (go_at_call 157;refine HC.out.mono ?_;rintro e w' hP;obtain ⟨N,g,L,h1,rfl,h3⟩:=prodof_comm hP;have H1:=Lib.hid h1;clear h1 hP)
     go_ret
     exact ⟨N,g,L,H1.out,rfl,h3⟩
 · obtain ⟨h,hh⟩:∃ h,(n+1) / 2=h:=⟨_,rfl⟩
   have hhi:((n:Int)+1) / 2=(h:Int):=by omega
   have hd:decide ((m:Int)≤40)=false:=by simp;omega
   by_cases hle:m≤h
   · have hd2:decide ((m:Int)≤(h:Int))=true:=by simp;omega
     have HC:=Lib.hid (uneven_any la lb b o n c m d h (some ⟨b2,o2,none⟩) w ha hb La Lb hnc hmd hnm0 IH (by omega) (by omega))
     clear hh IH ha hb
     go_enter Tryz.func132,Tryz.ntmps132
     go_wp2_with (go_at_call 156;refine HC.out.mono ?_;rintro e w' hP;obtain ⟨N,g,L,h1,rfl,h3⟩:=hP;have H1:=Lib.hid h1;clear h1)
     go_ret
     exact ⟨N,g,L,H1.out,rfl,h3⟩
   · have hd2:decide ((m:Int)≤(h:Int))=false:=by simp;omega
     have HC:=Lib.hid (halves_any la lb b o b2 o2 n c m d h w ha hb La Lb hnc hmd hnm0 IH (by omega) (by omega) (by omega) (by omega) (by omega) (by omega))
     clear hh IH ha hb
     go_enter Tryz.func132,Tryz.ntmps132
     go_wp2_with (go_at_call 157;refine HC.out.mono ?_;rintro e w' hP;obtain ⟨N,g,L,h1,rfl,h3⟩:=hP;have H1:=Lib.hid h1;clear h1)
     go_ret
     exact ⟨N,g,L,H1.out,rfl,h3⟩
theorem phyp_all (T:Nat) (hT:T≤1000001):PHyp T:=by
 induction T with
 | zero=>intro la lb A B n c m d w _ _ _ _ _ _ h;omega
 | succ T ih =>
   have IH:=ih (by omega)
   intro la lb A B n c m d w ha hb La Lb hnc hmd h
   by_cases hf:n≤40 ∨ m≤40
   · exact (product_few la lb A B n c m d w ha hb La Lb (by omega) hf).mono fun e w' h=>prodof_few h
   · have IH2:PHyp (n+m):=fun la lb A B n' c m' d w h1 h2 h3 h4 h5 h6 h7=>IH la lb A B n' c m' d w h1 h2 h3 h4 h5 h6 (by omega)
     exact product_big la lb A B n c m d w ha hb La Lb hnc hmd (by omega) IH2 (by omega) (by omega)
theorem mul_any (la lb:List Nat) (A B:Option Addr) (n c m d:Nat) (w:World) (ha:Rd .u64 w A n la) (hb:Rd .u64 w B m lb) (La:Lim B64 la) (Lb:Lim B64 lb) (hnm0:n+m≤1000000)
 (hnc:n≤c) (hmd:m≤d) :
 Calls Tryz.prog 103 #[.slice A n c,.slice B m d] w (GivesS .u64 140 w (limbs B64 (val B64 la*val B64 lb))):=by
 have HN:Hid (n≤maxLen∧m≤maxLen):=⟨by unfold maxLen;omega,by unfold maxLen;omega⟩
 have HNM:=Lib.hid hnm0;clear hnm0
 generalize hX:limbs B64 (val B64 la)=xs
 have LX:Lim B64 xs:=by rw [← hX];exact lim_limbs B64_two _
 generalize hY:limbs B64 (val B64 lb)=ys
 have LY:Lim B64 ys:=by rw [← hY];exact lim_limbs B64_two _
 have HX:=Lib.hid hX;have HY:=Lib.hid hY;clear hX hY
 go_enter Tryz.func103,Tryz.ntmps103
 go_wp2_with (first
  | (go_at_call 108;(with_reducible refine (trim_any la A n c w ha La HN.out.1 hnc).mono ?_);rintro e w' ⟨⟨k,hk,rfl,hka⟩,rfl⟩;rw [HX.out] at hka)
  | (go_at_call 108;(with_reducible refine (trim_any lb B m d w hb Lb HN.out.2 hmd).mono ?_);rintro e w' ⟨⟨k2,hk2,rfl,hkb⟩,rfl⟩;rw [HY.out] at hkb)
  | (go_at_call 132;refine ((phyp_all 1000001 (Nat.le_refl _)).use hka hkb LX LY (by omega) (by omega) (by have:=HNM.out;omega)).mono ?_;rintro e w1 ⟨N,g,L,hN,rfl,hg,h1,h2,h3,h4,h5⟩
     have HN':=Lib.hid h1
     have H3:=Lib.hid h3
     have HNN:Hid (N≤maxLen):=by (show N≤maxLen;have:=HNM.out;unfold maxLen;omega)
     clear hN h1 h3)
  | (go_at_call 108;refine (trim_own L g N w.heap.size w1 h4 hg HN'.out h2 HNN.out).mono ?_;rintro e w' ⟨⟨k3,hk3,rfl,hfr⟩,rfl⟩))
 go_ret
 rw [H3.out,← HX.out,← HY.out,val_limbs B64_two,val_limbs B64_two] at hfr
 exact ⟨_,_,_,rfl,hk3,HNN.out,hfr,h5⟩
end
section
open Go.RowKit
def NR (w:World) (A:Option Addr) (n c V k:Nat):Prop:=∃ l,Rd .u64 w A n l∧Lim B64 l∧val B64 l=V∧n≤c∧n≤k
def NG (w:World) (A:Option Addr) (n c V k:Nat):Prop:=Rd .u64 w A n (limbs B64 V)∧n≤c∧n≤k
def GivesN (w:World) (V k:Nat) (e:Ending) (w':World):Prop :=
 ∃ A n c,e=.returned (.slice A n c)∧NG w' A n c V k∧Below w.heap.size w w'
section
variable {w w':World} {A B:Option Addr} {n c m d U V k k1 k2:Nat}
theorem NG.nr (h:NG w A n c V k):NR w A n c V k:=⟨_,h.1,lim_limbs B64_two _,val_limbs B64_two _,h.2.1,h.2.2⟩
theorem NR.below (h:NR w A n c V k) (hb:Below w.heap.size w w'):NR w' A n c V k:=by
 obtain ⟨l,h1,h2,h3,h4,h5⟩:=h
 exact ⟨l,h1.below hb,h2,h3,h4,h5⟩
theorem NG.below (h:NG w A n c V k) (hb:Below w.heap.size w w'):NG w' A n c V k:=⟨h.1.below hb,h.2.1,h.2.2⟩
theorem NR.lt (h:NR w A n c V k):V < B64 ^ k:=by
 obtain ⟨l,h1,h2,h3,h4,h5⟩:=h
 have:=val_lt h2
 rw [h3,h1.1] at this
 exact Nat.lt_of_lt_of_le this (Nat.pow_le_pow_right (by decide) h5)
theorem NR.nil (w:World) (k:Nat):NR w none 0 0 0 k:=⟨[],Rd.nil,Lim.nil,rfl,Nat.le_refl _,Nat.zero_le _⟩
theorem NR.more (h:NR w A n c V k) (hk:k≤k1):NR w A n c V k1:=by
 obtain ⟨l,h1,h2,h3,h4,h5⟩:=h
 exact ⟨l,h1,h2,h3,h4,by omega⟩
theorem GivesS.toN {w0:World} {e:Ending} (h:GivesS .u64 140 w0 (limbs B64 V) e w') (hV:V < B64 ^ k):GivesN w0 V k e w':=by
 obtain ⟨A,n,c,rfl,h1,h2,h3,h4⟩:=h
 refine ⟨A,n,c,rfl,⟨h3.rd,h1,?_⟩,h4⟩
 rw [← h3.1];exact length_limbs_le B64_two hV
theorem gcd_nr (X:NR w A n c U k) (Y:NR w B m d V k) (hk:k≤900000) :
 Calls Tryz.prog 128 #[.slice A n c,.slice B m d] w (GivesN w (Nat.gcd U V) k):=by
 have hs:Nat.gcd U V < B64 ^ k:=by
  rcases Nat.eq_zero_or_pos U with h0 | h0
  · rw [h0,Nat.gcd_zero_left];exact Y.lt
  · exact Nat.lt_of_le_of_lt (Nat.gcd_le_left _ h0) X.lt
 obtain ⟨la,a1,a2,rfl,a4,a5⟩:=X
 obtain ⟨lb,b1,b2,rfl,b4,b5⟩:=Y
 exact (gcd_any la lb A B n c m d w a1 b1 a2 b2 (by omega) (by omega) a4 b4).mono fun e w' h=>h.toN hs
def GivesNN (w:World) (Q R k1 k2:Nat) (e:Ending) (w':World):Prop :=
 ∃ A n c A' n' c',e=.returned (.tuple #[.slice A n c,.slice A' n' c',.int .i64 0])∧NG w' A n c Q k1∧NG w' A' n' c' R k2∧Below w.heap.size w w'
theorem dm_nr (X:NR w A n c U k1) (Y:NR w B m d V k2) (h1:k1≤900000) (h2:k2≤900000) (hV:V ≠ 0) :
 Calls Tryz.prog 129 #[.slice A n c,.slice B m d] w (GivesNN w (U / V) (U % V) k1 k2):=by
 have hX:=X.lt;have hY:=Y.lt
 have hr:=Nat.mod_lt U (show V > 0 by omega)
 have hq:=Nat.div_le_self U V
 obtain ⟨la,a1,a2,rfl,a4,a5⟩:=X
 obtain ⟨lb,b1,b2,rfl,b4,b5⟩:=Y
 refine (divmod_any la lb A B n c m d w a1 b1 a2 b2 (by omega) (by omega) a4 b4 hV).mono ?_
 rintro e w' ⟨A1,n1,c1,A2,n2,c2,rfl,p1,p2,p3,p4,p5,p6,p7⟩
 refine ⟨A1,n1,c1,A2,n2,c2,rfl,⟨p5.rd,p1,?_⟩,⟨p6.rd,p3,?_⟩,p7⟩
 · rw [← p5.1];exact length_limbs_le B64_two (by omega)
 · rw [← p6.1];exact length_limbs_le B64_two (by omega)
theorem NG.zero (h:NG w A n c V k) (hV:V=0):n=0:=by
 have:=h.1.1
 rw [hV,limbs_zero] at this
 exact this.symm
theorem NG.pos (h:NG w A n c V k) (hV:V ≠ 0):0 < n:=by
 have:=h.1.1
 rw [limbs_pos B64_two hV] at this
 simp at this;omega
end
theorem bend {w w1 w2:World} (h:Below w.heap.size w w1) (k:Below w1.heap.size w1 w2):Below w.heap.size w w2:=h.trans (k.mono h.size)
theorem NG.le {A:Option Addr} {n c V k:Nat} (h:NG w A n c V k):n≤k:=h.2.2
theorem NG.rd {A:Option Addr} {n c V k:Nat} (h:NG w A n c V k):Rd .u64 w A n (limbs B64 V):=h.1
theorem NG.more {A:Option Addr} {n c V k k1:Nat} (h:NG w A n c V k) (hk:k≤k1):NG w A n c V k1:=⟨h.1,h.2.1,Nat.le_trans h.2.2 hk⟩
theorem NG.only {w w':World} {A:Option Addr} {n c V k g:Nat} (h:NG w A n c V k) (ho:Off A n g) (hb:Only g w w'):NG w' A n c V k:=⟨h.1.only ho hb,h.2.1,h.2.2⟩
end
section
open Go.RowKit
def tenP (i:Nat):Nat:=10 ^ (19*2 ^ i)
def SqRow (w:World) (A:Option Addr) (n g:Nat):Prop :=
 ∀ i,i < n→∃ b o Ai ni ci,A=some ⟨b,o,none⟩∧b ≠ g∧w.cell? ⟨b,o+i,none⟩=some (.slice Ai ni ci)∧NG w Ai ni ci (tenP i) (2 ^ i)∧Off Ai ni g
theorem SqRow.only {w w':World} {A:Option Addr} {n g:Nat} (h:SqRow w A n g) (hb:Only g w w'):SqRow w' A n g:=by
 intro i hi
 obtain ⟨b,o,Ai,ni,ci,h1,h2,h3,h4,h5⟩:=h i hi
 exact ⟨b,o,Ai,ni,ci,h1,h2,(World.cell?_of_block (hb.block b (World.block_lt_of_cell? w _ h3) h2)).trans h3,h4.only h5 hb,h5⟩
theorem SqRow.below {w w':World} {A:Option Addr} {n g:Nat} (h:SqRow w A n g) (hb:Below w.heap.size w w'):SqRow w' A n g:=by
 intro i hi
 obtain ⟨b,o,Ai,ni,ci,h1,h2,h3,h4,h5⟩:=h i hi
 exact ⟨b,o,Ai,ni,ci,h1,h2,(World.cell?_of_block (hb.block b (World.block_lt_of_cell? w _ h3))).trans h3,h4.below hb,h5⟩
theorem SqRow.take {A:Option Addr} {n m g:Nat} (h:SqRow w A n g) (hm:m≤n):SqRow w A m g:=fun i hi=>h i (by omega)
theorem SqRow.drew {A:Option Addr} {n g:Nat} (h:SqRow w A n g):SqRow w.drew A n g:=h.below (Below.refl _ _).drew
theorem Fr.off {K:IntKind} {e:TypeId} {B n c:Nat} {A:Option Addr} {l:List Nat} (h:Fr K e w B A n c l) {g:Nat} (hg:g < B):Off A n g:=by
 intro hn ad e
 obtain ⟨g',h1,h2,_⟩:=h.own hn
 rw [h1] at e;cases e
 show g' ≠ g
 omega
theorem tenP_len {i:Nat} (hi:i≤6):B64 ^ (2 ^ i - 1)≤tenP i∧tenP i < B64 ^ (2 ^ i):=by
 unfold tenP
 rcases (by omega:i=0 ∨ i=1 ∨ i=2 ∨ i=3 ∨ i=4 ∨ i=5 ∨ i=6) with h | h | h | h | h | h | h <;> subst h <;> decide +kernel
theorem tenP_limbs {i:Nat} (hi:i≤6):(limbs B64 (tenP i)).length=2 ^ i:=by
 obtain ⟨h1,h2⟩:=tenP_len hi
 have h3:=length_limbs_le B64_two h2
 rcases Nat.lt_or_ge (limbs B64 (tenP i)).length (2 ^ i) with h | h
 · have h4:=lt_pow_limbs B64_two (tenP i)
   have h5:B64 ^ (limbs B64 (tenP i)).length≤B64 ^ (2 ^ i - 1):=Nat.pow_le_pow_right (by decide) (by omega)
   omega
 · omega
def SqOwn (B:Nat) (w:World) (v:Value) (n:Nat):Prop :=
 ∃ vals,w.ownsRow B 22 1 v n vals∧∀ i,i < n→∃ Ai ni ci,vals[i]?=some (.slice Ai ni ci)∧Fr .u64 140 w B Ai ni ci (limbs B64 (tenP i))∧ni≤ci
theorem own_same {w w':World} {B:Nat} {e:TypeId} {v:Value} {n:Nat} {xs:List Value} (h:w.ownsRow B e 1 v n xs) (hb:∀ k,k < w.heap.size→v.ownBlock=some k→w'.heap[k]?=w.heap[k]?):w'.ownsRow B e 1 v n xs:=by
 refine ⟨h.1,?_⟩
 rcases h.2 with h2 | ⟨g,cap,cur,rfl,hg,hh,r⟩
 · exact .inl h2
 · refine .inr ⟨g,cap,cur,rfl,hg,?_,r⟩
   have hlt:g < w.heap.size:=by
    rcases Nat.lt_or_ge g w.heap.size with hlt | hge
    · exact hlt
    · rw [Array.getElem?_eq_none hge] at hh;cases hh
   rw [hb g hlt rfl];exact hh
theorem own_apart {B B':Nat} {e e':TypeId} {v v':Value} {n n':Nat} {xs xs':List Value} (h:w.ownsRow B e 1 v n xs) (h':w.ownsRow B' e' 1 v' n' xs') (he:e ≠ e') (k:Nat) (hv:v.ownBlock=some k):v'.ownBlock ≠ some k:=by
 intro hv'
 rcases h.2 with ⟨rfl,_⟩ | ⟨g,cap,cur,rfl,hg,hh,r⟩
 · cases hv
 · rcases h'.2 with ⟨rfl,_⟩ | ⟨g',cap',cur',rfl,hg',hh',r'⟩
   · cases hv'
   · have e1:g=k:=by simpa [Value.ownBlock] using hv
     have e2:g'=k:=by simpa [Value.ownBlock] using hv'
     subst e1;subst e2
     rw [hh] at hh'
     simp only [Option.some.injEq,Obj.cells.injEq] at hh'
     exact he hh'.2.1
theorem Fr.same {K:IntKind} {e:TypeId} {w w':World} {B n c:Nat} {A:Option Addr} {l:List Nat} (h:Fr K e w B A n c l) (hb:∀ k,k < w.heap.size→(Value.slice A n c).ownBlock=some k→w'.heap[k]?=w.heap[k]?):Fr K e w' B A n c l :=
 ⟨h.1,own_same h.2 hb⟩
theorem SqOwn.below {B:Nat} {w w':World} {v:Value} {n:Nat} (h:SqOwn B w v n) (hb:Below w.heap.size w w'):SqOwn B w' v n:=by
 obtain ⟨vals,h1,h2⟩:=h
 refine ⟨vals,own_same h1 (fun k hk _=>hb.block k hk),fun i hi=>?_⟩
 obtain ⟨Ai,ni,ci,e1,e2,e3⟩:=h2 i hi
 exact ⟨Ai,ni,ci,e1,e2.same (fun k hk _=>hb.block k hk),e3⟩
theorem SqOwn.row {w w':World} {v:Value} {n:Nat} (h:SqOwn w.heap.size w' v n) (hn:0 < n) (h7:n≤7):∃ A c,v=.slice A n c∧n≤c∧∀ g,g < w.heap.size→SqRow w' A n g:=by
 obtain ⟨vals,h1,h2⟩:=h
 rcases h1.2 with ⟨_,h0⟩ | ⟨b,cap,cur,rfl,hg,hh,hc,r⟩
 · omega
 · refine ⟨_,_,rfl,hc,fun g hgl i hi=>?_⟩
   obtain ⟨Ai,ni,ci,e1,e2,e3⟩:=h2 i hi
   refine ⟨b,0,Ai,ni,ci,rfl,by omega,?_,⟨e2.rd,e3,?_⟩,e2.off hgl⟩
   · rw [Nat.zero_add,h1.cellAt i (by omega),e1]
   · rw [← e2.1,tenP_limbs (by omega)];exact Nat.le_refl _
theorem SqOwn.push {B:Nat} {w w':World} {v v':Value} {n:Nat} {vals:List Value} {A:Option Addr} {m c:Nat} (h1:w.ownsRow B 22 1 v n vals)
 (h2:∀ i,i < n→∃ Ai ni ci,vals[i]?=some (.slice Ai ni ci)∧Fr .u64 140 w B Ai ni ci (limbs B64 (tenP i))∧ni≤ci) (hf:Fr .u64 140 w B A m c (limbs B64 (tenP n))) (hmc:m≤c)
 (hown:w'.ownsRow B 22 1 v' (n+1) (vals ++ [.slice A m c])) (hg:w.grownBy w' v.ownBlock):SqOwn B w' v' (n+1)∧Fr .u64 140 w' B A m c (limbs B64 (tenP n)):=by
 have tr:∀ {l:List Nat} {A:Option Addr} {m c:Nat},Fr .u64 140 w B A m c l→Fr .u64 140 w' B A m c l:=fun hf=>hf.same fun k hk hv=>hg.block k hk fun e=>own_apart hf.2 h1 (by decide) k hv e.symm
 have hl:vals.length=n:=by have:=h1.1;omega
 refine ⟨⟨_,hown,fun i hi=>?_⟩,tr hf⟩
 rcases Nat.lt_or_ge i n with h | h
 · obtain ⟨Ai,ni,ci,e1,e2,e3⟩:=h2 i h
   exact ⟨Ai,ni,ci,by rw [List.getElem?_append_left (by omega)];exact e1,tr e2,e3⟩
 · obtain rfl:i=n:=by omega
   exact ⟨A,m,c,by rw [List.getElem?_append_right (by omega),hl,Nat.sub_self];rfl,tr hf,hmc⟩
end
section
open Go.RowKit
def Bx (W:World) (g:Nat) (x y:Value):Prop:=W.heap[g]?=some (.cells #[x,y] 24 (0,0))
section
variable {W W':World} {g:Nat} {x y:Value}
theorem Bx.c0 (h:Bx W g x y):W.cell? ⟨g,0,none⟩=some x:=by rw [cell_of_row W g 0 _ _ (0,0) h];rfl
theorem Bx.c1 (h:Bx W g x y):W.cell? ⟨g,1,none⟩=some y:=by rw [cell_of_row W g 1 _ _ (0,0) h];rfl
theorem Bx.all (h:Bx W g x y):W.cell? ⟨g,0,none⟩=some x∧W.cell? ⟨g,1,none⟩=some y:=⟨h.c0,h.c1⟩
theorem Bx.f0 (h:Bx W g x y):W.frozen? ⟨g,0,none⟩=false:=frozen_of_row W g 0 _ _ h
theorem Bx.f1 (h:Bx W g x y):W.frozen? ⟨g,1,none⟩=false:=frozen_of_row W g 1 _ _ h
theorem Bx.lt (h:Bx W g x y):g < W.heap.size:=World.block_lt_of_cell? W _ h.c0
theorem Bx.below (h:Bx W g x y) (hb:Below W.heap.size W W'):Bx W' g x y:=(hb.block g h.lt).trans h
theorem Bx.drew (h:Bx W g x y):Bx W.drew g x y:=h
theorem Bx.alloc (h:Bx W g x y) (o:Obj):Bx (W.alloc o) g x y:=(Below.heap_alloc W o g h.lt).trans h
theorem Bx.new (W:World) (x y:Value):Bx (W.alloc (.cells #[x,y] 24)) W.heap.size x y:=heap_alloc_new W _
theorem Bx.new' (W:World) (x y:Value) (g:Nat) (hg:g=W.heap.size):Bx (W.alloc (.cells #[x,y] 24)) g x y:=by subst hg;exact Bx.new W x y
theorem set2_cell (W:World) (g k o:Nat) (x y:Value) (h:k ≠ g):((W.setCell ⟨g,0,none⟩ x).setCell ⟨g,1,none⟩ y).cell? ⟨k,o,none⟩=W.cell? ⟨k,o,none⟩:=by
 rw [World.cell?_of_block (Below.heap_setCell _ _ _ _ h),World.cell?_of_block (Below.heap_setCell _ _ _ _ h)]
theorem Bx.set2 (h:Bx W g x y) (u v:Value):Bx ((W.setCell ⟨g,0,none⟩ u).setCell ⟨g,1,none⟩ v) g u v:=by
 unfold Bx at h ⊢
 simp [World.setCell,Array.getElem?_modify,h]
end
theorem number_any (neg:Bool) (A:Option Addr) (n c:Nat) (w:World) :
 Calls Tryz.prog 99 #[.bool neg,.slice A n c] w fun e w'=>e=.returned (.agg #[.bool (neg && decide (0 < n)),.slice A n c])∧Below w.heap.size w w':=by
 cases neg
 · go_enter Tryz.func99,Tryz.ntmps99
   go_wp2
   go_returns
   exact ⟨rfl,(Below.refl _ _).alloc (Nat.le_refl _) _⟩
 · go_enter Tryz.func99,Tryz.ntmps99
   go_wp2
   go_returns
   exact ⟨by simp,(Below.refl _ _).alloc (Nat.le_refl _) _⟩
def iv (s:Bool) (V:Nat):Int:=if s then -(V:Int) else V
theorem iv_natAbs (s:Bool) (V:Nat):(iv s V).natAbs=V:=by cases s <;> simp [iv]
theorem iv_neg (s:Bool) (V:Nat):decide (iv s V < 0)=(s && decide (0 < V)):=by
 cases s
 · simp [iv]
 · simp [iv]
def GivesI (w:World) (v:Int) (e:Ending) (w':World):Prop :=
 ∃ A n c,e=.returned (.agg #[.bool (decide (v < 0)),.slice A n c])∧n≤c∧c≤maxLen∧Fr .u64 140 w' w.heap.size A n c (limbs B64 v.natAbs)∧Below w.heap.size w w'
theorem limbs_len_pos {V n:Nat} (h:(limbs B64 V).length=n):decide (0 < n)=decide (0 < V):=by
 rcases Nat.eq_zero_or_pos V with h0 | h0
 · subst h0;rw [limbs_zero] at h;subst h;rfl
 · have h1 : 0 < n := by
     rw [limbs_pos B64_two (by omega)] at h;simp at h;omega
   simp [h0,h1]
theorem Fr.base {K:IntKind} {e:TypeId} {B n c:Nat} {A:Option Addr} {l:List Nat} (h:Fr K e w B A n c l):∀ ad,A=some ad→B≤ad.block:=by
 intro ad hA
 rcases h.2.2 with ⟨h2,_⟩ | ⟨g,cap,cur,hv,hg,r⟩
 · subst hA;cases h2
 · subst hA
   injection hv with ha
   injection ha with ha
   subst ha
   exact hg
theorem close_i {w W w1 w2:World} {s:Bool} {V g B1:Nat} {v:Int} {A1:Option Addr} {n1 k1:Nat} (hb0:Below w.heap.size w W) (hg0:w.heap.size≤g) (hg:g < B1) (hv:v=iv s V)
 (p1:n1≤k1) (p2:k1≤maxLen) (p3:Fr .u64 140 w1 B1 A1 n1 k1 (limbs B64 V)) (p4:Below W.heap.size W w1) (q4:Below w1.heap.size w1 w2) (u x:Value) :
 GivesI w v (.returned (.agg #[.bool (s && decide (0 < n1)),.slice A1 n1 k1])) ((w2.setCell ⟨g,0,none⟩ u).setCell ⟨g,1,none⟩ x):=by
 subst hv
 have h1:W.heap.size≤w1.heap.size:=p4.size
 have h2:w.heap.size≤W.heap.size:=hb0.size
 have hbl:Below w.heap.size w w2:=hb0.trans ((p4.mono h2).trans (q4.mono (by omega)))
 refine ⟨A1,n1,k1,?_,p1,p2,?_,(hbl.setCell hg0 _).setCell hg0 _⟩
 · rw [iv_neg,limbs_len_pos p3.1]
 · rw [iv_natAbs]
   refine Fr.only (g:=g) ((p3.more (by omega)).below q4 (Nat.le_refl _)) (((Only.refl g w2).setCell 0 u).setCell 1 x) ?_
   intro ad hA
   have:=p3.base ad hA
   omega
end
section
open Go.RowKit
theorem mkbx0_4 {w W:World} {x0 x1 x2 x3 x4 x5:Value} (h:(((w.alloc (Obj.cells #[x0,x1] 24)).alloc (Obj.cells #[x2,x3] 24)).alloc (Obj.cells #[x4,x5] 24))=W):Below w.heap.size w W∧W.heap.size=w.heap.size+3∧Bx W (w.heap.size) x0 x1∧Bx W (w.heap.size+1) x2 x3∧Bx W (w.heap.size+1+1) x4 x5:=by subst h;exact ⟨by exact (((Below.refl _ _).alloc (Nat.le_refl _) _).alloc (by simp) _).alloc (by simp;omega) _,by simp,by exact ((Bx.new w _ _).alloc _).alloc _,by exact (Bx.new' _ _ _ _ (by simp)).alloc _,by exact Bx.new' _ _ _ _ (by simp)⟩
theorem zadd_same (s:Bool) (la lb:List Nat) (A B:Option Addr) (n c m d:Nat) (w:World) (ha:Rd .u64 w A n la) (hb:Rd .u64 w B m lb) (La:Lim B64 la) (Lb:Lim B64 lb)
 (hnc:n≤c) (hmd:m≤d) (hnm0:n+m≤35184372088831) :
 Calls Tryz.prog 159 #[.agg #[.bool s,.slice A n c],.agg #[.bool s,.slice B m d]] w (GivesI w (iv s (val B64 la+val B64 lb))):=by
 go_enter Tryz.func159,Tryz.ntmps159
 go_wp2
 generalize hW:World.alloc _ _=W
 obtain ⟨hb0,hz,X,Y,Z⟩:=mkbx0_4 hW;clear hW;obtain ⟨c0,c1⟩:=X.all;obtain ⟨d0,d1⟩:=Y.all
 go_region_held3 (fun w'=>w'.cell? ⟨w.heap.size,0,none⟩=some (.bool s)∧w'.cell? ⟨w.heap.size,1,none⟩=some (.slice A n c)∧w'.cell? ⟨w.heap.size+1,0,none⟩=some (.bool s)∧w'.cell? ⟨w.heap.size+1,1,none⟩=some (.slice B m d))
  (first | exact ⟨X.c0,X.c1,Y.c0,Y.c1⟩ | exact ⟨X1.c0,X1.c1,Y1.c0,Y1.c1⟩ | exact ⟨X2.c0,X2.c1,Y2.c0,Y2.c1⟩ | exact ⟨(set2_cell _ _ _ _ _ _ (by omega)).trans X2.c0,(set2_cell _ _ _ _ _ _ (by omega)).trans X2.c1,(set2_cell _ _ _ _ _ _ (by omega)).trans Y2.c0,(set2_cell _ _ _ _ _ _ (by omega)).trans Y2.c1⟩)
  (first
   | (go_at_call 170;(with_reducible refine (add_any la lb _ _ _ _ _ _ _ (ha.below hb0).drew (hb.below hb0).drew La Lb hnm0 hnc hmd).mono ?_);rintro e w1 ⟨A1,n1,k1,rfl,p1,p2,p3,p4⟩
      replace p4:Below W.heap.size W w1:=(Below.refl _ W).drew.trans p4
      have z1:W.heap.size≤w1.heap.size:=p4.size
      have X1:=X.below p4;have Y1:=Y.below p4;have Z1:=Z.below p4)
   | (go_at_call 99;(with_reducible refine (number_any _ _ _ _ _).mono ?_);rintro e w2 ⟨rfl,q4⟩
      have z2:w1.heap.size≤w2.heap.size:=q4.size
      have X2:=X1.below q4;have Y2:=Y1.below q4;have Z2:=Z1.below q4;obtain ⟨r0,r1⟩:=Z2.all;have r2:=Z2.f0;have r3:=Z2.f1))
 go_wp2
 have hf0:=(Z2.set2 (.bool (s && decide (0 < n1))) (.slice A1 n1 k1)).c0
 have hf1:=(Z2.set2 (.bool (s && decide (0 < n1))) (.slice A1 n1 k1)).c1
 refine bodyPost_ret (v:=.agg #[.bool (s && decide (0 < n1)),.slice A1 n1 k1]) (by simp [results,Tryz.results159,go_sem,hf0,hf1]) rfl ?_
 exact close_i (g:=w.heap.size+1+1) hb0 (by omega) (by show _ < W.heap.size;omega) rfl p1 p2 p3 p4 q4 _ _
theorem zmul_any (s t:Bool) (la lb:List Nat) (A B:Option Addr) (n c m d:Nat) (w:World) (ha:Rd .u64 w A n la) (hb:Rd .u64 w B m lb) (La:Lim B64 la) (Lb:Lim B64 lb)
 (hnc:n≤c) (hmd:m≤d) (hnm0:n+m≤1000000) :
 Calls Tryz.prog 61 #[.agg #[.bool s,.slice A n c],.agg #[.bool t,.slice B m d]] w (GivesI w (iv (!(s == t)) (val B64 la*val B64 lb))):=by
 go_enter Tryz.func61,Tryz.ntmps61
 go_wp2
 generalize hW:World.alloc _ _=W
 obtain ⟨hb0,hz,X,Y,Z⟩:=mkbx0_4 hW;clear hW;obtain ⟨c0,c1⟩:=X.all;obtain ⟨d0,d1⟩:=Y.all
 go_region_held3 (fun w'=>w'.cell? ⟨w.heap.size,0,none⟩=some (.bool s)∧w'.cell? ⟨w.heap.size,1,none⟩=some (.slice A n c)∧w'.cell? ⟨w.heap.size+1,0,none⟩=some (.bool t)∧w'.cell? ⟨w.heap.size+1,1,none⟩=some (.slice B m d))
  (first | exact ⟨X.c0,X.c1,Y.c0,Y.c1⟩ | exact ⟨X1.c0,X1.c1,Y1.c0,Y1.c1⟩ | exact ⟨X2.c0,X2.c1,Y2.c0,Y2.c1⟩ | exact ⟨(set2_cell _ _ _ _ _ _ (by omega)).trans X2.c0,(set2_cell _ _ _ _ _ _ (by omega)).trans X2.c1,(set2_cell _ _ _ _ _ _ (by omega)).trans Y2.c0,(set2_cell _ _ _ _ _ _ (by omega)).trans Y2.c1⟩)
  (first
   | (go_at_call 103;(with_reducible refine (mul_any la lb _ _ _ _ _ _ _ (ha.below hb0).drew (hb.below hb0).drew La Lb hnm0 hnc hmd).mono ?_);rintro e w1 ⟨A1,n1,k1,rfl,p1,p2,p3,p4⟩
      replace p4:Below W.heap.size W w1:=(Below.refl _ W).drew.trans p4
      have z1:W.heap.size≤w1.heap.size:=p4.size
      have X1:=X.below p4;have Y1:=Y.below p4;have Z1:=Z.below p4)
   | (go_at_call 99;(with_reducible refine (number_any _ _ _ _ _).mono ?_);rintro e w2 ⟨rfl,q4⟩
      have z2:w1.heap.size≤w2.heap.size:=q4.size
      have X2:=X1.below q4;have Y2:=Y1.below q4;have Z2:=Z1.below q4;obtain ⟨r0,r1⟩:=Z2.all;have r2:=Z2.f0;have r3:=Z2.f1))
 go_wp2
 have hf0:=(Z2.set2 (.bool ((!(s == t)) && decide (0 < n1))) (.slice A1 n1 k1)).c0
 have hf1:=(Z2.set2 (.bool ((!(s == t)) && decide (0 < n1))) (.slice A1 n1 k1)).c1
 refine bodyPost_ret (v:=.agg #[.bool ((!(s == t)) && decide (0 < n1)),.slice A1 n1 k1]) (by simp [results,Tryz.results61,go_sem,hf0,hf1]) rfl ?_
 exact close_i (g:=w.heap.size+1+1) hb0 (by omega) (by show _ < W.heap.size;omega) rfl p1 p2 p3 p4 q4 _ _
theorem zadd_ge (s:Bool) (la lb:List Nat) (A B:Option Addr) (n c m d:Nat) (w:World) (ha:Rd .u64 w A n la) (hb:Rd .u64 w B m lb) (La:Lim B64 la) (Lb:Lim B64 lb)
 (hnc:n≤c) (hmd:m≤d) (hnm0:n+m≤35184372088831) (hle:val B64 lb≤val B64 la) :
 Calls Tryz.prog 159 #[.agg #[.bool s,.slice A n c],.agg #[.bool (!s),.slice B m d]] w (GivesI w (iv s (val B64 la - val B64 lb))):=by
 go_enter Tryz.func159,Tryz.ntmps159
 have hne:(s == !s)=false:=by cases s <;> rfl
 go_wp2_with fail
 generalize hW:World.alloc _ _=W
 obtain ⟨hb0,hz,X,Y,Z⟩:=mkbx0_4 hW;clear hW
 refine (sub_any la lb _ _ _ _ _ _ _ (ha.below hb0) (hb.below hb0) La Lb hnm0 hnc hmd hle).mono ?_
 rintro e w1 ⟨A1,n1,k1,rfl,p1,p2,p3,p4⟩
 have z1:W.heap.size≤w1.heap.size:=p4.size
 have X1:=X.below p4;have Z1:=Z.below p4;have c2:=X1.c0
 go_wp2_with (first
  | (go_at_call 99;(with_reducible refine (number_any _ _ _ _ _).mono ?_);rintro e w2 ⟨rfl,q4⟩
     have z2:w1.heap.size≤w2.heap.size:=q4.size
     have X2:=X1.below q4;have Z2:=Z1.below q4;obtain ⟨r0,r1⟩:=Z2.all;have r2:=Z2.f0;have r3:=Z2.f1))
 have hf0:=(Z2.set2 (.bool (s && decide (0 < n1))) (.slice A1 n1 k1)).c0
 have hf1:=(Z2.set2 (.bool (s && decide (0 < n1))) (.slice A1 n1 k1)).c1
 refine bodyPost_ret (v:=.agg #[.bool (s && decide (0 < n1)),.slice A1 n1 k1]) (by simp [results,Tryz.results159,go_sem,hf0,hf1]) rfl ?_
 exact close_i (g:=w.heap.size+1+1) hb0 (by omega) (by omega) rfl p1 p2 p3 p4 q4 _ _
theorem zadd_lt (s:Bool) (la lb:List Nat) (A B:Option Addr) (n c m d:Nat) (w:World) (ha:Rd .u64 w A n la) (hb:Rd .u64 w B m lb) (La:Lim B64 la) (Lb:Lim B64 lb)
 (hnc:n≤c) (hmd:m≤d) (hnm0:n+m≤35184372088831) (hlt:val B64 la < val B64 lb) :
 Calls Tryz.prog 159 #[.agg #[.bool s,.slice A n c],.agg #[.bool (!s),.slice B m d]] w (GivesI w (iv (!s) (val B64 lb - val B64 la))):=by
 go_enter Tryz.func159,Tryz.ntmps159
 have hne:(s == !s)=false:=by cases s <;> rfl
 go_wp2_with fail
 generalize hW:World.alloc _ _=W
 obtain ⟨hb0,hz,X,Y,Z⟩:=mkbx0_4 hW;clear hW
 refine (sub_below la lb _ _ _ _ _ _ _ (ha.below hb0) (hb.below hb0) La Lb hnm0 hnc hmd hlt).mono ?_
 rintro e w0 ⟨rfl,p0⟩
 have z0:W.heap.size≤w0.heap.size:=p0.size
 have X0:=X.below p0;have Y0:=Y.below p0;have Z0:=Z.below p0;have c2:=X0.c1;have d2:=Y0.c1
 go_wp2_with (first
  | (go_at_call 172;(with_reducible refine (sub_any lb la _ _ _ _ _ _ _ (hb.below (hb0.trans (p0.mono (by omega)))) (ha.below (hb0.trans (p0.mono (by omega)))) Lb La (by omega) hmd hnc (Nat.le_of_lt hlt)).mono ?_);rintro e w1 ⟨A1,n1,k1,rfl,p1,p2,p3,p4⟩
     have z1:w0.heap.size≤w1.heap.size:=p4.size
     have Y1:=Y0.below p4;have Z1:=Z0.below p4;have d3:=Y1.c0)
  | (go_at_call 99;(with_reducible refine (number_any _ _ _ _ _).mono ?_);rintro e w2 ⟨rfl,q4⟩
     have z2:w1.heap.size≤w2.heap.size:=q4.size
     have Y2:=Y1.below q4;have Z2:=Z1.below q4;obtain ⟨r0,r1⟩:=Z2.all;have r2:=Z2.f0;have r3:=Z2.f1))
 have hf0:=(Z2.set2 (.bool ((!s) && decide (0 < n1))) (.slice A1 n1 k1)).c0
 have hf1:=(Z2.set2 (.bool ((!s) && decide (0 < n1))) (.slice A1 n1 k1)).c1
 refine bodyPost_ret (v:=.agg #[.bool ((!s) && decide (0 < n1)),.slice A1 n1 k1]) (by simp [results,Tryz.results159,go_sem,hf0,hf1]) rfl ?_
 exact close_i (g:=w.heap.size+1+1) hb0 (by omega) (by omega) rfl p1 p2 p3 (p0.trans (p4.mono z0)) q4 _ _
theorem iv_add_ge {s:Bool} {a b:Nat} (h:b≤a):iv s (a - b)=iv s a+iv (!s) b:=by cases s <;> simp [iv] <;> omega
theorem iv_add_lt {s:Bool} {a b:Nat} (h:a < b):iv (!s) (b - a)=iv s a+iv (!s) b:=by cases s <;> simp [iv] <;> omega
theorem iv_add_same (s:Bool) (a b:Nat):iv s (a+b)=iv s a+iv s b:=by cases s <;> simp [iv];omega
theorem iv_mul (s t:Bool) (a b:Nat):iv (!(s == t)) (a*b)=iv s a*iv t b:=by cases s <;> cases t <;> simp [iv,Int.neg_mul,Int.mul_neg]
theorem iv_not (s:Bool) (a:Nat):iv (!s) a=- iv s a:=by cases s <;> simp [iv]
theorem zadd_any (s t:Bool) (la lb:List Nat) (A B:Option Addr) (n c m d:Nat) (w:World) (ha:Rd .u64 w A n la) (hb:Rd .u64 w B m lb) (La:Lim B64 la) (Lb:Lim B64 lb)
 (hnc:n≤c) (hmd:m≤d) (hnm0:n+m≤35184372088831) :
 Calls Tryz.prog 159 #[.agg #[.bool s,.slice A n c],.agg #[.bool t,.slice B m d]] w (GivesI w (iv s (val B64 la)+iv t (val B64 lb))):=by
 by_cases hst:s=t
 · subst hst
   rw [← iv_add_same]
   exact zadd_same s la lb A B n c m d w ha hb La Lb hnc hmd hnm0
 · have ht:t=!s:=by cases s <;> cases t <;> simp_all
   rcases Nat.lt_or_ge (val B64 la) (val B64 lb) with h | h
   · have:=zadd_lt s la lb A B n c m d w ha hb La Lb hnc hmd hnm0 h
     rw [iv_add_lt h] at this;rw [ht]
     exact this
   · have:=zadd_ge s la lb A B n c m d w ha hb La Lb hnc hmd hnm0 h
     rw [iv_add_ge h] at this;rw [ht]
     exact this
end
section
open Go.RowKit Go.MapKept
abbrev tSigns:TypeId:=181
abbrev tBool:TypeId:=4
theorem und_signs:Tryz.prog.underlying tSigns=some (.map tBool 107):=by kernel_rfl
theorem und_bool:Tryz.prog.underlying tBool=some .bool:=by kernel_rfl
def setMap (w:World) (r:Nat) (es:Array MapEntry) (clock:Nat):World:={w with heap:=w.heap.setIfInBounds r (.map es clock)}
theorem setMap_at {r:Nat} {es:Array MapEntry} {clock:Nat} (h:r < w.heap.size):(setMap w r es clock).heap[r]?=some (.map es clock):=by
 simp [setMap,h]
theorem below_setMap {B:Nat} {a w:World} (h:Below B a w) {r:Nat} (hr:B≤r) (es:Array MapEntry) (clock:Nat):Below B a (setMap w r es clock) :=
 ⟨h.os,h.tape,h.output,by simpa [setMap] using h.size,fun k hk=>by
  show (w.heap.setIfInBounds r _)[k]?=_
  rw [Array.getElem?_setIfInBounds_ne (by omega)];exact h.block k hk⟩
theorem run_upd {r:Nat} {es:Array MapEntry} {clock:Nat} (b:Bool) (v:Value) (hb:w.heap[r]?=some (.map es clock)) (h1:Instr.findNow .bool (.bool b) es.toList 0=some none) :
 (Instr.mapUpdate tSigns (.map (some r)) (.bool b) v).run Tryz.prog w=.ok () (setMap w r (es.push {key:=.bool b,val:=v,born:=clock}) (clock+1)):=by
 have hk:IsKey .bool (.bool b):=trivial
 simp [Instr.mapUpdate,run_underlying und_signs,Go.MapKept.run_getObj_map hb,run_checkKey und_bool hk,run_findKey und_bool h1,run_setObj_map _ hb,Result.andThen,setMap]
theorem run_look {r:Nat} {es:Array MapEntry} {clock:Nat} (b:Bool) (i:Nat) (v:Value) (hb:w.heap[r]?=some (.map es clock)) (h1:Instr.findNow .bool (.bool b) es.toList 0=some (some (i,v))) :
 (Instr.lookup tSigns (.map (some r)) (.bool b) false).run Tryz.prog w=.ok v w:=by
 have hk:IsKey .bool (.bool b):=trivial
 simp [Instr.lookup,run_underlying und_signs,Go.MapKept.run_getObj_map hb,run_checkKey und_bool hk,run_findKey und_bool h1,Result.andThen]
def signEs (x:Value):Array MapEntry:=#[{key:=.bool false,val:=.func (.func 146) #[x] #[],born:=0},{key:=.bool true,val:=.func (.func 147) #[x] #[],born:=1}]
theorem signs_any (A:Option Addr) (n c:Nat) (w:World) :
 Calls Tryz.prog 125 #[.slice A n c] w fun e w'=>e=.returned (.map (some w.heap.size))∧w'.heap[w.heap.size]?=some (.map (signEs (.slice A n c)) 2)∧Below w.heap.size w w':=by
 have hmm:=@run_makeMap Tryz.prog
 have h0:(w.alloc (.map #[] 0)).heap[w.heap.size]?=some (.map #[] 0):=heap_alloc_new w _
 have hi0:=run_upd false (.func (.func 146) #[.slice A n c] #[]) h0 rfl
 have h1:(setMap (w.alloc (.map #[] 0)) w.heap.size #[{key:=.bool false,val:=.func (.func 146) #[.slice A n c] #[],born:=0}] 1).heap[w.heap.size]?=_:=setMap_at (by simp)
 have hi1:=run_upd true (.func (.func 147) #[.slice A n c] #[]) h1 rfl
 go_enter Tryz.func125,Tryz.ntmps125
 go_wp2
 go_returns
 exact ⟨rfl,setMap_at (by simp [setMap]),below_setMap (below_setMap ((Below.refl _ _).alloc (Nat.le_refl _) _) (Nat.le_refl _) _ _) (Nat.le_refl _) _ _⟩
def sgn (v:Int):Int:=if v < 0 then -1 else if v=0 then 0 else 1
theorem cmpN_zero (V:Nat):cmpN V 0=sgn (iv false V):=by
 rcases Nat.eq_zero_or_pos V with h0 | h0
 · subst h0;rfl
 · have h1:¬ ((V:Int) < 0):=by omega
   have h2:¬ (V=0):=by omega
   simp [cmpN,sgn,iv,h1,h2]
theorem sgn_neg (V:Nat):wrap64 (-(sgn (iv false V)))=sgn (iv true V):=by
 rcases Nat.eq_zero_or_pos V with h0 | h0
 · subst h0;decide +kernel
 · have h1 : sgn (iv false V) = 1 := by
     have h1:¬ ((V:Int) < 0):=by omega
     have h2:¬ (V=0):=by omega
     simp [sgn,iv,h1,h2]
   have h2:sgn (iv true V)=-1:=by
    have h3:0 < V:=h0
    simp [sgn,iv,h3]
   rw [h1,h2];decide +kernel
theorem up_any (l:List Nat) (A:Option Addr) (n c:Nat) (w:World) (h:Rd .u64 w A n l) (hL:Lim B64 l) (hn:n≤maxLen) (hnc:n≤c) :
 Calls Tryz.prog 146 #[.slice A n c] w fun e w'=>e=.returned (.int .i64 (sgn (iv false (val B64 l))))∧∃ q,w'=w.drewN q:=by
 go_enter Tryz.func146,Tryz.ntmps146
 go_wp2_with (first
  | (go_at_call 102;(with_reducible refine (cmp_any l [] _ _ _ _ _ _ _ h Rd.nil hL Lim.nil hn (Nat.zero_le _) hnc (Nat.le_refl _)).mono ?_);rintro e w' ⟨rfl,q,rfl⟩))
 go_ret
 exact ⟨by rw [← cmpN_zero];rfl,q,rfl⟩
theorem down_any (l:List Nat) (A:Option Addr) (n c:Nat) (w:World) (h:Rd .u64 w A n l) (hL:Lim B64 l) (hn:n≤maxLen) (hnc:n≤c) :
 Calls Tryz.prog 147 #[.slice A n c] w fun e w'=>e=.returned (.int .i64 (sgn (iv true (val B64 l))))∧∃ q,w'=w.drewN q:=by
 go_enter Tryz.func147,Tryz.ntmps147
 go_wp2_with (first
  | (go_at_call 146;(with_reducible refine (up_any l _ _ _ _ h hL hn hnc).mono ?_);rintro e w' ⟨rfl,q,rfl⟩))
 go_ret
 exact ⟨ret_int (sgn_neg _),q,rfl⟩
theorem run_look_s {r:Nat} {x:Value} (s:Bool) (hm:w.heap[r]?=some (.map (signEs x) 2)) :
 (Instr.lookup tSigns (.map (some r)) (.bool s) false).run Tryz.prog w=.ok (.func (.func (if s then 147 else 146)) #[x] #[]) w:=by
 cases s
 · exact run_look _ 0 _ hm rfl
 · exact run_look _ 1 _ hm rfl
theorem mkbx1_4 {w W:World} {x0 x1:Value} (h:(w.alloc (Obj.cells #[x0,x1] 24))=W):Below w.heap.size w W∧Bx W (w.heap.size) x0 x1:=by subst h;exact ⟨by exact (Below.refl _ _).alloc (Nat.le_refl _) _,by exact Bx.new w _ _⟩
theorem sign_any (s:Bool) (l:List Nat) (A:Option Addr) (n c:Nat) (w:World) (h:Rd .u64 w A n l) (hL:Lim B64 l) (hn:n≤maxLen) (hnc:n≤c) :
 Calls Tryz.prog 94 #[.agg #[.bool s,.slice A n c]] w fun e w'=>e=.returned (.int .i64 (sgn (iv s (val B64 l))))∧Below w.heap.size w w':=by
 cases s
 · go_enter Tryz.func94,Tryz.ntmps94
   go_wp2_with fail
   generalize hW:World.alloc _ _=W
   obtain ⟨hb0,X⟩:=mkbx1_4 hW;clear hW;obtain ⟨c0,c1⟩:=X.all
   go_region_held3 (fun w'=>w'.cell? ⟨w.heap.size,0,none⟩=some (.bool false)∧w'.cell? ⟨w.heap.size,1,none⟩=some (.slice A n c))
    (first | exact ⟨c0,c1⟩ | exact ⟨X1.c0,X1.c1⟩ | exact ⟨X2.c0,X2.c1⟩)
    (first
     | (go_at_call 125;(with_reducible refine (signs_any _ _ _ _).mono ?_);rintro e w1 ⟨rfl,hm,p4⟩
        have p5:Below W.heap.size W w1:=(Below.refl _ W).drew.trans p4
        have X1:=X.below p5
        have hl:=run_look_s false (r:=W.heap.size) hm
        have hl2:=run_look_s (w:=w1.drew) false (r:=W.heap.size) hm)
     | (go_at_call 146;(with_reducible refine (up_any l _ _ _ _ ((h.below hb0).below p5) hL hn hnc).mono ?_);rintro e w2 ⟨rfl,q,rfl⟩)
     | (go_at_call 146;(with_reducible refine (up_any l _ _ _ _ (((h.below hb0).below p5).drew) hL hn hnc).mono ?_);rintro e w2 ⟨rfl,q,rfl⟩)
     | (go_at_call 147;(with_reducible refine (down_any l _ _ _ _ ((h.below hb0).below p5) hL hn hnc).mono ?_);rintro e w2 ⟨rfl,q,rfl⟩)
     | (go_at_call 147;(with_reducible refine (down_any l _ _ _ _ (((h.below hb0).below p5).drew) hL hn hnc).mono ?_);rintro e w2 ⟨rfl,q,rfl⟩))
   go_wp2
   go_ret
   exact ⟨rfl,below_drawn (hb0.trans (p5.mono hb0.size)) q⟩
 · go_enter Tryz.func94,Tryz.ntmps94
   go_wp2_with fail
   generalize hW:World.alloc _ _=W
   obtain ⟨hb0,X⟩:=mkbx1_4 hW;clear hW;obtain ⟨c0,c1⟩:=X.all
   go_region_held3 (fun w'=>w'.cell? ⟨w.heap.size,0,none⟩=some (.bool true)∧w'.cell? ⟨w.heap.size,1,none⟩=some (.slice A n c))
    (first | exact ⟨c0,c1⟩ | exact ⟨X1.c0,X1.c1⟩ | exact ⟨X2.c0,X2.c1⟩)
    (first
     | (go_at_call 125;(with_reducible refine (signs_any _ _ _ _).mono ?_);rintro e w1 ⟨rfl,hm,p4⟩
        have p5:Below W.heap.size W w1:=(Below.refl _ W).drew.trans p4
        have X1:=X.below p5
        have hl:=run_look_s true (r:=W.heap.size) hm
        have hl2:=run_look_s (w:=w1.drew) true (r:=W.heap.size) hm)
     | (go_at_call 146;(with_reducible refine (up_any l _ _ _ _ ((h.below hb0).below p5) hL hn hnc).mono ?_);rintro e w2 ⟨rfl,q,rfl⟩)
     | (go_at_call 146;(with_reducible refine (up_any l _ _ _ _ (((h.below hb0).below p5).drew) hL hn hnc).mono ?_);rintro e w2 ⟨rfl,q,rfl⟩)
     | (go_at_call 147;(with_reducible refine (down_any l _ _ _ _ ((h.below hb0).below p5) hL hn hnc).mono ?_);rintro e w2 ⟨rfl,q,rfl⟩)
     | (go_at_call 147;(with_reducible refine (down_any l _ _ _ _ (((h.below hb0).below p5).drew) hL hn hnc).mono ?_);rintro e w2 ⟨rfl,q,rfl⟩))
   go_wp2
   go_ret
   exact ⟨rfl,below_drawn (hb0.trans (p5.mono hb0.size)) q⟩
end
section
open Go.RowKit
theorem mkbx2_4 {w W:World} {x0 x1:Value} (h:(w.alloc (Obj.cells #[x0,x1] 24))=W):Below w.heap.size w W∧W.heap.size=w.heap.size+1∧Bx W (w.heap.size) x0 x1:=by subst h;exact ⟨by exact (Below.refl _ _).alloc (Nat.le_refl _) _,by simp,by exact Bx.new w _ _⟩
theorem zof_any (v:Int) (h1:-9223372036854775808≤v) (h2:v < 9223372036854775808) (w:World):Calls Tryz.prog 58 #[.int .i64 v] w (GivesI w v):=by
 by_cases hs:v < 0
 · obtain ⟨V,rfl⟩:∃ V:Nat,v=-(V:Int):=⟨v.natAbs,by omega⟩
   have hw:IntKind.u64.wrap (-IntKind.u64.wrap (-(V:Int)))=(V:Int):=by rw [IntKind.wrap_u64,IntKind.wrap_u64];omega
   go_enter Tryz.func58,Tryz.ntmps58
   go_wp2_with fail
   generalize hW:World.alloc _ _=W
   obtain ⟨hb0,hz,Z⟩:=mkbx2_4 hW;clear hW
   refine (of_any V (by unfold B64;omega) _).mono ?_
   rintro e w1 ⟨A1,n1,k1,rfl,p1,p2,p3,p4⟩
   have Z1:=Z.below p4
   go_wp2_with (first
    | (go_at_call 99;(with_reducible refine (number_any _ _ _ _ _).mono ?_);rintro e w2 ⟨rfl,q4⟩
       have Z2:=Z1.below q4;obtain ⟨r0,r1⟩:=Z2.all;have r2:=Z2.f0;have r3:=Z2.f1))
   have hf0:=(Z2.set2 (.bool (true && decide (0 < n1))) (.slice A1 n1 k1)).c0
   have hf1:=(Z2.set2 (.bool (true && decide (0 < n1))) (.slice A1 n1 k1)).c1
   simp only [Bool.true_and] at hf0 hf1
   refine bodyPost_ret (v:=.agg #[.bool (true && decide (0 < n1)),.slice A1 n1 k1]) (by simp [results,Tryz.results58,go_sem,hf0,hf1]) rfl ?_
   exact close_i (s:=true) (g:=w.heap.size) hb0 (Nat.le_refl _) (by omega) (by simp [iv]) p1 p2 p3 p4 q4 _ _
 · obtain ⟨V,rfl⟩:∃ V:Nat,v=(V:Int):=⟨v.natAbs,by omega⟩
   go_enter Tryz.func58,Tryz.ntmps58
   go_wp2_with fail
   generalize hW:World.alloc _ _=W
   obtain ⟨hb0,hz,Z⟩:=mkbx2_4 hW;clear hW
   refine (of_any V (by unfold B64;omega) _).mono ?_
   rintro e w1 ⟨A1,n1,k1,rfl,p1,p2,p3,p4⟩
   have Z1:=Z.below p4
   go_wp2_with (first
    | (go_at_call 99;(with_reducible refine (number_any _ _ _ _ _).mono ?_);rintro e w2 ⟨rfl,q4⟩
       have Z2:=Z1.below q4;obtain ⟨r0,r1⟩:=Z2.all;have r2:=Z2.f0;have r3:=Z2.f1))
   have hf0:=(Z2.set2 (.bool (false && decide (0 < n1))) (.slice A1 n1 k1)).c0
   have hf1:=(Z2.set2 (.bool (false && decide (0 < n1))) (.slice A1 n1 k1)).c1
   simp only [Bool.false_and] at hf0 hf1
   refine bodyPost_ret (v:=.agg #[.bool (false && decide (0 < n1)),.slice A1 n1 k1]) (by simp [results,Tryz.results58,go_sem,hf0,hf1]) rfl ?_
   exact close_i (s:=false) (g:=w.heap.size) hb0 (Nat.le_refl _) (by omega) (by simp [iv]) p1 p2 p3 p4 q4 _ _
end
section
open Go.RowKit
def cmpZ (a b:Int):Int:=if a < b then -1 else if b < a then 1 else 0
theorem compareInt_cmpZ (a b:Int):Lib.compareInt a b=cmpZ a b:=by
 unfold Lib.compareInt cmpZ;rfl
theorem mkbx3_4 {w W:World} {x0 x1 x2 x3:Value} (h:((w.alloc (Obj.cells #[x0,x1] 24)).alloc (Obj.cells #[x2,x3] 24))=W):Below w.heap.size w W∧Bx W (w.heap.size) x0 x1∧Bx W (w.heap.size+1) x2 x3:=by subst h;exact ⟨by exact ((Below.refl _ _).alloc (Nat.le_refl _) _).alloc (by simp) _,by exact (Bx.new w _ _).alloc _,by exact Bx.new' _ _ _ _ (by simp)⟩
theorem zcmp_unlike (s:Bool) (la lb:List Nat) (A B:Option Addr) (n c m d:Nat) (w:World) (ha:Rd .u64 w A n la) (hb:Rd .u64 w B m lb) (La:Lim B64 la) (Lb:Lim B64 lb)
 (hnc:n≤c) (hmd:m≤d) (hn:n≤maxLen) (hm:m≤maxLen) :
 Calls Tryz.prog 60 #[.agg #[.bool s,.slice A n c],.agg #[.bool (!s),.slice B m d]] w fun e w'=>e=.returned (.int .i64 (cmpZ (sgn (iv s (val B64 la))) (sgn (iv (!s) (val B64 lb)))))∧Below w.heap.size w w':=by
 have hne:(s != !s)=true:=by cases s <;> rfl
 go_enter Tryz.func60,Tryz.ntmps60
 go_wp2_with fail
 generalize hW:World.alloc _ _=W
 obtain ⟨hb0,X,Y⟩:=mkbx3_4 hW;clear hW;obtain ⟨c0,c1⟩:=X.all;obtain ⟨d0,d1⟩:=Y.all
 have hx0:Below W.heap.size W W.drew:=(Below.refl _ _).drew
 go_region_held3 (fun w'=>w'.cell? ⟨w.heap.size,0,none⟩=some (.bool s)∧w'.cell? ⟨w.heap.size,1,none⟩=some (.slice A n c)∧w'.cell? ⟨w.heap.size+1,0,none⟩=some (.bool (!s))∧w'.cell? ⟨w.heap.size+1,1,none⟩=some (.slice B m d))
  (first | exact ⟨c0,c1,d0,d1⟩ | exact ⟨X2.c0,X2.c1,Y2.c0,Y2.c1⟩ | exact ⟨X1.c0,X1.c1,Y1.c0,Y1.c1⟩)
  (first
   | (go_at_call 94;(with_reducible refine (sign_any s la _ _ _ _ (ha.below hb0).drew La hn hnc).mono ?_);rintro e w1 ⟨rfl,p4⟩
      have p5:Below W.heap.size W w1:=(Below.refl _ W).drew.trans p4
      have X1:=X.below p5;have Y1:=Y.below p5)
   | (go_at_call 94;(with_reducible refine (sign_any (!s) lb _ _ _ _ ((hb.below hb0).below p5) Lb hm hmd).mono ?_);rintro e w2 ⟨rfl,q4⟩
      have X2:=X1.below q4;have Y2:=Y1.below q4)
   | (go_at_call 101;(with_reducible refine (Tryz.cmp_Compare_int _ _ _).mono ?_);rintro e w3 ⟨rfl,rfl⟩))
 go_wp2
 go_ret
 exact ⟨ret_int (compareInt_cmpZ _ _),hb0.trans ((p5.mono hb0.size).trans (q4.mono (Nat.le_trans hb0.size p5.size)))⟩
theorem cmpZ_sgn (s:Bool) (a b:Nat):cmpZ (sgn (iv s a)) (sgn (iv (!s) b))=cmpZ (iv s a) (iv (!s) b):=by
 cases s <;> simp only [cmpZ,sgn,iv,Bool.not_true,Bool.not_false,if_true,Bool.false_eq_true,if_false] <;> (repeat' split) <;> omega
theorem cmpN_cmpZ_f (a b:Nat):cmpN a b=cmpZ (iv false a) (iv false b):=by
 unfold cmpN cmpZ iv;simp
theorem cmpN_cmpZ_t (a b:Nat):cmpN b a=cmpZ (iv true a) (iv true b):=by
 unfold cmpN cmpZ iv;simp
theorem zcmp_alike (s:Bool) (la lb:List Nat) (A B:Option Addr) (n c m d:Nat) (w:World) (ha:Rd .u64 w A n la) (hb:Rd .u64 w B m lb) (La:Lim B64 la) (Lb:Lim B64 lb)
 (hnc:n≤c) (hmd:m≤d) (hn:n≤maxLen) (hm:m≤maxLen) :
 Calls Tryz.prog 60 #[.agg #[.bool s,.slice A n c],.agg #[.bool s,.slice B m d]] w fun e w'=>e=.returned (.int .i64 (cmpZ (iv s (val B64 la)) (iv s (val B64 lb))))∧Below w.heap.size w w':=by
 have hn1:=Lib.hid hn;have hm1:=Lib.hid hm;clear hn hm
 cases s
 · go_enter Tryz.func60,Tryz.ntmps60
   go_wp2_with fail
   have hb1:Below w.heap.size w _:=((Below.refl w.heap.size w).alloc (Nat.le_refl _) (Obj.cells #[Value.bool false,Value.slice A n c] 24)).alloc (by simp) (Obj.cells #[Value.bool false,Value.slice B m d] 24)
   refine (cmp_any la lb _ _ _ _ _ _ _ (ha.below hb1) (hb.below hb1) La Lb hn1.out hm1.out hnc hmd).mono ?_
   rintro e w' ⟨rfl,q,rfl⟩
   go_wp2
   go_ret
   exact ⟨ret_int (cmpN_cmpZ_f _ _),below_drawn hb1 q⟩
 · go_enter Tryz.func60,Tryz.ntmps60
   go_wp2_with fail
   have hb1:Below w.heap.size w _:=((Below.refl w.heap.size w).alloc (Nat.le_refl _) (Obj.cells #[Value.bool true,Value.slice B m d] 24)).alloc (by simp) (Obj.cells #[Value.bool true,Value.slice A n c] 24)
   refine (cmp_any lb la _ _ _ _ _ _ _ (hb.below hb1) (ha.below hb1) Lb La hm1.out hn1.out hmd hnc).mono ?_
   rintro e w' ⟨rfl,q,rfl⟩
   go_wp2
   go_ret
   exact ⟨ret_int (cmpN_cmpZ_t _ _),below_drawn hb1 q⟩
theorem zcmp_any (s t:Bool) (la lb:List Nat) (A B:Option Addr) (n c m d:Nat) (w:World) (ha:Rd .u64 w A n la) (hb:Rd .u64 w B m lb) (La:Lim B64 la) (Lb:Lim B64 lb)
 (hnc:n≤c) (hmd:m≤d) (hn:n≤maxLen) (hm:m≤maxLen) :
 Calls Tryz.prog 60 #[.agg #[.bool s,.slice A n c],.agg #[.bool t,.slice B m d]] w fun e w'=>e=.returned (.int .i64 (cmpZ (iv s (val B64 la)) (iv t (val B64 lb))))∧Below w.heap.size w w':=by
 by_cases hst:s=t
 · subst hst
   exact zcmp_alike s la lb A B n c m d w ha hb La Lb hnc hmd hn hm
 · have ht:t=!s:=by cases s <;> cases t <;> simp_all
   have:=zcmp_unlike s la lb A B n c m d w ha hb La Lb hnc hmd hn hm
   rw [cmpZ_sgn] at this;rw [ht]
   exact this
end
section
open Go.RowKit
def GivesQZ (w:World) (q r:Int) (e:Ending) (w':World):Prop :=
 ∃ A n c A' n' c',e=.returned (.tuple #[.agg #[.bool (decide (q < 0)),.slice A n c],.agg #[.bool (decide (r < 0)),.slice A' n' c'],.int .i64 0])∧n≤c∧c≤maxLen∧n'≤c'∧c'≤maxLen ∧
  Fr .u64 140 w' w.heap.size A n c (limbs B64 q.natAbs)∧Fr .u64 140 w' w.heap.size A' n' c' (limbs B64 r.natAbs)∧Below w.heap.size w w'
theorem Bx.other {W:World} {g k:Nat} {x y:Value} (h:Bx W g x y) (hne:g ≠ k) (u v:Value):Bx ((W.setCell ⟨k,0,none⟩ u).setCell ⟨k,1,none⟩ v) g x y:=by
 unfold Bx at h ⊢
 rw [Below.heap_setCell _ _ _ _ hne,Below.heap_setCell _ _ _ _ hne]
 exact h
end
section
open Go.RowKit
def ZR (w:World) (s:Bool) (A:Option Addr) (n c:Nat) (v:Int) (k:Nat):Prop :=
 ∃ l,Rd .u64 w A n l∧Lim B64 l∧iv s (val B64 l)=v∧n≤c∧n≤k∧v.natAbs < B64 ^ k
section
variable {w w':World} {s:Bool} {A:Option Addr} {n c k:Nat} {v:Int}
theorem ZR.below (h:ZR w s A n c v k) (hb:Below w.heap.size w w'):ZR w' s A n c v k:=by
 obtain ⟨l,h1,h2⟩:=h;exact ⟨l,h1.below hb,h2⟩
theorem ZR.drew (h:ZR w s A n c v k):ZR w.drew s A n c v k:=by
 obtain ⟨l,h1,h2⟩:=h;exact ⟨l,h1.drew,h2⟩
theorem ZR.drewN (h:ZR w s A n c v k) (q:Nat):ZR (w.drewN q) s A n c v k:=by
 obtain ⟨l,h1,h2⟩:=h;exact ⟨l,h1.drewN q,h2⟩
theorem ZR.of_rd {l:List Nat} (h:Rd .u64 w A n l) (hL:Lim B64 l) (hnc:n≤c) (hk:n≤k):ZR w s A n c (iv s (val B64 l)) k :=
 ⟨l,h,hL,rfl,hnc,hk,by rw [iv_natAbs];have:=val_lt hL;rw [h.1] at this;exact Nat.lt_of_lt_of_le this (Nat.pow_le_pow_right (by decide) hk)⟩
theorem ZR.of_fr {Bb:Nat} (h:Fr .u64 140 w Bb A n c (limbs B64 v.natAbs)) (hnc:n≤c) (hk:v.natAbs < B64 ^ k):ZR w (decide (v < 0)) A n c v k:=by
 refine ⟨_,h.rd,lim_limbs B64_two _,?_,hnc,?_,hk⟩
 · rw [val_limbs B64_two]
   unfold iv
   by_cases hv:v < 0
   · simp [hv];omega
   · simp [hv];omega
 · rw [← h.1];exact length_limbs_le B64_two hk
end
def GivesZ (w:World) (v:Int) (k:Nat) (e:Ending) (w':World):Prop :=
 ∃ s A n c,e=.returned (.agg #[.bool s,.slice A n c])∧ZR w' s A n c v k∧Below w.heap.size w w'
theorem GivesI.z {v:Int} {k:Nat} (hk:v.natAbs < B64 ^ k) {e:Ending} {w':World} (h:GivesI w v e w'):GivesZ w v k e w':=by
 obtain ⟨A,n,c,rfl,h1,h2,h3,h4⟩:=h
 exact ⟨_,A,n,c,rfl,ZR.of_fr h3 h1 hk,h4⟩
theorem pow_sum {k1 k2 k a b:Nat} (ha:a < B64 ^ k1) (hb:b < B64 ^ k2) (h1:k1+1≤k) (h2:k2+1≤k):a+b < B64 ^ k:=by
 have e1:=Nat.pow_le_pow_right (n:=B64) (by decide) (show k1≤k - 1 by omega)
 have e2:=Nat.pow_le_pow_right (n:=B64) (by decide) (show k2≤k - 1 by omega)
 have e3:B64 ^ k=B64 ^ (k - 1)*B64:=by rw [← Nat.pow_succ];congr 1;omega
 have e4:=Nat.mul_le_mul_left (B64 ^ (k - 1)) B64_two
 omega
section
variable {w:World} {s t:Bool} {A B:Option Addr} {n c m d k1 k2:Nat} {v u:Int}
theorem zadd_zr (k:Nat) (X:ZR w s A n c v k1) (Y:ZR w t B m d u k2) (h1:k1+1≤k) (h2:k2+1≤k) (hk:k≤200000) :
 Calls Tryz.prog 159 #[.agg #[.bool s,.slice A n c],.agg #[.bool t,.slice B m d]] w (GivesZ w (v+u) k):=by
 obtain ⟨la,a1,a2,rfl,a4,a5,a6⟩:=X
 obtain ⟨lb,b1,b2,rfl,b4,b5,b6⟩:=Y
 refine (zadd_any s t la lb A B n c m d w a1 b1 a2 b2 a4 b4 (by omega)).mono fun e w' h=>h.z ?_
 have:=pow_sum a6 b6 h1 h2
 omega
theorem zmul_zr (k:Nat) (X:ZR w s A n c v k1) (Y:ZR w t B m d u k2) (h1:k1+k2≤k) (hk:k≤200000) (_h40:k1≤400000 ∨ k2≤400000) :
 Calls Tryz.prog 61 #[.agg #[.bool s,.slice A n c],.agg #[.bool t,.slice B m d]] w (GivesZ w (v*u) k):=by
 obtain ⟨la,a1,a2,rfl,a4,a5,a6⟩:=X
 obtain ⟨lb,b1,b2,rfl,b4,b5,b6⟩:=Y
 have:=zmul_any s t la lb A B n c m d w a1 b1 a2 b2 a4 b4 (by omega)
 rw [iv_mul] at this
 refine this.mono fun e w' h=>h.z ?_
 rw [Int.natAbs_mul]
 exact Nat.lt_of_lt_of_le (Nat.mul_lt_mul'' a6 b6) (by rw [← Nat.pow_add];exact Nat.pow_le_pow_right (by decide) h1)
theorem zcmp_zr (X:ZR w s A n c v k1) (Y:ZR w t B m d u k2) (hk:k1+k2≤400000) :
 Calls Tryz.prog 60 #[.agg #[.bool s,.slice A n c],.agg #[.bool t,.slice B m d]] w fun e w'=>e=.returned (.int .i64 (cmpZ v u))∧Below w.heap.size w w':=by
 obtain ⟨la,a1,a2,rfl,a4,a5,a6⟩:=X
 obtain ⟨lb,b1,b2,rfl,b4,b5,b6⟩:=Y
 exact zcmp_any s t la lb A B n c m d w a1 b1 a2 b2 a4 b4 (by unfold maxLen;omega) (by unfold maxLen;omega)
theorem cmpZ_self (v:Int):cmpZ v v=0:=by simp [cmpZ]
theorem sign_zr (X:ZR w s A n c v k1) (hk:k1≤200000) :
 Calls Tryz.prog 94 #[.agg #[.bool s,.slice A n c]] w fun e w'=>e=.returned (.int .i64 (sgn v))∧Below w.heap.size w w':=by
 obtain ⟨la,a1,a2,rfl,a4,a5,a6⟩:=X
 exact sign_any s la A n c w a1 a2 (by unfold maxLen;omega) a4
theorem zof_zr (v:Int) (h1:-9223372036854775808≤v) (h2:v < 9223372036854775808) (w:World):Calls Tryz.prog 58 #[.int .i64 v] w (GivesZ w v 1) :=
 (zof_any v h1 h2 w).mono fun e w' h=>h.z (by rw [Nat.pow_one];unfold B64;omega)
end
def GivesZQ (w:World) (q r:Int) (k1 k2:Nat) (e:Ending) (w':World):Prop :=
 ∃ s A n c t B m d,e=.returned (.tuple #[.agg #[.bool s,.slice A n c],.agg #[.bool t,.slice B m d],.int .i64 0])∧ZR w' s A n c q k1∧ZR w' t B m d r k2∧Below w.heap.size w w'∧s=decide (q < 0)∧Rd .u64 w' A n (limbs B64 q.natAbs)∧n≤maxLen
theorem GivesQZ.z {q r:Int} {k1 k2:Nat} (h1:q.natAbs < B64 ^ k1) (h2:r.natAbs < B64 ^ k2) {e:Ending} {w':World} (h:GivesQZ w q r e w'):GivesZQ w q r k1 k2 e w':=by
 obtain ⟨A,n,c,A',n',c',rfl,p1,p2,p3,p4,p5,p6,p7⟩:=h
 exact ⟨_,A,n,c,_,A',n',c',rfl,ZR.of_fr p5 p1 h1,ZR.of_fr p6 p3 h2,p7,rfl,p5.rd,Nat.le_trans p1 p2⟩
end
section
def den1 (q:Nat):Nat:=if q=0 then 1 else q
theorem den1_ne (q:Nat):den1 q ≠ 0:=by unfold den1;split <;> omega
theorem den1_of {q:Nat} (h:q ≠ 0):den1 q=q:=by unfold den1;rw [if_neg h]
theorem mk_add {p r:Int} {q s:Nat} (hq:q ≠ 0) (hs:s ≠ 0):mkRat p q+mkRat r s=mkRat (p*(s:Int)+r*(q:Int)) (q*s):=Rat.mkRat_add_mkRat p r hq hs
theorem mk_add_same {p r:Int} {q:Nat} (hq:q ≠ 0):mkRat p q+mkRat r q=mkRat (p+r) q:=by
 rw [Rat.mkRat_add_mkRat p r hq hq,← Int.add_mul,Rat.mkRat_mul_right hq]
theorem mk_neg (p:Int) (q:Nat):-mkRat p q=mkRat (-p) q:=Rat.neg_mkRat p q
theorem mk_sub {p r:Int} {q s:Nat} (hq:q ≠ 0) (hs:s ≠ 0):mkRat p q - mkRat r s=mkRat (p*(s:Int) - r*(q:Int)) (q*s):=by
 rw [Rat.sub_eq_add_neg,mk_neg,mk_add hq hs,Int.neg_mul,← Int.sub_eq_add_neg]
theorem mk_mul (p r:Int) (q s:Nat):mkRat p q*mkRat r s=mkRat (p*r) (q*s):=Rat.mkRat_mul_mkRat p r q s
theorem mk_div (p r:Int) (q s:Nat):mkRat p q / mkRat r s=Rat.divInt (p*(s:Int)) ((q:Int)*r):=by
 rw [Rat.div_def,← Rat.divInt_ofNat,← Rat.divInt_ofNat,Rat.inv_divInt,Rat.divInt_mul_divInt]
theorem mk_nonneg {p:Int} {q:Nat} (hq:q ≠ 0):0≤mkRat p q ↔ 0≤p:=by
 rw [← Rat.divInt_ofNat];exact Rat.divInt_nonneg_iff_of_pos_right (by omega)
theorem mk_le {p r:Int} {q s:Nat} (hq:q ≠ 0) (hs:s ≠ 0):mkRat p q≤mkRat r s ↔ p*(s:Int)≤r*(q:Int):=by
 rw [Rat.le_iff_sub_nonneg,mk_sub hs hq,mk_nonneg (Nat.mul_ne_zero hs hq)]
 omega
theorem mk_lt {p r:Int} {q s:Nat} (hq:q ≠ 0) (hs:s ≠ 0):mkRat p q < mkRat r s ↔ p*(s:Int) < r*(q:Int):=by
 rw [← Rat.not_le,mk_le hs hq];omega
theorem mk_negv {p:Int} {q:Nat} (hq:q ≠ 0):mkRat p q < 0 ↔ p < 0:=by
 rw [← Rat.not_le,mk_nonneg hq];omega
theorem mk_zero {p:Int} {q:Nat} (hq:q ≠ 0):mkRat p q=0 ↔ p=0:=Rat.mkRat_eq_zero hq
theorem num_neg_iff (v:Rat):v.num < 0 ↔ v < 0:=by
 rw [← Rat.not_le,← Rat.num_nonneg];omega
def cmpQ (v u:Rat):Int:=if v < u then -1 else if u < v then 1 else 0
def sgnQ (v:Rat):Int:=if v < 0 then -1 else if v=0 then 0 else 1
theorem cmpQ_mk {p r:Int} {q s:Nat} (hq:q ≠ 0) (hs:s ≠ 0):cmpQ (mkRat p q) (mkRat r s)=cmpZ (p*(s:Int)) (r*(q:Int)):=by
 unfold cmpQ cmpZ
 simp only [mk_lt hq hs,mk_lt hs hq]
theorem cmpQ_same {p r:Int} {q:Nat} (hq:q ≠ 0):cmpQ (mkRat p q) (mkRat r q)=cmpZ p r:=by
 rw [cmpQ_mk hq hq]
 have h:(0:Int) < (q:Int):=by omega
 unfold cmpZ
 simp only [Int.mul_lt_mul_right h]
theorem sgnQ_mk {p:Int} {q:Nat} (hq:q ≠ 0):sgnQ (mkRat p q)=sgn p:=by
 unfold sgnQ sgn
 simp only [mk_negv hq,mk_zero hq]
theorem div_den {p q:Int} (hq:q ≠ 0):(Rat.divInt p q).den=q.natAbs / Nat.gcd p.natAbs q.natAbs:=by
 rw [Rat.den_divInt,if_neg hq,Int.gcd,Nat.gcd_comm]
theorem div_num {p q:Int} (hq:q ≠ 0):(Rat.divInt p q).num.natAbs=p.natAbs / Nat.gcd p.natAbs q.natAbs:=by
 rw [Rat.num_divInt,Int.gcd,Nat.gcd_comm q.natAbs]
 rw [Int.natAbs_ediv_of_dvd,Int.natAbs_mul,Int.natAbs_sign_of_ne_zero hq,Nat.one_mul,Int.natAbs_natCast]
 have h1:=Nat.gcd_dvd_left p.natAbs q.natAbs
 have h2:((Nat.gcd p.natAbs q.natAbs:Nat):Int) ∣ p:=Int.ofNat_dvd_left.2 h1
 exact Int.dvd_trans h2 (Int.dvd_mul_left _ _)
theorem div_mk {s t:Bool} {a b:Nat}:Rat.divInt (iv s a) (iv t b)=mkRat (iv (s != t) a) b:=by
 rw [← Rat.divInt_ofNat]
 cases s <;> cases t <;> simp [iv,Rat.neg_divInt_neg]
 · rw [Rat.divInt_neg',Rat.divInt_ofNat]
theorem div_neg {s t:Bool} {a b:Nat} (hb:b ≠ 0):decide ((Rat.divInt (iv s a) (iv t b)).num < 0)=((s != t) && decide (0 < a / Nat.gcd a b)):=by
 have hg:0 < Nat.gcd a b:=Nat.gcd_pos_of_pos_right _ (by omega)
 have h2:0 < a / Nat.gcd a b ↔ 0 < a:=by
  constructor
  · intro h;rcases Nat.eq_zero_or_pos a with h' | h'
    · subst h';simp at h
    · exact h'
  · intro h;exact Nat.div_pos (Nat.gcd_le_left _ h) hg
 rw [Bool.eq_iff_iff,decide_eq_true_iff,num_neg_iff,div_mk,mk_negv hb,Bool.and_eq_true,decide_eq_true_iff,h2]
 cases s <;> cases t <;> simp [iv]
theorem bl_is0 (V:Nat):(((bl V:Nat):Int) == 0)=decide (V=0):=by
 by_cases h:V=0
 · subst h;rw [bl_zero];rfl
 · have:=bl_pos h
   rw [decide_eq_false h];simp;omega
end
end Go.Proofs.YtfpaeophfcoohaaGreat
