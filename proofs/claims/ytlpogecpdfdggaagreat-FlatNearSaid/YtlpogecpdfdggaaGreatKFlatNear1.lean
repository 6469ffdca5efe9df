/- FlatNear: part 1. -/
import Derived.Lib.BitFns
import Derived.Lib.ItoaNum
import Derived.Shelf.Spec.BitsCarry
import Derived.Test.YtlpogecpdfdggaaGreatKFlatNear0
set_option linter.unusedVariables false
set_option maxRecDepth 100000
set_option maxHeartbeats 16000000
variable {w:Go.World}
namespace Go.Proofs.YtlpogecpdfdggaaGreat
section
open Go.RowKit
def bl (n:Nat):Nat:=(limbs 2 n).length
theorem bl_zero:bl 0=0:=by rw [bl,limbs_zero];rfl
theorem lt_bl (n:Nat):n < 2 ^ bl n:=lt_pow_limbs (Nat.le_refl 2) n
theorem bl_le {n k:Nat} (h:n < 2 ^ k):bl n≤k:=length_limbs_le (Nat.le_refl 2) h
theorem le_of_bl {n k:Nat} (h:k < bl n):2 ^ k≤n:=pow_le_of_length (Nat.le_refl 2) h
theorem bl_eq {n k:Nat} (h1:2 ^ k≤n) (h2:n < 2 ^ (k+1)):bl n=k+1:=by
 have:=bl_le h2
 rcases Nat.lt_or_ge k (bl n) with h | h
 · omega
 · have h3:=lt_bl n
   have:=Nat.pow_le_pow_right (n:=2) (by omega) h
   omega
theorem bl_pos {n:Nat} (h:n ≠ 0):0 < bl n:=by
 rcases Nat.eq_zero_or_pos (bl n) with h0 | h0
 · have:=lt_bl n;rw [h0] at this;omega
 · exact h0
theorem bl_mono {m n:Nat} (h:m≤n):bl m≤bl n:=bl_le (Nat.lt_of_le_of_lt h (lt_bl n))
theorem bitLen_bl {x:Nat} (h:x < B64):Lib.bitLen x=bl x:=by
 by_cases h0:x=0
 · subst h0;rw [bl_zero];exact Lib.bitLenAux_zero 64
 · obtain ⟨h1,h2,h3⟩:=Lib.bitLenAux_bounds 64 x h h0
   have:=bl_eq (n:=x) (k:=Lib.bitLen x - 1) h2 (by rw [show Lib.bitLen x - 1+1=Lib.bitLen x by unfold Lib.bitLen;omega];exact h3)
   rw [this];unfold Lib.bitLen;omega
theorem bl_top {V k x:Nat} (hl:(limbs B64 V).length=k+1) (hx:(limbs B64 V)[k]?=some x):bl V=64*k+bl x:=by
 have hL:=lim_limbs B64_two V;have hxB:=hL.get hx
 have hx0:x ≠ 0:=by
  intro e
  apply limbs_last B64_two V
  rw [List.getLast?_eq_getElem?,hl,show k+1 - 1=k by omega,hx,e]
 have e1:=val_take_drop (B:=B64) (limbs B64 V) k (by omega)
 have hk:k < (limbs B64 V).length:=by omega
 rw [List.drop_eq_getElem_cons hk,List.drop_of_length_le (by omega),(List.getElem?_eq_some_iff.1 hx).2,val_limbs B64_two] at e1
 have e2:=val_lt (hL.take k)
 rw [List.length_take,Nat.min_eq_left (by omega)] at e2
 simp only [val_cons,val_nil,Nat.mul_zero,Nat.add_zero] at e1
 have h1:=lt_bl x
 have h2:=le_of_bl (n:=x) (k:=bl x - 1) (by have:=bl_pos hx0;omega)
 have hb:=bl_pos hx0
 have hp:B64 ^ k=2 ^ (64*k):=by rw [Nat.pow_mul];rfl
 have:=bl_eq (n:=V) (k:=64*k+bl x - 1) ?_ ?_
 · rw [this];omega
 · rw [e1,show 64*k+bl x - 1=64*k+(bl x - 1) by omega,Nat.pow_add,hp]
   exact Nat.le_trans (Nat.mul_le_mul_left _ h2) (Nat.le_add_left _ _)
 · rw [show 64*k+bl x - 1+1=64*k+bl x by omega,Nat.pow_add,e1,← hp]
   have h3:=Nat.mul_le_mul_left (B64 ^ k) h1
   rw [Nat.mul_succ] at h3
   omega
theorem len64_any (x:Nat) (hx:x < B64) (w:World) :
 Calls Tryz.prog 117 #[.int .u64 (x:Int)] w fun e w'=>e=.returned (.int .i64 (bl x:Nat))∧w=w':=by
 refine (Tryz.bits_Len64 (x:Int) w (by omega) (by have:=B64_eq;omega)).mono fun e w' ⟨he,hw⟩=>⟨?_,hw.symm⟩
 rw [he,Int.toNat_natCast,bitLen_bl hx]
theorem lz64_any (x:Nat) (hx:x < B64) (w:World) :
 Calls Tryz.prog 156 #[.int .u64 (x:Int)] w fun e w'=>e=.returned (.int .i64 ((64 - bl x:Nat):Int))∧w=w':=by
 refine (Tryz.bits_LeadingZeros64 (x:Int) w (by omega) (by have:=B64_eq;omega)).mono fun e w' ⟨he,hw⟩=>⟨?_,hw.symm⟩
 rw [he,Int.toNat_natCast,bitLen_bl hx]
 have:bl x≤64:=bl_le hx
 congr 2;omega
theorem bits_any (l:List Nat) (A:Option Addr) (n c:Nat) (w:World) (h:Rd .u64 w A n l) (hL:Lim B64 l) (hn0:n≤35184372088832) (hnc:n≤c) :
 Calls Tryz.prog 87 #[.slice A n c] w fun e w'=>e=.returned (.int .i64 (bl (val B64 l):Nat))∧w=w':=by
 have hn:n≤2 ^ 45:=by omega
 have HN:Hid (n≤maxLen):=by show n≤maxLen;unfold maxLen;omega
 clear hn0
 generalize hX:limbs B64 (val B64 l)=xs
 have LX:Lim B64 xs:=by rw [← hX];exact lim_limbs B64_two _
 by_cases hV:val B64 l=0
 · have HX:Hid (xs=[]):=by show _=_;rw [← hX,hV,limbs_zero]
   have HR:Hid (limbs B64 (val B64 l)=xs):=hX
   have HV:=Lib.hid hV;clear hX hV
   go_enter Tryz.func87,Tryz.ntmps87
   go_wp2_with (go_at_call 103;((with_reducible refine (trim_any l A n c _ h hL HN.out hnc).mono ?_);rintro e w' ⟨⟨k,hk,rfl,hka⟩,rfl⟩;rw [HR.out] at hka;obtain rfl:k=0:=by (have:=hka.1;rw [HX.out] at this;exact this.symm)))
   go_ret
   exact ⟨ret_int (by rw [HV.out,bl_zero];rfl),rfl⟩
 · have HX : Hid (0 < xs.length) := by
     show 0 < xs.length
     rcases Nat.eq_zero_or_pos xs.length with h0 | h0
     · exact absurd ((limbs_eq_nil B64_two).1 (by rw [hX];exact List.eq_nil_of_length_eq_zero h0)) hV
     · exact h0
   have HR:Hid (limbs B64 (val B64 l)=xs):=hX
   clear hX hV
   go_enter Tryz.func87,Tryz.ntmps87
   go_wp2_with (first
    | (go_at_call 103;(with_reducible refine (trim_any l A n c _ h hL HN.out hnc).mono ?_);rintro e w' ⟨⟨k,hk,rfl,hka⟩,rfl⟩
       rw [HR.out] at hka;have hkl:=hka.1
       have hk0:0 < k:=by have:=HX.out;omega
       have hkz:((k:Int) == 0)=false:=by simp;omega
       obtain ⟨b,o,hA,hc⟩:=hka.at_ hk0
       subst hA
       obtain ⟨x,hx,hcx⟩:=hc (k - 1) (by omega)
       have hblx:bl x≤64:=bl_le (LX.get hx)
       have HKL:=Lib.hid hkl;have HXK:=Lib.hid hx;clear hkl hx hc)
    | (go_at_call 117;((with_reducible refine (len64_any x (LX.get HXK.out) _).mono ?_);rintro e w' ⟨rfl,rfl⟩)))
   go_ret
   refine ⟨ret_int ?_,rfl⟩
   have hl1:(limbs B64 (val B64 l)).length=k - 1+1:=by rw [HR.out,HKL.out];omega
   have hb:=bl_top hl1 (by rw [HR.out];exact HXK.out)
   rw [hb]
   omega
end
section
open Go.RowKit
def mulLo (x y:Nat):Nat:=x*y % B64
def mulHi (x y:Nat):Nat:=x*y / B64
def addLo (x y c:Nat):Nat:=(x+y+c) % B64
def addHi (x y c:Nat):Nat:=(x+y+c) / B64
def subLo (x y b:Nat):Nat:=(x+B64 - y - b) % B64
def subHi (x y b:Nat):Nat:=if x < y+b then 1 else 0
theorem mul_parts (x y:Nat):mulLo x y+B64*mulHi x y=x*y:=Nat.mod_add_div _ _
theorem add_parts (x y c:Nat):addLo x y c+B64*addHi x y c=x+y+c:=Nat.mod_add_div _ _
theorem mulLo_lt (x y:Nat):mulLo x y < B64:=Nat.mod_lt _ (by decide)
theorem addLo_lt (x y c:Nat):addLo x y c < B64:=Nat.mod_lt _ (by decide)
theorem subLo_lt (x y c:Nat):subLo x y c < B64:=Nat.mod_lt _ (by decide)
theorem addHi_le {x y c:Nat} (hx:x < B64) (hy:y < B64) (hc:c≤1):addHi x y c≤1:=by
 unfold addHi;rw [B64_eq] at *;omega
theorem subHi_le (x y c:Nat):subHi x y c≤1:=by unfold subHi;split <;> omega
theorem mulHi_lt {x y:Nat} (hx:x < B64) (hy:y < B64):mulHi x y+1 < B64:=by
 unfold mulHi
 have h1:x*y≤(B64 - 1)*(B64 - 1):=Nat.mul_le_mul (by omega) (by omega)
 have h2:x*y / B64≤(B64 - 1)*(B64 - 1) / B64:=Nat.div_le_div_right h1
 have h3:(B64 - 1)*(B64 - 1) / B64+1 < B64:=by decide
 omega
theorem sub_parts {x y b:Nat} (hx:x < B64) (hy:y < B64) (hb:b≤1):subLo x y b+y+b=x+B64*subHi x y b:=by
 unfold subLo subHi;rw [B64_eq] at *;split <;> omega
theorem add64_run (x y c:Nat) (hc:c≤1) (w:World) :
 (callFunc 161 #[.int .u64 (x:Int),.int .u64 (y:Int),.int .u64 (c:Int)]).run Tryz.prog w =
  .ok (.value (.tuple #[.int .u64 (addLo x y c:Nat),.int .u64 (addHi x y c:Nat)])) w:=by
 rw [run_callFunc_extern Tryz.func161 (by kernel_rfl) (by kernel_rfl) (by kernel_rfl) (e:=add64Entry) (by kernel_rfl),run_add64 x y c (by omega) (by omega) (by omega) (by omega)]
 simp only [Result.andThen,addLo,addHi,B64_eq]
 congr 5 <;> omega
theorem add64_run0 (x y:Nat) (w:World) :
 (callFunc 161 #[.int .u64 (x:Int),.int .u64 (y:Int),.int .u64 0]).run Tryz.prog w =
  .ok (.value (.tuple #[.int .u64 (addLo x y 0:Nat),.int .u64 (addHi x y 0:Nat)])) w:=add64_run x y 0 (by omega) w
theorem add64_run_y (x c:Nat) (hc:c≤1) (w:World) :
 (callFunc 161 #[.int .u64 (x:Int),.int .u64 0,.int .u64 (c:Int)]).run Tryz.prog w =
  .ok (.value (.tuple #[.int .u64 (addLo x 0 c:Nat),.int .u64 (addHi x 0 c:Nat)])) w:=add64_run x 0 c hc w
theorem sub64_run (x y b:Nat) (hb:b≤1) (w:World) :
 (callFunc 162 #[.int .u64 (x:Int),.int .u64 (y:Int),.int .u64 (b:Int)]).run Tryz.prog w =
  .ok (.value (.tuple #[.int .u64 (subLo x y b:Nat),.int .u64 (subHi x y b:Nat)])) w:=by
 rw [run_callFunc_extern Tryz.func162 (by kernel_rfl) (by kernel_rfl) (by kernel_rfl) (e:=sub64Entry) (by kernel_rfl),run_sub64 x y b hb]
 rfl
theorem sub64_run_y (x b:Nat) (hb:b≤1) (w:World) :
 (callFunc 162 #[.int .u64 (x:Int),.int .u64 0,.int .u64 (b:Int)]).run Tryz.prog w =
  .ok (.value (.tuple #[.int .u64 (subLo x 0 b:Nat),.int .u64 (subHi x 0 b:Nat)])) w:=sub64_run x 0 b hb w
theorem mul64_any (x y:Nat) (hx:x < B64) (hy:y < B64) (w:World) :
 Calls Tryz.prog 166 #[.int .u64 (x:Int),.int .u64 (y:Int)] w fun e w'=>e=.returned (.tuple #[.int .u64 (mulHi x y:Nat),.int .u64 (mulLo x y:Nat)])∧w=w' :=
 (Tryz.bits_Mul64 x y hx hy w).mono fun _ _ ⟨he,hw⟩=>⟨he,hw.symm⟩
def maLo (x y c:Nat):Nat:=(x*y+c) % B64
def maHi (x y c:Nat):Nat:=(x*y+c) / B64
theorem ma_parts (x y c:Nat):maLo x y c+B64*maHi x y c=x*y+c:=Nat.mod_add_div _ _
theorem maLo_lt (x y c:Nat):maLo x y c < B64:=Nat.mod_lt _ (by decide)
theorem maHi_lt {x y c:Nat} (hx:x < B64) (hy:y < B64) (hc:c < B64):maHi x y c < B64:=by
 unfold maHi
 rw [Nat.div_lt_iff_lt_mul (by decide)]
 have h1:x*y≤(B64 - 1)*(B64 - 1):=Nat.mul_le_mul (by omega) (by omega)
 have h3:(B64 - 1)*(B64 - 1)+B64≤B64*B64:=by decide
 omega
theorem ma_eq {x y c:Nat} (hx:x < B64) (hy:y < B64) (hc:c < B64):maLo x y c=addLo (mulLo x y) c 0∧maHi x y c=(mulHi x y+addHi (mulLo x y) c 0)∧mulHi x y+addHi (mulLo x y) c 0 < B64:=by
 have h1:=mul_parts x y
 have h2:=add_parts (mulLo x y) c 0
 have h3:=ma_parts x y c;have h4:=mulHi_lt hx hy
 have h5:=addHi_le (mulLo_lt x y) hc (Nat.zero_le 1)
 have h6:=addLo_lt (mulLo x y) c 0
 have h7:=maLo_lt x y c
 generalize mulLo x y=a at *
 generalize mulHi x y=b at *
 generalize addLo a c 0=d at *
 generalize addHi a c 0=f at *
 generalize maLo x y c=g at *
 generalize maHi x y c=h at *
 generalize x*y=p at *
 rw [B64_eq] at *
 omega
theorem mulAdd_any (x y c:Nat) (hx:x < B64) (hy:y < B64) (hc:c < B64) (w:World) :
 Calls Tryz.prog 163 #[.int .u64 (x:Int),.int .u64 (y:Int),.int .u64 (c:Int)] w fun e w' =>
  e=.returned (.tuple #[.int .u64 (maLo x y c:Nat),.int .u64 (maHi x y c:Nat)])∧w=w':=by
 have hadd:=add64_run0
 have HM:=Lib.hid (ma_eq hx hy hc)
 go_enter Tryz.func163,Tryz.ntmps163
 go_wp2_with (go_at_call 166;refine (mul64_any x y hx hy _).mono ?_;rintro e w' ⟨rfl,rfl⟩)
 go_ret2
 refine ⟨ret_two ?_ ?_,rfl⟩
 · rw [HM.out.1]
 · rw [HM.out.2.1];exact wrap_add _ _ HM.out.2.2
theorem ap_step {z w v c:Nat} (hz:z < B64) (hw:w < B64) (hv:v < B64) (hc:c < B64) :
 addLo z (maLo w v c) 0+B64*(addHi z (maLo w v c) 0+maHi w v c)=z+(w*v+c)∧addHi z (maLo w v c) 0+maHi w v c < B64:=by
 have h1:=ma_parts w v c
 have h2:=add_parts z (maLo w v c) 0
 have h3:w*v≤(B64 - 1)*(B64 - 1):=Nat.mul_le_mul (by omega) (by omega)
 have h4:(B64 - 1)*(B64 - 1)+(B64 - 1)+(B64 - 1) < B64*B64:=by decide
 have h5:addLo z (maLo w v c) 0+B64*(addHi z (maLo w v c) 0+maHi w v c)=z+(w*v+c):=by
  rw [Nat.mul_add];omega
 refine ⟨h5,?_⟩
 rcases Nat.lt_or_ge (addHi z (maLo w v c) 0+maHi w v c) B64 with h | h
 · exact h
 · have:=Nat.mul_le_mul_left B64 h
   omega
theorem addProduct_any (lx pre seg post:List Nat) (v g o n cz c:Nat) (X:Option Addr) (w:World) (hz:Own .u64 74 w g (pre ++ (seg ++ post))) (ho:pre.length=o) (hn:seg.length=n)
 (hx:Rd .u64 w X n lx) (hoff:Off X n g) (Lx:Lim B64 lx) (Lz:Lim B64 seg) (hv:v < B64) (hm:n≤maxLen) :
 Calls Tryz.prog 160 #[.slice (some ⟨g,o,none⟩) n cz,.slice X n c,.int .u64 (v:Int)] w fun e w'=>
  (∃ P y,e=.returned (.int .u64 (y:Nat))∧y < B64∧P.length=n∧Lim B64 P∧val B64 P+B64 ^ n*y=val B64 seg+val B64 lx*v∧Own .u64 74 w' g (pre ++ (P ++ post)))∧Only g w w':=by
 have hadd:=add64_run0;have HS:=Lib.hid hn;have HO:=Lib.hid ho;have HX:=Lib.hid hx.1;have hz0:=Seg.start hz;clear hn ho
 unfold maxLen at hm
 go_enter Tryz.func160,Tryz.ntmps160
 go_wp2_with fail
 go_loopw [7,14] (fun b i wr=>∃ (k:Nat) (P:List Nat) (y:Nat),k≤n∧Hid (P.length=k)∧i=.int .i64 k∧b=.int .u64 (y:Int)∧Seg .u64 74 wr g pre P seg post∧Only g w wr ∧
  Hid (y < B64∧Lim B64 P∧val B64 P+B64 ^ k*y=val B64 (seg.take k)+val B64 (lx.take k)*v)) (fun _ i _=>n - (intOf i).toNat)
 case atStart=>exact ⟨0,[],0,Nat.zero_le _,rfl,rfl,rfl,hz0,Only.refl _ _,by decide,Lim.nil,by simp⟩
 case round =>
  obtain ⟨k,P,y,hk,HP,rfl,rfl,hsg,hon,HV⟩:=hrel
  by_cases hlt:k < n
  · have hx':=hx.only hoff hon
    obtain ⟨b,o',rfl,hc⟩:=hx'.at_ (by omega)
    obtain ⟨u,hu,hcu⟩:=hc k hlt
    have hks:k < seg.length:=by have:=HS.out;omega
    obtain ⟨z,hz⟩:∃ z,seg[k]?=some z:=⟨_,List.getElem?_eq_getElem hks⟩
    have hcz:=hsg.cell HO.out HP.out hks hz
    have hfz:=Own.frozen hsg (o+k)
    have HU:=Lib.hid hu;have HZ:=Lib.hid hz;have HKS:=Lib.hid hks;clear hc hz hu hks
    go_wp2_with (go_at_call 163;(with_reducible refine (mulAdd_any u v y (Lx.get HU.out) hv HV.out.1 _).mono ?_);rintro e w' ⟨rfl,rfl⟩)
    go_roundw
    case rel =>
     obtain ⟨hy,hL,hval⟩:=HV.out
     obtain ⟨s1,s2⟩:=ap_step (Lz.get HZ.out) (Lx.get HU.out) hv hy
     rw [wrap_add _ _ s2]
     refine ⟨k+1,_,_,by omega,by show _=_;rw [List.length_append,HP.out];rfl,by go_num,rfl,hsg.store HO.out HP.out HKS.out _,hon.setCell _ _,
      s2,hL.snoc (addLo_lt _ _ _),?_⟩
     rw [val_snoc,val_take_succ HZ.out,val_take_succ HU.out,HP.out,Nat.pow_succ]
     generalize addLo z (maLo u v y) 0=lo at *
     generalize addHi z (maLo u v y) 0+maHi u v y=hi at *
     grind
    case measure=>simp [intOf];omega
  · obtain rfl:k=n:=by omega
    have fin:=hsg.done (by have:=HP.out;have:=HS.out;omega)
    go_wp2_with fail
    go_ret
    obtain ⟨hy,hL,hval⟩:=HV.out
    rw [List.take_of_length_le (by have:=HS.out;omega),List.take_of_length_le (by have:=HX.out;omega)] at hval
    exact ⟨⟨P,y,rfl,hy,HP.out,hL,hval,fin⟩,hon⟩
end
section
open Go.RowKit
theorem add_step {seg lx P:List Nat} {k z x y:Nat} (hP:P.length=k) (hz:seg[k]?=some z) (hx:lx[k]?=some x) (h:val B64 P+B64 ^ k*y=val B64 (seg.take k)+val B64 (lx.take k)) :
 val B64 (P ++ [addLo z x y])+B64 ^ (k+1)*addHi z x y=val B64 (seg.take (k+1))+val B64 (lx.take (k+1)):=by
 have hp:=add_parts z x y
 rw [val_snoc,val_take_succ hz,val_take_succ hx,hP,Nat.pow_succ]
 generalize addLo z x y=lo at *
 generalize addHi z x y=hi at *
 grind
theorem carry_step {seg P:List Nat} {k z y V:Nat} (hP:P.length=k) (hz:seg[k]?=some z) (h:val B64 P+B64 ^ k*y=val B64 (seg.take k)+V) :
 val B64 (P ++ [addLo z 0 y])+B64 ^ (k+1)*addHi z 0 y=val B64 (seg.take (k+1))+V:=by
 have hp:=add_parts z 0 y
 rw [val_snoc,val_take_succ hz,hP,Nat.pow_succ]
 generalize addLo z 0 y=lo at *
 generalize addHi z 0 y=hi at *
 grind
theorem add_end {seg P:List Nat} {n k y V:Nat} (hn:seg.length=n) (hk:k≤n) (hP:P.length=k) (LP:Lim B64 P) (Ls:Lim B64 seg) (hy:y≤1) (h:val B64 P+B64 ^ k*y=val B64 (seg.take k)+V)
 (he:y=0 ∨ k=n):(P ++ seg.drop k).length=n∧Lim B64 (P ++ seg.drop k)∧val B64 (P ++ seg.drop k)=(val B64 seg+V) % B64 ^ n:=by
 have hl:(P ++ seg.drop k).length=n:=by rw [List.length_append,List.length_drop];omega
 have hL:Lim B64 (P ++ seg.drop k):=LP.append (Ls.drop k)
 refine ⟨hl,hL,?_⟩
 have hlt:=val_lt hL;rw [hl] at hlt
 rcases he with he | he
 · subst he
   have e:val B64 (P ++ seg.drop k)=val B64 seg+V:=by
    rw [val_append,hP,val_take_drop seg k (by omega)];omega
   rw [← e,Nat.mod_eq_of_lt hlt]
 · subst he
   rw [List.drop_of_length_le (by omega),List.append_nil] at hlt ⊢
   rw [List.take_of_length_le (by omega)] at h
   rw [← h]
   have:y=0 ∨ y=1:=by omega
   rcases this with rfl | rfl
   · simp [Nat.mod_eq_of_lt hlt]
   · simp [Nat.mod_eq_of_lt hlt]
theorem Seg.over {K:IntKind} {e:TypeId} {g:Nat} {pre P seg post:List Nat} {k:Nat} (h:Seg K e w g pre P seg post) (hP:P.length=k):Own K e w g (pre ++ ((P ++ seg.drop k) ++ post)):=by
 unfold Seg at h
 rw [hP] at h
 rwa [List.append_assoc]
theorem addTo_any (lx pre seg post:List Nat) (g o n cz m c:Nat) (X:Option Addr) (w:World) (hz:Own .u64 74 w g (pre ++ (seg ++ post))) (ho:pre.length=o) (hn:seg.length=n)
 (hx:Rd .u64 w X m lx) (hoff:Off X m g) (Lx:Lim B64 lx) (Lz:Lim B64 seg) (hmn:m≤n) (hm:n≤maxLen) :
 Calls Tryz.prog 149 #[.slice (some ⟨g,o,none⟩) n cz,.slice X m c] w fun e w'=>e=.returned (.tuple #[]) ∧
  (∃ P,P.length=n∧Lim B64 P∧val B64 P=(val B64 seg+val B64 lx) % B64 ^ n∧Own .u64 74 w' g (pre ++ (P ++ post)))∧Only g w w':=by
 have hadd:=add64_run;have haddy:=add64_run_y;have HS:=Lib.hid hn;have HO:=Lib.hid ho;have HX:=Lib.hid hx.1;have hz0:=Seg.start hz;clear hn ho
 unfold maxLen at hm
 go_enter Tryz.func149,Tryz.ntmps149
 go_wp2_with fail
 go_loopw [4,10] (fun b i wr=>∃ (k:Nat) (P:List Nat) (y:Nat),k≤m∧y≤1∧Hid (P.length=k)∧i=.int .i64 k∧b=.int .u64 (y:Int)∧Seg .u64 74 wr g pre P seg post∧Only g w wr ∧
  Hid (Lim B64 P∧val B64 P+B64 ^ k*y=val B64 (seg.take k)+val B64 (lx.take k))) (fun _ i _=>m - (intOf i).toNat)
 case atStart=>exact ⟨0,[],0,Nat.zero_le _,Nat.zero_le _,rfl,rfl,rfl,hz0,Only.refl _ _,Lim.nil,by simp⟩
 case round =>
  obtain ⟨k,P,y,hk,hy,HP,rfl,rfl,hsg,hon,HV⟩:=hrel
  by_cases hlt:k < m
  · have hx':=hx.only hoff hon
    obtain ⟨b,o',rfl,hc⟩:=hx'.at_ (by omega)
    obtain ⟨u,hu,hcu⟩:=hc k hlt
    have hks:k < seg.length:=by have:=HS.out;omega
    obtain ⟨z,hz⟩:∃ z,seg[k]?=some z:=⟨_,List.getElem?_eq_getElem hks⟩
    have hcz:=hsg.cell HO.out HP.out hks hz
    have hfz:=Own.frozen hsg (o+k)
    have HU:=Lib.hid hu;have HZ:=Lib.hid hz;have HKS:=Lib.hid hks;clear hc hz hu hks
    go_wp2_with fail
    go_roundw
    case rel =>
     obtain ⟨hL,hval⟩:=HV.out
     exact ⟨k+1,_,_,by omega,addHi_le (Lz.get HZ.out) (Lx.get HU.out) hy,by show _=_;rw [List.length_append,HP.out];rfl,by go_num,rfl,hsg.store HO.out HP.out HKS.out _,hon.setCell _ _,
      hL.snoc (addLo_lt _ _ _),add_step HP.out HZ.out HU.out hval⟩
    case measure=>simp [intOf];omega
  · obtain rfl:k=m:=by omega
    have HV1:Hid (Lim B64 P∧val B64 P+B64 ^ k*y=val B64 (seg.take k)+val B64 lx):=by
     obtain ⟨hL,hval⟩:=HV.out
     rw [List.take_of_length_le (l:=lx) (by have:=HX.out;omega)] at hval
     exact ⟨hL,hval⟩
    clear HV
    go_wp2_with fail
    go_loopw [4,7] (fun b i wr'=>∃ (j:Nat) (Q:List Nat) (t:Nat),j≤n∧t≤1∧Hid (Q.length=j)∧i=.int .i64 j∧b=.int .u64 (t:Int)∧Seg .u64 74 wr' g pre Q seg post∧Only g w wr' ∧
     Hid (Lim B64 Q∧val B64 Q+B64 ^ j*t=val B64 (seg.take j)+val B64 lx)) (fun _ i _=>n - (intOf i).toNat)
    case atStart=>exact ⟨k,P,y,hmn,hy,HP,rfl,rfl,hsg,hon,HV1⟩
    case round =>
     clear HV1 hsg hon HP
     obtain ⟨j,Q,t,hj,ht,HQ,rfl,rfl,hsg,hon,HV⟩:=hrel
     by_cases ht0:t=0
     · subst ht0
       have fin:=hsg.over HQ.out
       have hend:=add_end HS.out hj HQ.out HV.out.1 Lz (Nat.zero_le 1) HV.out.2 (Or.inl rfl)
       have HE:=Lib.hid hend;clear hend
       go_wp2_with fail
       go_end0
       exact ⟨rfl,⟨_,HE.out.1,HE.out.2.1,HE.out.2.2,fin⟩,hon⟩
     · have hne:((t:Int) != 0)=true:=by simp;omega
       by_cases hlt2:j < n
       · have hks:j < seg.length:=by have:=HS.out;omega
         obtain ⟨z,hz⟩:∃ z,seg[j]?=some z:=⟨_,List.getElem?_eq_getElem hks⟩
         have hcz:=hsg.cell HO.out HQ.out hks hz
         have hfz:=Own.frozen hsg (o+j)
         have HZ:=Lib.hid hz;have HKS:=Lib.hid hks;clear hz hks
         go_wp2_with fail
         go_roundw
         case rel =>
          obtain ⟨hL,hval⟩:=HV.out
          exact ⟨j+1,_,_,by omega,addHi_le (Lz.get HZ.out) (by decide) ht,by show _=_;rw [List.length_append,HQ.out];rfl,by go_num,rfl,hsg.store HO.out HQ.out HKS.out _,hon.setCell _ _,
           hL.snoc (addLo_lt _ _ _),carry_step HQ.out HZ.out hval⟩
         case measure=>simp [intOf];omega
       · have fin:=hsg.over HQ.out
         have hend:=add_end HS.out hj HQ.out HV.out.1 Lz ht HV.out.2 (Or.inr (by omega))
         have HE:=Lib.hid hend;clear hend
         go_wp2_with fail
         go_end0
         exact ⟨rfl,⟨_,HE.out.1,HE.out.2.1,HE.out.2.2,fin⟩,hon⟩
end
section
open Go.RowKit
theorem sub_step {seg lx P:List Nat} {k z x y:Nat} (hzB:z < B64) (hxB:x < B64) (hy:y≤1) (hP:P.length=k) (hz:seg[k]?=some z) (hx:lx[k]?=some x) (h:val B64 P+val B64 (lx.take k)=val B64 (seg.take k)+B64 ^ k*y) :
 val B64 (P ++ [subLo z x y])+val B64 (lx.take (k+1))=val B64 (seg.take (k+1))+B64 ^ (k+1)*subHi z x y:=by
 have hp:=sub_parts hzB hxB hy
 rw [val_snoc,val_take_succ hz,val_take_succ hx,hP,Nat.pow_succ]
 generalize subLo z x y=lo at *
 generalize subHi z x y=hi at *
 grind
theorem borrow_step {seg P:List Nat} {k z y V:Nat} (hzB:z < B64) (hy:y≤1) (hP:P.length=k) (hz:seg[k]?=some z) (h:val B64 P+V=val B64 (seg.take k)+B64 ^ k*y) :
 val B64 (P ++ [subLo z 0 y])+V=val B64 (seg.take (k+1))+B64 ^ (k+1)*subHi z 0 y:=by
 have hp:=sub_parts hzB (show 0 < B64 by decide) hy
 rw [val_snoc,val_take_succ hz,hP,Nat.pow_succ]
 generalize subLo z 0 y=lo at *
 generalize subHi z 0 y=hi at *
 grind
theorem sub_end {seg P:List Nat} {n k y V:Nat} (hn:seg.length=n) (hk:k≤n) (hP:P.length=k) (LP:Lim B64 P) (Ls:Lim B64 seg) (hV:V≤val B64 seg) (h:val B64 P+V=val B64 (seg.take k)+B64 ^ k*y)
 (he:y=0 ∨ k=n):(P ++ seg.drop k).length=n∧Lim B64 (P ++ seg.drop k)∧val B64 (P ++ seg.drop k)=val B64 seg - V:=by
 have hl:(P ++ seg.drop k).length=n:=by rw [List.length_append,List.length_drop];omega
 have hL:Lim B64 (P ++ seg.drop k):=LP.append (Ls.drop k)
 refine ⟨hl,hL,?_⟩
 have hlt:=val_lt LP
 have hs:=val_take_drop (B:=B64) seg k (by omega)
 have hv:=val_append (B:=B64) P (seg.drop k)
 rw [hP] at hv hlt
 rcases Nat.eq_zero_or_pos y with hy | hy
 · subst hy;omega
 · have hkn:k=n:=by omega
   have:=Nat.mul_le_mul_left (B64 ^ k) hy
   rw [List.take_of_length_le (by omega)] at h
   omega
theorem takeFrom_any (lx pre seg post:List Nat) (g o n cz m c:Nat) (X:Option Addr) (w:World) (hz:Own .u64 74 w g (pre ++ (seg ++ post))) (ho:pre.length=o) (hn:seg.length=n)
 (hx:Rd .u64 w X m lx) (hoff:Off X m g) (Lx:Lim B64 lx) (Lz:Lim B64 seg) (hmn:m≤n) (hm:n≤maxLen) (hle0:val B64 lx≤val B64 seg) :
 Calls Tryz.prog 150 #[.slice (some ⟨g,o,none⟩) n cz,.slice X m c] w fun e w'=>e=.returned (.tuple #[]) ∧
  (∃ P,P.length=n∧Lim B64 P∧val B64 P=val B64 seg - val B64 lx∧Own .u64 74 w' g (pre ++ (P ++ post)))∧Only g w w':=by
 have hadd:=sub64_run;have haddy:=sub64_run_y;have HS:=Lib.hid hn;have HO:=Lib.hid ho;have HX:=Lib.hid hx.1;have hz0:=Seg.start hz;have HLE:=Lib.hid hle0;clear hn ho hle0
 unfold maxLen at hm
 go_enter Tryz.func150,Tryz.ntmps150
 go_wp2_with fail
 go_loopw [4,10] (fun b i wr=>∃ (k:Nat) (P:List Nat) (y:Nat),k≤m∧y≤1∧Hid (P.length=k)∧i=.int .i64 k∧b=.int .u64 (y:Int)∧Seg .u64 74 wr g pre P seg post∧Only g w wr ∧
  Hid (Lim B64 P∧val B64 P+val B64 (lx.take k)=val B64 (seg.take k)+B64 ^ k*y)) (fun _ i _=>m - (intOf i).toNat)
 case atStart=>exact ⟨0,[],0,Nat.zero_le _,Nat.zero_le _,rfl,rfl,rfl,hz0,Only.refl _ _,Lim.nil,by simp⟩
 case round =>
  obtain ⟨k,P,y,hk,hy,HP,rfl,rfl,hsg,hon,HV⟩:=hrel
  by_cases hlt:k < m
  · have hx':=hx.only hoff hon
    obtain ⟨b,o',rfl,hc⟩:=hx'.at_ (by omega)
    obtain ⟨u,hu,hcu⟩:=hc k hlt
    have hks:k < seg.length:=by have:=HS.out;omega
    obtain ⟨z,hz⟩:∃ z,seg[k]?=some z:=⟨_,List.getElem?_eq_getElem hks⟩
    have hcz:=hsg.cell HO.out HP.out hks hz
    have hfz:=Own.frozen hsg (o+k)
    have HU:=Lib.hid hu;have HZ:=Lib.hid hz;have HKS:=Lib.hid hks;clear hc hz hu hks
    go_wp2_with fail
    go_roundw
    case rel =>
     obtain ⟨hL,hval⟩:=HV.out
     exact ⟨k+1,_,_,by omega,subHi_le _ _ _,by show _=_;rw [List.length_append,HP.out];rfl,by go_num,rfl,hsg.store HO.out HP.out HKS.out _,hon.setCell _ _,
      hL.snoc (subLo_lt _ _ _),sub_step (Lz.get HZ.out) (Lx.get HU.out) hy HP.out HZ.out HU.out hval⟩
    case measure=>simp [intOf];omega
  · obtain rfl:k=m:=by omega
    have HV1:Hid (Lim B64 P∧val B64 P+val B64 lx=val B64 (seg.take k)+B64 ^ k*y):=by
     obtain ⟨hL,hval⟩:=HV.out
     rw [List.take_of_length_le (l:=lx) (by have:=HX.out;omega)] at hval
     exact ⟨hL,hval⟩
    clear HV
    go_wp2_with fail
    go_loopw [4,7] (fun b i wr'=>∃ (j:Nat) (Q:List Nat) (t:Nat),j≤n∧t≤1∧Hid (Q.length=j)∧i=.int .i64 j∧b=.int .u64 (t:Int)∧Seg .u64 74 wr' g pre Q seg post∧Only g w wr' ∧
     Hid (Lim B64 Q∧val B64 Q+val B64 lx=val B64 (seg.take j)+B64 ^ j*t)) (fun _ i _=>n - (intOf i).toNat)
    case atStart=>exact ⟨k,P,y,hmn,hy,HP,rfl,rfl,hsg,hon,HV1⟩
    case round =>
     clear HV1 hsg hon HP
     obtain ⟨j,Q,t,hj,ht,HQ,rfl,rfl,hsg,hon,HV⟩:=hrel
     by_cases ht0:t=0
     · subst ht0
       have fin:=hsg.over HQ.out
       have hend:=sub_end HS.out hj HQ.out HV.out.1 Lz HLE.out HV.out.2 (Or.inl rfl)
       have HE:=Lib.hid hend;clear hend
       go_wp2_with fail
       go_end0
       exact ⟨rfl,⟨_,HE.out.1,HE.out.2.1,HE.out.2.2,fin⟩,hon⟩
     · have hne:((t:Int) != 0)=true:=by simp;omega
       by_cases hlt2:j < n
       · have hks:j < seg.length:=by have:=HS.out;omega
         obtain ⟨z,hz⟩:∃ z,seg[j]?=some z:=⟨_,List.getElem?_eq_getElem hks⟩
         have hcz:=hsg.cell HO.out HQ.out hks hz
         have hfz:=Own.frozen hsg (o+j)
         have HZ:=Lib.hid hz;have HKS:=Lib.hid hks;clear hz hks
         go_wp2_with fail
         go_roundw
         case rel =>
          obtain ⟨hL,hval⟩:=HV.out
          exact ⟨j+1,_,_,by omega,subHi_le _ _ _,by show _=_;rw [List.length_append,HQ.out];rfl,by go_num,rfl,hsg.store HO.out HQ.out HKS.out _,hon.setCell _ _,
           hL.snoc (subLo_lt _ _ _),borrow_step (Lz.get HZ.out) ht HQ.out HZ.out hval⟩
         case measure=>simp [intOf];omega
       · have fin:=hsg.over HQ.out
         have hend:=sub_end HS.out hj HQ.out HV.out.1 Lz HLE.out HV.out.2 (Or.inr (by omega))
         have HE:=Lib.hid hend;clear hend
         go_wp2_with fail
         go_end0
         exact ⟨rfl,⟨_,HE.out.1,HE.out.2.1,HE.out.2.2,fin⟩,hon⟩
end
section
open Go.RowKit
theorem sum_fits {a b k n:Nat} (ha:a < B64 ^ k) (hb:b < B64 ^ n) (hnk:n≤k):a+b < B64 ^ (k+1):=by
 have h1:B64 ^ n≤B64 ^ k:=Nat.pow_le_pow_right (by decide) hnk
 have h2:B64 ^ k*2≤B64 ^ (k+1):=by rw [Nat.pow_succ];exact Nat.mul_le_mul_left _ (by decide)
 omega
theorem sum_end {xs ys P:List Nat} {a b k n:Nat} (hx:limbs B64 a=xs) (hy:limbs B64 b=ys) (hk:ys.length=k) (hn:xs.length=n) (hnk:n≤k) (hP:val B64 P=(val B64 (ys ++ [0])+val B64 xs) % B64 ^ (k+1)) :
 val B64 P=b+a:=by
 have h1:=lt_pow_limbs B64_two a;have h2:=lt_pow_limbs B64_two b
 rw [hx,hn] at h1
 rw [hy,hk] at h2
 rw [hP,val_snoc,Nat.mul_zero,Nat.add_zero,← hx,← hy,val_limbs B64_two,val_limbs B64_two,Nat.mod_eq_of_lt (sum_fits h2 h1 hnk)]
theorem add_any (la lb:List Nat) (A B:Option Addr) (n c m d:Nat) (w:World) (ha:Rd .u64 w A n la) (hb:Rd .u64 w B m lb) (La:Lim B64 la) (Lb:Lim B64 lb) (hnm0:n+m≤35184372088831)
 (hnc:n≤c) (hmd:m≤d) :
 Calls Tryz.prog 126 #[.slice A n c,.slice B m d] w (GivesS .u64 74 w (limbs B64 (val B64 la+val B64 lb))):=by
 have HN:Hid (n≤maxLen∧m≤maxLen):=⟨by unfold maxLen;omega,by unfold maxLen;omega⟩
 have hnm:n+m≤2 ^ 45:=by omega
 have HNM:=Lib.hid hnm0;clear hnm0
 generalize hX:limbs B64 (val B64 la)=xs
 have LX:Lim B64 xs:=by rw [← hX];exact lim_limbs B64_two _
 generalize hY:limbs B64 (val B64 lb)=ys
 have LY:Lim B64 ys:=by rw [← hY];exact lim_limbs B64_two _
 have HX:=Lib.hid hX;have HY:=Lib.hid hY;clear hX hY
 by_cases hlt:xs.length < ys.length
 all_goals
  have HLT:=Lib.hid hlt;clear hlt
  go_enter Tryz.func126,Tryz.ntmps126
 · go_wp2_with (first
     | (go_at_call 103;(with_reducible refine (trim_any la A n c w ha La HN.out.1 hnc).mono ?_);rintro e w' ⟨⟨k,hk,rfl,hka⟩,rfl⟩;rw [HX.out] at hka)
     | (go_at_call 103;(with_reducible refine (trim_any lb B m d w hb Lb HN.out.2 hmd).mono ?_);rintro e w' ⟨⟨k2,hk2,rfl,hkb⟩,rfl⟩;rw [HY.out] at hkb
        have hkk:k < k2:=by (have h1:=hka.1;have h2:=hkb.1;have h3:=HLT.out;omega))
     | (at_make;refine wpList_make64 _ rfl (.tmp 19) (.tmp 19) rfl .i64 .i64 _ _ (k2+1) rfl rfl (by omega) (by omega) (by have:=HNM.out;omega) ?_;intro w1 hown1 hb1)
     | (refine wpList_copy64 _ rfl (.tmp 21) (.tmp 22) rfl w.heap.size 0 _ _ k2 d B rfl rfl [] (List.replicate k2 0) [0] ys (by rw [List.nil_append,← List.replicate_succ'];exact hown1) rfl (by simp) (by omega) (hkb.below hb1) ?_;intro w2 hown2 ho2)
     | (go_at_call 149
        refine (addTo_any xs [] (ys ++ [0]) [] w.heap.size 0 (k2+1) _ k c A w2 (by simpa using hown2) rfl (by rw [List.length_append,hkb.1];rfl) ((hka.below hb1).only (Off.of_lt hka (Nat.le_refl _)) ho2) (Off.of_lt hka (Nat.le_refl _)) LX (LY.snoc (by decide)) (by omega) (by have:=HN.out.2;have:=HNM.out;unfold maxLen;omega)).mono ?_
        rintro e w3 ⟨rfl,⟨P,hP1,hP2,hP3,hP4⟩,ho3⟩
        have HP1:=Lib.hid hP1;have HP3:=Lib.hid hP3;clear hP1 hP3)
     | (go_at_call 103;refine (trim_own P w.heap.size (k2+1) w.heap.size w3 (by simpa using hP4) (Nat.le_refl _) HP1.out hP2 (by have:=HNM.out;unfold maxLen;omega)).mono ?_;rintro e w' ⟨⟨k3,hk3,rfl,hfr⟩,rfl⟩))
   go_ret
   rw [sum_end HX.out HY.out hkb.1 hka.1 (by omega) HP3.out,Nat.add_comm (val B64 lb)] at hfr
   exact ⟨_,_,_,rfl,hk3,by have:=HNM.out;unfold maxLen;omega,hfr,Below.only hb1 (Nat.le_refl _) hb1.size (ho2.trans ho3)⟩
 · go_wp2_with (first
     | (go_at_call 103;(with_reducible refine (trim_any la A n c w ha La HN.out.1 hnc).mono ?_);rintro e w' ⟨⟨k,hk,rfl,hka⟩,rfl⟩;rw [HX.out] at hka)
     | (go_at_call 103;(with_reducible refine (trim_any lb B m d w hb Lb HN.out.2 hmd).mono ?_);rintro e w' ⟨⟨k2,hk2,rfl,hkb⟩,rfl⟩;rw [HY.out] at hkb
        have hkk:k2≤k:=by (have h1:=hka.1;have h2:=hkb.1;have h3:=HLT.out;omega))
     | (at_make;refine wpList_make64 _ rfl (.tmp 19) (.tmp 19) rfl .i64 .i64 _ _ (k+1) rfl rfl (by omega) (by omega) (by have:=HNM.out;omega) ?_;intro w1 hown1 hb1)
     | (refine wpList_copy64 _ rfl (.tmp 21) (.tmp 22) rfl w.heap.size 0 _ _ k c A rfl rfl [] (List.replicate k 0) [0] xs (by rw [List.nil_append,← List.replicate_succ'];exact hown1) rfl (by simp) (by omega) (hka.below hb1) ?_;intro w2 hown2 ho2)
     | (go_at_call 149
        refine (addTo_any ys [] (xs ++ [0]) [] w.heap.size 0 (k+1) _ k2 d B w2 (by simpa using hown2) rfl (by rw [List.length_append,hka.1];rfl) ((hkb.below hb1).only (Off.of_lt hkb (Nat.le_refl _)) ho2) (Off.of_lt hkb (Nat.le_refl _)) LY (LX.snoc (by decide)) (by omega) (by have:=HN.out.1;have:=HNM.out;unfold maxLen;omega)).mono ?_
        rintro e w3 ⟨rfl,⟨P,hP1,hP2,hP3,hP4⟩,ho3⟩
        have HP1:=Lib.hid hP1;have HP3:=Lib.hid hP3;clear hP1 hP3)
     | (go_at_call 103;refine (trim_own P w.heap.size (k+1) w.heap.size w3 (by simpa using hP4) (Nat.le_refl _) HP1.out hP2 (by have:=HNM.out;unfold maxLen;omega)).mono ?_;rintro e w' ⟨⟨k3,hk3,rfl,hfr⟩,rfl⟩))
   go_ret
   rw [sum_end HY.out HX.out hka.1 hkb.1 (by omega) HP3.out] at hfr
   exact ⟨_,_,_,rfl,hk3,by have:=HNM.out;unfold maxLen;omega,hfr,Below.only hb1 (Nat.le_refl _) hb1.size (ho2.trans ho3)⟩
theorem below_drawn {B:Nat} {a w:World} (h:Below B a w) (q:Nat):Below B a (w.drewN q):=⟨h.os,h.tape,h.output,h.size,h.block⟩
theorem sub_below (la lb:List Nat) (A B:Option Addr) (n c m d:Nat) (w:World) (ha:Rd .u64 w A n la) (hb:Rd .u64 w B m lb) (La:Lim B64 la) (Lb:Lim B64 lb) (hnm0:n+m≤35184372088831)
 (hnc:n≤c) (hmd:m≤d) (hlt:val B64 la < val B64 lb) :
 Calls Tryz.prog 127 #[.slice A n c,.slice B m d] w fun e w'=>e=.returned (.tuple #[.slice none 0 0,.int .i64 13])∧Below w.heap.size w w':=by
 have HN:Hid (n≤maxLen∧m≤maxLen):=⟨by unfold maxLen;omega,by unfold maxLen;omega⟩
 clear hnm0
 have HC:cmpN (val B64 la) (val B64 lb)=-1:=cmpN_lt hlt
 generalize hX:limbs B64 (val B64 la)=xs
 have LX:Lim B64 xs:=by rw [← hX];exact lim_limbs B64_two _
 generalize hY:limbs B64 (val B64 lb)=ys
 have LY:Lim B64 ys:=by rw [← hY];exact lim_limbs B64_two _
 have hvx:val B64 xs=val B64 la:=by rw [← hX,val_limbs B64_two]
 have hvy:val B64 ys=val B64 lb:=by rw [← hY,val_limbs B64_two]
 rw [← hvx,← hvy] at HC
 have HX:=Lib.hid hX;have HY:=Lib.hid hY;have HCC:=Lib.hid HC;clear hX hY hvx hvy hlt HC
 go_enter Tryz.func127,Tryz.ntmps127
 go_wp2_with (first
  | (go_at_call 103;(with_reducible refine (trim_any la A n c w ha La HN.out.1 hnc).mono ?_);rintro e w' ⟨⟨k,hk,rfl,hka⟩,rfl⟩;rw [HX.out] at hka)
  | (go_at_call 103;(with_reducible refine (trim_any lb B m d w hb Lb HN.out.2 hmd).mono ?_);rintro e w' ⟨⟨k2,hk2,rfl,hkb⟩,rfl⟩;rw [HY.out] at hkb)
  | (go_at_call 95;refine (cmp_any xs ys A B k c k2 d w hka hkb LX LY (by have:=HN.out.1;omega) (by have:=HN.out.2;omega) (by omega) (by omega)).mono ?_;rintro e w' ⟨rfl,q,rfl⟩;rw [HCC.out]))
 go_ret2
 exact ⟨rfl,below_drawn (Below.refl _ _) q⟩
theorem sub_any (la lb:List Nat) (A B:Option Addr) (n c m d:Nat) (w:World) (ha:Rd .u64 w A n la) (hb:Rd .u64 w B m lb) (La:Lim B64 la) (Lb:Lim B64 lb) (hnm0:n+m≤35184372088831)
 (hnc:n≤c) (hmd:m≤d) (hle:val B64 lb≤val B64 la) :
 Calls Tryz.prog 127 #[.slice A n c,.slice B m d] w (GivesE .u64 74 w (limbs B64 (val B64 la - val B64 lb)) 0):=by
 have HN:Hid (n≤maxLen∧m≤maxLen):=⟨by unfold maxLen;omega,by unfold maxLen;omega⟩
 have hnm:n+m≤2 ^ 45:=by omega
 have HNM:=Lib.hid hnm0;clear hnm0
 have HC:0≤cmpN (val B64 la) (val B64 lb):=by
  rcases Nat.lt_or_eq_of_le hle with h | h
  · rw [cmpN_gt h];omega
  · rw [cmpN_eq h.symm];omega
 generalize hX:limbs B64 (val B64 la)=xs
 have LX:Lim B64 xs:=by rw [← hX];exact lim_limbs B64_two _
 generalize hY:limbs B64 (val B64 lb)=ys
 have LY:Lim B64 ys:=by rw [← hY];exact lim_limbs B64_two _
 have hvx:val B64 xs=val B64 la:=by rw [← hX,val_limbs B64_two]
 have hvy:val B64 ys=val B64 lb:=by rw [← hY,val_limbs B64_two]
 have hle2:val B64 ys≤val B64 xs:=by omega
 have hlen:ys.length≤xs.length:=by rw [← hX,← hY];exact length_limbs_mono B64_two hle
 rw [← hvx,← hvy] at HC
 have HX:=Lib.hid hX;have HY:=Lib.hid hY;have HVX:=Lib.hid hvx;have HVY:=Lib.hid hvy;have HLE:=Lib.hid hle2;have HLN:=Lib.hid hlen;clear hX hY hvx hvy hle hle2 hlen
 go_enter Tryz.func127,Tryz.ntmps127
 go_wp2_with (first
  | (go_at_call 103;(with_reducible refine (trim_any la A n c w ha La HN.out.1 hnc).mono ?_);rintro e w' ⟨⟨k,hk,rfl,hka⟩,rfl⟩;rw [HX.out] at hka)
  | (go_at_call 103;(with_reducible refine (trim_any lb B m d w hb Lb HN.out.2 hmd).mono ?_);rintro e w' ⟨⟨k2,hk2,rfl,hkb⟩,rfl⟩;rw [HY.out] at hkb
     have hkk:k2≤k:=by (have h1:=hka.1;have h2:=hkb.1;have h3:=HLN.out;omega))
  | (go_at_call 95;refine (cmp_any xs ys A B k c k2 d w hka hkb LX LY (by have:=HN.out.1;omega) (by have:=HN.out.2;omega) (by omega) (by omega)).mono ?_;rintro e w' ⟨rfl,q,rfl⟩)
  | (go_at_call 131;refine (fresh_any xs A k c _ (hka.drewN q) (by have:=HNM.out;omega)).mono ?_;rintro e w1 ⟨rfl,hown1,hb1⟩)
  | (go_at_call 150
     refine (takeFrom_any ys [] xs [] w.heap.size 0 k k k2 d B w1 (by simpa using hown1) rfl hka.1 ((hkb.drewN q).below hb1) (Off.of_lt hkb (Nat.le_refl _)) LY LX hkk (by have:=HN.out.1;omega) HLE.out).mono ?_
     rintro e w3 ⟨rfl,⟨P,hP1,hP2,hP3,hP4⟩,ho3⟩
     have HP1:=Lib.hid hP1;have HP3:=Lib.hid hP3;clear hP1 hP3)
  | (go_at_call 103;refine (trim_own P w.heap.size k w.heap.size w3 (by simpa using hP4) (Nat.le_refl _) HP1.out hP2 (by have:=HN.out.1;omega)).mono ?_;rintro e w' ⟨⟨k3,hk3,rfl,hfr⟩,rfl⟩))
 go_ret2
 rw [HP3.out,HVX.out,HVY.out] at hfr
 have hb2:Below w.heap.size w w1:=(below_drawn (Below.refl _ _) q).trans hb1
 exact ⟨_,_,_,rfl,hk3,by have:=HN.out.1;omega,hfr,Below.only hb2 (Nat.le_refl _) hb2.size ho3⟩
end
section
open Go.RowKit
section
variable {K:IntKind} {e:TypeId} {w:World} {g j z:Nat} {Q R:List Nat}
theorem Own.cell_len (h:Own K e w g (Q ++ (z :: R))) (hQ:Q.length=j):w.cell? ⟨g,j,none⟩=some (.int K (z:Int)) :=
 h.cell_at (by rw [List.getElem?_append_right (by omega),hQ,Nat.sub_self];rfl)
theorem Own.store_len (h:Own K e w g (Q ++ (z :: R))) (hQ:Q.length=j) (v:Nat):Own K e (w.setCell ⟨g,j,none⟩ (.int K (v:Int))) g ((Q ++ [v]) ++ R):=by
 have:=h.set_ j v
 rw [List.set_append_right _ _ (by omega),hQ,Nat.sub_self,List.set_cons_zero] at this
 rw [List.append_assoc];exact this
end
theorem zeros_succ {m k:Nat} (h:k < m):List.replicate (m - k) 0=0 :: List.replicate (m - (k+1)) 0:=by
 rw [show m - k=m - (k+1)+1 by omega,List.replicate_succ]
theorem lp_step {P S:List Nat} {i n v y:Nat} {la lb:List Nat} (hP:P.length=n+i) (hS:S.length=n) (hv:lb[i]?=some v)
 (h:val B64 P=val B64 la*val B64 (lb.take i)) (hs:val B64 S+B64 ^ n*y=val B64 (P.drop i)+val B64 la*v) :
 val B64 ((P.take i ++ S) ++ [y])=val B64 la*val B64 (lb.take (i+1)):=by
 rw [val_take_succ hv,val_snoc,val_append,List.length_append,List.length_take,Nat.min_eq_left (by omega),hS,Nat.pow_add,Nat.mul_add,← h]
 have hp:=val_take_drop (B:=B64) P i (by omega)
 rw [hp]
 generalize val B64 (P.take i)=p at *
 generalize val B64 (P.drop i)=q at *
 generalize val B64 S=s at *
 generalize val B64 la=a at *
 generalize B64 ^ i=b at *
 generalize B64 ^ n=c at *
 grind
theorem addProduct_at (n1:Nat) (lx pre seg post:List Nat) (v g o n cz c:Nat) (X:Option Addr) (w:World) (hn1:n1=n) (hz:Own .u64 74 w g (pre ++ (seg ++ post))) (ho:pre.length=o) (hn:seg.length=n)
 (hx:Rd .u64 w X n lx) (hoff:Off X n g) (Lx:Lim B64 lx) (Lz:Lim B64 seg) (hv:v < B64) (hm:n≤maxLen) :
 Calls Tryz.prog 160 #[.slice (some ⟨g,o,none⟩) n1 cz,.slice X n c,.int .u64 (v:Int)] w fun e w'=>
  (∃ P y,e=.returned (.int .u64 (y:Nat))∧y < B64∧P.length=n∧Lim B64 P∧val B64 P+B64 ^ n*y=val B64 seg+val B64 lx*v∧Own .u64 74 w' g (pre ++ (P ++ post)))∧Only g w w':=by
 subst hn1;exact addProduct_any lx pre seg post v g o n1 cz c X w hz ho hn hx hoff Lx Lz hv hm
theorem limbProduct_any (la lb:List Nat) (A B:Option Addr) (n c m d:Nat) (w:World) (ha:Rd .u64 w A n la) (hb:Rd .u64 w B m lb) (La:Lim B64 la) (Lb:Lim B64 lb) (hnm0:n+m≤35184372088832) :
 Calls Tryz.prog 145 #[.slice A n c,.slice B m d] w fun e w' =>
  e=.returned (.slice (some ⟨w.heap.size,0,none⟩) (n+m) (n+m))∧(∃ L,L.length=n+m∧Lim B64 L∧val B64 L=val B64 la*val B64 lb∧Own .u64 74 w' w.heap.size L)∧Below w.heap.size w w':=by
 have hnm:n+m≤2 ^ 45:=by omega
 have HNM:=Lib.hid hnm0;have HB:=Lib.hid hb.1;clear hnm0
 go_enter Tryz.func145,Tryz.ntmps145
 go_wp2_with (at_make;refine wpList_make64 _ rfl (.tmp 12) (.tmp 12) rfl .i64 .i64 _ _ (n+m) rfl rfl (by omega) (by omega) HNM.out ?_;intro w1 hown1 hb1)
 go_loopw [16] (fun i wr=>∃ (k:Nat) (P:List Nat),k≤m∧i=.int .i64 k∧Hid (P.length=n+k)∧Own .u64 74 wr w.heap.size (P ++ List.replicate (m - k) 0)∧Only w.heap.size w1 wr ∧
  Hid (Lim B64 P∧val B64 P=val B64 la*val B64 (lb.take k))) (fun i _=>m - (intOf i).toNat)
 case atStart=>exact ⟨0,List.replicate n 0,Nat.zero_le _,rfl,by show _=_;simp,by rw [List.replicate_append_replicate];exact hown1,Only.refl _ _,Lim.zeros _ (by decide),by rw [val_zeros];simp⟩
 case round =>
  obtain ⟨k,P,hk,rfl,HP,hown,hon,HV⟩:=hrel
  by_cases hlt:k < m
  · have hb2:Below w.heap.size w wr:=Below.only hb1 (Nat.le_refl _) hb1.size hon
    have hb':=hb.below hb2
    have ha':=ha.below hb2
    obtain ⟨b,o',rfl,hc⟩:=hb'.at_ (by omega)
    obtain ⟨v,hv,hcv⟩:=hc k hlt
    have HVX:=Lib.hid hv
    have hz:Hid (Own .u64 74 wr w.heap.size (P.take k ++ (P.drop k ++ List.replicate (m - k) 0))):=by
     show Own _ _ _ _ _
     rw [← List.append_assoc,List.take_append_drop];exact hown
    have hl1:Hid ((P.take k).length=k):=by show _=_;rw [List.length_take,HP.out];omega
    have hl2:Hid ((P.drop k).length=n):=by show _=_;rw [List.length_drop,HP.out];omega
    clear hc hv
    go_wp2_with (first
     | (go_at_call 160
        refine (addProduct_at _ la (P.take k) (P.drop k) (List.replicate (m - k) 0) v w.heap.size k n _ c A wr (by omega) hz.out hl1.out hl2.out ha' (Off.of_lt ha (Nat.le_refl _)) La (HV.out.1.drop _) (Lb.get HVX.out) (by unfold maxLen;omega)).mono ?_
        rintro e w2 ⟨⟨S,y,rfl,hy,hS1,hS2,hS3,hS4⟩,hon2⟩
        have hQ:(P.take k ++ S).length=k+n:=by rw [List.length_append,hl1.out,hS1]
        rw [zeros_succ hlt,← List.append_assoc] at hS4
        have hcz:=hS4.cell_len hQ
        have hfz:=Own.frozen hS4 (k+n)
        have HQ:=Lib.hid hQ;have HS1:=Lib.hid hS1;have HS3:=Lib.hid hS3;clear hQ hS1 hS3))
    go_roundw
    case rel =>
     obtain ⟨hL,hval⟩:=HV.out
     refine ⟨k+1,(P.take k ++ S) ++ [y],by omega,by go_num,?_,hS4.store_len HQ.out y,(hon.trans hon2).setCell _ _,((hL.take _).append hS2).snoc hy,lp_step HP.out HS1.out HVX.out hval HS3.out⟩
     show _=_
     rw [List.length_append,HQ.out];simp;omega
    case measure=>simp [intOf];omega
  · obtain rfl:k=m:=by omega
    go_wp2_with fail
    go_ret
    obtain ⟨hL,hval⟩:=HV.out
    rw [List.take_of_length_le (by have:=HB.out;omega)] at hval
    exact ⟨rfl,⟨P,HP.out,hL,hval,by simpa using hown⟩,Below.only hb1 (Nat.le_refl _) hb1.size hon⟩
end
section
open Go.RowKit
def ProductOf (la lb:List Nat) (n m:Nat) (w:World) (e:Ending) (w':World):Prop :=
 ∃ N,N=n+m∧e=.returned (.slice (some ⟨w.heap.size,0,none⟩) N N)∧(∃ L,L.length=n+m∧Lim B64 L∧val B64 L=val B64 la*val B64 lb∧Own .u64 74 w' w.heap.size L)∧Below w.heap.size w w'
theorem product_few (la lb:List Nat) (A B:Option Addr) (n c m d:Nat) (w:World) (ha:Rd .u64 w A n la) (hb:Rd .u64 w B m lb) (La:Lim B64 la) (Lb:Lim B64 lb) (hnm0:n+m≤35184372088832)
 (hfew:n≤40 ∨ m≤40) :
 Calls Tryz.prog 124 #[.slice A n c,.slice B m d] w (ProductOf la lb n m w):=by
 have hnm:n+m≤2 ^ 45:=by omega
 have HNM:=Lib.hid hnm0;clear hnm0
 by_cases hlt:n < m
 · have hn:n≤40:=by omega
   have hd:decide ((n:Int)≤40)=true:=by simp;omega
   go_enter Tryz.func124,Tryz.ntmps124
   go_wp2_with (go_at_call 145;refine (limbProduct_any lb la B A m d n c _ hb ha Lb La (by have:=HNM.out;omega)).mono ?_;rintro e w' ⟨rfl,⟨L,h1,h2,h3,h4⟩,h5⟩)
   go_ret
   exact ⟨m+n,by omega,rfl,⟨L,by omega,h2,by rw [h3,Nat.mul_comm],h4⟩,h5⟩
 · have hn:m≤40:=by omega
   have hd:decide ((m:Int)≤40)=true:=by simp;omega
   go_enter Tryz.func124,Tryz.ntmps124
   go_wp2_with (go_at_call 145;refine (limbProduct_any la lb A B n c m d _ ha hb La Lb HNM.out).mono ?_;rintro e w' ⟨rfl,⟨L,h1,h2,h3,h4⟩,h5⟩)
   go_ret
   exact ⟨n+m,rfl,rfl,⟨L,h1,h2,h3,h4⟩,h5⟩
theorem mul_few (la lb:List Nat) (A B:Option Addr) (n c m d:Nat) (w:World) (ha:Rd .u64 w A n la) (hb:Rd .u64 w B m lb) (La:Lim B64 la) (Lb:Lim B64 lb) (hnm0:n+m≤35184372088832)
 (hnc:n≤c) (hmd:m≤d) (hfew:n≤40 ∨ m≤40) :
 Calls Tryz.prog 96 #[.slice A n c,.slice B m d] w (GivesS .u64 74 w (limbs B64 (val B64 la*val B64 lb))):=by
 have HN:Hid (n≤maxLen∧m≤maxLen):=⟨by unfold maxLen;omega,by unfold maxLen;omega⟩
 have HNM:=Lib.hid hnm0;clear hnm0
 generalize hX:limbs B64 (val B64 la)=xs
 have LX:Lim B64 xs:=by rw [← hX];exact lim_limbs B64_two _
 generalize hY:limbs B64 (val B64 lb)=ys
 have LY:Lim B64 ys:=by rw [← hY];exact lim_limbs B64_two _
 have HX:=Lib.hid hX;have HY:=Lib.hid hY;clear hX hY
 go_enter Tryz.func96,Tryz.ntmps96
 go_wp2_with (first
  | (go_at_call 103;(with_reducible refine (trim_any la A n c w ha La HN.out.1 hnc).mono ?_);rintro e w' ⟨⟨k,hk,rfl,hka⟩,rfl⟩;rw [HX.out] at hka)
  | (go_at_call 103;(with_reducible refine (trim_any lb B m d w hb Lb HN.out.2 hmd).mono ?_);rintro e w' ⟨⟨k2,hk2,rfl,hkb⟩,rfl⟩;rw [HY.out] at hkb)
  | (go_at_call 124;refine (product_few xs ys A B k c k2 d w hka hkb LX LY (by have:=HNM.out;omega) (by omega)).mono ?_;rintro e w1 ⟨N,hN,rfl,⟨L,h1,h2,h3,h4⟩,h5⟩
     have HN':=Lib.hid (h1.trans hN.symm)
     have H3:=Lib.hid h3
     have HNN:Hid (N≤maxLen):=by (show N≤maxLen;have:=HNM.out;unfold maxLen;omega)
     clear hN h1 h3)
  | (go_at_call 103;refine (trim_own L w.heap.size N w.heap.size w1 h4 (Nat.le_refl _) HN'.out h2 HNN.out).mono ?_;rintro e w' ⟨⟨k3,hk3,rfl,hfr⟩,rfl⟩))
 go_ret
 rw [H3.out,← HX.out,← HY.out,val_limbs B64_two,val_limbs B64_two] at hfr
 exact ⟨_,_,_,rfl,hk3,HNN.out,hfr,h5⟩
end
section
open Go.RowKit
def Vow (e:TypeId) (w:World) (g:Nat) (V:List Value):Prop:=w.heap[g]?=some (.cells V.toArray e (0,0))
section
variable {K:IntKind} {e:TypeId} {w w':World} {g:Nat} {V:List Value}
theorem Vow.cell (h:Vow e w g V) {i:Nat} {u:Value} (hu:V[i]?=some u):w.cell? ⟨g,i,none⟩=some u:=by
 rw [cell_of_row w g i _ e (0,0) h,List.getElem?_toArray,hu]
theorem Vow.frozen (h:Vow e w g V) (i:Nat):w.frozen? ⟨g,i,none⟩=false:=frozen_of_row w g i _ e h
theorem Vow.set_ (h:Vow e w g V) (i:Nat) (u:Value):Vow e (w.setCell ⟨g,i,none⟩ u) g (V.set i u):=by
 unfold Vow at h ⊢
 simp [World.setCell,Array.getElem?_modify,h]
theorem Fr.opened {B n c:Nat} {A:Option Addr} {l:List Nat} (h:Fr K e w B A n c l) (hn:0 < n) :
 ∃ g R,A=some ⟨g,0,none⟩∧B≤g∧Vow e w g (nums K l ++ R)∧n≤c∧c≤maxLen∧R.length+n=c:=by
 obtain ⟨h0,h1,h2⟩:=h
 rcases h2 with ⟨h2,h3⟩ | ⟨g,cap,cur,hv,hg,hh,hc1,hc2,hs,ht⟩
 · omega
 · injection hv with ha _ hc
   subst ha;subst hc
   rw [Nat.mul_one] at ht hs
   refine ⟨g,cur.toList.drop n,rfl,hg,?_,hc1,hc2,?_⟩
   · unfold Vow
     rw [← ht,List.take_append_drop]
     exact hh
   · rw [List.length_drop,Array.length_toList];omega
theorem Fr.shut {B n c:Nat} {l:List Nat} {R:List Value} (h:Vow e w g (nums K l ++ R)) (hB:B≤g) (hl:l.length=n) (hR:R.length+n=c) (hc:c≤maxLen) :
 Fr K e w B (some ⟨g,0,none⟩) n c l:=by
 refine ⟨hl,by rw [length_nums];omega,.inr ⟨g,c,_,rfl,hB,h,by omega,hc,?_,?_⟩⟩
 · simp [length_nums];omega
 · rw [Nat.mul_one,List.toList_toArray,List.take_left' (by rw [length_nums];exact hl)]
theorem Fr.cap {B n c:Nat} {A:Option Addr} {l:List Nat} (h:Fr K e w B A n c l) (hn:0 < n):n≤c∧c≤maxLen:=by
 obtain ⟨_,_,_,_,_,h1,h2,_⟩:=h.opened hn
 exact ⟨h1,h2⟩
end
theorem wpList_append1 (K:IntKind) (T E:TypeId) (bytes:Nat) (z:Value) (hz1:z.cells.size=1) (ht:Tryz.prog.underlying T=some (.slice E)) (hinfo:(Tryz.prog.info? E).map (fun i=>(i.zero,i.size,i.bytes))=some (some z,1,bytes)) (hby:bytes≤8)
 (w:World) {ops:Array Oper} {rest:List Oper} {o:Oper} {a:Act} {Q:Exit→Act→World→Prop} (hgd:o.guard=none) (s x:Operand)
 (ho:o.op=.call ⟨.builtin .append,#[s,x],#[T,T]⟩)
 (B:Nat) (A:Option Addr) (n c:Nat) (l:List Nat) (hs:a.eval s=.slice A n c) (hfr:Fr K E w B A n c l) (g d:Nat) (y:Nat) (hx:a.eval x=.slice (some ⟨g,0,none⟩) 1 d) (hc:w.cell? ⟨g,0,none⟩=some (.int K (y:Int)))
 (hn:n≤17592186044415) (hB:B≤w.heap.size)
 (h:∀ A' c' w',Fr K E w' B A' (n+1) c' (l ++ [y])→n+1≤c'→c'≤maxLen→Below B w w'→w.grownBy w' (Value.slice A n c).ownBlock→wpList Tryz.prog ops Q rest (a.put o.dst (.slice A' (n+1) c')) w') :
 wpList Tryz.prog ops Q (o :: rest) a w:=by
 obtain ⟨i0,hi,hz0,hzs,hzb⟩:=info_parts hinfo
 refine wpList_append_own w hgd s x T ho B E i0 z 1 bytes ht hi hz0 hzs hzb hz1 (by omega) _ n (nums K l) hs hfr.2 ⟨g,0,none⟩ 1 d [.int K (y:Int)] hx rfl ?_ ?_ (by unfold maxLen;omega) ?_ hB ?_
 · intro j u hu
   match j,hu with
   | 0,hu=>simp at hu;subst hu;exact hc
 · intro u hu;simp at hu;subst hu;rfl
 · calc (n + 1) * bytes ≤ (n + 1) * 8 := Nat.mul_le_mul_left _ hby
     _≤_:=by omega
 · intro v' w' hown hgrow hnil
   have hown':w'.ownsRow B E 1 v' (n+1) (nums K (l ++ [y])):=by rw [nums_append];exact hown
   obtain ⟨h1,h2⟩:=hown'
   rcases h2 with ⟨h2,h3⟩ | ⟨g2,cap,cur,hv,hg,hh,hc1,hc2,hs2,ht2⟩
   · omega
   · subst hv
     refine h _ _ w' ⟨by have:=hfr.1;simp [this],h1,.inr ⟨g2,cap,cur,rfl,hg,hh,hc1,hc2,hs2,ht2⟩⟩ hc1 hc2 ?_ hgrow
     refine (Below.refl _ _).grown hgrow hB ?_
     intro k hk
     exact (hfr.2.lt k hk).1
end
end Go.Proofs.YtlpogecpdfdggaaGreat
