/- FlatMore: part 4. -/
import Derived.Deep.RegionHeld3
import Derived.Handy
import Derived.Test.YtlpogecpdfdggaaGreatKFlatMore0
import Derived.Test.YtlpogecpdfdggaaGreatKFlatMore1
import Derived.Test.YtlpogecpdfdggaaGreatKFlatMore2
set_option linter.unusedVariables false
set_option maxRecDepth 100000
set_option maxHeartbeats 16000000
variable {w:Go.World}
namespace Go.Proofs.YtlpogecpdfdggaaGreat
section
structure Sim (a0 b0 a b u0 v0 u1 v1 u2 v2:Nat) (ev:Bool):Prop where
 ha:a0=v2*a+v1*b
 hb:b0=u2*a+u1*b
 le:b≤a
 top:a≤a0
 uv:u2≤v2
 v2p:1≤v2
 det:if ev then v1*u2=u1*v2+1 else u1*v2=v1*u2+1
 alt:(u0=0∧v0=0∧u1=1∧v1=0∧u2=0∧v2=1∧ev=false) ∨
  (∃ p,a0=v1*p+v0*a∧b0=u1*p+u0*a∧a+(v0+v1)≤p∧v1≤a∧u1≤v1∧1≤v1∧1≤u2∧(v0=0 ∨ 1≤u1∧u0≤v0)∧(if ev then u0*v1=v0*u1+1 else v0*u1=u0*v1+1))
theorem Sim.start {a0 b0:Nat} (h:b0≤a0):Sim a0 b0 a0 b0 0 0 1 0 0 1 false :=
 ⟨by simp,by simp,h,Nat.le_refl _,by omega,by omega,by simp,.inl ⟨rfl,rfl,rfl,rfl,rfl,rfl,rfl⟩⟩
theorem Sim.step {a0 b0 a b u0 v0 u1 v1 u2 v2:Nat} {ev:Bool} (h:Sim a0 b0 a b u0 v0 u1 v1 u2 v2 ev) (h1:v2≤b) (h2:b+(v1+v2)≤a) :
 Sim a0 b0 b (a % b) u1 v1 u2 v2 (u1+a / b*u2) (v1+a / b*v2) (!ev):=by
 have hv2:=h.v2p
 have hb0:0 < b:=by omega
 have hd:=Nat.div_add_mod a b;have hm:=Nat.mod_lt a hb0
 have hq:1≤a / b:=Nat.div_pos (by omega) hb0
 generalize a / b=q at *
 generalize a % b=r at *
 have huv:=h.uv;have hdet:=h.det
 refine ⟨?_,?_,by omega,by have:=h.top;omega,?_,?_,?_,.inr ⟨a,h.ha,h.hb,h2,h1,huv,hv2,?_,?_,?_⟩⟩
 · have:=h.ha
   rw [← hd] at this
   rw [this];grind
 · have:=h.hb
   rw [← hd] at this
   rw [this];grind
 · rcases h.alt with ⟨_,_,rfl,rfl,rfl,rfl,_⟩ | ⟨p,_,_,_,_,h5,_⟩
   · omega
   · exact Nat.add_le_add h5 (Nat.mul_le_mul_left _ huv)
 · have:=Nat.mul_le_mul hq hv2;omega
 · cases ev
   · simp only [Bool.not_false,if_true,Bool.false_eq_true,if_false] at hdet ⊢
     grind
   · simp only [Bool.not_true,if_true,Bool.false_eq_true,if_false] at hdet ⊢
     grind
 · rcases h.alt with ⟨_,_,rfl,rfl,rfl,rfl,_⟩ | ⟨p,_,_,_,_,_,_,h7,_⟩
   · omega
   · have:=Nat.mul_le_mul hq h7;omega
 · rcases h.alt with ⟨_,_,rfl,rfl,rfl,rfl,_⟩ | ⟨p,_,_,_,_,h5,_,h7,_⟩
   · exact .inl rfl
   · exact .inr ⟨h7,h5⟩
 · cases ev
   · simpa using hdet
   · simpa using hdet
theorem Sim.small {a0 b0 a b u0 v0 u1 v1 u2 v2:Nat} {ev:Bool} (h:Sim a0 b0 a b u0 v0 u1 v1 u2 v2 ev) (h1:v2≤b):v1+v2≤a0:=by
 have hv2:=h.v2p;have hle:=h.le
 have e1:=Nat.mul_le_mul_left v2 (show 1≤a by omega)
 have e2:=Nat.mul_le_mul_left v1 (show 1≤b by omega)
 have:=h.ha
 omega
theorem Sim.next {a0 b0 a b u0 v0 u1 v1 u2 v2:Nat} {ev:Bool} (h:Sim a0 b0 a b u0 v0 u1 v1 u2 v2 ev) (h1:v2≤b):a / b*b≤a∧v1+a / b*v2≤a0∧u1+a / b*u2≤b0:=by
 have hv2:=h.v2p;have hd:=Nat.div_add_mod a b
 have hb0:1≤b:=by omega
 have e1:=Nat.mul_le_mul_left (v1+a / b*v2) hb0
 have e2:=Nat.mul_le_mul_left (u1+a / b*u2) hb0
 have e3:(v1+a / b*v2)*b≤a0:=by
  rw [h.ha]
  conv=>rhs;rw [← hd]
  have:v2*(b*(a / b)+a % b)+v1*b=(v1+a / b*v2)*b+v2*(a % b):=by grind
  omega
 have e4:(u1+a / b*u2)*b≤b0:=by
  rw [h.hb]
  conv=>rhs;rw [← hd]
  have:u2*(b*(a / b)+a % b)+u1*b=(u1+a / b*u2)*b+u2*(a % b):=by grind
  omega
 exact ⟨Nat.div_mul_le_self a b,by omega,by omega⟩
def Steps (x y u0 v0 u1 v1:Nat) (ev:Bool) (X Y:Nat):Prop :=
 (if ev then u0*x=v0*y+X∧v1*y=u1*x+Y else v0*y=u0*x+X∧u1*x=v1*y+Y)∧Y < X∧X≤y∧Nat.gcd X Y=Nat.gcd x y
theorem gcd_of {x y X Y u0 v0 u1 v1:Nat} (hx:x=v1*X+v0*Y) (hy:y=u1*X+u0*Y) (h1:u0*x=v0*y+X) (h2:v1*y=u1*x+Y):Nat.gcd X Y=Nat.gcd x y:=by
 apply Nat.dvd_antisymm
 · have d1:=Nat.gcd_dvd_left X Y
   have d2:=Nat.gcd_dvd_right X Y
   refine Nat.dvd_gcd ?_ ?_
   · rw [hx];exact Nat.dvd_add (Nat.dvd_mul_left_of_dvd d1 _) (Nat.dvd_mul_left_of_dvd d2 _)
   · rw [hy];exact Nat.dvd_add (Nat.dvd_mul_left_of_dvd d1 _) (Nat.dvd_mul_left_of_dvd d2 _)
 · have d1:=Nat.gcd_dvd_left x y
   have d2:=Nat.gcd_dvd_right x y
   refine Nat.dvd_gcd ?_ ?_
   · exact (Nat.dvd_add_right (Nat.dvd_mul_left_of_dvd d2 v0)).1 (by rw [← h1];exact Nat.dvd_mul_left_of_dvd d1 _)
   · exact (Nat.dvd_add_right (Nat.dvd_mul_left_of_dvd d1 u1)).1 (by rw [← h2];exact Nat.dvd_mul_left_of_dvd d2 _)
theorem leh_even {T x y a0 b0 x' y' p a u0 v0 u1 v1:Nat} (hx:x=T*a0+x') (hy:y=T*b0+y') (hx':x' < T) (hy':y' < T) (ha0:a0=v1*p+v0*a) (hb0:b0=u1*p+u0*a)
 (hp:a+(v0+v1)≤p) (hva:v1≤a) (huv:u1≤v1) (hv1:1≤v1) (hu1:1≤u1) (det:u0*v1=v0*u1+1):∃ X Y,Steps x y u0 v0 u1 v1 true X Y:=by
 have k1:v0*y'≤T*p:=by rw [Nat.mul_comm T];exact Nat.mul_le_mul (by omega) (by omega)
 have k2:u1*x'≤T*a:=by rw [Nat.mul_comm T];exact Nat.mul_le_mul (by omega) (by omega)
 obtain ⟨X,hX⟩:∃ X,X+v0*y'=T*p+u0*x':=⟨T*p+u0*x' - v0*y',by omega⟩
 obtain ⟨Y,hY⟩:∃ Y,Y+u1*x'=T*a+v1*y':=⟨T*a+v1*y' - u1*x',by omega⟩
 have e1:u0*x=v0*y+X:=by subst hx hy ha0 hb0;grind
 have e2:v1*y=u1*x+Y:=by subst hx hy ha0 hb0;grind
 have e3:x=v1*X+v0*Y:=by grind
 have e4:y=u1*X+u0*Y:=by grind
 refine ⟨X,Y,⟨e1,e2⟩,?_,?_,gcd_of e3 e4 e1 e2⟩
 · have k3:T*(a+(v0+v1))≤T*p:=Nat.mul_le_mul_left _ hp
   have k4:(v0+v1)*(y'+1)≤(v0+v1)*T:=Nat.mul_le_mul_left _ hy'
   have k5:T*(a+(v0+v1))=T*a+(v0+v1)*T:=by grind
   have k6:(v0+v1)*(y'+1)=v0*y'+v1*y'+(v0+v1):=by grind
   omega
 · rw [e4]
   have:=Nat.mul_le_mul_right X hu1
   omega
theorem leh_odd {T x y a0 b0 x' y' p a u0 v0 u1 v1:Nat} (hx:x=T*a0+x') (hy:y=T*b0+y') (hx':x' < T) (hy':y' < T) (ha0:a0=v1*p+v0*a) (hb0:b0=u1*p+u0*a)
 (hp:a+(v0+v1)≤p) (hva:v1≤a) (huv:u1≤v1) (hv1:1≤v1) (hu1:1≤u1) (huv0:u0≤v0) (det:v0*u1=u0*v1+1):∃ X Y,Steps x y u0 v0 u1 v1 false X Y:=by
 have k1:u0*x'≤T*p:=by rw [Nat.mul_comm T];exact Nat.mul_le_mul (by omega) (by omega)
 have k2:v1*y'≤T*a:=by rw [Nat.mul_comm T];exact Nat.mul_le_mul (by omega) (by omega)
 obtain ⟨X,hX⟩:∃ X,X+u0*x'=T*p+v0*y':=⟨T*p+v0*y' - u0*x',by omega⟩
 obtain ⟨Y,hY⟩:∃ Y,Y+v1*y'=T*a+u1*x':=⟨T*a+u1*x' - v1*y',by omega⟩
 have e1:v0*y=u0*x+X:=by subst hx hy ha0 hb0;grind
 have e2:u1*x=v1*y+Y:=by subst hx hy ha0 hb0;grind
 have e3:x=v1*X+v0*Y:=by grind
 have e4:y=u1*X+u0*Y:=by grind
 refine ⟨X,Y,⟨e1,e2⟩,?_,?_,?_⟩
 · have k3:T*(a+(v0+v1))≤T*p:=Nat.mul_le_mul_left _ hp
   have k4:(u0+u1)*(x'+1)≤(v0+v1)*T:=Nat.mul_le_mul (by omega) hx'
   have k5:T*(a+(v0+v1))=T*a+(v0+v1)*T:=by grind
   have k6:(u0+u1)*(x'+1)=u0*x'+u1*x'+(u0+u1):=by grind
   omega
 · rw [e4]
   have:=Nat.mul_le_mul_right X hu1
   omega
 · rw [Nat.gcd_comm x y]
   exact gcd_of (x:=y) (y:=x) (u0:=v0) (v0:=u0) (u1:=v1) (v1:=u1) e4 e3 e1 e2
theorem Sim.steps {T x y a0 b0 x' y' a b u0 v0 u1 v1 u2 v2:Nat} {ev:Bool} (h:Sim a0 b0 a b u0 v0 u1 v1 u2 v2 ev) (hx:x=T*a0+x') (hy:y=T*b0+y') (hx':x' < T) (hy':y' < T) (hv:v0 ≠ 0) :
 ∃ X Y,Steps x y u0 v0 u1 v1 ev X Y:=by
 rcases h.alt with ⟨_,h0,_⟩ | ⟨p,h1,h2,h3,h4,h5,h6,h7,h8,h9⟩
 · exact absurd h0 hv
 · obtain ⟨h10, h11⟩ : 1 ≤ u1 ∧ u0 ≤ v0 := by
     rcases h8 with h8 | h8
     · exact absurd h8 hv
     · exact h8
   cases ev
   · exact leh_odd hx hy hx' hy' h1 h2 h3 h4 h5 h6 h10 h11 (by simpa using h9)
   · exact leh_even hx hy hx' hy' h1 h2 h3 h4 h5 h6 h10 (by simpa using h9)
end
section
open Go.RowKit
theorem e_mod (x y:Nat):((x:Int) % (y:Int))=((x % y:Nat):Int):=by rw [Int.natCast_emod]
theorem limbGcd_any (x y:Nat) (w:World) (hx:x < B64) (hy:y < B64) :
 Calls Tryz.prog 141 #[.int .u64 (x:Int),.int .u64 (y:Int)] w fun e w'=>e=.returned (.int .u64 ((Nat.gcd x y:Nat):Int))∧∃ q,w'=w.drewN q:=by
 go_enter Tryz.func141,Tryz.ntmps141
 go_wp2_with fail
 go_loopw [0,1] (fun a b wr=>∃ u v:Nat,a=.int .u64 (u:Int)∧b=.int .u64 (v:Int)∧u < B64∧v < B64∧Hid (Nat.gcd u v=Nat.gcd x y)∧∃ q,wr=w.drewN q) (fun _ b _=>(intOf b).toNat)
 case atStart=>exact ⟨x,y,rfl,rfl,hx,hy,rfl,0,rfl⟩
 case round =>
  obtain ⟨u,v,rfl,rfl,hu,hv,HG,q,rfl⟩:=hrel
  by_cases hv0:v=0
  · subst hv0
    go_wp2_with fail
    go_ret
    exact ⟨ret_int (by rw [← HG.out,Nat.gcd_zero_right]),q,rfl⟩
  · have hne:((v:Int) != 0)=true:=by simp;omega
    have hne2:((v:Int) == 0)=false:=by simp;omega
    have hlt:u % v < v:=Nat.mod_lt _ (by omega)
    go_wp2_with fail
    go_quiet (fail)
    go_wp2_with fail
    go_roundw
    case rel =>
     refine ⟨v,u % v,rfl,?_,hv,by omega,?_,_,World.drewN_drewN _ _ _⟩
     · simp
     · show _=_
       rw [← HG.out,Nat.gcd_comm v,← Nat.gcd_rec,Nat.gcd_comm]
    case measure=>simp [intOf];omega
end
section
open Go.RowKit
def hiT (V:Nat):Nat:=2 ^ (bl V - 64)
theorem hi_math {l:List Nat} {j hi lo s:Nat} (hL:Lim B64 l) (hl:l.length=j+2) (h1:l[j+1]?=some hi) (h0:l[j]?=some lo) (hs:s≤64) :
 val B64 l / (B64 ^ j*2 ^ (64 - s))=hi*2 ^ s+lo / 2 ^ (64 - s):=by
 have e:=split2 hl h1 h0
 have ht:=take_lt hL (n:=j) (by omega)
 rw [← Nat.div_div_eq_div_mul,e,Nat.add_mul_div_left _ _ (Nat.pow_pos (by decide)),Nat.div_eq_of_lt ht,Nat.zero_add]
 have:hi*B64+lo=lo+2 ^ (64 - s)*(hi*2 ^ s):=by rw [split64 hs];grind
 rw [this,Nat.add_mul_div_left _ _ (Nat.two_pow_pos _),Nat.add_comm]
theorem hiT_eq {l:List Nat} {j t s:Nat} (hlim:limbs B64 (val B64 l)=l) (hl:l.length=j+2) (ht:l[j+1]?=some t) (hs:s=64 - bl t) (ht0:0 < t) (htB:t < B64):hiT (val B64 l)=B64 ^ j*2 ^ (64 - s):=by
 have hb:=bl_top (V:=val B64 l) (k:=j+1) (x:=t) (by rw [hlim];omega) (by rw [hlim];exact ht)
 have hb2:bl t≤64:=bl_le htB
 have hb3:=bl_pos (show t ≠ 0 by omega)
 unfold hiT
 rw [hb,pow64,← Nat.pow_add]
 congr 1;omega
theorem hi_fit {t s:Nat} (htB:t < B64) (hs:s=64 - bl t):t*2 ^ s < B64:=by
 have h:=lt_bl t
 have hb:bl t≤64:=bl_le htB
 have:=Nat.mul_lt_mul_of_pos_right h (Nat.two_pow_pos s)
 rw [← Nat.pow_add,show bl t+s=64 by omega] at this
 exact this
theorem hi_word {hi lo s:Nat} (hs:s < 64) (hlo:lo < B64) (hf:hi*2 ^ s < B64):bits .or .u64 (IntKind.u64.wrap ((hi:Int)*2 ^ s)) ((lo:Int) / 2 ^ (64 - s))=((hi*2 ^ s+lo / 2 ^ (64 - s):Nat):Int):=by
 rw [shr_nat,or_up (by omega) hi (shr_lt (by omega) hlo),Nat.mod_eq_of_lt hf]
theorem hi_le {lx ly:List Nat} {n t y:Nat} (Lx:Lim B64 lx) (hx:lx.length=n+1) (hy:ly.length=n+1) (ht:lx[n]?=some t) (hy1:ly[n]?=some y) (h:val B64 ly≤val B64 lx):y≤t:=by
 have e1:val B64 lx=val B64 (lx.take (n+1)):=by rw [List.take_of_length_le (by omega)]
 have e2:val B64 ly=val B64 (ly.take (n+1)):=by rw [List.take_of_length_le (by omega)]
 rw [e1,e2,val_take_succ ht,val_take_succ hy1] at h
 have h1:=take_lt Lx (n:=n) (by omega)
 rcases Nat.lt_or_ge t y with hlt | hge
 · have:=Nat.mul_le_mul_left (B64 ^ n) hlt
   rw [Nat.mul_succ] at this
   omega
 · exact hge
theorem highest_same (lx ly:List Nat) (A B:Option Addr) (n c m d:Nat) (w:World) (ha:Rd .u64 w A n lx) (hb:Rd .u64 w B m ly) (Lx:Lim B64 lx) (Ly:Lim B64 ly) (hx:limbs B64 (val B64 lx)=lx)
 (hn2:2≤n) (hm:n=m) (hn:n≤35184372088830) (hle:val B64 ly≤val B64 lx) :
 Calls Tryz.prog 153 #[.slice A n c,.slice B m d] w fun e w' =>
  e=.returned (.tuple #[.int .u64 ((val B64 lx / hiT (val B64 lx):Nat):Int),.int .u64 ((val B64 ly / hiT (val B64 lx):Nat):Int)])∧∃ q,w'=w.drewN q:=by
 obtain rfl:=hm
 obtain ⟨b,o,rfl,hc⟩:=ha.at_ (by omega)
 obtain ⟨t,ht,hct⟩:=hc (n - 1) (by omega)
 obtain ⟨x0,hx0,hcx0⟩:=hc (n - 2) (by omega)
 obtain ⟨b',o',rfl,hc'⟩:=hb.at_ (by omega)
 obtain ⟨y1,hy1,hcy1⟩:=hc' (n - 1) (by omega)
 obtain ⟨y0,hy0,hcy0⟩:=hc' (n - 2) (by omega)
 have htB:=Lx.get ht
 have ht0:0 < t:=by
  have:=limbs_last B64_two (val B64 lx)
  rw [hx,List.getLast?_eq_getElem?,ha.1,ht] at this
  rcases Nat.eq_zero_or_pos t with h | h
  · subst h;exact absurd rfl this
  · exact h
 obtain ⟨s,hs⟩:∃ s,s=64 - bl t:=⟨_,rfl⟩
 have hs64:s < 64:=by have:=bl_pos (show t ≠ 0 by omega);omega
 have hwrap:IntKind.u64.wrap ((64 - bl t:Nat):Int)=(s:Int):=by rw [← hs,IntKind.wrap_u64];omega
 have hT:=hiT_eq (j:=n - 2) hx (by have:=ha.1;omega) (by rw [show n - 2+1=n - 1 by omega];exact ht) hs ht0 htB
 have hft:=hi_fit htB hs
 have HA:Hid (bits .or .u64 (IntKind.u64.wrap ((t:Int)*2 ^ s)) ((x0:Int) / 2 ^ (64 - s))=((val B64 lx / hiT (val B64 lx):Nat):Int)):=by
  show _=_
  rw [hT,hi_math (j:=n - 2) (s:=s) Lx (by have:=ha.1;omega) (by rw [show n - 2+1=n - 1 by omega];exact ht) hx0 (by omega)]
  exact hi_word hs64 (Lx.get hx0) hft
 have hyt:=hi_le (n:=n - 1) Lx (by have:=ha.1;omega) (by have:=hb.1;omega) ht hy1 hle
 have HB:Hid (bits .or .u64 (IntKind.u64.wrap ((y1:Int)*2 ^ s)) ((y0:Int) / 2 ^ (64 - s))=((val B64 ly / hiT (val B64 lx):Nat):Int)):=by
  show _=_
  rw [hT,hi_math (j:=n - 2) (s:=s) Ly (by have:=hb.1;omega) (by rw [show n - 2+1=n - 1 by omega];exact hy1) hy0 (by omega)]
  exact hi_word hs64 (Ly.get hy0) (Nat.lt_of_le_of_lt (Nat.mul_le_mul_right _ hyt) hft)
 clear hc' hy1 hy0
 clear hx hc ht hx0 hT hft hs
 go_enter Tryz.func153,Tryz.ntmps153
 go_wp2_with (first
  | (go_at_call 156;(with_reducible refine (lz64_any t htB _).mono ?_);rintro e w' ⟨rfl,rfl⟩))
 go_quiet (fail)
 go_wp2_with fail
 go_quiet (fail)
 go_wp2_with fail
 go_ret2
 exact ⟨ret_two HA.out HB.out,_,World.drewN_drewN _ _ _⟩
theorem highest_one (lx ly:List Nat) (A B:Option Addr) (n c m d:Nat) (w:World) (ha:Rd .u64 w A n lx) (hb:Rd .u64 w B m ly) (Lx:Lim B64 lx) (Ly:Lim B64 ly) (hx:limbs B64 (val B64 lx)=lx)
 (hn2:2≤n) (hm:m+1=n) (hn:n≤35184372088830) (_hle:val B64 ly≤val B64 lx) :
 Calls Tryz.prog 153 #[.slice A n c,.slice B m d] w fun e w' =>
  e=.returned (.tuple #[.int .u64 ((val B64 lx / hiT (val B64 lx):Nat):Int),.int .u64 ((val B64 ly / hiT (val B64 lx):Nat):Int)])∧∃ q,w'=w.drewN q:=by
 obtain ⟨b,o,rfl,hc⟩:=ha.at_ (by omega)
 obtain ⟨t,ht,hct⟩:=hc (n - 1) (by omega)
 obtain ⟨x0,hx0,hcx0⟩:=hc (n - 2) (by omega)
 obtain ⟨b',o',rfl,hc'⟩:=hb.at_ (by omega)
 obtain ⟨y0,hy0,hcy0⟩:=hc' (n - 2) (by omega)
 have htB:=Lx.get ht
 have ht0:0 < t:=by
  have:=limbs_last B64_two (val B64 lx)
  rw [hx,List.getLast?_eq_getElem?,ha.1,ht] at this
  rcases Nat.eq_zero_or_pos t with h | h
  · subst h;exact absurd rfl this
  · exact h
 obtain ⟨s,hs⟩:∃ s,s=64 - bl t:=⟨_,rfl⟩
 have hs64:s < 64:=by have:=bl_pos (show t ≠ 0 by omega);omega
 have hwrap:IntKind.u64.wrap ((64 - bl t:Nat):Int)=(s:Int):=by rw [← hs,IntKind.wrap_u64];omega
 have hT:=hiT_eq (j:=n - 2) hx (by have:=ha.1;omega) (by rw [show n - 2+1=n - 1 by omega];exact ht) hs ht0 htB
 have hft:=hi_fit htB hs
 have HA:Hid (bits .or .u64 (IntKind.u64.wrap ((t:Int)*2 ^ s)) ((x0:Int) / 2 ^ (64 - s))=((val B64 lx / hiT (val B64 lx):Nat):Int)):=by
  show _=_
  rw [hT,hi_math (j:=n - 2) (s:=s) Lx (by have:=ha.1;omega) (by rw [show n - 2+1=n - 1 by omega];exact ht) hx0 (by omega)]
  exact hi_word hs64 (Lx.get hx0) hft
 have HB:Hid (((y0:Int) / 2 ^ (64 - s))=((val B64 ly / hiT (val B64 lx):Nat):Int)):=by
  show _=_
  have e:val B64 ly=val B64 (ly ++ [0]):=by rw [val_snoc];simp
  have hl:=hb.1
  rw [hT,e,hi_math (l:=ly ++ [0]) (j:=n - 2) (hi:=0) (lo:=y0) (s:=s) (Ly.snoc (by decide)) (by simp;omega) (by rw [List.getElem?_append_right (by omega),show n - 2+1 - ly.length=0 by omega];rfl) (by rw [List.getElem?_append_left (by omega)];exact hy0) (by omega),shr_nat]
  simp
 have hne:((m:Int) == (n:Int))=false:=by simp;omega
 have heq:((m:Int) == (n:Int) - 1)=true:=by simp;omega
 clear hc' hy0
 clear hx hc ht hx0 hT hft hs
 go_enter Tryz.func153,Tryz.ntmps153
 go_wp2_with (first
  | (go_at_call 156;(with_reducible refine (lz64_any t htB _).mono ?_);rintro e w' ⟨rfl,rfl⟩))
 go_quiet (fail)
 go_wp2_with fail
 go_ret2
 exact ⟨ret_two HA.out HB.out,_,rfl⟩
theorem highest_low (lx ly:List Nat) (A B:Option Addr) (n c m d:Nat) (w:World) (ha:Rd .u64 w A n lx) (hb:Rd .u64 w B m ly) (Lx:Lim B64 lx) (Ly:Lim B64 ly) (hx:limbs B64 (val B64 lx)=lx)
 (hn2:2≤n) (hm:m+2≤n) (hn:n≤35184372088830) (_hle:val B64 ly≤val B64 lx) :
 Calls Tryz.prog 153 #[.slice A n c,.slice B m d] w fun e w' =>
  e=.returned (.tuple #[.int .u64 ((val B64 lx / hiT (val B64 lx):Nat):Int),.int .u64 ((val B64 ly / hiT (val B64 lx):Nat):Int)])∧∃ q,w'=w.drewN q:=by
 obtain ⟨b,o,rfl,hc⟩:=ha.at_ (by omega)
 obtain ⟨t,ht,hct⟩:=hc (n - 1) (by omega)
 obtain ⟨x0,hx0,hcx0⟩:=hc (n - 2) (by omega)
 have htB:=Lx.get ht
 have ht0:0 < t:=by
  have:=limbs_last B64_two (val B64 lx)
  rw [hx,List.getLast?_eq_getElem?,ha.1,ht] at this
  rcases Nat.eq_zero_or_pos t with h | h
  · subst h;exact absurd rfl this
  · exact h
 obtain ⟨s,hs⟩:∃ s,s=64 - bl t:=⟨_,rfl⟩
 have hs64:s < 64:=by have:=bl_pos (show t ≠ 0 by omega);omega
 have hwrap:IntKind.u64.wrap ((64 - bl t:Nat):Int)=(s:Int):=by rw [← hs,IntKind.wrap_u64];omega
 have hT:=hiT_eq (j:=n - 2) hx (by have:=ha.1;omega) (by rw [show n - 2+1=n - 1 by omega];exact ht) hs ht0 htB
 have hft:=hi_fit htB hs
 have HA:Hid (bits .or .u64 (IntKind.u64.wrap ((t:Int)*2 ^ s)) ((x0:Int) / 2 ^ (64 - s))=((val B64 lx / hiT (val B64 lx):Nat):Int)):=by
  show _=_
  rw [hT,hi_math (j:=n - 2) (s:=s) Lx (by have:=ha.1;omega) (by rw [show n - 2+1=n - 1 by omega];exact ht) hx0 (by omega)]
  exact hi_word hs64 (Lx.get hx0) hft
 have HB:Hid ((0:Int)=((val B64 ly / hiT (val B64 lx):Nat):Int)):=by
  show _=_
  have h1:=val_lt Ly;rw [hb.1] at h1
  have h2:B64 ^ m≤B64 ^ (n - 2):=Nat.pow_le_pow_right (by decide) (by omega)
  have h3:B64 ^ (n - 2)≤hiT (val B64 lx):=by rw [hT];exact Nat.le_mul_of_pos_right _ (Nat.two_pow_pos _)
  rw [Nat.div_eq_of_lt (by omega)];rfl
 have hne:((m:Int) == (n:Int))=false:=by simp;omega
 have heq:((m:Int) == (n:Int) - 1)=false:=by simp;omega
 clear hx hc ht hx0 hT hft hs
 go_enter Tryz.func153,Tryz.ntmps153
 go_wp2_with (first
  | (go_at_call 156;(with_reducible refine (lz64_any t htB _).mono ?_);rintro e w' ⟨rfl,rfl⟩))
 go_quiet (fail)
 go_wp2_with fail
 go_ret2
 exact ⟨ret_two HA.out HB.out,_,rfl⟩
theorem highest_any (lx ly:List Nat) (A B:Option Addr) (n c m d:Nat) (w:World) (ha:Rd .u64 w A n lx) (hb:Rd .u64 w B m ly) (Lx:Lim B64 lx) (Ly:Lim B64 ly) (hx:limbs B64 (val B64 lx)=lx)
 (hn2:2≤n) (hm:m≤n) (hn:n≤35184372088830) (hle:val B64 ly≤val B64 lx) :
 Calls Tryz.prog 153 #[.slice A n c,.slice B m d] w fun e w' =>
  e=.returned (.tuple #[.int .u64 ((val B64 lx / hiT (val B64 lx):Nat):Int),.int .u64 ((val B64 ly / hiT (val B64 lx):Nat):Int)])∧∃ q,w'=w.drewN q:=by
 rcases Nat.lt_trichotomy (m+1) n with h | h | h
 · exact highest_low lx ly A B n c m d w ha hb Lx Ly hx hn2 (by omega) hn hle
 · exact highest_one lx ly A B n c m d w ha hb Lx Ly hx hn2 h hn hle
 · exact highest_same lx ly A B n c m d w ha hb Lx Ly hx hn2 (by omega) hn hle
end
section
open Go.RowKit
abbrev tSteps:TypeId:=171
def stepV (u0 v0 u1 v1:Nat) (ev:Bool):List Value:=[.int .u64 (u0:Int),.int .u64 (v0:Int),.int .u64 (u1:Int),.int .u64 (v1:Int),.bool ev]
theorem Vow.below {e:TypeId} {w w':World} {g:Nat} {V:List Value} (h:Vow e w g V) (hb:Below w.heap.size w w'):Vow e w' g V:=by
 have hlt:g < w.heap.size:=by
  rcases Nat.lt_or_ge g w.heap.size with hlt | hge
  · exact hlt
  · unfold Vow at h;rw [Array.getElem?_eq_none hge] at h;cases h
 exact (hb.block g hlt).trans h
theorem Vow.lt {e:TypeId} {g:Nat} {V:List Value} (h:Vow e w g V):g < w.heap.size:=by
 rcases Nat.lt_or_ge g w.heap.size with hlt | hge
 · exact hlt
 · unfold Vow at h;rw [Array.getElem?_eq_none hge] at h;cases h
theorem Vow.other {e:TypeId} {g k i:Nat} {V:List Value} (h:Vow e w g V) (hne:g ≠ k) (u:Value):Vow e (w.setCell ⟨k,i,none⟩ u) g V :=
 (Below.heap_setCell _ _ _ _ hne).trans h
theorem Vow.c0 {e:TypeId} {g:Nat} {a b c d f:Value} (h:Vow e w g [a,b,c,d,f]):w.cell? ⟨g,0,none⟩=some a:=h.cell rfl
theorem Vow.c1 {e:TypeId} {g:Nat} {a b c d f:Value} (h:Vow e w g [a,b,c,d,f]):w.cell? ⟨g,1,none⟩=some b:=h.cell rfl
theorem Vow.c2 {e:TypeId} {g:Nat} {a b c d f:Value} (h:Vow e w g [a,b,c,d,f]):w.cell? ⟨g,2,none⟩=some c:=h.cell rfl
theorem Vow.c3 {e:TypeId} {g:Nat} {a b c d f:Value} (h:Vow e w g [a,b,c,d,f]):w.cell? ⟨g,3,none⟩=some d:=h.cell rfl
theorem Vow.c4 {e:TypeId} {g:Nat} {a b c d f:Value} (h:Vow e w g [a,b,c,d,f]):w.cell? ⟨g,4,none⟩=some f:=h.cell rfl
theorem wrap_fit (x:Nat) (h:x < B64):IntKind.u64.wrap (x:Int)=(x:Int):=by rw [wrap_nat,Nat.mod_eq_of_lt h]
theorem heap_alloc_new' (w:World) (o:Obj) (g:Nat) (hg:g=w.heap.size):(w.alloc o).heap[g]?=some o:=by subst hg;exact heap_alloc_new w o
theorem hi_lt {V a0:Nat} (h:V / hiT V=a0):a0 < B64:=by
 subst h
 refine Nat.div_lt_of_lt_mul (Nat.lt_of_lt_of_le (lt_bl V) ?_)
 unfold hiT
 rw [show B64=2 ^ 64 from rfl,← Nat.pow_add]
 exact Nat.pow_le_pow_right (by omega) (by omega)
theorem wrap_sub {a b D:Nat} (h:D+b=a) (ha:a < B64):IntKind.u64.wrap ((a:Int) - (b:Int))=(D:Int):=by
 rw [show (a:Int) - (b:Int)=(D:Int) by omega];exact wrap_fit D (by omega)
theorem wrap_sum {a b S:Nat} (h:S=a+b) (hS:S < B64):IntKind.u64.wrap ((a:Int)+(b:Int))=(S:Int):=by
 rw [show (a:Int)+(b:Int)=(S:Int) by omega];exact wrap_fit S hS
theorem wrap_prod {a b P:Nat} (h:P=a*b) (hP:P < B64):IntKind.u64.wrap ((a:Int)*(b:Int))=(P:Int):=by
 rw [← Int.natCast_mul,← h];exact wrap_fit P hP
theorem held5 {r g:Nat} {x0 x1 x2 x3 x4:Value} (y0 y1 y2 y3 y4:Value) (h:r ≠ g) (hc:w.cell? ⟨g,0,none⟩=some x0∧w.cell? ⟨g,1,none⟩=some x1∧w.cell? ⟨g,2,none⟩=some x2∧w.cell? ⟨g,3,none⟩=some x3∧w.cell? ⟨g,4,none⟩=some x4) :
 (((((w.setCell ⟨r,0,none⟩ y0).setCell ⟨r,1,none⟩ y1).setCell ⟨r,2,none⟩ y2).setCell ⟨r,3,none⟩ y3).setCell ⟨r,4,none⟩ y4).drew.cell? ⟨g,0,none⟩=some x0 ∧
 (((((w.setCell ⟨r,0,none⟩ y0).setCell ⟨r,1,none⟩ y1).setCell ⟨r,2,none⟩ y2).setCell ⟨r,3,none⟩ y3).setCell ⟨r,4,none⟩ y4).drew.cell? ⟨g,1,none⟩=some x1 ∧
 (((((w.setCell ⟨r,0,none⟩ y0).setCell ⟨r,1,none⟩ y1).setCell ⟨r,2,none⟩ y2).setCell ⟨r,3,none⟩ y3).setCell ⟨r,4,none⟩ y4).drew.cell? ⟨g,2,none⟩=some x2 ∧
 (((((w.setCell ⟨r,0,none⟩ y0).setCell ⟨r,1,none⟩ y1).setCell ⟨r,2,none⟩ y2).setCell ⟨r,3,none⟩ y3).setCell ⟨r,4,none⟩ y4).drew.cell? ⟨g,3,none⟩=some x3 ∧
 (((((w.setCell ⟨r,0,none⟩ y0).setCell ⟨r,1,none⟩ y1).setCell ⟨r,2,none⟩ y2).setCell ⟨r,3,none⟩ y3).setCell ⟨r,4,none⟩ y4).drew.cell? ⟨g,4,none⟩=some x4:=by
 have hg:g ≠ r:=fun e=>h e.symm
 have e:∀ W:World,(∀ o,W.cell? ⟨g,o,none⟩=w.cell? ⟨g,o,none⟩)→∀ i y o,(W.setCell ⟨r,i,none⟩ y).cell? ⟨g,o,none⟩=w.cell? ⟨g,o,none⟩:=fun W hW i y o=>(World.cell?_of_block (Below.heap_setCell _ _ _ _ hg)).trans (hW o)
 have f0:=e w (fun _=>rfl) 0 y0
 have f1:=e _ f0 1 y1;have f2:=e _ f1 2 y2;have f3:=e _ f2 3 y3;have f:=e _ f3 4 y4
 simp only [World.cell?_drew]
 exact ⟨(f 0).trans hc.1,(f 1).trans hc.2.1,(f 2).trans hc.2.2.1,(f 3).trans hc.2.2.2.1,(f 4).trans hc.2.2.2.2⟩
theorem below_set5 {B r:Nat} {w W:World} (h:Below B w W) (hr:B≤r) (y0 y1 y2 y3 y4:Value) :
 Below B w (((((W.setCell ⟨r,0,none⟩ y0).setCell ⟨r,1,none⟩ y1).setCell ⟨r,2,none⟩ y2).setCell ⟨r,3,none⟩ y3).setCell ⟨r,4,none⟩ y4).drew :=
 (((((h.setCell (p:=⟨r,0,none⟩) hr y0).setCell (p:=⟨r,1,none⟩) hr y1).setCell (p:=⟨r,2,none⟩) hr y2).setCell (p:=⟨r,3,none⟩) hr y3).setCell (p:=⟨r,4,none⟩) hr y4).drew
end
section
open Go.RowKit
theorem foresee_any (lx ly:List Nat) (A B:Option Addr) (n c m d:Nat) (w:World) (ha:Rd .u64 w A n lx) (hb:Rd .u64 w B m ly) (Lx:Lim B64 lx) (Ly:Lim B64 ly) (hx:limbs B64 (val B64 lx)=lx)
 (hn2:2≤n) (hm:m≤n) (hn:n≤35184372088830) (hle:val B64 ly≤val B64 lx) :
 Calls Tryz.prog 139 #[.slice A n c,.slice B m d] w fun e w' =>
  (∃ (u0 v0 u1 v1:Nat) (ev:Bool),e=.returned (.tuple #[.agg #[.int .u64 (u0:Int),.int .u64 (v0:Int),.int .u64 (u1:Int),.int .u64 (v1:Int),.bool ev],.bool ((v0:Int) != 0)]) ∧
   u0 < B64∧v0 < B64∧u1 < B64∧v1 < B64∧(v0 ≠ 0→∃ X Y,Steps (val B64 lx) (val B64 ly) u0 v0 u1 v1 ev X Y))∧Below w.heap.size w w':=by
 go_enter Tryz.func139,Tryz.ntmps139
 generalize ha0:val B64 lx / hiT (val B64 lx)=a0
 generalize hb0:val B64 ly / hiT (val B64 lx)=b0
 have HB0:=Lib.hid hb0
 go_wp2_with (first
  | (go_at_call 153;(refine (highest_any lx ly A B n c m d _ (ha.alloc _) (hb.alloc _) Lx Ly hx hn2 hm hn hle).mono ?_);rintro e w' ⟨rfl,q,rfl⟩;rw [ha0,hb0]))
 generalize hW:((w.alloc (Obj.cells #[Value.int IntKind.u64 0,Value.int IntKind.u64 0,Value.int IntKind.u64 0,Value.int IntKind.u64 0,Value.bool false] tSteps)).drewN q).alloc (Obj.cells #[Value.int IntKind.u64 0,Value.int IntKind.u64 0,Value.int IntKind.u64 1,Value.int IntKind.u64 0,Value.bool false] tSteps)=W
 have hbW:Below w.heap.size w W:=by subst hW;exact (below_drawn ((Below.refl _ _).alloc (Nat.le_refl _) _) q).alloc (by simp [World.drewN]) _
 have hR0:Vow tSteps W w.heap.size (stepV 0 0 0 0 false):=by subst hW;exact (Below.heap_alloc _ _ _ (by simp [World.drewN])).trans (heap_alloc_new w _)
 have hS0:Vow tSteps W (w.heap.size+1) (stepV 0 0 1 0 false):=by subst hW;exact heap_alloc_new' _ _ _ (by simp [World.drewN])
 have hst:Sim a0 b0 a0 b0 0 0 1 0 0 1 false:=Sim.start (by rw [← ha0,← hb0];exact Nat.div_le_div_right hle)
 have hA0:a0 < B64:=hi_lt ha0
 have hA1:val B64 lx / hiT (val B64 lx) < B64:=by rw [ha0];exact hA0
 have HA0E:=Lib.hid ha0;clear hW ha0
 go_loopw [6,7,9,10] (fun ta tb tu tv wr=>∃ (a b u0 v0 u1 v1 u2 v2:Nat) (ev:Bool),ta=.int .u64 (a:Int)∧tb=.int .u64 (b:Int)∧tu=.int .u64 (u2:Int)∧tv=.int .u64 (v2:Int) ∧
  Vow tSteps wr w.heap.size (stepV 0 0 0 0 false)∧Vow tSteps wr (w.heap.size+1) (stepV u0 v0 u1 v1 ev)∧Below w.heap.size w wr∧Hid (Sim a0 b0 a b u0 v0 u1 v1 u2 v2 ev∧u0 < B64∧v0 < B64∧u1 < B64∧v1 < B64∧u2 < B64∧v2 < B64)) (fun _ tb _ _ _=>(intOf tb).toNat)
 case atStart=>exact ⟨a0,b0,0,0,1,0,0,1,false,rfl,rfl,rfl,rfl,hR0,hS0,hbW,hst,by decide,by decide,by decide,by decide,by decide,by decide⟩
 case round =>
  obtain ⟨a,b,u0,v0,u1,v1,u2,v2,ev,rfl,rfl,rfl,rfl,hR,hS,hbw,HI⟩:=hrel
  have c0:=hS.c0;have c1:=hS.c1;have c2:=hS.c2;have c3:=hS.c3;have c4:=hS.c4;have f0:=hS.frozen 0;have f1:=hS.frozen 1;have f2:=hS.frozen 2;have f3:=hS.frozen 3;have f4:=hS.frozen 4;have r0:=hR.c0;have r1:=hR.c1;have r2:=hR.c2;have r3:=hR.c3;have r4:=hR.c4;have g0:=hR.frozen 0;have g1:=hR.frozen 1;have g2:=hR.frozen 2;have g3:=hR.frozen 3;have g4:=hR.frozen 4
  have d0:wr.drew.cell? ⟨w.heap.size+1,0,none⟩=some (.int .u64 (u0:Int)):=c0
  have d1:wr.drew.cell? ⟨w.heap.size+1,1,none⟩=some (.int .u64 (v0:Int)):=c1
  have d2:wr.drew.cell? ⟨w.heap.size+1,2,none⟩=some (.int .u64 (u1:Int)):=c2
  have d3:wr.drew.cell? ⟨w.heap.size+1,3,none⟩=some (.int .u64 (v1:Int)):=c3
  have d4:wr.drew.cell? ⟨w.heap.size+1,4,none⟩=some (.bool ev):=c4
  have hgne:w.heap.size ≠ w.heap.size+1:=by omega
  obtain ⟨hsim,l0,l1,l2,l3,l4,l5⟩:=HI.out
  have hba:=hsim.le
  have haB:a < B64:=Nat.lt_of_le_of_lt hsim.top hA0
  obtain ⟨D,hD⟩:∃ D,D+b=a:=⟨a - b,by omega⟩
  have hDw:=wrap_sub hD haB;have HD:=Lib.hid hD
  by_cases hc1:v2≤b
  · obtain ⟨S,hS'⟩:∃ S,S=v1+v2:=⟨_,rfl⟩
    have hSB:S < B64:=by have:=hsim.small hc1;omega
    have hSw:=wrap_sum hS' hSB
    by_cases hc2:S≤D
    · have hstep:=hsim.step hc1 (by omega)
      obtain ⟨n1,n2,n3⟩:=hsim.next hc1
      have hb0B:b0 < B64:=by have:=hsim.hb;rw [← hb0];exact Nat.lt_of_le_of_lt (Nat.le_trans (Nat.div_le_div_right hle) (Nat.le_refl _)) hA1
      have hbp:0 < b:=by have:=hsim.v2p;omega
      have hmod:=Nat.div_add_mod a b;have hrl:=Nat.mod_lt a hbp
      have hne:((b:Int) == 0)=false:=by simp;omega
      have hquo:(a:Int) / (b:Int)=((a / b:Nat):Int):=by rw [Int.natCast_ediv]
      generalize a / b=Q at *
      generalize a % b=R at *
      obtain ⟨P,hP⟩:∃ P,P=Q*b:=⟨_,rfl⟩
      obtain ⟨QU,hQU⟩:∃ P,P=Q*u2:=⟨_,rfl⟩
      obtain ⟨QV,hQV⟩:∃ P,P=Q*v2:=⟨_,rfl⟩
      rw [← hP] at n1
      rw [← hQV] at n2 hstep
      rw [← hQU] at n3 hstep
      obtain ⟨U2,hU2⟩:∃ P,P=u1+QU:=⟨_,rfl⟩
      obtain ⟨V2,hV2⟩:∃ P,P=v1+QV:=⟨_,rfl⟩
      rw [← hU2] at n3 hstep
      rw [← hV2] at n2 hstep
      have hQP:Q≤P:=by rw [hP];exact Nat.le_mul_of_pos_right _ hbp
      have w0:=wrap_fit Q (by omega)
      have w1:=wrap_prod hP (by omega)
      have w2:=wrap_prod hQU (by omega)
      have w3:=wrap_prod hQV (by omega)
      have w4:=wrap_sum hU2 (by omega)
      have w5:=wrap_sum hV2 (by omega)
      have w6:IntKind.u64.wrap ((a:Int) - (P:Int))=(R:Int):=wrap_sub (D:=R) (by rw [hP,Nat.mul_comm Q];omega) haB
      have HST:=Lib.hid hstep
      have HN:Hid (U2 < B64∧V2 < B64):=⟨by omega,by omega⟩
      have HRL:=Lib.hid hrl
      have HLS:=Lib.hid (And.intro l2 (And.intro l3 (And.intro l4 l5)))
      clear hQP hstep n1 n2 n3 hb0B hmod hrl hP hQU hQV hU2 hV2 hS' hD hSB l0 l1 l2 l3 l4 l5 hsim hba
      go_wp2_with fail
      have hS2:Hid (Vow tSteps (((((wr.setCell ⟨w.heap.size+1,0,none⟩ (.int .u64 (u1:Int))).setCell ⟨w.heap.size+1,2,none⟩ (.int .u64 (u2:Int))).setCell ⟨w.heap.size+1,1,none⟩ (.int .u64 (v1:Int))).setCell ⟨w.heap.size+1,3,none⟩ (.int .u64 (v2:Int))).setCell ⟨w.heap.size+1,4,none⟩ (.bool (!ev))) (w.heap.size+1) (stepV u1 v1 u2 v2 (!ev))) :=
       ((((hS.set_ 0 _).set_ 2 _).set_ 1 _).set_ 3 _).set_ 4 _
      have hR2:Hid (Vow tSteps (((((wr.setCell ⟨w.heap.size+1,0,none⟩ (.int .u64 (u1:Int))).setCell ⟨w.heap.size+1,2,none⟩ (.int .u64 (u2:Int))).setCell ⟨w.heap.size+1,1,none⟩ (.int .u64 (v1:Int))).setCell ⟨w.heap.size+1,3,none⟩ (.int .u64 (v2:Int))).setCell ⟨w.heap.size+1,4,none⟩ (.bool (!ev))) w.heap.size (stepV 0 0 0 0 false)) :=
       ((((hR.other (by omega) _).other (by omega) _).other (by omega) _).other (by omega) _).other (by omega) _
      go_roundw
      case rel =>
       exact ⟨b,R,u1,v1,u2,v2,U2,V2,!ev,rfl,rfl,rfl,rfl,hR2.out,hS2.out,((((hbw.setCell (by show _≤w.heap.size+1;omega) _).setCell (by show _≤w.heap.size+1;omega) _).setCell (by show _≤w.heap.size+1;omega) _).setCell (by show _≤w.heap.size+1;omega) _).setCell (by show _≤w.heap.size+1;omega) _,HST.out,HLS.out.1,HLS.out.2.1,HLS.out.2.2.1,HLS.out.2.2.2,HN.out.1,HN.out.2⟩
      case measure=>simp [intOf];exact HRL.out
    · have HS':=Lib.hid hsim
      clear hsim hS' hD hSB hba
      go_wp2_with fail
      go_region_held3 (fun w'=>w'.cell? ⟨w.heap.size+1,0,none⟩=some (.int .u64 (u0:Int))∧w'.cell? ⟨w.heap.size+1,1,none⟩=some (.int .u64 (v0:Int))∧w'.cell? ⟨w.heap.size+1,2,none⟩=some (.int .u64 (u1:Int))∧w'.cell? ⟨w.heap.size+1,3,none⟩=some (.int .u64 (v1:Int))∧w'.cell? ⟨w.heap.size+1,4,none⟩=some (.bool ev))
       (first | with_reducible exact ⟨d0,d1,d2,d3,d4⟩ | with_reducible exact held5 _ _ _ _ _ hgne ⟨c0,c1,c2,c3,c4⟩)
       (fail)
      have hv5:=((((hR.set_ 0 (.int .u64 (u0:Int))).set_ 1 (.int .u64 (v0:Int))).set_ 2 (.int .u64 (u1:Int))).set_ 3 (.int .u64 (v1:Int))).set_ 4 (.bool ev)
      have z0:=hv5.c0;have z1:=hv5.c1;have z2:=hv5.c2;have z3:=hv5.c3;have z4:=hv5.c4
      go_wp2
      refine bodyPost_ret (v:=.tuple #[.agg #[.int .u64 (u0:Int),.int .u64 (v0:Int),.int .u64 (u1:Int),.int .u64 (v1:Int),.bool ev],.bool ((v0:Int) != 0)]) (by simp [results,Tryz.results139,go_sem,z0,z1,z2,z3,z4]) rfl ?_
      refine ⟨⟨u0,v0,u1,v1,ev,rfl,HI.out.2.1,HI.out.2.2.1,HI.out.2.2.2.1,HI.out.2.2.2.2.1,?_⟩,below_set5 hbw (Nat.le_refl _) _ _ _ _ _⟩
      intro hv0
      exact HI.out.1.steps (T:=hiT (val B64 lx)) (by rw [← HA0E.out];exact (Nat.div_add_mod _ _).symm) (by rw [← hb0];exact (Nat.div_add_mod _ _).symm) (Nat.mod_lt _ (Nat.two_pow_pos _)) (Nat.mod_lt _ (Nat.two_pow_pos _)) hv0
  · have HS':=Lib.hid hsim
    clear hsim hba
    go_wp2_with fail
    go_region_held3 (fun w'=>w'.cell? ⟨w.heap.size+1,0,none⟩=some (.int .u64 (u0:Int))∧w'.cell? ⟨w.heap.size+1,1,none⟩=some (.int .u64 (v0:Int))∧w'.cell? ⟨w.heap.size+1,2,none⟩=some (.int .u64 (u1:Int))∧w'.cell? ⟨w.heap.size+1,3,none⟩=some (.int .u64 (v1:Int))∧w'.cell? ⟨w.heap.size+1,4,none⟩=some (.bool ev))
     (first | with_reducible exact ⟨d0,d1,d2,d3,d4⟩ | with_reducible exact held5 _ _ _ _ _ hgne ⟨c0,c1,c2,c3,c4⟩)
     (fail)
    have hv5:=((((hR.set_ 0 (.int .u64 (u0:Int))).set_ 1 (.int .u64 (v0:Int))).set_ 2 (.int .u64 (u1:Int))).set_ 3 (.int .u64 (v1:Int))).set_ 4 (.bool ev)
    have z0:=hv5.c0;have z1:=hv5.c1;have z2:=hv5.c2;have z3:=hv5.c3;have z4:=hv5.c4
    go_wp2
    refine bodyPost_ret (v:=.tuple #[.agg #[.int .u64 (u0:Int),.int .u64 (v0:Int),.int .u64 (u1:Int),.int .u64 (v1:Int),.bool ev],.bool ((v0:Int) != 0)]) (by simp [results,Tryz.results139,go_sem,z0,z1,z2,z3,z4]) rfl ?_
    refine ⟨⟨u0,v0,u1,v1,ev,rfl,HI.out.2.1,HI.out.2.2.1,HI.out.2.2.2.1,HI.out.2.2.2.2.1,?_⟩,below_set5 hbw (Nat.le_refl _) _ _ _ _ _⟩
    intro hv0
    exact HI.out.1.steps (T:=hiT (val B64 lx)) (by rw [← HA0E.out];exact (Nat.div_add_mod _ _).symm) (by rw [← hb0];exact (Nat.div_add_mod _ _).symm) (Nat.mod_lt _ (Nat.two_pow_pos _)) (Nat.mod_lt _ (Nat.two_pow_pos _)) hv0
end
section
open Go.RowKit
theorem mix_step {lx ly P:List Nat} {k x y p q cp cq b:Nat} (hP:P.length=k) (hx:lx[k]?=some x) (hy:ly[k]?=some y) (hb:b≤1)
 (h:val B64 P+q*val B64 (ly.take k)+B64 ^ k*cp=p*val B64 (lx.take k)+B64 ^ k*(cq+b)) :
 val B64 (P ++ [subLo (maLo x p cp) (maLo y q cq) b])+q*val B64 (ly.take (k+1))+B64 ^ (k+1)*maHi x p cp=p*val B64 (lx.take (k+1))+B64 ^ (k+1)*(maHi y q cq+subHi (maLo x p cp) (maLo y q cq) b):=by
 have hs:=sub_parts (maLo_lt x p cp) (maLo_lt y q cq) hb
 have h1:=ma_parts x p cp;have h2:=ma_parts y q cq
 rw [val_snoc,val_take_succ hx,val_take_succ hy,hP,Nat.pow_succ]
 generalize subLo (maLo x p cp) (maLo y q cq) b=sl at *
 generalize subHi (maLo x p cp) (maLo y q cq) b=sh at *
 generalize maLo x p cp=lo at *
 generalize maHi x p cp=hi at *
 generalize maLo y q cq=lo2 at *
 generalize maHi y q cq=hi2 at *
 grind
theorem mod_same {N a b c d:Nat} (ha:a < N) (hb:b < N) (h:a+N*c=b+N*d):a=b:=by
 have h1:(a+N*c) % N=a:=by rw [Nat.add_mul_mod_self_left,Nat.mod_eq_of_lt ha]
 have h2:(b+N*d) % N=b:=by rw [Nat.add_mul_mod_self_left,Nat.mod_eq_of_lt hb]
 rw [← h1,← h2,h]
theorem mix_end {N p q x y vP cp c T:Nat} (h:vP+q*y+N*cp=p*(x % N)+N*c) (ht:p*x=q*y+T) (hP:vP < N) (hT:T < N):vP=T:=by
 have hd:=Nat.div_add_mod x N
 have e:p*x=p*(x % N)+N*(p*(x / N)):=by
  conv=>lhs;rw [← hd]
  grind
 refine mod_same (c:=cp+p*(x / N)) (d:=c) hP hT ?_
 rw [Nat.mul_add]
 omega
theorem Fr.done1 {B n c k v:Nat} {A:Option Addr} {P l:List Nat} (h:Fr .u64 74 w B A n c (P ++ l.drop k)) (hk:k < l.length) (hP:P.length=k) (hl:l.length=n) :
 ∃ g,A=some ⟨g,0,none⟩∧B≤g∧(∀ x,l[k]?=some x→w.cell? ⟨g,k,none⟩=some (.int .u64 (x:Int)))∧w.frozen? ⟨g,k,none⟩=false ∧
  Fr .u64 74 (w.setCell ⟨g,k,none⟩ (.int .u64 (v:Int))) B A n c ((P ++ [v]) ++ l.drop (k+1)):=by
 obtain ⟨g,R,hA,hg,hvw,hc1,hc2,hR⟩:=h.opened (by omega)
 refine ⟨g,hA,hg,?_,hvw.frozen k,?_⟩
 · intro x hx
   refine hvw.cell ?_
   rw [List.getElem?_append_left (by rw [length_nums,List.length_append,List.length_drop];omega),nums_get,List.getElem?_append_right (by omega),List.getElem?_drop,hP]
   rw [show k+(k - k)=k by omega,hx];rfl
 · subst hA
   have hst:=hvw.set_ k (.int .u64 (v:Int))
   refine Fr.shut (R:=R) ?_ hg ?_ hR hc2
   · refine cast (congrArg (Vow _ _ g) ?_) hst
     rw [List.set_append_left _ _ (by rw [length_nums,List.length_append,List.length_drop];omega),← nums_set,List.set_append_right _ _ (by omega),hP,Nat.sub_self,
      List.drop_eq_getElem_cons hk,List.set_cons_zero,List.append_assoc]
     rfl
   · simp;omega
theorem mix_any (lx ly:List Nat) (gx gy n c d p q r s B:Nat) (w:World) (hx:Fr .u64 74 w B (some ⟨gx,0,none⟩) n c lx) (hy:Fr .u64 74 w B (some ⟨gy,0,none⟩) n d ly) (hne:gx ≠ gy) (hgx:B≤gx) (hgy:B≤gy)
 (Lx:Lim B64 lx) (Ly:Lim B64 ly) (hp:p < B64) (hq:q < B64) (hr:r < B64) (hs:s < B64) (hn:n≤35184372088832) :
 Calls Tryz.prog 154 #[.slice (some ⟨gx,0,none⟩) n c,.slice (some ⟨gy,0,none⟩) n d,.int .u64 (p:Int),.int .u64 (q:Int),.int .u64 (r:Int),.int .u64 (s:Int)] w fun e w' =>
  e=.returned (.tuple #[])∧(∃ (P Q:List Nat) (c1 c2 c3 c4:Nat),P.length=n∧Q.length=n∧Lim B64 P∧Lim B64 Q ∧
   val B64 P+q*val B64 ly+B64 ^ n*c1=p*val B64 lx+B64 ^ n*c2∧val B64 Q+r*val B64 lx+B64 ^ n*c3=s*val B64 ly+B64 ^ n*c4 ∧
   Fr .u64 74 w' B (some ⟨gx,0,none⟩) n c P∧Fr .u64 74 w' B (some ⟨gy,0,none⟩) n d Q)∧Below B w w':=by
 have hsub:=sub64_run;have HX:=Lib.hid hx.1;have HY:=Lib.hid hy.1
 have hn1:n≤2 ^ 45:=by omega
 go_enter Tryz.func154,Tryz.ntmps154
 go_wp2_with fail
 go_loopw [16,17,18,19,20,21,25] (fun t1 t2 t3 t4 t5 t6 i wr=>∃ (k:Nat) (P Q:List Nat) (cp cq cr cs bx by':Nat),k≤n∧i=.int .i64 k∧t1=.int .u64 (cp:Int)∧t2=.int .u64 (cq:Int)∧t3=.int .u64 (cr:Int)∧t4=.int .u64 (cs:Int)∧t5=.int .u64 (bx:Int)∧t6=.int .u64 (by':Int) ∧
  bx≤1∧by'≤1∧Fr .u64 74 wr B (some ⟨gx,0,none⟩) n c (P ++ lx.drop k)∧Fr .u64 74 wr B (some ⟨gy,0,none⟩) n d (Q ++ ly.drop k)∧Below B w wr ∧
  Hid (P.length=k∧Q.length=k∧cp < B64∧cq < B64∧cr < B64∧cs < B64∧Lim B64 P∧Lim B64 Q∧val B64 P+q*val B64 (ly.take k)+B64 ^ k*cp=p*val B64 (lx.take k)+B64 ^ k*(cq+bx) ∧
   val B64 Q+r*val B64 (lx.take k)+B64 ^ k*cs=s*val B64 (ly.take k)+B64 ^ k*(cr+by'))) (fun _ _ _ _ _ _ i _=>n - (intOf i).toNat)
 case atStart=>exact ⟨0,[],[],0,0,0,0,0,0,Nat.zero_le _,rfl,rfl,rfl,rfl,rfl,rfl,rfl,Nat.zero_le _,Nat.zero_le _,hx,hy,Below.refl _ _,rfl,rfl,by decide,by decide,by decide,by decide,Lim.nil,Lim.nil,by simp,by simp⟩
 case round =>
  obtain ⟨k,P,Q,cp,cq,cr,cs,bx,by',hk,rfl,rfl,rfl,rfl,rfl,rfl,rfl,hbx,hby,hfx,hfy,hbl,HV⟩:=hrel
  by_cases hlt:k < n
  · obtain ⟨h1,h2,h3,h4,h5,h6,h7,h8,h9,h10⟩:=HV.out
    obtain ⟨x,hxk⟩:∃ x,lx[k]?=some x:=⟨_,List.getElem?_eq_getElem (by have:=HX.out;omega)⟩
    obtain ⟨y,hyk⟩:∃ y,ly[k]?=some y:=⟨_,List.getElem?_eq_getElem (by have:=HY.out;omega)⟩
    obtain ⟨g1,hA1,_,hc1,hf1,hd1⟩:=hfx.done1 (v:=subLo (maLo x p cp) (maLo y q cq) bx) (by have:=HX.out;omega) h1 HX.out
    obtain ⟨g2,hA2,_,hc2,hf2,hd2⟩:=hfy.done1 (v:=subLo (maLo y s cs) (maLo x r cr) by') (by have:=HY.out;omega) h2 HY.out
    cases hA1
    cases hA2
    have cx:=hc1 x hxk;have cy:=hc2 y hyk;have lxB:=Lx.get hxk;have lyB:=Ly.get hyk;have HD1:=Lib.hid hd1
    have hfy1:Fr .u64 74 (wr.setCell ⟨gx,k,none⟩ (.int .u64 (subLo (maLo x p cp) (maLo y q cq) bx:Nat))) B (some ⟨gy,0,none⟩) n d (Q ++ ly.drop k) :=
     Fr.only (g:=gx) hfy ((Only.refl gx wr).setCell k _) (fun ad e=>by cases e;exact Ne.symm hne)
    obtain ⟨g3,hA3,_,_,_,hd3⟩:=hfy1.done1 (v:=subLo (maLo y s cs) (maLo x r cr) by') (by have:=HY.out;omega) h2 HY.out
    cases hA3
    have HD2:=Lib.hid hd3;have HXK:=Lib.hid hxk;have HYK:=Lib.hid hyk;clear hc1 hc2 hd1 hd2 hd3 hfy1 hxk hyk h1 h2 h7 h8 h9 h10
    go_wp2_with (first
     | (go_at_call 163;(with_reducible refine (mulAdd_any x p cp lxB hp h3 _).mono ?_);rintro e w' ⟨rfl,rfl⟩)
     | (go_at_call 163;(with_reducible refine (mulAdd_any y q cq lyB hq h4 _).mono ?_);rintro e w' ⟨rfl,rfl⟩)
     | (go_at_call 163;(with_reducible refine (mulAdd_any x r cr lxB hr h5 _).mono ?_);rintro e w' ⟨rfl,rfl⟩)
     | (go_at_call 163;(with_reducible refine (mulAdd_any y s cs lyB hs h6 _).mono ?_);rintro e w' ⟨rfl,rfl⟩))
    go_roundw
    case rel =>
     obtain ⟨h1,h2,h3,h4,h5,h6,h7,h8,h9,h10⟩:=HV.out
     exact ⟨k+1,P ++ [subLo (maLo x p cp) (maLo y q cq) bx],Q ++ [subLo (maLo y s cs) (maLo x r cr) by'],_,_,_,_,_,_,by omega,by go_num,rfl,rfl,rfl,rfl,rfl,rfl,subHi_le _ _ _,subHi_le _ _ _,
      Fr.only (g:=gy) HD1.out ((Only.refl gy _).setCell k _) (fun ad e=>by cases e;exact hne),HD2.out,(hbl.setCell (p:=⟨gx,k,none⟩) hgx _).setCell (p:=⟨gy,k,none⟩) hgy _,
      by rw [List.length_append,h1];rfl,by rw [List.length_append,h2];rfl,maHi_lt lxB hp h3,maHi_lt lyB hq h4,maHi_lt lxB hr h5,maHi_lt lyB hs h6,h7.snoc (subLo_lt _ _ _),h8.snoc (subLo_lt _ _ _),
      mix_step h1 HXK.out HYK.out hbx h9,mix_step h2 HYK.out HXK.out hby h10⟩
    case measure=>simp [intOf];omega
  · obtain rfl:k=n:=by omega
    obtain ⟨h1,h2,h3,h4,h5,h6,h7,h8,h9,h10⟩:=HV.out
    rw [List.take_of_length_le (l:=lx) (by have:=HX.out;omega),List.take_of_length_le (l:=ly) (by have:=HY.out;omega)] at h9
    rw [List.take_of_length_le (l:=lx) (by have:=HX.out;omega),List.take_of_length_le (l:=ly) (by have:=HY.out;omega)] at h10
    rw [List.drop_of_length_le (by have:=HX.out;omega),List.append_nil] at hfx
    rw [List.drop_of_length_le (by have:=HY.out;omega),List.append_nil] at hfy
    have HE:=Lib.hid (And.intro h9 h10)
    have HLL:=Lib.hid (And.intro h1 h2)
    clear h9 h10 h1 h2 HV
    go_wp2_with fail
    go_end0
    exact ⟨rfl,⟨P,Q,_,_,_,_,HLL.out.1,HLL.out.2,h7,h8,HE.out.1,HE.out.2,hfx,hfy⟩,hbl⟩
end
section
open Go.RowKit
theorem Fr.cutk {K:IntKind} {e:TypeId} {B n c k:Nat} {A:Option Addr} {l:List Nat} (h:Fr K e w B A n c l) (hk:k≤n):Fr K e w B A k c (l.take k):=by
 refine ⟨by rw [List.length_take,h.1];omega,by rw [length_nums,List.length_take,h.1];omega,?_⟩
 rcases h.2.2 with ⟨h1,h2⟩ | ⟨g,cap,cur,hv,hg,hh,hc1,hc2,hs,ht⟩
 · injection h1 with ha hb hc
   exact .inl ⟨by rw [ha,hc,show k=0 by omega],by omega⟩
 · injection hv with ha _ hc
   refine .inr ⟨g,cap,cur,by rw [ha,hc],hg,hh,by omega,hc2,hs,?_⟩
   rw [nums_take,← ht,List.take_take,Nat.mul_one,Nat.mul_one,Nat.min_eq_left hk]
theorem Fr.set_ {B n c k x:Nat} {A:Option Addr} {l:List Nat} (h:Fr .u64 74 w B A n c l) (hx:l[k]?=some x) :
 ∃ g,A=some ⟨g,0,none⟩∧B≤g∧w.cell? ⟨g,k,none⟩=some (.int .u64 (x:Int))∧w.frozen? ⟨g,k,none⟩=false ∧
  ∀ v:Nat,Fr .u64 74 (w.setCell ⟨g,k,none⟩ (.int .u64 (v:Int))) B A n c (l.set k v):=by
 have hk:=(List.getElem?_eq_some_iff.1 hx).1
 have hl:=h.1
 obtain ⟨g,R,hA,hg,hvw,hc1,hc2,hR⟩:=h.opened (by omega)
 refine ⟨g,hA,hg,?_,hvw.frozen k,fun v=>?_⟩
 · refine hvw.cell ?_
   rw [List.getElem?_append_left (by rw [length_nums];omega),nums_get,hx];rfl
 · subst hA
   have hst:=hvw.set_ k (.int .u64 (v:Int))
   refine Fr.shut (R:=R) ?_ hg (by rw [List.length_set];exact hl) hR hc2
   refine cast (congrArg (Vow _ _ g) ?_) hst
   rw [List.set_append_left _ _ (by rw [length_nums];omega),← nums_set]
theorem byLimb_fr (l:List Nat) (v n c B:Nat) (A:Option Addr) (w:World) (h:Fr .u64 74 w B A n c l) (L:Lim B64 l) (hv:0 < v) (hvB:v < B64) (hm:n≤maxLen) :
 Calls Tryz.prog 142 #[.slice A n c,.int .u64 (v:Int)] w fun e w' =>
  e=.returned (.int .u64 ((val B64 l % v:Nat):Int))∧(∃ Q,Q.length=n∧Lim B64 Q∧val B64 Q=val B64 l / v∧Fr .u64 74 w' B A n c Q)∧Below B w w'∧∀ k,(∀ a,A=some a→a.block ≠ k)→w'.heap[k]?=w.heap[k]?:=by
 have HS:=Lib.hid h.1
 unfold maxLen at hm
 go_enter Tryz.func142,Tryz.ntmps142
 go_wp2_with fail
 go_loopw [4,5] (fun b i wr=>∃ (j:Nat) (Q:List Nat) (r:Nat),j≤n∧r < v∧i=.int .i64 ((j:Int) - 1)∧b=.int .u64 (r:Int)∧Fr .u64 74 wr B A n c (l.take j ++ Q)∧Below B w wr∧(∀ k,(∀ a,A=some a→a.block ≠ k)→wr.heap[k]?=w.heap[k]?) ∧
  Hid (Q.length+j=n∧Lim B64 Q∧val B64 Q=val B64 (l.drop j) / v∧r=val B64 (l.drop j) % v)) (fun _ i _=>(intOf i+1).toNat)
 case atStart =>
  refine ⟨n,[],0,Nat.le_refl _,hv,by go_num,rfl,?_,Below.refl _ _,fun _ _=>rfl,by simp,Lim.nil,?_,?_⟩
  · rw [List.take_of_length_le (by have:=HS.out;omega),List.append_nil];exact h
  · rw [List.drop_of_length_le (by have:=HS.out;omega)];simp
  · rw [List.drop_of_length_le (by have:=HS.out;omega)];simp
 case round =>
  obtain ⟨j,Q,r,hj,hr,rfl,rfl,hfr,hbl,hoth,HV⟩:=hrel
  have HOT:=Lib.hid hoth;clear hoth
  by_cases hj0:0 < j
  · have hks:j - 1 < l.length:=by have:=HS.out;omega
    obtain ⟨x,hx⟩:∃ x,l[j - 1]?=some x:=⟨_,List.getElem?_eq_getElem hks⟩
    have ht:l.take j=l.take (j - 1) ++ [x]:=by
     have:=List.take_succ_eq_append_getElem hks
     rw [show j - 1+1=j by omega] at this
     rw [this,(List.getElem?_eq_some_iff.1 hx).2]
    have hl:(l.take (j - 1)).length=j - 1:=by rw [List.length_take];omega
    rw [ht,List.append_assoc] at hfr
    have hxk:(l.take (j - 1) ++ ([x] ++ Q))[j - 1]?=some x:=by rw [List.getElem?_append_right (by omega),hl,Nat.sub_self];rfl
    obtain ⟨g,hA,hg,hcz,hfz,hset⟩:=hfr.set_ hxk
    subst hA
    have hset2:=hset (dQuo r x v)
    rw [List.set_append_right _ _ (by omega),hl,Nat.sub_self] at hset2
    have HX:=Lib.hid hx;have HSET:=Lib.hid hset2;clear hset hset2 hfr hks hx ht hl hxk
    go_wp2_with (go_at_call 155;(with_reducible refine (div64_any r x v _ hr hvB (L.get HX.out)).mono ?_);rintro e w' ⟨rfl,q,rfl⟩)
    go_roundw
    case rel =>
     obtain ⟨h1,h2,h3,h4⟩:=HV.out
     obtain ⟨s1,s2⟩:=byLimb_step (x:=x) h3 h4 hv
     have hd:val B64 (l.drop (j - 1))=x+B64*val B64 (l.drop j):=by
      have hks:j - 1 < l.length:=(List.getElem?_eq_some_iff.1 HX.out).1
      rw [List.drop_eq_getElem_cons hks,(List.getElem?_eq_some_iff.1 HX.out).2,val_cons,show j - 1+1=j by omega]
     refine ⟨j - 1,dQuo r x v :: Q,dRem r x v,by omega,dRem_lt hr,by go_num,rfl,HSET.out,?_,?_,?_,?_,?_,?_⟩
     · exact (below_drawn hbl q).setCell (p:=⟨g,j - 1,none⟩) hg _
     · exact fun k hk=>(Below.heap_setCell (wr.drewN q) ⟨g,j - 1,none⟩ _ k (Ne.symm (hk ⟨g,0,none⟩ rfl))).trans (HOT.out k hk)
     · simp;omega
     · exact Lim.cons (dQuo_lt hr (L.get HX.out)) h2
     · rw [val_cons,hd];exact s1
     · rw [hd];exact s2
    case measure=>simp [intOf];omega
  · obtain rfl:j=0:=by omega
    go_wp2_with fail
    go_ret
    obtain ⟨h1,h2,h3,h4⟩:=HV.out
    rw [List.drop_zero] at h3 h4
    exact ⟨ret_int (by rw [h4]),⟨Q,by omega,h2,h3,by simpa using hfr⟩,hbl,HOT.out⟩
theorem trim_fr (l:List Nat) (A:Option Addr) (n c B:Nat) (w:World) (h:Fr .u64 74 w B A n c l) (hL:Lim B64 l) (hn:n≤maxLen) (hnc:n≤c) :
 Calls Tryz.prog 103 #[.slice A n c] w fun e w'=>(∃ k,k≤n∧e=.returned (.slice A k c)∧Fr .u64 74 w' B A k c (limbs B64 (val B64 l)))∧w=w':=by
 refine (trim_any l A n c w h.rd hL hn hnc).mono ?_
 rintro e w' ⟨⟨k,hk,rfl,hr⟩,rfl⟩
 refine ⟨⟨k,hk,rfl,?_⟩,rfl⟩
 have:=h.cutk hk
 rwa [← hr.1,limbs_take B64_two hL,hr.1] at this
theorem mix_end2 {N r s x y vQ c3 c T:Nat} (h:vQ+r*(x % N)+N*c3=s*y+N*c) (ht:s*y=r*x+T) (hQ:vQ < N) (hT:T < N):vQ=T:=by
 have hd:=Nat.div_add_mod x N
 have e:r*x=r*(x % N)+N*(r*(x / N)):=by
  conv=>lhs;rw [← hd]
  grind
 refine mod_same (c:=c3) (d:=c+r*(x / N)) hQ hT ?_
 rw [Nat.mul_add]
 omega
def GivesAB (w:World) (B U V:Nat) (e:Ending) (w':World):Prop :=
 ∃ g k c g' k' c',e=.returned (.tuple #[.slice (some ⟨g,0,none⟩) k c,.slice (some ⟨g',0,none⟩) k' c'])∧g ≠ g'∧k≤c∧c≤maxLen∧k'≤c'∧c'≤maxLen ∧
  Fr .u64 74 w' B (some ⟨g,0,none⟩) k c (limbs B64 U)∧Fr .u64 74 w' B (some ⟨g',0,none⟩) k' c' (limbs B64 V)∧Below B w w'
theorem apply_even (lx ly:List Nat) (gx gy n m c d u0 v0 u1 v1 B X Y:Nat) (w:World) (hx:Fr .u64 74 w B (some ⟨gx,0,none⟩) n c lx) (hy:Fr .u64 74 w B (some ⟨gy,0,none⟩) m d ly) (hne:gx ≠ gy) (hgx:B≤gx) (hgy:B≤gy) (hB:B≤w.heap.size)
 (Lx:Lim B64 lx) (Ly:Lim B64 ly) (hu0:u0 < B64) (hv0:v0 < B64) (hu1:u1 < B64) (hv1:v1 < B64) (hm:m≤n) (hn:n≤35184372088830) (hnc:n≤c) (hmd:m≤d) (hc:c≤maxLen) (hd:d≤maxLen)
 (hst:Steps (val B64 lx) (val B64 ly) u0 v0 u1 v1 true X Y) :
 Calls Tryz.prog 140 #[.agg #[.int .u64 (u0:Int),.int .u64 (v0:Int),.int .u64 (u1:Int),.int .u64 (v1:Int),.bool true],.slice (some ⟨gx,0,none⟩) n c,.slice (some ⟨gy,0,none⟩) m d] w (GivesAB w B X Y):=by
 have hlx:=hx.1
 have hx1:=(hx.cutk hm).below (B':=w.heap.size) ((Below.refl _ _).alloc (Nat.le_refl _) (.cells #[.int .u64 (u0:Int),.int .u64 (v0:Int),.int .u64 (u1:Int),.int .u64 (v1:Int),.bool true] tSteps)) (Nat.le_refl _)
 have hy1:=hy.below (B':=w.heap.size) ((Below.refl _ _).alloc (Nat.le_refl _) (.cells #[.int .u64 (u0:Int),.int .u64 (v0:Int),.int .u64 (u1:Int),.int .u64 (v1:Int),.bool true] tSteps)) (Nat.le_refl _)
 have hb1:Below B w (w.alloc (.cells #[.int .u64 (u0:Int),.int .u64 (v0:Int),.int .u64 (u1:Int),.int .u64 (v1:Int),.bool true] tSteps)):=(Below.refl _ _).alloc hB _
 have hV:Hid (Vow tSteps (w.alloc (.cells #[.int .u64 (u0:Int),.int .u64 (v0:Int),.int .u64 (u1:Int),.int .u64 (v1:Int),.bool true] tSteps)) w.heap.size (stepV u0 v0 u1 v1 true)):=heap_alloc_new w _
 have hm1:m≤2 ^ 45:=by omega
 have hmc:m≤c:=by omega
 have hcm:c≤2 ^ 63 - 1:=hc
 obtain ⟨⟨s1,s2⟩,s3,s4,s5⟩:=hst
 have hXB:X < B64 ^ m:=by
  have:=val_lt Ly
  rw [hy.1] at this
  omega
 have HST:=Lib.hid (And.intro s1 (And.intro s2 (And.intro hXB (show Y < B64 ^ m by omega))))
 have HXM:Hid (val B64 (lx.take m)=val B64 lx % B64 ^ m):=val_take Lx m (by omega)
 clear s1 s2 s3 s4 s5 hXB hx hy
 go_enter Tryz.func140,Tryz.ntmps140
 go_wp2_with (first
  | (go_at_call 154
     refine (mix_any (lx.take m) ly gx gy m c d u0 v0 u1 v1 B _ hx1 hy1 hne hgx hgy (Lx.take _) Ly hu0 hv0 hu1 hv1 (by omega)).mono ?_
     rintro e w2 ⟨rfl,⟨P,Q,c1,c2,c3,c4,hP1,hQ1,hP2,hQ2,hP3,hQ3,hP4,hQ4⟩,hb2⟩
     have HPQ:=Lib.hid (And.intro hP1 (And.intro hQ1 (And.intro hP3 hQ3)))
     clear hP1 hQ1 hP3 hQ3)
  | (go_at_call 103;(with_reducible refine (trim_fr P _ m _ B _ hP4 hP2 (by unfold maxLen;omega) hmc).mono ?_);rintro e w' ⟨⟨k1,hk1,rfl,hf1⟩,rfl⟩)
  | (go_at_call 103;(with_reducible refine (trim_fr Q _ m _ B _ hQ4 hQ2 (by unfold maxLen;omega) hmd).mono ?_);rintro e w' ⟨⟨k2,hk2,rfl,hf2⟩,rfl⟩))
 go_ret2
 obtain ⟨q1,q2,q3,q4⟩:=HPQ.out
 obtain ⟨t1,t2,t3,t4⟩:=HST.out
 rw [HXM.out] at q3 q4
 have hPB:=val_lt hP2;have hQB:=val_lt hQ2;rw [q1] at hPB;rw [q2] at hQB;rw [mix_end q3 t1 hPB t3] at hf1;rw [mix_end2 q4 t2 hQB t4] at hf2
 exact ⟨_,_,_,_,_,_,rfl,hne,by omega,hc,by omega,hd,hf1,hf2,hb1.trans hb2⟩
theorem apply_odd (lx ly:List Nat) (gx gy n m c d u0 v0 u1 v1 B X Y:Nat) (w:World) (hx:Fr .u64 74 w B (some ⟨gx,0,none⟩) n c lx) (hy:Fr .u64 74 w B (some ⟨gy,0,none⟩) m d ly) (hne:gx ≠ gy) (hgx:B≤gx) (hgy:B≤gy) (hB:B≤w.heap.size)
 (Lx:Lim B64 lx) (Ly:Lim B64 ly) (hu0:u0 < B64) (hv0:v0 < B64) (hu1:u1 < B64) (hv1:v1 < B64) (hm:m≤n) (hn:n≤35184372088830) (hnc:n≤c) (hmd:m≤d) (hc:c≤maxLen) (hd:d≤maxLen)
 (hst:Steps (val B64 lx) (val B64 ly) u0 v0 u1 v1 false X Y) :
 Calls Tryz.prog 140 #[.agg #[.int .u64 (u0:Int),.int .u64 (v0:Int),.int .u64 (u1:Int),.int .u64 (v1:Int),.bool false],.slice (some ⟨gx,0,none⟩) n c,.slice (some ⟨gy,0,none⟩) m d] w (GivesAB w B X Y):=by
 have hlx:=hx.1
 have hx1:=(hx.cutk hm).below (B':=w.heap.size) ((Below.refl _ _).alloc (Nat.le_refl _) (.cells #[.int .u64 (u0:Int),.int .u64 (v0:Int),.int .u64 (u1:Int),.int .u64 (v1:Int),.bool false] tSteps)) (Nat.le_refl _)
 have hy1:=hy.below (B':=w.heap.size) ((Below.refl _ _).alloc (Nat.le_refl _) (.cells #[.int .u64 (u0:Int),.int .u64 (v0:Int),.int .u64 (u1:Int),.int .u64 (v1:Int),.bool false] tSteps)) (Nat.le_refl _)
 have hb1:Below B w (w.alloc (.cells #[.int .u64 (u0:Int),.int .u64 (v0:Int),.int .u64 (u1:Int),.int .u64 (v1:Int),.bool false] tSteps)):=(Below.refl _ _).alloc hB _
 have hV:Hid (Vow tSteps (w.alloc (.cells #[.int .u64 (u0:Int),.int .u64 (v0:Int),.int .u64 (u1:Int),.int .u64 (v1:Int),.bool false] tSteps)) w.heap.size (stepV u0 v0 u1 v1 false)):=heap_alloc_new w _
 have hm1:m≤2 ^ 45:=by omega
 have hmc:m≤c:=by omega
 have hcm:c≤2 ^ 63 - 1:=hc
 obtain ⟨⟨s1,s2⟩,s3,s4,s5⟩:=hst
 have hXB:X < B64 ^ m:=by
  have:=val_lt Ly
  rw [hy.1] at this
  omega
 have HST:=Lib.hid (And.intro s1 (And.intro s2 (And.intro hXB (show Y < B64 ^ m by omega))))
 have HXM:Hid (val B64 (lx.take m)=val B64 lx % B64 ^ m):=val_take Lx m (by omega)
 clear s1 s2 s3 s4 s5 hXB hx hy
 go_enter Tryz.func140,Tryz.ntmps140
 go_wp2_with (first
  | (go_at_call 154
     refine (mix_any ly (lx.take m) gy gx m d c v0 u0 v1 u1 B _ hy1 hx1 (Ne.symm hne) hgy hgx Ly (Lx.take _) hv0 hu0 hv1 hu1 (by omega)).mono ?_
     rintro e w2 ⟨rfl,⟨P,Q,c1,c2,c3,c4,hP1,hQ1,hP2,hQ2,hP3,hQ3,hP4,hQ4⟩,hb2⟩
     have HPQ:=Lib.hid (And.intro hP1 (And.intro hQ1 (And.intro hP3 hQ3)))
     clear hP1 hQ1 hP3 hQ3)
  | (go_at_call 103;(with_reducible refine (trim_fr P _ m _ B _ hP4 hP2 (by unfold maxLen;omega) hmd).mono ?_);rintro e w' ⟨⟨k1,hk1,rfl,hf1⟩,rfl⟩)
  | (go_at_call 103;(with_reducible refine (trim_fr Q _ m _ B _ hQ4 hQ2 (by unfold maxLen;omega) hmc).mono ?_);rintro e w' ⟨⟨k2,hk2,rfl,hf2⟩,rfl⟩))
 go_ret2
 obtain ⟨q1,q2,q3,q4⟩:=HPQ.out
 obtain ⟨t1,t2,t3,t4⟩:=HST.out
 rw [HXM.out] at q3 q4
 have hPB:=val_lt hP2;have hQB:=val_lt hQ2;rw [q1] at hPB;rw [q2] at hQB;rw [mix_end2 q3 t1 hPB t3] at hf1;rw [mix_end q4 t2 hQB t4] at hf2
 exact ⟨_,_,_,_,_,_,rfl,(Ne.symm hne),by omega,hd,by omega,hc,hf1,hf2,hb1.trans hb2⟩
end
section
open Go.RowKit
def rdVal (w:World):Value→Nat
 | .slice (some a) n _=>val B64 ((List.range n).map fun i=>match w.cell? (a.add i) with | some (.int _ x)=>x.toNat | _=>0)
 | _=>0
theorem rdVal_eq {A:Option Addr} {n c:Nat} {l:List Nat} (h:Rd .u64 w A n l):rdVal w (.slice A n c)=val B64 l:=by
 rcases Nat.eq_zero_or_pos n with h0 | h0
 · subst h0
   have:l=[]:=List.eq_nil_of_length_eq_zero h.1
   subst this
   cases A <;> simp [rdVal]
 · obtain ⟨b,o,rfl,hc⟩:=h.2 h0
   show val B64 _=_
   congr 1
   apply List.ext_getElem
   · simp [h.1]
   · intro i h1 h2
     simp only [List.getElem_map,List.getElem_range,add_at]
     rw [hc i _ (List.getElem?_eq_getElem h2)]
     simp
def GState (w0 wr:World) (G:Nat) (A:Option Addr) (n c:Nat) (A':Option Addr) (n' c':Nat) (U V:Nat):Prop :=
 Fr .u64 74 wr w0.heap.size A n c (limbs B64 U)∧Fr .u64 74 wr w0.heap.size A' n' c' (limbs B64 V)∧n≤c∧c≤maxLen∧n'≤c'∧c'≤maxLen∧n≤35184372088830 ∧
  (∀ a a',A=some a→A'=some a'→a.block ≠ a'.block)∧Hid (V≤U∧Nat.gcd U V=G)
theorem Fr.len0 {B n c V:Nat} {A:Option Addr} (h:Fr .u64 74 w B A n c (limbs B64 V)) (hn:n=0):V=0:=by
 have:=h.1
 exact (limbs_eq_nil B64_two).1 (List.eq_nil_of_length_eq_zero (by omega))
theorem Fr.len1 {B n c V:Nat} {A:Option Addr} (h:Fr .u64 74 w B A n c (limbs B64 V)) (hn:n=1):V < B64∧V ≠ 0∧limbs B64 V=[V]:=by
 have hl:=h.1;have h1:=lt_pow_limbs B64_two V
 rw [hl,hn,Nat.pow_one] at h1
 have h0:V ≠ 0:=by
  intro e;subst e;rw [limbs_zero] at hl;simp at hl;omega
 exact ⟨h1,h0,limbs_small B64_two h1 h0⟩
theorem Fr.baseg {K:IntKind} {e:TypeId} {B n c:Nat} {A:Option Addr} {l:List Nat} (h:Fr K e w B A n c l):∀ ad,A=some ad→B≤ad.block:=by
 intro ad hA
 rcases h.2.2 with ⟨h2,_⟩ | ⟨g,cap,cur,hv,hg,r⟩
 · subst hA;cases h2
 · subst hA
   injection hv with ha
   injection ha with ha
   subst ha
   exact hg
theorem Own.fr {g B n:Nat} {L:List Nat} (h:Own .u64 74 w g L) (hB:B≤g) (hn:L.length=n) (hm:n≤maxLen):Fr .u64 74 w B (some ⟨g,0,none⟩) n n L:=by
 have:=Fr.of_own h hB (k:=n) (by omega) (by omega)
 rwa [List.take_of_length_le (by omega),hn] at this
theorem lim_val {V:Nat}:limbs B64 (val B64 (limbs B64 V))=limbs B64 V:=by rw [val_limbs B64_two]
theorem apply_any (lx ly:List Nat) (gx gy n m c d u0 v0 u1 v1 B X Y:Nat) (ev:Bool) (w:World) (hx:Fr .u64 74 w B (some ⟨gx,0,none⟩) n c lx) (hy:Fr .u64 74 w B (some ⟨gy,0,none⟩) m d ly) (hne:gx ≠ gy) (hgx:B≤gx) (hgy:B≤gy) (hB:B≤w.heap.size)
 (Lx:Lim B64 lx) (Ly:Lim B64 ly) (hu0:u0 < B64) (hv0:v0 < B64) (hu1:u1 < B64) (hv1:v1 < B64) (hm:m≤n) (hn:n≤35184372088830) (hnc:n≤c) (hmd:m≤d) (hc:c≤maxLen) (hd:d≤maxLen)
 (hst:Steps (val B64 lx) (val B64 ly) u0 v0 u1 v1 ev X Y) :
 Calls Tryz.prog 140 #[.agg #[.int .u64 (u0:Int),.int .u64 (v0:Int),.int .u64 (u1:Int),.int .u64 (v1:Int),.bool ev],.slice (some ⟨gx,0,none⟩) n c,.slice (some ⟨gy,0,none⟩) m d] w (GivesAB w B X Y):=by
 cases ev
 · exact apply_odd lx ly gx gy n m c d u0 v0 u1 v1 B X Y w hx hy hne hgx hgy hB Lx Ly hu0 hv0 hu1 hv1 hm hn hnc hmd hc hd hst
 · exact apply_even lx ly gx gy n m c d u0 v0 u1 v1 B X Y w hx hy hne hgx hgy hB Lx Ly hu0 hv0 hu1 hv1 hm hn hnc hmd hc hd hst
theorem gcd_any (la lb:List Nat) (A B:Option Addr) (n c m d:Nat) (w:World) (ha:Rd .u64 w A n la) (hb:Rd .u64 w B m lb) (La:Lim B64 la) (Lb:Lim B64 lb) (hn0:n≤35184372088830) (hm0:m≤35184372088830)
 (hnc:n≤c) (hmd:m≤d) :
 Calls Tryz.prog 118 #[.slice A n c,.slice B m d] w (GivesS .u64 74 w (limbs B64 (Nat.gcd (val B64 la) (val B64 lb)))):=by
 have HN:Hid (n≤maxLen∧m≤maxLen):=⟨by unfold maxLen;omega,by unfold maxLen;omega⟩
 generalize hU:val B64 la=U
 generalize hV:val B64 lb=V
 have LX:Lim B64 (limbs B64 U):=lim_limbs B64_two _
 have LY:Lim B64 (limbs B64 V):=lim_limbs B64_two _
 have HC:Hid (cmpN (val B64 (limbs B64 U)) (val B64 (limbs B64 V))=cmpN U V):=by show _=_;rw [val_limbs B64_two,val_limbs B64_two]
 have HU:=Lib.hid hU;have HV:=Lib.hid hV;clear hU hV
 by_cases hlt:U < V
 · have hcm:decide (cmpN U V < 0)=true:=by rw [cmpN_lt hlt];rfl
   go_enter Tryz.func118,Tryz.ntmps118
   go_wp2_with (first
    | (go_at_call 103;(with_reducible refine (trim_any la A n c w ha La HN.out.1 hnc).mono ?_);rintro e w' ⟨⟨k,hk,rfl,hka⟩,rfl⟩;rw [HU.out] at hka)
    | (go_at_call 131;(with_reducible refine (fresh_any (limbs B64 U) A k c w hka (by omega)).mono ?_);rintro e w1 ⟨rfl,hown1,hb1⟩)
    | (go_at_call 103;(with_reducible refine (trim_any lb B m d w1 (hb.below hb1) Lb HN.out.2 hmd).mono ?_);rintro e w' ⟨⟨k2,hk2,rfl,hkb⟩,rfl⟩;rw [HV.out] at hkb)
    | (go_at_call 131;(with_reducible refine (fresh_any (limbs B64 V) B k2 d w1 hkb (by omega)).mono ?_);rintro e w2 ⟨rfl,hown2,hb2⟩
       have hown1':=hown1.below hb2 hown1.lt)
    | (go_at_call 95;(refine (cmp_any (limbs B64 U) (limbs B64 V) _ _ k k k2 k2 w2 (hown1'.rd hka.1 (fun j x hx=>by simpa using hx)) (hown2.rd hkb.1 (fun j x hx=>by simpa using hx)) LX LY (by have:=HN.out;omega) (by have:=HN.out;omega) (Nat.le_refl _) (Nat.le_refl _)).mono ?_);rintro e w' ⟨rfl,q,rfl⟩;rw [HC.out]))
   go_loopw [5,6] (fun tx ty wr=>∃ (X:Option Addr) (nx cx:Nat) (Y:Option Addr) (ny cy u v:Nat),tx=.slice X nx cx∧ty=.slice Y ny cy∧GState w wr (Nat.gcd U V) X nx cx Y ny cy u v∧Below w.heap.size w wr) (fun _ ty wr=>rdVal wr ty)
   case atStart =>
    have hz:(w2.drewN q).heap.size=w2.heap.size:=rfl
    refine ⟨some ⟨w1.heap.size,0,none⟩,k2,k2,some ⟨w.heap.size,0,none⟩,k,k,V,U,rfl,rfl,⟨?_,?_,Nat.le_refl _,by have:=HN.out;omega,Nat.le_refl _,by have:=HN.out;omega,by omega,?_,⟨by omega,Nat.gcd_comm _ _⟩⟩,?_⟩
    · exact (show Own .u64 74 (w2.drewN q) w1.heap.size (limbs B64 V) from hown2).fr hb1.size hkb.1 (by have:=HN.out;omega)
    · exact (show Own .u64 74 (w2.drewN q) w.heap.size (limbs B64 U) from hown1').fr (Nat.le_refl _) hka.1 (by have:=HN.out;omega)
    · intro a a' h1 h2
      cases h1;cases h2
      exact Nat.ne_of_gt hown1.lt
    · exact below_drawn (hb1.trans (hb2.mono hb1.size)) q
   case round =>
    clear hown1 hown2 hown1' hka hkb hb1 hb2
    obtain ⟨X,nx,cx,Y,ny,cy,u,v,rfl,rfl,⟨fx,fy,e1,e2,e3,e4,e5,e6,HG⟩,hbw⟩:=hrel
    have rx:=fx.rd;have ry:=fy.rd;have HLX:=Lib.hid fx.1;have HLY:=Lib.hid fy.1
    have hnyx:ny≤nx:=by
     have:=length_limbs_mono B64_two HG.out.1
     have:=HLX.out
     have:=HLY.out
     omega
    by_cases hny:1 < ny
    · go_wp2_with fail
      refine (foresee_any (limbs B64 u) (limbs B64 v) X Y nx cx ny cy _ rx ry (lim_limbs B64_two _) (lim_limbs B64_two _) lim_val (by omega) hnyx e5 (by rw [val_limbs B64_two,val_limbs B64_two];exact HG.out.1)).mono ?_
      rintro e wf ⟨⟨u0,v0,u1,v1,ev,rfl,b0,b1,b2,b3,hsteps⟩,hbf⟩
      rw [val_limbs B64_two,val_limbs B64_two] at hsteps
      have hbwf:Below w.heap.size w wf:=hbw.trans (hbf.mono hbw.size)
      by_cases hv0:v0=0
      · subst hv0
        clear hsteps
        have fx1:=fx.below hbf (Nat.le_refl _)
        have fy1:=fy.below hbf (Nat.le_refl _)
        have hbg:Below w.heap.size w (wf.alloc (.cells #[.int .u64 (u0:Int),.int .u64 ((0:Nat):Int),.int .u64 (u1:Int),.int .u64 (v1:Int),.bool ev] tSteps)):=hbwf.alloc hbwf.size _
        have fx2:=fx1.below (B':=wf.heap.size) ((Below.refl _ _).alloc (Nat.le_refl _) (.cells #[.int .u64 (u0:Int),.int .u64 ((0:Nat):Int),.int .u64 (u1:Int),.int .u64 (v1:Int),.bool ev] tSteps)) (Nat.le_refl _)
        have fy2:=fy1.below (B':=wf.heap.size) ((Below.refl _ _).alloc (Nat.le_refl _) (.cells #[.int .u64 (u0:Int),.int .u64 ((0:Nat):Int),.int .u64 (u1:Int),.int .u64 (v1:Int),.bool ev] tSteps)) (Nat.le_refl _)
        have hvne:Hid (val B64 (limbs B64 v) ≠ 0):=by
         show _ ≠ _
         rw [val_limbs B64_two]
         intro h0
         have:=HLY.out
         rw [h0,limbs_zero] at this
         simp at this
         omega
        obtain ⟨gy,rfl,hgy,hgy2⟩:=fy.own (by omega)
        go_wp2_with (first
         | (go_at_call 119
            refine (divmod_any (limbs B64 u) (limbs B64 v) X _ nx cx ny cy _ fx2.rd fy2.rd (lim_limbs B64_two _) (lim_limbs B64_two _) e5 (by omega) e1 e3 hvne.out).mono ?_
            rw [val_limbs B64_two,val_limbs B64_two]
            rintro e w7 ⟨Aq,nq,cq,Ar,nr,cr,rfl,p1,p2,p3,p4,p5,p6,p7⟩))
        go_roundw
        case rel =>
         have hs1:(wf.alloc (.cells #[.int .u64 (u0:Int),.int .u64 ((0:Nat):Int),.int .u64 (u1:Int),.int .u64 (v1:Int),.bool ev] tSteps)).heap.size=wf.heap.size+1:=by simp
         have hs2:=hbf.size
         refine ⟨_,_,_,_,_,_,v,u % v,rfl,rfl,⟨fy2.below p7 (Nat.le_refl _),p6.more hbg.size,e3,e4,p3,p4,by omega,?_,?_⟩,hbg.trans (p7.mono hbg.size)⟩
         · intro a a' h1 h2
           cases h1
           have:=Fr.baseg p6 a' h2
           rw [hs1] at this
           show gy ≠ a'.block
           omega
         · refine ⟨Nat.le_of_lt (Nat.mod_lt _ ?_),?_⟩
           · have:=hvne.out;rw [val_limbs B64_two] at this;omega
           · rw [← HG.out.2,Nat.gcd_comm v,← Nat.gcd_rec,Nat.gcd_comm]
        case measure =>
         rw [rdVal_eq p6.rd,rdVal_eq ry,val_limbs B64_two,val_limbs B64_two]
         refine Nat.mod_lt _ ?_
         have:=hvne.out;rw [val_limbs B64_two] at this;omega
      · have hne0:((v0:Int) != 0)=true:=by simp;omega
        obtain ⟨X',Y',hst⟩:=hsteps hv0
        obtain ⟨gx,rfl,hgx,hgx2⟩:=fx.own (by omega)
        obtain ⟨gy,rfl,hgy,hgy2⟩:=fy.own (by omega)
        have hgne:gx ≠ gy:=e6 _ _ rfl rfl
        have fx1:=fx.below hbf (Nat.le_refl _)
        have fy1:=fy.below hbf (Nat.le_refl _)
        have hbg:Below w.heap.size w (wf.alloc (.cells #[.int .u64 (u0:Int),.int .u64 (v0:Int),.int .u64 (u1:Int),.int .u64 (v1:Int),.bool ev] tSteps)):=hbwf.alloc hbwf.size _
        have fx2:=fx1.below (B':=wf.heap.size) ((Below.refl _ _).alloc (Nat.le_refl _) (.cells #[.int .u64 (u0:Int),.int .u64 (v0:Int),.int .u64 (u1:Int),.int .u64 (v1:Int),.bool ev] tSteps)) (Nat.le_refl _)
        have fy2:=fy1.below (B':=wf.heap.size) ((Below.refl _ _).alloc (Nat.le_refl _) (.cells #[.int .u64 (u0:Int),.int .u64 (v0:Int),.int .u64 (u1:Int),.int .u64 (v1:Int),.bool ev] tSteps)) (Nat.le_refl _)
        have HST:Hid (Y' < X'∧X'≤v∧Nat.gcd X' Y'=Nat.gcd u v):=⟨hst.2.1,hst.2.2.1,hst.2.2.2⟩
        have hst2:Steps (val B64 (limbs B64 u)) (val B64 (limbs B64 v)) u0 v0 u1 v1 ev X' Y':=by rw [val_limbs B64_two,val_limbs B64_two];exact hst
        have HS2:=Lib.hid hst2;clear hst hst2 hsteps
        go_wp2_with (first
         | (go_at_call 140
            refine (apply_any (limbs B64 u) (limbs B64 v) gx gy nx ny cx cy u0 v0 u1 v1 w.heap.size X' Y' ev _ fx2 fy2 hgne hgx hgy hbg.size (lim_limbs B64_two _) (lim_limbs B64_two _) b0 b1 b2 b3 hnyx e5 e1 e3 e2 e4 HS2.out).mono ?_
            rintro e w7 ⟨g1,k1,c1,g2,k2',c2,rfl,q1,q2,q3,q4,q5,q6,q7,q8⟩))
        go_roundw
        case rel =>
         have hl1:k1≤ny:=by
          have h1:=length_limbs_mono B64_two HST.out.2.1;have h2:=q6.1;have h3:=HLY.out
          omega
         exact ⟨_,_,_,_,_,_,X',Y',rfl,rfl,⟨q6,q7,q2,q3,q4,q5,by omega,(fun a a' h1 h2=>by cases h1;cases h2;exact q1),⟨Nat.le_of_lt HST.out.1,by rw [HST.out.2.2];exact HG.out.2⟩⟩,hbg.trans (q8.mono (Nat.le_refl _))⟩
        case measure =>
         rw [rdVal_eq q7.rd,rdVal_eq ry,val_limbs B64_two,val_limbs B64_two]
         have:=HST.out
         omega
    · by_cases hny0:ny=0
      · subst hny0
        obtain rfl:v=0:=fy.len0 rfl
        have HG0:=HG.out.2;rw [Nat.gcd_zero_right] at HG0;have HGG:=Lib.hid HG0;clear HG0
        go_wp2_with fail
        go_ret;rw [← HGG.out]
        exact ⟨_,_,_,rfl,e1,e2,fx,hbw⟩
      · obtain rfl:ny=1:=by omega
        obtain ⟨hvB,hv0,hvl⟩:=fy.len1 rfl
        obtain ⟨gy,rfl,hgy,hgy2⟩:=fy.own (by omega)
        have hcy:wr.cell? ⟨gy,0,none⟩=some (.int .u64 (v:Int)):=by
         obtain ⟨b',o',e0,hc0⟩:=ry.2 (by omega)
         cases e0
         exact hc0 0 v (by rw [hvl];rfl)
        have hcy2:wr.drew.cell? ⟨gy,0,none⟩=some (.int .u64 (v:Int)):=hcy
        have HVL:=Lib.hid hvl
        have hv1:0 < v:=by omega
        have hoff:∀ a,X=some a→a.block ≠ gy:=fun a h=>e6 a _ h rfl
        clear hvl
        go_wp2_with fail
        go_region_held3 (fun w'=>w'.cell? ⟨gy,0,none⟩=some (.int .u64 (v:Int)))
         (first | with_reducible exact hcy | with_reducible exact hcy2 | with_reducible exact hcy3 | with_reducible exact hcy4 | with_reducible exact hcy5)
         (first
          | (go_at_call 142;(refine (byLimb_fr (limbs B64 u) v nx cx w.heap.size X wr.drew (show Fr .u64 74 wr.drew w.heap.size X nx cx (limbs B64 u) from fx) (lim_limbs B64_two _) hv1 hvB (by omega)).mono ?_);rintro e w7 ⟨rfl,_,hb7,hoth7⟩
             rw [val_limbs B64_two]
             have hb7sz:wr.heap.size≤w7.heap.size:=hb7.size
             have hcy3:w7.cell? ⟨gy,0,none⟩=some (.int .u64 (v:Int)):=(World.cell?_of_block (hoth7 gy hoff)).trans hcy2)
          | (go_at_call 141;(refine (limbGcd_any v (u % v) w7 hvB (Nat.lt_trans (Nat.mod_lt _ hv1) hvB)).mono ?_);rintro e w8 ⟨rfl,q8,rfl⟩
             have hcy4:(w7.drewN q8).cell? ⟨gy,0,none⟩=some (.int .u64 (v:Int)):=hcy3)
          | (go_at_call 90;(refine (of_any (Nat.gcd v (u % v)) (Nat.lt_of_le_of_lt (Nat.gcd_le_left _ hv1) hvB) (w7.drewN q8)).mono ?_);rintro e w9 ⟨A9,n9,c9,rfl,o1,o2,o3,o4⟩
             have hcy5:w9.cell? ⟨gy,0,none⟩=some (.int .u64 (v:Int)):=(o4.cell (p:=⟨gy,0,none⟩) (Nat.lt_of_lt_of_le hgy2 hb7sz)).trans hcy4))
        go_wp2
        go_ret
        have hgcd:Nat.gcd v (u % v)=Nat.gcd U V:=by rw [← HG.out.2,Nat.gcd_comm v,← Nat.gcd_rec,Nat.gcd_comm]
        rw [hgcd] at o3
        have hbz:Below w.heap.size w (w7.drewN q8):=below_drawn ((hbw.trans ((Below.refl _ _).drew)).trans hb7) q8
        exact ⟨A9,n9,c9,rfl,o1,o2,o3.more hbz.size,hbz.trans (o4.mono hbz.size)⟩
 · have hcm : decide (cmpN U V < 0) = false := by
     rcases Nat.lt_or_eq_of_le (Nat.not_lt.1 hlt) with h | h
     · rw [cmpN_gt h];rfl
     · rw [cmpN_eq h.symm];rfl
   go_enter Tryz.func118,Tryz.ntmps118
   go_wp2_with (first
    | (go_at_call 103;(with_reducible refine (trim_any la A n c w ha La HN.out.1 hnc).mono ?_);rintro e w' ⟨⟨k,hk,rfl,hka⟩,rfl⟩;rw [HU.out] at hka)
    | (go_at_call 131;(with_reducible refine (fresh_any (limbs B64 U) A k c w hka (by omega)).mono ?_);rintro e w1 ⟨rfl,hown1,hb1⟩)
    | (go_at_call 103;(with_reducible refine (trim_any lb B m d w1 (hb.below hb1) Lb HN.out.2 hmd).mono ?_);rintro e w' ⟨⟨k2,hk2,rfl,hkb⟩,rfl⟩;rw [HV.out] at hkb)
    | (go_at_call 131;(with_reducible refine (fresh_any (limbs B64 V) B k2 d w1 hkb (by omega)).mono ?_);rintro e w2 ⟨rfl,hown2,hb2⟩
       have hown1':=hown1.below hb2 hown1.lt)
    | (go_at_call 95;(refine (cmp_any (limbs B64 U) (limbs B64 V) _ _ k k k2 k2 w2 (hown1'.rd hka.1 (fun j x hx=>by simpa using hx)) (hown2.rd hkb.1 (fun j x hx=>by simpa using hx)) LX LY (by have:=HN.out;omega) (by have:=HN.out;omega) (Nat.le_refl _) (Nat.le_refl _)).mono ?_);rintro e w' ⟨rfl,q,rfl⟩;rw [HC.out]))
   go_loopw [5,6] (fun tx ty wr=>∃ (X:Option Addr) (nx cx:Nat) (Y:Option Addr) (ny cy u v:Nat),tx=.slice X nx cx∧ty=.slice Y ny cy∧GState w wr (Nat.gcd U V) X nx cx Y ny cy u v∧Below w.heap.size w wr) (fun _ ty wr=>rdVal wr ty)
   case atStart =>
    have hz:(w2.drewN q).heap.size=w2.heap.size:=rfl
    refine ⟨some ⟨w.heap.size,0,none⟩,k,k,some ⟨w1.heap.size,0,none⟩,k2,k2,U,V,rfl,rfl,⟨?_,?_,Nat.le_refl _,by have:=HN.out;omega,Nat.le_refl _,by have:=HN.out;omega,by omega,?_,⟨by omega,rfl⟩⟩,?_⟩
    · exact (show Own .u64 74 (w2.drewN q) w.heap.size (limbs B64 U) from hown1').fr (Nat.le_refl _) hka.1 (by have:=HN.out;omega)
    · exact (show Own .u64 74 (w2.drewN q) w1.heap.size (limbs B64 V) from hown2).fr hb1.size hkb.1 (by have:=HN.out;omega)
    · intro a a' h1 h2
      cases h1;cases h2
      exact Nat.ne_of_lt hown1.lt
    · exact below_drawn (hb1.trans (hb2.mono hb1.size)) q
   case round =>
    clear hown1 hown2 hown1' hka hkb hb1 hb2
    obtain ⟨X,nx,cx,Y,ny,cy,u,v,rfl,rfl,⟨fx,fy,e1,e2,e3,e4,e5,e6,HG⟩,hbw⟩:=hrel
    have rx:=fx.rd;have ry:=fy.rd;have HLX:=Lib.hid fx.1;have HLY:=Lib.hid fy.1
    have hnyx:ny≤nx:=by
     have:=length_limbs_mono B64_two HG.out.1
     have:=HLX.out
     have:=HLY.out
     omega
    by_cases hny:1 < ny
    · go_wp2_with fail
      refine (foresee_any (limbs B64 u) (limbs B64 v) X Y nx cx ny cy _ rx ry (lim_limbs B64_two _) (lim_limbs B64_two _) lim_val (by omega) hnyx e5 (by rw [val_limbs B64_two,val_limbs B64_two];exact HG.out.1)).mono ?_
      rintro e wf ⟨⟨u0,v0,u1,v1,ev,rfl,b0,b1,b2,b3,hsteps⟩,hbf⟩
      rw [val_limbs B64_two,val_limbs B64_two] at hsteps
      have hbwf:Below w.heap.size w wf:=hbw.trans (hbf.mono hbw.size)
      by_cases hv0:v0=0
      · subst hv0
        clear hsteps
        have fx1:=fx.below hbf (Nat.le_refl _)
        have fy1:=fy.below hbf (Nat.le_refl _)
        have hbg:Below w.heap.size w (wf.alloc (.cells #[.int .u64 (u0:Int),.int .u64 ((0:Nat):Int),.int .u64 (u1:Int),.int .u64 (v1:Int),.bool ev] tSteps)):=hbwf.alloc hbwf.size _
        have fx2:=fx1.below (B':=wf.heap.size) ((Below.refl _ _).alloc (Nat.le_refl _) (.cells #[.int .u64 (u0:Int),.int .u64 ((0:Nat):Int),.int .u64 (u1:Int),.int .u64 (v1:Int),.bool ev] tSteps)) (Nat.le_refl _)
        have fy2:=fy1.below (B':=wf.heap.size) ((Below.refl _ _).alloc (Nat.le_refl _) (.cells #[.int .u64 (u0:Int),.int .u64 ((0:Nat):Int),.int .u64 (u1:Int),.int .u64 (v1:Int),.bool ev] tSteps)) (Nat.le_refl _)
        have hvne:Hid (val B64 (limbs B64 v) ≠ 0):=by
         show _ ≠ _
         rw [val_limbs B64_two]
         intro h0
         have:=HLY.out
         rw [h0,limbs_zero] at this
         simp at this
         omega
        obtain ⟨gy,rfl,hgy,hgy2⟩:=fy.own (by omega)
        go_wp2_with (first
         | (go_at_call 119
            refine (divmod_any (limbs B64 u) (limbs B64 v) X _ nx cx ny cy _ fx2.rd fy2.rd (lim_limbs B64_two _) (lim_limbs B64_two _) e5 (by omega) e1 e3 hvne.out).mono ?_
            rw [val_limbs B64_two,val_limbs B64_two]
            rintro e w7 ⟨Aq,nq,cq,Ar,nr,cr,rfl,p1,p2,p3,p4,p5,p6,p7⟩))
        go_roundw
        case rel =>
         have hs1:(wf.alloc (.cells #[.int .u64 (u0:Int),.int .u64 ((0:Nat):Int),.int .u64 (u1:Int),.int .u64 (v1:Int),.bool ev] tSteps)).heap.size=wf.heap.size+1:=by simp
         have hs2:=hbf.size
         refine ⟨_,_,_,_,_,_,v,u % v,rfl,rfl,⟨fy2.below p7 (Nat.le_refl _),p6.more hbg.size,e3,e4,p3,p4,by omega,?_,?_⟩,hbg.trans (p7.mono hbg.size)⟩
         · intro a a' h1 h2
           cases h1
           have:=Fr.baseg p6 a' h2
           rw [hs1] at this
           show gy ≠ a'.block
           omega
         · refine ⟨Nat.le_of_lt (Nat.mod_lt _ ?_),?_⟩
           · have:=hvne.out;rw [val_limbs B64_two] at this;omega
           · rw [← HG.out.2,Nat.gcd_comm v,← Nat.gcd_rec,Nat.gcd_comm]
        case measure =>
         rw [rdVal_eq p6.rd,rdVal_eq ry,val_limbs B64_two,val_limbs B64_two]
         refine Nat.mod_lt _ ?_
         have:=hvne.out;rw [val_limbs B64_two] at this;omega
      · have hne0:((v0:Int) != 0)=true:=by simp;omega
        obtain ⟨X',Y',hst⟩:=hsteps hv0
        obtain ⟨gx,rfl,hgx,hgx2⟩:=fx.own (by omega)
        obtain ⟨gy,rfl,hgy,hgy2⟩:=fy.own (by omega)
        have hgne:gx ≠ gy:=e6 _ _ rfl rfl
        have fx1:=fx.below hbf (Nat.le_refl _)
        have fy1:=fy.below hbf (Nat.le_refl _)
        have hbg:Below w.heap.size w (wf.alloc (.cells #[.int .u64 (u0:Int),.int .u64 (v0:Int),.int .u64 (u1:Int),.int .u64 (v1:Int),.bool ev] tSteps)):=hbwf.alloc hbwf.size _
        have fx2:=fx1.below (B':=wf.heap.size) ((Below.refl _ _).alloc (Nat.le_refl _) (.cells #[.int .u64 (u0:Int),.int .u64 (v0:Int),.int .u64 (u1:Int),.int .u64 (v1:Int),.bool ev] tSteps)) (Nat.le_refl _)
        have fy2:=fy1.below (B':=wf.heap.size) ((Below.refl _ _).alloc (Nat.le_refl _) (.cells #[.int .u64 (u0:Int),.int .u64 (v0:Int),.int .u64 (u1:Int),.int .u64 (v1:Int),.bool ev] tSteps)) (Nat.le_refl _)
        have HST:Hid (Y' < X'∧X'≤v∧Nat.gcd X' Y'=Nat.gcd u v):=⟨hst.2.1,hst.2.2.1,hst.2.2.2⟩
        have hst2:Steps (val B64 (limbs B64 u)) (val B64 (limbs B64 v)) u0 v0 u1 v1 ev X' Y':=by rw [val_limbs B64_two,val_limbs B64_two];exact hst
        have HS2:=Lib.hid hst2;clear hst hst2 hsteps
        go_wp2_with (first
         | (go_at_call 140
            refine (apply_any (limbs B64 u) (limbs B64 v) gx gy nx ny cx cy u0 v0 u1 v1 w.heap.size X' Y' ev _ fx2 fy2 hgne hgx hgy hbg.size (lim_limbs B64_two _) (lim_limbs B64_two _) b0 b1 b2 b3 hnyx e5 e1 e3 e2 e4 HS2.out).mono ?_
            rintro e w7 ⟨g1,k1,c1,g2,k2',c2,rfl,q1,q2,q3,q4,q5,q6,q7,q8⟩))
        go_roundw
        case rel =>
         have hl1:k1≤ny:=by
          have h1:=length_limbs_mono B64_two HST.out.2.1;have h2:=q6.1;have h3:=HLY.out
          omega
         exact ⟨_,_,_,_,_,_,X',Y',rfl,rfl,⟨q6,q7,q2,q3,q4,q5,by omega,(fun a a' h1 h2=>by cases h1;cases h2;exact q1),⟨Nat.le_of_lt HST.out.1,by rw [HST.out.2.2];exact HG.out.2⟩⟩,hbg.trans (q8.mono (Nat.le_refl _))⟩
        case measure =>
         rw [rdVal_eq q7.rd,rdVal_eq ry,val_limbs B64_two,val_limbs B64_two]
         have:=HST.out
         omega
    · by_cases hny0:ny=0
      · subst hny0
        obtain rfl:v=0:=fy.len0 rfl
        have HG0:=HG.out.2;rw [Nat.gcd_zero_right] at HG0;have HGG:=Lib.hid HG0;clear HG0
        go_wp2_with fail
        go_ret;rw [← HGG.out]
        exact ⟨_,_,_,rfl,e1,e2,fx,hbw⟩
      · obtain rfl:ny=1:=by omega
        obtain ⟨hvB,hv0,hvl⟩:=fy.len1 rfl
        obtain ⟨gy,rfl,hgy,hgy2⟩:=fy.own (by omega)
        have hcy:wr.cell? ⟨gy,0,none⟩=some (.int .u64 (v:Int)):=by
         obtain ⟨b',o',e0,hc0⟩:=ry.2 (by omega)
         cases e0
         exact hc0 0 v (by rw [hvl];rfl)
        have hcy2:wr.drew.cell? ⟨gy,0,none⟩=some (.int .u64 (v:Int)):=hcy
        have HVL:=Lib.hid hvl
        have hv1:0 < v:=by omega
        have hoff:∀ a,X=some a→a.block ≠ gy:=fun a h=>e6 a _ h rfl
        clear hvl
        go_wp2_with fail
        go_region_held3 (fun w'=>w'.cell? ⟨gy,0,none⟩=some (.int .u64 (v:Int)))
         (first | with_reducible exact hcy | with_reducible exact hcy2 | with_reducible exact hcy3 | with_reducible exact hcy4 | with_reducible exact hcy5)
         (first
          | (go_at_call 142;(refine (byLimb_fr (limbs B64 u) v nx cx w.heap.size X wr.drew (show Fr .u64 74 wr.drew w.heap.size X nx cx (limbs B64 u) from fx) (lim_limbs B64_two _) hv1 hvB (by omega)).mono ?_);rintro e w7 ⟨rfl,_,hb7,hoth7⟩
             rw [val_limbs B64_two]
             have hb7sz:wr.heap.size≤w7.heap.size:=hb7.size
             have hcy3:w7.cell? ⟨gy,0,none⟩=some (.int .u64 (v:Int)):=(World.cell?_of_block (hoth7 gy hoff)).trans hcy2)
          | (go_at_call 141;(refine (limbGcd_any v (u % v) w7 hvB (Nat.lt_trans (Nat.mod_lt _ hv1) hvB)).mono ?_);rintro e w8 ⟨rfl,q8,rfl⟩
             have hcy4:(w7.drewN q8).cell? ⟨gy,0,none⟩=some (.int .u64 (v:Int)):=hcy3)
          | (go_at_call 90;(refine (of_any (Nat.gcd v (u % v)) (Nat.lt_of_le_of_lt (Nat.gcd_le_left _ hv1) hvB) (w7.drewN q8)).mono ?_);rintro e w9 ⟨A9,n9,c9,rfl,o1,o2,o3,o4⟩
             have hcy5:w9.cell? ⟨gy,0,none⟩=some (.int .u64 (v:Int)):=(o4.cell (p:=⟨gy,0,none⟩) (Nat.lt_of_lt_of_le hgy2 hb7sz)).trans hcy4))
        go_wp2
        go_ret
        have hgcd:Nat.gcd v (u % v)=Nat.gcd U V:=by rw [← HG.out.2,Nat.gcd_comm v,← Nat.gcd_rec,Nat.gcd_comm]
        rw [hgcd] at o3
        have hbz:Below w.heap.size w (w7.drewN q8):=below_drawn ((hbw.trans ((Below.refl _ _).drew)).trans hb7) q8
        exact ⟨A9,n9,c9,rfl,o1,o2,o3.more hbz.size,hbz.trans (o4.mono hbz.size)⟩
end
end Go.Proofs.YtlpogecpdfdggaaGreat
