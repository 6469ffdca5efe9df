/- FlatMore: part 2. -/
import Derived.Deep.RegionWith
import Derived.Lib.Strings
import Derived.WalkLawsBesides
import Derived.Test.YtlpogecpdfdggaaGreatKFlatMore0
import Derived.Test.YtlpogecpdfdggaaGreatKFlatMore1
set_option linter.unusedVariables false
set_option maxRecDepth 100000
set_option maxHeartbeats 16000000
variable {w:Go.World}
namespace Go.Proofs.YtlpogecpdfdggaaGreat
section
open Go.RowKit
def H32:Nat:=4294967296
theorem H32_eq:H32=4294967296:=rfl
structure Est (Y Y1 Y0 U u Q q r:Nat):Prop where
 sum:q*Y1+r=U
 ge:Q≤q
 lt:r < H32
structure EstOf (Y Y1 Y0 U u Q:Nat):Prop where
 eY:Y=Y1*H32+Y0
 lY0:Y0 < H32
 lY1:Y1 < H32
 pY1:0 < Y1
 lU:U < Y
 lu:u < H32
 eQ:Q=(U*H32+u) / Y
section
variable {Y Y1 Y0 U u Q q r:Nat}
theorem EstOf.le (h:EstOf Y Y1 Y0 U u Q):Q*Y≤U*H32+u:=by rw [h.eQ];exact Nat.div_mul_le_self _ _
theorem EstOf.max (h:EstOf Y Y1 Y0 U u Q) (hq:q*Y≤U*H32+u):q≤Q:=by
 rw [h.eQ,Nat.le_div_iff_mul_le (by have:=h.eY;have:=h.pY1;have:=Nat.mul_pos h.pY1 (show 0 < H32 by decide);omega)];exact hq
theorem EstOf.start (h:EstOf Y Y1 Y0 U u Q):Est Y Y1 Y0 U u Q (U / Y1) (U % Y1):=by
 refine ⟨by rw [Nat.mul_comm];exact Nat.div_add_mod U Y1,?_,Nat.lt_trans (Nat.mod_lt _ h.pY1) h.lY1⟩
 rw [Nat.le_div_iff_mul_le h.pY1];have h1:=h.le;have h2:=h.lu
 rw [h.eY,Nat.mul_add,← Nat.mul_assoc] at h1
 generalize Q*Y1=a at *
 generalize Q*Y0=b at *
 rw [H32_eq] at *
 omega
theorem EstOf.eq (h:EstOf Y Y1 Y0 U u Q) (e:Est Y Y1 Y0 U u Q q r) (hc:q*Y0≤H32*r+u):q=Q:=by
 have h1:q*Y≤U*H32+u:=by
  rw [h.eY,← e.sum]
  grind
 have:=h.max h1
 have:=e.ge
 omega
theorem EstOf.down (h:EstOf Y Y1 Y0 U u Q) (e:Est Y Y1 Y0 U u Q q r) (hc:H32≤q ∨ H32*r+u < q*Y0):Q+1≤q:=by
 have hge:=e.ge
 rcases Nat.lt_or_eq_of_le hge with h1 | h1
 · exact h1
 · exfalso
   have hle:=h.le;rw [h1] at hle
   rcases hc with hc | hc
   · have h2:=Nat.mul_le_mul_right Y hc
     have h3:=Nat.mul_lt_mul_of_pos_right h.lU (show 0 < H32 by decide)
     have h4:=h.lu;have h5:=h.lU
     have h6:(U+1)*H32≤Y*H32:=Nat.mul_le_mul_right _ h5
     rw [Nat.add_mul] at h6;rw [Nat.mul_comm H32 Y] at h2
     omega
   · rw [h.eY,← e.sum] at hle
     grind
theorem Est.next (e:Est Y Y1 Y0 U u Q q r) (hq:Q+1≤q) (hr:r+Y1 < H32):Est Y Y1 Y0 U u Q (q - 1) (r+Y1):=by
 obtain ⟨p,rfl⟩:∃ p,q=p+1:=⟨q - 1,by omega⟩
 refine ⟨?_,by omega,hr⟩
 have:=e.sum
 rw [Nat.add_sub_cancel]
 grind
theorem EstOf.stop (h:EstOf Y Y1 Y0 U u Q) (e:Est Y Y1 Y0 U u Q q r) (hq:Q+1≤q) (hr:H32≤r+Y1):q - 1=Q:=by
 obtain ⟨p,rfl⟩:∃ p,q=p+1:=⟨q - 1,by omega⟩
 rw [Nat.add_sub_cancel]
 have hs:p*Y1+(r+Y1)=U:=by have:=e.sum;grind
 have hY:=h.eY;have hU:=h.lU;have hY0:=h.lY0
 have hp:p < H32:=by
  have h1:p*Y1 < H32*Y1:=by
   rw [Nat.mul_comm H32];omega
  exact Nat.lt_of_mul_lt_mul_right h1
 have h2:p*Y0≤H32*(r+Y1):=Nat.le_trans (Nat.mul_le_mul (Nat.le_of_lt hp) (Nat.le_of_lt hY0)) (Nat.mul_le_mul_left _ hr)
 have h1:p*Y≤U*H32+u:=by
  rw [hY,← hs]
  grind
 have:=h.max h1
 omega
end
end
section
open Go.RowKit
theorem wrap_mul {q Y0:Nat} (h1:q < 4294967296) (h2:Y0 < 4294967296):IntKind.u64.wrap ((q:Int)*(Y0:Int))=(q:Int)*(Y0:Int):=by
 have h:q*Y0≤4294967295*4294967295:=Nat.mul_le_mul (by omega) (by omega)
 have:=wrap_nat (q*Y0)
 rw [Nat.mod_eq_of_lt (by rw [B64_eq];omega)] at this
 exact this
theorem meas_down {q:Nat} (h:1≤q):(intOf (.int .u64 ((q:Int) - 1))).toNat < (intOf (.int .u64 (q:Int))).toNat:=by
 simp only [intOf];omega
theorem rel_down {Y Y1 Y0 U u Q q r:Nat} (h1:1≤q) (hq:q < 18446744073709551616) (hr:r+Y1 < 4294967296) (h:Hid (Est Y Y1 Y0 U u Q (q - 1) (r+Y1))) :
 ∃ q' r':Nat,Value.int .u64 ((q:Int) - 1)=.int .u64 (q':Int)∧Value.int .u64 ((r:Int)+(Y1:Int))=.int .u64 (r':Int)∧Hid (Est Y Y1 Y0 U u Q q' r')∧q' < 18446744073709551616∧r' < 4294967296∧True :=
 ⟨q - 1,r+Y1,by rw [show ((q - 1:Nat):Int)=(q:Int) - 1 by omega],by rw [Int.natCast_add],h,Nat.lt_of_le_of_lt (Nat.sub_le _ _) hq,hr,trivial⟩
theorem fin_a {a b q:Nat} (h:a*4294967296+b=q∧q < B64):(a:Int)*4294967296+(b:Int)=(q:Int):=by omega
theorem fin_b {a b q:Nat} (h:a*4294967296+b=q∧q < B64):IntKind.u64.wrap ((a:Int)*4294967296+(b:Int))=(q:Int):=by
 rw [fin_a h]
 have:=wrap_nat q
 rwa [Nat.mod_eq_of_lt h.2] at this
theorem fin_c {a b q:Nat} (h:a*4294967296+b=q∧q < B64):IntKind.u64.wrap (IntKind.u64.wrap ((a:Int)*4294967296)+(b:Int))=(q:Int):=by
 have h1:(a:Int)*4294967296=((a*4294967296:Nat):Int):=by omega
 have:=wrap_nat (a*4294967296)
 rw [Nat.mod_eq_of_lt (by omega)] at this
 rw [h1,this,← h1]
 exact fin_b h
theorem int_lt {q Y0 r u:Nat} (hq:q < 4294967296) (h:¬ (q < 4294967296∧q*Y0≤4294967296*r+u)):(4294967296:Int)*(r:Int)+(u:Int) < (q:Int)*(Y0:Int):=by
 have h1:4294967296*r+u < q*Y0:=by
  rcases Nat.lt_or_ge (4294967296*r+u) (q*Y0) with h1 | h1
  · exact h1
  · exact absurd ⟨hq,h1⟩ h
 have h2:=Int.ofNat_lt.2 h1
 rw [Int.natCast_add,Int.natCast_mul,Int.natCast_mul] at h2
 exact h2
theorem int_not_lt {q Y0 r u:Nat} (h:q*Y0≤4294967296*r+u):¬ (4294967296:Int)*(r:Int)+(u:Int) < (q:Int)*(Y0:Int):=by
 have h1:=Int.ofNat_le.2 h
 rw [Int.natCast_add,Int.natCast_mul,Int.natCast_mul] at h1
 exact Int.not_lt.2 h1
theorem est_or {q Y0 r u:Nat} (h:¬ (q < 4294967296∧q*Y0≤4294967296*r+u)):H32≤q ∨ H32*r+u < q*Y0:=by
 rw [H32_eq]
 by_cases hq:q < 4294967296
 · right
   rcases Nat.lt_or_ge (4294967296*r+u) (q*Y0) with h1 | h1
   · exact h1
   · exact absurd ⟨hq,h1⟩ h
 · left;omega
theorem div64_core (hi lo y s Y Y1 Y0 L l1 l0 U Q1 R1 Q0 R0 quo rem p1 r1 p2 r2:Nat) (w:World) (hy:hi < y) (hyB:y < B64) (hhi:0 < hi) (hs:64 - bl y=s) (hs64:s < 64)
 (E1:Hid (EstOf Y Y1 Y0 U l1 Q1)) (E2:Hid (EstOf Y Y1 Y0 R1 l0 Q0)) (bY1:1≤Y1) (bY1':Y1 < 4294967296) (bY0:Y0 < 4294967296) (bl1:l1 < 4294967296) (bl0:l0 < 4294967296)
 (e1:IntKind.u64.wrap ((y:Int)*2 ^ s)=(Y:Int)) (e2:(Y:Int) / 4294967296=(Y1:Int)) (e3:bits .and .u64 (Y:Int) 4294967295=(Y0:Int))
 (e4:bits .or .u64 (IntKind.u64.wrap ((hi:Int)*2 ^ s)) ((lo:Int) / 2 ^ (64 - s))=(U:Int)) (e5:IntKind.u64.wrap ((lo:Int)*2 ^ s)=(L:Int))
 (e6:(L:Int) / 4294967296=(l1:Int)) (e7:bits .and .u64 (L:Int) 4294967295=(l0:Int))
 (e8:IntKind.u64.wrap (IntKind.u64.wrap (IntKind.u64.wrap ((U:Int)*4294967296)+(l1:Int)) - IntKind.u64.wrap ((Q1:Int)*(Y:Int)))=(R1:Int))
 (e9:Hid (Q1*4294967296+Q0=quo∧quo < B64))
 (e10:IntKind.u64.wrap (IntKind.u64.wrap (IntKind.u64.wrap ((R1:Int)*4294967296)+(l0:Int)) - IntKind.u64.wrap ((Q0:Int)*(Y:Int)))=(R0:Int))
 (e11:(R0:Int) / 2 ^ s=(rem:Int))
 (e12:IntKind.u64.wrap ((U:Int) / (Y1:Int))=(p1:Int)) (e13:IntKind.u64.wrap ((U:Int) - IntKind.u64.wrap ((p1:Int)*(Y1:Int)))=(r1:Int))
 (e14:IntKind.u64.wrap ((R1:Int) / (Y1:Int))=(p2:Int)) (e15:IntKind.u64.wrap ((R1:Int) - IntKind.u64.wrap ((p2:Int)*(Y1:Int)))=(r2:Int))
 (S1:Hid (Est Y Y1 Y0 U l1 Q1 p1 r1)) (S2:Hid (Est Y Y1 Y0 R1 l0 Q0 p2 r2)) (bp1:p1 < 18446744073709551616) (bp2:p2 < 18446744073709551616) (br1:r1 < 4294967296) (br2:r2 < 4294967296) :
 Calls Tryz.prog 155 #[.int .u64 (hi:Int),.int .u64 (lo:Int),.int .u64 (y:Int)] w fun e w'=>e=.returned (.tuple #[.int .u64 (quo:Int),.int .u64 (rem:Int)])∧w=w':=by
 have HS:=Lib.hid hs;clear hs
 have h0:((y:Int) == 0)=false:=by simp;omega
 have h1:((hi:Int) == 0)=false:=by simp;omega
 have hy':¬ (y:Int)≤(hi:Int):=by omega
 go_enter Tryz.func155,Tryz.ntmps155
 go_wp2_with (go_at_call 156;refine (lz64_any y hyB w).mono ?_;rintro e w' ⟨rfl,rfl⟩;rw [HS.out])
 go_loopw [15,16] (fun a b wr=>∃ q r:Nat,a=.int .u64 (q:Int)∧b=.int .u64 (r:Int)∧Hid (Est Y Y1 Y0 U l1 Q1 q r)∧q < 18446744073709551616∧r < 4294967296∧w=wr) (fun a _ _=>(intOf a).toNat)
 case atStart=>exact ⟨p1,r1,rfl,rfl,S1,bp1,br1,rfl⟩
 case round =>
  obtain ⟨q,r,rfl,rfl,HE,hq,hr,rfl⟩:=hrel
  by_cases hstop:q < 4294967296∧q*Y0≤4294967296*r+l1
  · obtain ⟨c1,c2⟩:=hstop
    obtain rfl:q=Q1:=E1.out.eq HE.out c2
    have hw:IntKind.u64.wrap ((q:Int)*(Y0:Int))=(q:Int)*(Y0:Int):=wrap_mul c1 bY0
    have c1':¬ (4294967296:Int)≤(q:Int):=by omega
    have c2':¬ (4294967296:Int)*(r:Int)+(l1:Int) < (q:Int)*(Y0:Int):=int_not_lt c2
    clear c2
    go_wp2_with fail
    clear HE hq hr S1 bp1 br1 e13 e12
    go_loopw [16,18] (fun b a wr=>∃ q r:Nat,a=.int .u64 (q:Int)∧b=.int .u64 (r:Int)∧Hid (Est Y Y1 Y0 R1 l0 Q0 q r)∧q < 18446744073709551616∧r < 4294967296∧w=wr) (fun _ a _=>(intOf a).toNat)
    case atStart=>exact ⟨p2,r2,rfl,rfl,S2,bp2,br2,rfl⟩
    case round =>
     obtain ⟨q,r,rfl,rfl,HE,hq,hr,rfl⟩:=hrel
     by_cases hstop:q < 4294967296∧q*Y0≤4294967296*r+l0
     · obtain ⟨c1,c2⟩:=hstop
       obtain rfl:q=Q0:=E2.out.eq HE.out c2
       have hw:IntKind.u64.wrap ((q:Int)*(Y0:Int))=(q:Int)*(Y0:Int):=wrap_mul c1 bY0
       have c1':¬ (4294967296:Int)≤(q:Int):=by omega
       have c2':¬ (4294967296:Int)*(r:Int)+(l0:Int) < (q:Int)*(Y0:Int):=int_not_lt c2
       clear c2
       go_wp2_with fail
       go_ret2
       exact ⟨ret_two (by first | exact fin_a e9.out | exact fin_b e9.out | exact fin_c e9.out) rfl,rfl⟩
     · have hdn:Q0+1≤q:=E2.out.down HE.out (est_or hstop)
       have hq1:1≤q:=by omega
       by_cases c3:r+Y1 < 4294967296
       · have HN:=Lib.hid (HE.out.next hdn c3);have C3:=Lib.hid c3;have c3i:¬ (4294967296:Int)≤(r:Int)+(Y1:Int):=(by omega);clear c3
         by_cases c1:(4294967296:Int)≤(q:Int)
         · clear hstop
           go_wp2_with fail
           go_roundw
           case rel=>exact rel_down hq1 hq C3.out HN
           case measure=>exact meas_down hq1
         · have hw:IntKind.u64.wrap ((q:Int)*(Y0:Int))=(q:Int)*(Y0:Int):=wrap_mul (by omega) bY0
           have c2':(4294967296:Int)*(r:Int)+(l0:Int) < (q:Int)*(Y0:Int):=int_lt (by omega) hstop
           clear hstop
           go_wp2_with fail
           go_roundw
           case rel=>exact rel_down hq1 hq C3.out HN
           case measure=>exact meas_down hq1
       · have hQ:(q:Int) - 1=(Q0:Int):=by have:=E2.out.stop HE.out hdn (by rw [H32_eq];omega);omega
         have c3':(4294967296:Int)≤(r:Int)+(Y1:Int):=by omega
         by_cases c1:(4294967296:Int)≤(q:Int)
         · clear hstop c3
           go_wp2_with fail
           go_ret2
           exact ⟨ret_two (by first | exact fin_a e9.out | exact fin_b e9.out | exact fin_c e9.out) rfl,rfl⟩
         · have hw:IntKind.u64.wrap ((q:Int)*(Y0:Int))=(q:Int)*(Y0:Int):=wrap_mul (by omega) bY0
           have c2':(4294967296:Int)*(r:Int)+(l0:Int) < (q:Int)*(Y0:Int):=int_lt (by omega) hstop
           clear hstop c3
           go_wp2_with fail
           go_ret2
           exact ⟨ret_two (by first | exact fin_a e9.out | exact fin_b e9.out | exact fin_c e9.out) rfl,rfl⟩
  · have hdn:Q1+1≤q:=E1.out.down HE.out (est_or hstop)
    have hq1:1≤q:=by omega
    by_cases c3:r+Y1 < 4294967296
    · have HN:=Lib.hid (HE.out.next hdn c3);have C3:=Lib.hid c3;have c3i:¬ (4294967296:Int)≤(r:Int)+(Y1:Int):=(by omega);clear c3
      by_cases c1:(4294967296:Int)≤(q:Int)
      · clear hstop
        go_wp2_with fail
        go_roundw
        case rel=>exact rel_down hq1 hq C3.out HN
        case measure=>exact meas_down hq1
      · have hw:IntKind.u64.wrap ((q:Int)*(Y0:Int))=(q:Int)*(Y0:Int):=wrap_mul (by omega) bY0
        have c2':(4294967296:Int)*(r:Int)+(l1:Int) < (q:Int)*(Y0:Int):=int_lt (by omega) hstop
        clear hstop
        go_wp2_with fail
        go_roundw
        case rel=>exact rel_down hq1 hq C3.out HN
        case measure=>exact meas_down hq1
    · have hQ:(q:Int) - 1=(Q1:Int):=by have:=E1.out.stop HE.out hdn (by rw [H32_eq];omega);omega
      have c3':(4294967296:Int)≤(r:Int)+(Y1:Int):=by omega
      by_cases c1:(4294967296:Int)≤(q:Int)
      · clear hstop c3
        go_wp2_with fail
        clear HE hq hr S1 bp1 br1 e13 e12
        go_loopw [16,18] (fun b a wr=>∃ q r:Nat,a=.int .u64 (q:Int)∧b=.int .u64 (r:Int)∧Hid (Est Y Y1 Y0 R1 l0 Q0 q r)∧q < 18446744073709551616∧r < 4294967296∧w=wr) (fun _ a _=>(intOf a).toNat)
        case atStart=>exact ⟨p2,r2,rfl,rfl,S2,bp2,br2,rfl⟩
        case round =>
         obtain ⟨q,r,rfl,rfl,HE,hq,hr,rfl⟩:=hrel
         by_cases hstop:q < 4294967296∧q*Y0≤4294967296*r+l0
         · obtain ⟨c1,c2⟩:=hstop
           obtain rfl:q=Q0:=E2.out.eq HE.out c2
           have hw:IntKind.u64.wrap ((q:Int)*(Y0:Int))=(q:Int)*(Y0:Int):=wrap_mul c1 bY0
           have c1':¬ (4294967296:Int)≤(q:Int):=by omega
           have c2':¬ (4294967296:Int)*(r:Int)+(l0:Int) < (q:Int)*(Y0:Int):=int_not_lt c2
           clear c2
           go_wp2_with fail
           go_ret2
           exact ⟨ret_two (by first | exact fin_a e9.out | exact fin_b e9.out | exact fin_c e9.out) rfl,rfl⟩
         · have hdn:Q0+1≤q:=E2.out.down HE.out (est_or hstop)
           have hq1:1≤q:=by omega
           by_cases c3:r+Y1 < 4294967296
           · have HN:=Lib.hid (HE.out.next hdn c3);have C3:=Lib.hid c3;have c3i:¬ (4294967296:Int)≤(r:Int)+(Y1:Int):=(by omega);clear c3
             by_cases c1:(4294967296:Int)≤(q:Int)
             · clear hstop
               go_wp2_with fail
               go_roundw
               case rel=>exact rel_down hq1 hq C3.out HN
               case measure=>exact meas_down hq1
             · have hw:IntKind.u64.wrap ((q:Int)*(Y0:Int))=(q:Int)*(Y0:Int):=wrap_mul (by omega) bY0
               have c2':(4294967296:Int)*(r:Int)+(l0:Int) < (q:Int)*(Y0:Int):=int_lt (by omega) hstop
               clear hstop
               go_wp2_with fail
               go_roundw
               case rel=>exact rel_down hq1 hq C3.out HN
               case measure=>exact meas_down hq1
           · have hQ:(q:Int) - 1=(Q0:Int):=by have:=E2.out.stop HE.out hdn (by rw [H32_eq];omega);omega
             have c3':(4294967296:Int)≤(r:Int)+(Y1:Int):=by omega
             by_cases c1:(4294967296:Int)≤(q:Int)
             · clear hstop c3
               go_wp2_with fail
               go_ret2
               exact ⟨ret_two (by first | exact fin_a e9.out | exact fin_b e9.out | exact fin_c e9.out) rfl,rfl⟩
             · have hw:IntKind.u64.wrap ((q:Int)*(Y0:Int))=(q:Int)*(Y0:Int):=wrap_mul (by omega) bY0
               have c2':(4294967296:Int)*(r:Int)+(l0:Int) < (q:Int)*(Y0:Int):=int_lt (by omega) hstop
               clear hstop c3
               go_wp2_with fail
               go_ret2
               exact ⟨ret_two (by first | exact fin_a e9.out | exact fin_b e9.out | exact fin_c e9.out) rfl,rfl⟩
      · have hw:IntKind.u64.wrap ((q:Int)*(Y0:Int))=(q:Int)*(Y0:Int):=wrap_mul (by omega) bY0
        have c2':(4294967296:Int)*(r:Int)+(l1:Int) < (q:Int)*(Y0:Int):=int_lt (by omega) hstop
        clear hstop c3
        go_wp2_with fail
        clear HE hq hr S1 bp1 br1 e13 e12
        go_loopw [16,18] (fun b a wr=>∃ q r:Nat,a=.int .u64 (q:Int)∧b=.int .u64 (r:Int)∧Hid (Est Y Y1 Y0 R1 l0 Q0 q r)∧q < 18446744073709551616∧r < 4294967296∧w=wr) (fun _ a _=>(intOf a).toNat)
        case atStart=>exact ⟨p2,r2,rfl,rfl,S2,bp2,br2,rfl⟩
        case round =>
         obtain ⟨q,r,rfl,rfl,HE,hq,hr,rfl⟩:=hrel
         by_cases hstop:q < 4294967296∧q*Y0≤4294967296*r+l0
         · obtain ⟨c1,c2⟩:=hstop
           obtain rfl:q=Q0:=E2.out.eq HE.out c2
           have hw:IntKind.u64.wrap ((q:Int)*(Y0:Int))=(q:Int)*(Y0:Int):=wrap_mul c1 bY0
           have c1':¬ (4294967296:Int)≤(q:Int):=by omega
           have c2':¬ (4294967296:Int)*(r:Int)+(l0:Int) < (q:Int)*(Y0:Int):=int_not_lt c2
           clear c2
           go_wp2_with fail
           go_ret2
           exact ⟨ret_two (by first | exact fin_a e9.out | exact fin_b e9.out | exact fin_c e9.out) rfl,rfl⟩
         · have hdn:Q0+1≤q:=E2.out.down HE.out (est_or hstop)
           have hq1:1≤q:=by omega
           by_cases c3:r+Y1 < 4294967296
           · have HN:=Lib.hid (HE.out.next hdn c3);have C3:=Lib.hid c3;have c3i:¬ (4294967296:Int)≤(r:Int)+(Y1:Int):=(by omega);clear c3
             by_cases c1:(4294967296:Int)≤(q:Int)
             · clear hstop
               go_wp2_with fail
               go_roundw
               case rel=>exact rel_down hq1 hq C3.out HN
               case measure=>exact meas_down hq1
             · have hw:IntKind.u64.wrap ((q:Int)*(Y0:Int))=(q:Int)*(Y0:Int):=wrap_mul (by omega) bY0
               have c2':(4294967296:Int)*(r:Int)+(l0:Int) < (q:Int)*(Y0:Int):=int_lt (by omega) hstop
               clear hstop
               go_wp2_with fail
               go_roundw
               case rel=>exact rel_down hq1 hq C3.out HN
               case measure=>exact meas_down hq1
           · have hQ:(q:Int) - 1=(Q0:Int):=by have:=E2.out.stop HE.out hdn (by rw [H32_eq];omega);omega
             have c3':(4294967296:Int)≤(r:Int)+(Y1:Int):=by omega
             by_cases c1:(4294967296:Int)≤(q:Int)
             · clear hstop c3
               go_wp2_with fail
               go_ret2
               exact ⟨ret_two (by first | exact fin_a e9.out | exact fin_b e9.out | exact fin_c e9.out) rfl,rfl⟩
             · have hw:IntKind.u64.wrap ((q:Int)*(Y0:Int))=(q:Int)*(Y0:Int):=wrap_mul (by omega) bY0
               have c2':(4294967296:Int)*(r:Int)+(l0:Int) < (q:Int)*(Y0:Int):=int_lt (by omega) hstop
               clear hstop c3
               go_wp2_with fail
               go_ret2
               exact ⟨ret_two (by first | exact fin_a e9.out | exact fin_b e9.out | exact fin_c e9.out) rfl,rfl⟩
end
section
open Go.RowKit
theorem and_low (x:Nat) (hx:x < B64):bits .and .u64 (x:Int) 4294967295=((x % 4294967296:Nat):Int):=by
 have:=u64_and_nat x 4294967295 (by rw [← B64_eq];exact hx) (by omega)
 rw [show (4294967295:Int)=((4294967295:Nat):Int) from rfl,this,show (4294967295:Nat)=2 ^ 32 - 1 from rfl,Nat.and_two_pow_sub_one_eq_mod]
theorem wrap_small (n:Nat) (h:n < B64):IntKind.u64.wrap (n:Int)=(n:Int):=by
 have:=wrap_nat n
 rwa [Nat.mod_eq_of_lt h] at this
theorem e_rest {U l1 Q Y R:Nat} (h:U*4294967296+l1=Q*Y+R) (hR:R < B64) :
 IntKind.u64.wrap (IntKind.u64.wrap (IntKind.u64.wrap ((U:Int)*4294967296)+(l1:Int)) - IntKind.u64.wrap ((Q:Int)*(Y:Int)))=(R:Int):=by
 simp only [IntKind.wrap_u64]
 have h1:(U:Int)*4294967296+(l1:Int)=(Q:Int)*(Y:Int)+(R:Int):=by
  have:=congrArg (fun n:Nat=>(n:Int)) h
  simp only [Int.natCast_add,Int.natCast_mul] at this
  exact this
 rw [B64_eq] at hR
 generalize (Q:Int)*(Y:Int)=p at *
 omega
theorem e_quo {U Y1:Nat} (hU:U < B64):IntKind.u64.wrap ((U:Int) / (Y1:Int))=((U / Y1:Nat):Int):=by
 rw [← Int.natCast_ediv]
 exact wrap_small _ (Nat.lt_of_le_of_lt (Nat.div_le_self _ _) hU)
theorem e_rem {U Y1:Nat} (hU:U < B64):IntKind.u64.wrap ((U:Int) - IntKind.u64.wrap (((U / Y1:Nat):Int)*(Y1:Int)))=((U % Y1:Nat):Int):=by
 have h1:U / Y1*Y1≤U:=Nat.div_mul_le_self _ _
 have h2:=Nat.div_add_mod U Y1;rw [Nat.mul_comm] at h2
 rw [← Int.natCast_mul,wrap_small _ (by omega)]
 rw [show (U:Int) - ((U / Y1*Y1:Nat):Int)=((U % Y1:Nat):Int) by omega]
 exact wrap_small _ (by omega)
theorem div_halves {N y s Y U L l1 l0 H Q1 R1 Q0 R0:Nat} (hy:Y=y*2 ^ s) (hB:B64=H*H) (hL:L=l1*H+l0) (hN:N*2 ^ s=U*B64+L) (h1:U*H+l1=Q1*Y+R1) (h0:R1*H+l0=Q0*Y+R0) (hR:R0 < Y) :
 N / y=Q1*H+Q0∧N % y=R0 / 2 ^ s:=by
 have hp:=Nat.two_pow_pos s
 have hT:N*2 ^ s=(Q1*H+Q0)*Y+R0:=by
  rw [hN,hB,hL]
  have:U*(H*H)+(l1*H+l0)=(U*H+l1)*H+l0:=by grind
  rw [this,h1]
  grind
 generalize Q1*H+Q0=q at *
 have hT2:N*2 ^ s=q*y*2 ^ s+R0:=by rw [hT,hy,Nat.mul_assoc]
 have hle:q*y≤N:=by
  rcases Nat.lt_or_ge N (q*y) with h | h
  · have:=Nat.mul_lt_mul_of_pos_right h hp;omega
  · exact h
 have hR0:R0=(N - q*y)*2 ^ s:=by rw [Nat.sub_mul];omega
 have hlt:N - q*y < y:=by
  rw [hR0,hy] at hR
  exact Nat.lt_of_mul_lt_mul_right hR
 have e:N=q*y+(N - q*y):=by omega
 have hy0:0 < y:=by omega
 constructor
 · rw [e,Nat.mul_comm q y,Nat.mul_add_div hy0,Nat.div_eq_of_lt (by rw [Nat.mul_comm y q];exact hlt)];omega
 · rw [hR0,Nat.mul_div_cancel _ hp]
   conv=>lhs;rw [e]
   rw [Nat.mul_comm q y,Nat.mul_add_mod,Nat.mod_eq_of_lt (by rw [Nat.mul_comm y q];exact hlt)]
theorem div64_big (hi lo y:Nat) (w:World) (hy:hi < y) (hyB:y < B64) (hlo:lo < B64) (hhi:0 < hi) :
 Calls Tryz.prog 155 #[.int .u64 (hi:Int),.int .u64 (lo:Int),.int .u64 (y:Int)] w fun e w'=>e=.returned (.tuple #[.int .u64 (((hi*B64+lo) / y:Nat):Int),.int .u64 (((hi*B64+lo) % y:Nat):Int)])∧w=w':=by
 have hb1:0 < bl y:=bl_pos (by omega)
 have hb64:bl y≤64:=bl_le hyB
 obtain ⟨s,hs⟩:∃ s,64 - bl y=s:=⟨_,rfl⟩
 have hs64:s < 64:=by omega
 have hsl:s≤64:=by omega
 have hY1:y*2 ^ s < B64:=by
  have:=Nat.mul_lt_mul_of_pos_right (lt_bl y) (Nat.two_pow_pos s)
  rw [← Nat.pow_add,show bl y+s=64 by omega] at this
  exact this
 have hY2:2 ^ 63≤y*2 ^ s:=by
  have:=Nat.mul_le_mul_right (2 ^ s) (le_of_bl (n:=y) (k:=bl y - 1) (by omega))
  rw [← Nat.pow_add,show bl y - 1+s=63 by omega] at this
  exact this
 have hhi2:hi*2 ^ s+2 ^ s≤y*2 ^ s:=by
  have:=Nat.mul_le_mul_right (2 ^ s) hy
  rw [Nat.succ_mul] at this
  exact this
 have hlow:=shr_lt (s:=s) hsl hlo
 have hLB:lo*2 ^ s % B64 < B64:=Nat.mod_lt _ (by decide)
 obtain ⟨Y,hY⟩:∃ Y,Y=y*2 ^ s:=⟨_,rfl⟩
 obtain ⟨U,hU⟩:∃ U,U=hi*2 ^ s+lo / 2 ^ (64 - s):=⟨_,rfl⟩
 obtain ⟨L,hL⟩:∃ L,L=lo*2 ^ s % B64:=⟨_,rfl⟩
 have hUY:U < Y:=by omega
 have hYB:Y < B64:=by omega
 rw [← hY] at hY2
 have hUB:U < B64:=by omega
 have hLt:L < B64:=by omega
 have hY63:9223372036854775808≤Y:=hY2
 have bY1:2147483648≤Y / 4294967296:=by omega
 have hYB':Y < 18446744073709551616:=by rw [← B64_eq];exact hYB
 have hLt':L < 18446744073709551616:=by rw [← B64_eq];exact hLt
 have h1:=Nat.div_add_mod (U*4294967296+L / 4294967296) Y
 have h1l:=Nat.mod_lt (U*4294967296+L / 4294967296) (show 0 < Y by omega)
 obtain ⟨Q1,hQ1⟩:∃ Q,Q=(U*4294967296+L / 4294967296) / Y:=⟨_,rfl⟩
 obtain ⟨R1,hR1⟩:∃ Q,Q=(U*4294967296+L / 4294967296) % Y:=⟨_,rfl⟩
 rw [← hQ1,← hR1,Nat.mul_comm Y] at h1
 rw [← hR1] at h1l
 have h0:=Nat.div_add_mod (R1*4294967296+L % 4294967296) Y
 have h0l:=Nat.mod_lt (R1*4294967296+L % 4294967296) (show 0 < Y by omega)
 obtain ⟨Q0,hQ0⟩:∃ Q,Q=(R1*4294967296+L % 4294967296) / Y:=⟨_,rfl⟩
 obtain ⟨R0,hR0⟩:∃ Q,Q=(R1*4294967296+L % 4294967296) % Y:=⟨_,rfl⟩
 rw [← hQ0,← hR0,Nat.mul_comm Y] at h0
 rw [← hR0] at h0l
 have hT:(hi*B64+lo)*2 ^ s=U*B64+L:=by
  have:=shl_parts hsl lo
  rw [← hL] at this
  rw [Nat.add_mul,this,hU]
  grind
 obtain ⟨hq,hr⟩:=div_halves (H:=4294967296) (l1:=L / 4294967296) (l0:=L % 4294967296) hY rfl (by omega) hT h1.symm h0.symm h0l
 have hqB:Q1*4294967296+Q0 < B64:=by
  rw [← hq,Nat.div_lt_iff_lt_mul (by omega)]
  have h2:(hi+1)*B64≤y*B64:=Nat.mul_le_mul_right _ hy
  rw [Nat.succ_mul] at h2;rw [Nat.mul_comm B64 y]
  omega
 have hR1B:R1 < B64:=by omega
 have hR0B:R0 < B64:=by omega
 have E1:EstOf Y (Y / 4294967296) (Y % 4294967296) U (L / 4294967296) Q1:=⟨by rw [H32_eq];omega,by rw [H32_eq];omega,by rw [H32_eq];omega,by omega,hUY,by rw [H32_eq];omega,by rw [H32_eq];exact hQ1⟩
 have E2:EstOf Y (Y / 4294967296) (Y % 4294967296) R1 (L % 4294967296) Q0:=⟨by rw [H32_eq];omega,by rw [H32_eq];omega,by rw [H32_eq];omega,by omega,h1l,by rw [H32_eq];omega,by rw [H32_eq];exact hQ0⟩
 rw [hq,hr]
 refine div64_core hi lo y s Y (Y / 4294967296) (Y % 4294967296) L (L / 4294967296) (L % 4294967296) U Q1 R1 Q0 R0 _ _ (U / (Y / 4294967296)) (U % (Y / 4294967296)) (R1 / (Y / 4294967296)) (R1 % (Y / 4294967296)) w hy hyB hhi hs hs64
  E1 E2 (by omega) (by omega) (by omega) (by omega) (by omega) ?_ (by omega) (and_low Y hYB) ?_ ?_ (by omega) (and_low L hLt) (e_rest h1.symm hR1B) ⟨rfl,hqB⟩ (e_rest h0.symm hR0B) ?_
  (e_quo hUB) (e_rem hUB) (e_quo hR1B) (e_rem hR1B) E1.start E2.start ?_ ?_ ?_ ?_
 · rw [shl_wrap,← hY,Nat.mod_eq_of_lt hYB]
 · rw [shr_nat,or_up hsl hi hlow,Nat.mod_eq_of_lt (by have:=Nat.two_pow_pos s;omega),hU]
 · rw [shl_wrap,hL]
 · exact shr_nat _ _
 · rw [← B64_eq];exact Nat.lt_of_le_of_lt (Nat.div_le_self _ _) hUB
 · rw [← B64_eq];exact Nat.lt_of_le_of_lt (Nat.div_le_self _ _) hR1B
 · have:=Nat.mod_lt U (show 0 < Y / 4294967296 by omega);omega
 · have:=Nat.mod_lt R1 (show 0 < Y / 4294967296 by omega);omega
end
section
open Go.RowKit
theorem div64_zero (lo y:Nat) (w:World) (hy:0 < y) (hlo:lo < B64) :
 Calls Tryz.prog 155 #[.int .u64 0,.int .u64 (lo:Int),.int .u64 (y:Int)] w fun e w'=>e=.returned (.tuple #[.int .u64 ((lo / y:Nat):Int),.int .u64 ((lo % y:Nat):Int)])∧∃ q,w'=w.drewN q:=by
 have h0:((y:Int) == 0)=false:=by simp;omega
 have hy':¬ (y:Int)≤0:=by omega
 go_enter Tryz.func155,Tryz.ntmps155
 go_wp2_with fail
 go_quiet (fail)
 go_wp2_with fail
 go_ret2
 exact ⟨ret_two (e_quo hlo) (by rw [Int.natCast_emod]),nq,rfl⟩
def dQuo (hi lo y:Nat):Nat:=(hi*B64+lo) / y
def dRem (hi lo y:Nat):Nat:=(hi*B64+lo) % y
theorem div64_any (hi lo y:Nat) (w:World) (hy:hi < y) (hyB:y < B64) (hlo:lo < B64) :
 Calls Tryz.prog 155 #[.int .u64 (hi:Int),.int .u64 (lo:Int),.int .u64 (y:Int)] w fun e w'=>e=.returned (.tuple #[.int .u64 (dQuo hi lo y:Nat),.int .u64 (dRem hi lo y:Nat)])∧∃ q,w'=w.drewN q:=by
 unfold dQuo dRem
 by_cases h:0 < hi
 · exact (div64_big hi lo y w hy hyB hlo h).mono fun e w' ⟨he,hw⟩=>⟨he,0,hw.symm⟩
 · obtain rfl:hi=0:=by omega
   rw [Nat.zero_mul,Nat.zero_add]
   exact div64_zero lo y w (by omega) hlo
theorem dQuo_lt {hi lo y:Nat} (hy:hi < y) (hlo:lo < B64):dQuo hi lo y < B64:=by
 unfold dQuo
 rw [Nat.div_lt_iff_lt_mul (by omega)]
 have:(hi+1)*B64≤y*B64:=Nat.mul_le_mul_right _ hy
 rw [Nat.succ_mul] at this
 rw [Nat.mul_comm B64 y];omega
theorem dRem_lt {hi lo y:Nat} (hy:hi < y):dRem hi lo y < y:=Nat.mod_lt _ (by omega)
theorem byLimb_step {D q r x y:Nat} (h1:q=D / y) (h2:r=D % y) (hy:0 < y):dQuo r x y+B64*q=(x+B64*D) / y∧dRem r x y=(x+B64*D) % y:=by
 have e:x+B64*D=y*(B64*q)+(r*B64+x):=by
  have:=Nat.div_add_mod D y
  rw [← h1,← h2] at this
  rw [← this]
  grind
 unfold dQuo dRem
 rw [e,Nat.mul_add_div hy,Nat.mul_add_mod]
 exact ⟨Nat.add_comm _ _,rfl⟩
theorem byLimb_any (seg post:List Nat) (v g n c:Nat) (w:World) (hz:Own .u64 74 w g (seg ++ post)) (hn:seg.length=n) (Lz:Lim B64 seg) (hv:0 < v) (hvB:v < B64) (hm:n≤maxLen) :
 Calls Tryz.prog 142 #[.slice (some ⟨g,0,none⟩) n c,.int .u64 (v:Int)] w fun e w' =>
  e=.returned (.int .u64 ((val B64 seg % v:Nat):Int))∧(∃ Q,Q.length=n∧Lim B64 Q∧val B64 Q=val B64 seg / v∧Own .u64 74 w' g (Q ++ post))∧Only g w w':=by
 have HS:=Lib.hid hn;clear hn
 unfold maxLen at hm
 go_enter Tryz.func142,Tryz.ntmps142
 go_wp2_with fail
 go_loopw [4,5] (fun b i wr=>∃ (j:Nat) (Q:List Nat) (r:Nat),j≤n∧r < v∧i=.int .i64 ((j:Int) - 1)∧b=.int .u64 (r:Int)∧Own .u64 74 wr g (seg.take j ++ (Q ++ post))∧Only g w wr ∧
  Hid (Q.length+j=n∧Lim B64 Q∧val B64 Q=val B64 (seg.drop j) / v∧r=val B64 (seg.drop j) % v)) (fun _ i _=>(intOf i+1).toNat)
 case atStart =>
  refine ⟨n,[],0,Nat.le_refl _,hv,by go_num,rfl,?_,Only.refl _ _,by simp,Lim.nil,?_,?_⟩
  · rw [List.take_of_length_le (by have:=HS.out;omega)];exact hz
  · rw [List.drop_of_length_le (by have:=HS.out;omega)];simp
  · rw [List.drop_of_length_le (by have:=HS.out;omega)];simp
 case round =>
  obtain ⟨j,Q,r,hj,hr,rfl,rfl,hown,hon,HV⟩:=hrel
  by_cases hj0:0 < j
  · have hks:j - 1 < seg.length:=by have:=HS.out;omega
    obtain ⟨x,hx⟩:∃ x,seg[j - 1]?=some x:=⟨_,List.getElem?_eq_getElem hks⟩
    have ht:seg.take j=seg.take (j - 1) ++ [x]:=by
     have:=List.take_succ_eq_append_getElem hks
     rw [show j - 1+1=j by omega] at this
     rw [this,(List.getElem?_eq_some_iff.1 hx).2]
    have hl:(seg.take (j - 1)).length=j - 1:=by rw [List.length_take];omega
    have hown2:Own .u64 74 wr g (seg.take (j - 1) ++ (x :: (Q ++ post))):=by
     rw [ht,List.append_assoc] at hown;exact hown
    have hcz:=hown2.cell_len hl
    have hfz:=Own.frozen hown2 (j - 1)
    have HX:=Lib.hid hx;have HL:=Lib.hid hl;clear hown hks hx ht hl
    go_wp2_with (go_at_call 155;(with_reducible refine (div64_any r x v _ hr hvB (Lz.get HX.out)).mono ?_);rintro e w' ⟨rfl,q,rfl⟩)
    go_roundw
    case rel =>
     obtain ⟨h1,h2,h3,h4⟩:=HV.out
     obtain ⟨s1,s2⟩:=byLimb_step (x:=x) h3 h4 hv
     have hd:val B64 (seg.drop (j - 1))=x+B64*val B64 (seg.drop j):=by
      have hks:j - 1 < seg.length:=(List.getElem?_eq_some_iff.1 HX.out).1
      rw [List.drop_eq_getElem_cons hks,(List.getElem?_eq_some_iff.1 HX.out).2,val_cons,show j - 1+1=j by omega]
     refine ⟨j - 1,dQuo r x v :: Q,dRem r x v,by omega,dRem_lt hr,by go_num,rfl,?_,?_,?_,?_,?_,?_⟩
     · have:=hown2.store_len HL.out (dQuo r x v)
       rw [List.append_assoc] at this
       exact this
     · exact (show Only g w (wr.drewN q) from ⟨hon.os,hon.tape,hon.output,hon.size,hon.block⟩).setCell _ _
     · simp;omega
     · exact Lim.cons (dQuo_lt hr (Lz.get HX.out)) h2
     · rw [val_cons,hd];exact s1
     · rw [hd];exact s2
    case measure=>simp [intOf];omega
  · obtain rfl:j=0:=by omega
    go_wp2_with fail
    go_ret
    obtain ⟨h1,h2,h3,h4⟩:=HV.out
    rw [List.drop_zero] at h3 h4
    exact ⟨ret_int (by rw [h4]),⟨Q,by omega,h2,h3,by simpa using hown⟩,hon⟩
end
section
open Go.RowKit
def GivesQR (w:World) (lq lr:List Nat) (e:Ending) (w':World):Prop :=
 ∃ A n c A' n' c',e=.returned (.tuple #[.slice A n c,.slice A' n' c',.int .i64 0])∧n≤c∧c≤maxLen∧n'≤c'∧c'≤maxLen ∧
  Fr .u64 74 w' w.heap.size A n c lq∧Fr .u64 74 w' w.heap.size A' n' c' lr∧Below w.heap.size w w'
theorem divmod_below (la lb:List Nat) (A B:Option Addr) (n c m d:Nat) (w:World) (ha:Rd .u64 w A n la) (hb:Rd .u64 w B m lb) (La:Lim B64 la) (Lb:Lim B64 lb) (hn0:n≤35184372088832) (hm0:m≤35184372088832)
 (hnc:n≤c) (hmd:m≤d) (hlt:val B64 la < val B64 lb) :
 Calls Tryz.prog 119 #[.slice A n c,.slice B m d] w (GivesQR w [] (limbs B64 (val B64 la))):=by
 have HN:Hid (n≤maxLen∧m≤maxLen):=⟨by unfold maxLen;omega,by unfold maxLen;omega⟩
 have HN0:=Lib.hid hn0
 have HC:cmpN (val B64 la) (val B64 lb)=-1:=cmpN_lt hlt
 have hb0:val B64 lb ≠ 0:=by omega
 generalize hX:limbs B64 (val B64 la)=xs
 have LX:Lim B64 xs:=by rw [← hX];exact lim_limbs B64_two _
 generalize hY:limbs B64 (val B64 lb)=ys
 have LY:Lim B64 ys:=by rw [← hY];exact lim_limbs B64_two _
 have hvx:val B64 xs=val B64 la:=by rw [← hX,val_limbs B64_two]
 have hvy:val B64 ys=val B64 lb:=by rw [← hY,val_limbs B64_two]
 have hlen:ys.length ≠ 0:=fun e=>hb0 ((limbs_eq_nil B64_two).1 (by rw [hY];exact List.eq_nil_of_length_eq_zero e))
 rw [← hvx,← hvy] at HC
 have HX:=Lib.hid hX;have HY:=Lib.hid hY;have HCC:=Lib.hid HC;have HLN:=Lib.hid hlen;clear hX hY hvx hvy hlt HC hb0 hlen hn0 hm0
 go_enter Tryz.func119,Tryz.ntmps119
 go_wp2_with (first
  | (go_at_call 103;(with_reducible refine (trim_any la A n c w ha La HN.out.1 hnc).mono ?_);rintro e w' ⟨⟨k,hk,rfl,hka⟩,rfl⟩;rw [HX.out] at hka)
  | (go_at_call 103;(with_reducible refine (trim_any lb B m d w hb Lb HN.out.2 hmd).mono ?_);rintro e w' ⟨⟨k2,hk2,rfl,hkb⟩,rfl⟩;rw [HY.out] at hkb
     have hkz:((k2:Int) == 0)=false:=by (have:=hkb.1;have:=HLN.out;simp;omega))
  | (go_at_call 95;refine (cmp_any xs ys A B k c k2 d w hka hkb LX LY (by have:=HN.out.1;omega) (by have:=HN.out.2;omega) (by omega) (by omega)).mono ?_;rintro e w' ⟨rfl,q,rfl⟩;rw [HCC.out])
  | (go_at_call 131;refine (fresh_any xs A k c _ (hka.drewN q) (by have:=HN0.out;omega)).mono ?_;rintro e w1 ⟨rfl,hown1,hb1⟩))
 go_ret3
 have hb2:Below w.heap.size w w1:=(below_drawn (Below.refl _ _) q).trans hb1
 have hfr:=Fr.of_own hown1 (B:=w.heap.size) (Nat.le_refl _) (k:=k) (by have:=hka.1;omega) (by have:=hka.1;have:=HN.out.1;omega)
 rw [List.take_of_length_le (by have:=hka.1;omega),hka.1] at hfr
 exact ⟨_,_,_,_,_,_,rfl,Nat.le_refl _,by decide,Nat.le_refl _,by have:=HN.out.1;omega,Fr.nil,hfr,hb2⟩
theorem divmod_limb (la lb:List Nat) (A B:Option Addr) (n c m d:Nat) (w:World) (ha:Rd .u64 w A n la) (hb:Rd .u64 w B m lb) (La:Lim B64 la) (Lb:Lim B64 lb) (hn0:n≤35184372088832) (hm0:m≤35184372088832)
 (hnc:n≤c) (hmd:m≤d) (hle:val B64 lb≤val B64 la) (hb0:val B64 lb ≠ 0) (hbB:val B64 lb < B64) :
 Calls Tryz.prog 119 #[.slice A n c,.slice B m d] w (GivesQR w (limbs B64 (val B64 la / val B64 lb)) (limbs B64 (val B64 la % val B64 lb))):=by
 have HN:Hid (n≤maxLen∧m≤maxLen):=⟨by unfold maxLen;omega,by unfold maxLen;omega⟩
 have HN0:=Lib.hid hn0
 have HC:0≤cmpN (val B64 la) (val B64 lb):=by
  rcases Nat.lt_or_eq_of_le hle with h | h
  · rw [cmpN_gt h];omega
  · rw [cmpN_eq h.symm];omega
 generalize hX:limbs B64 (val B64 la)=xs
 have LX:Lim B64 xs:=by rw [← hX];exact lim_limbs B64_two _
 have hvx:val B64 xs=val B64 la:=by rw [← hX,val_limbs B64_two]
 obtain ⟨y,hy⟩:∃ y,y=val B64 lb:=⟨_,rfl⟩
 have hY:limbs B64 (val B64 lb)=[y]:=by rw [hy];exact limbs_small B64_two hbB hb0
 rw [← hvx,← hy] at HC
 have LY:Lim B64 [y]:=Lim.cons (by rw [hy];exact hbB) Lim.nil
 have hyB:y < B64:=by rw [hy];exact hbB
 have hy0:0 < y:=by omega
 have HX:=Lib.hid hX;have HY:=Lib.hid hY;have HVX:=Lib.hid hvx;have HYE:=Lib.hid hy
 obtain ⟨r,hr⟩:∃ r,r=val B64 xs % y:=⟨_,rfl⟩
 have hre:(val B64 xs:Int) % (y:Int)=(r:Int):=by rw [hr,Int.natCast_emod]
 have hrB:r < B64:=by rw [hr];exact Nat.lt_trans (Nat.mod_lt _ hy0) hyB
 have HRE:=Lib.hid hr;clear hX hY hvx hle hb0 hbB hn0 hm0 hy hr
 go_enter Tryz.func119,Tryz.ntmps119
 go_wp2_with (first
  | (go_at_call 103;(with_reducible refine (trim_any la A n c w ha La HN.out.1 hnc).mono ?_);rintro e w' ⟨⟨k,hk,rfl,hka⟩,rfl⟩;rw [HX.out] at hka)
  | (go_at_call 103;(with_reducible refine (trim_any lb B m d w hb Lb HN.out.2 hmd).mono ?_);rintro e w' ⟨⟨k2,hk2,rfl,hkb⟩,rfl⟩;rw [HY.out] at hkb;obtain rfl:k2=1:=hkb.1.symm)
  | (go_at_call 95;refine (cmp_any xs [y] A B k c 1 d w hka hkb LX LY (by have:=HN.out.1;omega) (by have:=HN.out.2;omega) (by omega) (by omega)).mono ?_;rintro e w' ⟨rfl,q,rfl⟩)
  | (go_at_call 131;refine (fresh_any xs A k c _ (hka.drewN q) (by have:=HN0.out;omega)).mono ?_;rintro e w1 ⟨rfl,hown1,hb1⟩
     have hkb1:=(hkb.drewN q).below hb1
     obtain ⟨b,o,hB2,hcb⟩:=hkb1.2 (by omega)
     subst hB2
     have hcy:=hcb 0 y rfl;rw [Nat.add_zero] at hcy;clear hcb)
  | (go_at_call 142
     refine (byLimb_any xs [] y w.heap.size k k w1 (by simpa using hown1) hka.1 LX hy0 hyB (by have:=HN.out.1;omega)).mono ?_
     rintro e w2 ⟨rfl,⟨Q,hQ1,hQ2,hQ3,hQ4⟩,ho2⟩
     have HQ1:=Lib.hid hQ1;have HQ3:=Lib.hid hQ3;clear hQ1 hQ3)
  | (go_at_call 103;refine (trim_own Q w.heap.size k w.heap.size w2 (by simpa using hQ4) (Nat.le_refl _) HQ1.out hQ2 (by have:=HN.out.1;omega)).mono ?_;rintro e w' ⟨⟨k3,hk3,rfl,hfr⟩,rfl⟩)
  | (go_at_call 90;refine (of_any r hrB w2).mono ?_;rintro e w3 ⟨A3,n3,c3,rfl,g1,g2,g3,g4⟩))
 go_ret3
 have hb2:Below w.heap.size w w2:=Below.only ((below_drawn (Below.refl _ _) q).trans hb1) (Nat.le_refl _) hb1.size ho2
 rw [HQ3.out,HVX.out,HYE.out] at hfr
 rw [HRE.out,HVX.out,HYE.out] at g3
 exact ⟨_,_,_,_,_,_,rfl,hk3,by have:=HN.out.1;omega,g1,g2,hfr.below g4 (Nat.le_refl _),g3.more hb2.size,hb2.trans (g4.mono hb2.size)⟩
end
section
open Go.RowKit
def Often (u2 u1 u0 v1 v0 q:Nat):Prop :=
 q < B64∧q*(v1*B64+v0)≤(u2*B64+u1)*B64+u0∧(q+1=B64 ∨ (u2*B64+u1)*B64+u0 < (q+1)*(v1*B64+v0))
def Guess (u2 u1 u0 v1 v0 q r c:Nat):Prop :=
 q < B64∧r < B64∧c≤1∧q*v1+(r+B64*c)=u2*B64+u1∧(q+1=B64 ∨ (u2*B64+u1)*B64+u0 < (q+1)*(v1*B64+v0))
theorem Guess.lt {u2 u1 u0 v1 v0 q r c:Nat} (h:Guess u2 u1 u0 v1 v0 q r c):q < B64:=h.1
theorem Guess.rest {u2 u1 u0 v1 v0 q r c:Nat} (h:Guess u2 u1 u0 v1 v0 q r c):r < B64:=h.2.1
theorem gd_math {B u2 u1 u0 v1 v0 q r:Nat} (hr:r < v1) (hu0:u0 < B) (hp:v1*q+r=u2*B+u1):(u2*B+u1)*B+u0 < (q+1)*(v1*B+v0):=by
 rw [← hp]
 have e:(q+1)*(v1*B+v0)=(v1*q+v1)*B+(q+1)*v0:=by grind
 have h2:(v1*q+r+1)*B≤(v1*q+v1)*B:=Nat.mul_le_mul_right _ (by omega)
 rw [Nat.succ_mul] at h2
 omega
theorem guess_div {u2 u1 u0 v1 v0:Nat} (h:u2 < v1) (h1:v1 < B64) (hu1:u1 < B64) (hu0:u0 < B64):Guess u2 u1 u0 v1 v0 (dQuo u2 u1 v1) (dRem u2 u1 v1) 0:=by
 have hq:=dQuo_lt h hu1
 have hr:=dRem_lt (lo:=u1) h
 have hp:v1*dQuo u2 u1 v1+dRem u2 u1 v1=u2*B64+u1:=Nat.div_add_mod _ _
 refine ⟨hq,Nat.lt_trans hr h1,Nat.zero_le _,?_,.inr (gd_math hr hu0 hp)⟩
 rw [Nat.mul_zero,Nat.add_zero,Nat.mul_comm]
 exact hp
theorem gt_math {B u2 u1:Nat} (hB:0 < B):(B - 1)*u2+(u1+u2+0)=u2*B+u1:=by
 obtain ⟨b,rfl⟩:∃ b,B=b+1:=⟨B - 1,by omega⟩
 simp only [Nat.add_sub_cancel]
 grind
theorem guess_top {u2 u1 u0 v1 v0:Nat} (h:u2=v1) (h1:v1 < B64) (hu1:u1 < B64):Guess u2 u1 u0 v1 v0 (B64 - 1) (addLo u1 v1 0) (addHi u1 v1 0):=by
 subst h
 refine ⟨by decide,addLo_lt _ _ _,addHi_le hu1 h1 (Nat.zero_le 1),?_,.inl (by decide)⟩
 rw [add_parts]
 exact gt_math (by decide)
theorem gc_math {B u0 v1 v0 q r W:Nat} (hq:q < B) (hv0:v0 < B) (h:q*v1+(r+B)=W):q*(v1*B+v0)≤W*B+u0:=by
 subst h
 have h6:q*v0≤B*B:=Nat.mul_le_mul (by omega) (by omega)
 have e:q*(v1*B+v0)=q*v1*B+q*v0:=by grind
 have e2:(q*v1+(r+B))*B=q*v1*B+r*B+B*B:=by grind
 omega
theorem guess_carry {u2 u1 u0 v1 v0 q r c:Nat} (hv0:v0 < B64) (h:Guess u2 u1 u0 v1 v0 q r c) (hc:c ≠ 0):Often u2 u1 u0 v1 v0 q:=by
 obtain ⟨h1,h2,h3,h4,h5⟩:=h
 obtain rfl:c=1:=by omega
 rw [Nat.mul_one] at h4
 exact ⟨h1,gc_math h1 hv0 h4,h5⟩
theorem gf_math {B u0 v1 v0 q r W:Nat} (h:q*v1+r=W):(q*v0≤r*B+u0→q*(v1*B+v0)≤W*B+u0)∧(r*B+u0 < q*v0→W*B+u0 < q*(v1*B+v0)):=by
 subst h
 have e:q*(v1*B+v0)=q*v1*B+q*v0:=by grind
 have e2:(q*v1+r)*B=q*v1*B+r*B:=by grind
 omega
theorem guess_fits {u2 u1 u0 v1 v0 q r:Nat} (h:Guess u2 u1 u0 v1 v0 q r 0) (hle:q*v0≤r*B64+u0):Often u2 u1 u0 v1 v0 q:=by
 obtain ⟨h1,h2,h3,h4,h5⟩:=h
 rw [Nat.mul_zero,Nat.add_zero] at h4
 exact ⟨h1,(gf_math h4).1 hle,h5⟩
theorem gl_math {v1 q r W:Nat} (h:(q+1)*v1+r=W):q*v1+(r+v1+0)=W:=by
 rw [Nat.succ_mul] at h;omega
theorem guess_less {u2 u1 u0 v1 v0 q r:Nat} (hv1:v1 < B64) (h:Guess u2 u1 u0 v1 v0 q r 0) (hlt:r*B64+u0 < q*v0):0 < q∧Guess u2 u1 u0 v1 v0 (q - 1) (addLo r v1 0) (addHi r v1 0):=by
 obtain ⟨h1,h2,h3,h4,h5⟩:=h
 rw [Nat.mul_zero,Nat.add_zero] at h4
 have hq:0 < q:=by
  rcases Nat.eq_zero_or_pos q with h0 | h0
  · subst h0;rw [Nat.zero_mul] at hlt;exact absurd hlt (Nat.not_lt_zero _)
  · exact h0
 have hW:=(gf_math h4).2 hlt
 refine ⟨hq,by omega,addLo_lt _ _ _,addHi_le h2 hv1 (Nat.zero_le 1),?_,.inr ?_⟩
 · rw [add_parts]
   obtain ⟨p,rfl⟩:∃ p,q=p+1:=⟨q - 1,by omega⟩
   exact gl_math h4
 · rw [show q - 1+1=q by omega];exact hW
theorem pl_math {B hi lo r u0:Nat} (hlo:lo < B) (hu0:u0 < B):(hi < r ∨ hi=r∧lo≤u0→lo+B*hi≤r*B+u0)∧(¬ (hi < r ∨ hi=r∧lo≤u0)→r*B+u0 < lo+B*hi):=by
 rw [Nat.mul_comm B hi]
 constructor
 · rintro (h | ⟨h,h2⟩)
   · have:=Nat.mul_le_mul_right B h
     rw [Nat.succ_mul] at this
     omega
   · subst h;omega
 · intro h
   by_cases h1:hi=r
   · subst h1;omega
   · have h2:r+1≤hi:=by omega
     have:=Nat.mul_le_mul_right B h2
     rw [Nat.succ_mul] at this
     omega
theorem pair_le {q v0 r u0:Nat} (hu0:u0 < B64) (h:mulHi q v0 < r ∨ mulHi q v0=r∧mulLo q v0≤u0):q*v0≤r*B64+u0:=by
 rw [← mul_parts q v0];exact (pl_math (mulLo_lt q v0) hu0).1 h
theorem pair_lt {q v0 r u0:Nat} (hu0:u0 < B64) (h:¬ (mulHi q v0 < r ∨ mulHi q v0=r∧mulLo q v0≤u0)):r*B64+u0 < q*v0:=by
 rw [← mul_parts q v0];exact (pl_math (mulLo_lt q v0) hu0).2 h
theorem near_math {B U V L v1 v0 q P W Y:Nat} (hU:U=L+P*W) (hL:L < P) {M:Nat} (hV:V=M+P*Y) (hM:M < P) (hv1:0 < v1) (hY:v1*B+v0=Y) (hB:0 < B) (hfit:U < B*V)
 (h1:q < B) (h2:q*Y≤W) (h3:q+1=B ∨ W < (q+1)*Y):q=U / V ∨ q=U / V+1:=by
 have hYB:B≤Y:=by
  have:1*B≤v1*B:=Nat.mul_le_mul_right _ hv1
  omega
 have hP:0 < P:=by omega
 have hPY:P*B≤P*Y:=Nat.mul_le_mul_left _ hYB
 have hPB:0 < P*B:=Nat.mul_pos hP hB
 have hV0:0 < V:=by omega
 have hd:=Nat.div_add_mod U V;have hm:=Nat.mod_lt U hV0
 have hlow:U / V≤q:=by
  rcases Nat.lt_or_ge q (U / V) with hlt | hge
  · exfalso
    have hs:q+1≤U / V:=hlt
    rcases h3 with h3 | h3
    · have:B≤U / V:=by omega
      have:=Nat.mul_le_mul_left V this
      rw [Nat.mul_comm V B] at this
      omega
    · have a1:V*(q+1)≤V*(U / V):=Nat.mul_le_mul_left V hs
      have a2:P*Y*(q+1)≤V*(q+1):=Nat.mul_le_mul_right _ (by omega)
      have a3:P*(W+1)≤P*((q+1)*Y):=Nat.mul_le_mul_left P h3
      have a4:P*((q+1)*Y)=P*Y*(q+1):=by rw [Nat.mul_comm (q+1),Nat.mul_assoc]
      rw [Nat.mul_add] at a3
      omega
  · exact hge
 have hup:q≤U / V+1:=by
  rcases Nat.lt_or_ge (U / V+1) q with hlt | hge
  · exfalso
    have a1:V*(U / V+1+1)≤V*q:=Nat.mul_le_mul_left V hlt
    have a2:V*q≤P*Y*q+P*q:=by
     rw [← Nat.add_mul];exact Nat.mul_le_mul_right _ (by omega)
    have a3:P*(q*Y)≤P*W:=Nat.mul_le_mul_left P h2
    have a4:P*(q*Y)=P*Y*q:=by rw [Nat.mul_comm q,Nat.mul_assoc]
    have a5:P*q≤P*Y:=Nat.mul_le_mul_left P (by omega)
    rw [Nat.mul_add,Nat.mul_add] at a1
    omega
  · exact hge
 omega
theorem often_near {U V L u2 u1 u0 v1 v0 q P:Nat} (hU:U=L+P*((u2*B64+u1)*B64+u0)) (hL:L < P) {M:Nat} (hV:V=M+P*(v1*B64+v0)) (hM:M < P) (hv1:0 < v1) (hfit:U < B64*V) (h:Often u2 u1 u0 v1 v0 q) :
 q=U / V ∨ q=U / V+1:=near_math hU hL hV hM hv1 rfl (by decide) hfit h.1 h.2.1 h.2.2
theorem guess_lo (u2 u1 u0 v1 v0:Nat) (w:World) (h2:u2 < v1) (hu1:u1 < B64) (hu0:u0 < B64) (hv1:v1 < B64) (hv0:v0 < B64) :
 Calls Tryz.prog 164 #[.int .u64 (u2:Int),.int .u64 (u1:Int),.int .u64 (u0:Int),.int .u64 (v1:Int),.int .u64 (v0:Int)] w fun e w' =>
  (∃ q,e=.returned (.int .u64 (q:Nat))∧Often u2 u1 u0 v1 v0 q)∧∃ k,w'=w.drewN k:=by
 have hadd:=add64_run0
 go_enter Tryz.func164,Tryz.ntmps164
 go_wp2_with (go_at_call 155;(with_reducible refine (div64_any u2 u1 v1 _ h2 hv1 hu1).mono ?_);rintro e w' ⟨rfl,q0,rfl⟩)
 go_loopw [11,12,13] (fun a b d wr=>∃ q r c:Nat,a=.int .u64 (q:Int)∧b=.int .u64 (r:Int)∧d=.int .u64 (c:Int)∧Hid (Guess u2 u1 u0 v1 v0 q r c)∧∃ k,wr=w.drewN k) (fun a _ _ _=>(intOf a).toNat)
 case atStart=>exact ⟨_,_,0,rfl,rfl,rfl,guess_div h2 hv1 hu1 hu0,_,rfl⟩
 case round =>
  obtain ⟨q,r,c,rfl,rfl,rfl,HG,k,rfl⟩:=hrel
  by_cases hc0:c=0
  · subst hc0
    have hqB:=HG.out.lt
    by_cases hd:mulHi q v0 < r ∨ mulHi q v0=r∧mulLo q v0≤u0
    · have hO:=guess_fits HG.out (pair_le hu0 hd)
      go_wp2_with (go_at_call 166;(with_reducible refine (mul64_any q v0 hqB hv0 _).mono ?_);rintro e w' ⟨rfl,rfl⟩)
      all_goals
       go_ret
       exact ⟨⟨q,rfl,hO⟩,k,rfl⟩
    · obtain ⟨hq0,hL⟩:=guess_less hv1 HG.out (pair_lt hu0 hd)
      have hL2:=Lib.hid hL
      have hw:IntKind.u64.wrap ((q:Int) - 1)=((q - 1:Nat):Int):=by
       have:=B64_eq
       rw [IntKind.wrap_u64];omega
      have HW:=Lib.hid hw;clear hL hw
      go_wp2_with (go_at_call 166;(with_reducible refine (mul64_any q v0 hqB hv0 _).mono ?_);rintro e w' ⟨rfl,rfl⟩)
      · go_roundw
        case rel=>exact ⟨q - 1,_,_,by rw [HW.out],rfl,rfl,hL2,_,rfl⟩
        case measure=>simp only [intOf];rw [HW.out];omega
      · go_roundw
        case rel=>exact ⟨q - 1,_,_,by rw [HW.out],rfl,rfl,hL2,_,rfl⟩
        case measure=>simp only [intOf];rw [HW.out];omega
  · have hne:((c:Int) == 0)=false:=by simp;omega
    have hO:=guess_carry hv0 HG.out hc0
    go_wp2_with fail
    go_ret
    exact ⟨⟨q,rfl,hO⟩,k,rfl⟩
theorem guess_hi (u2 u1 u0 v1 v0:Nat) (w:World) (h2:u2=v1) (hu1:u1 < B64) (hu0:u0 < B64) (hv1:v1 < B64) (hv0:v0 < B64) :
 Calls Tryz.prog 164 #[.int .u64 (u2:Int),.int .u64 (u1:Int),.int .u64 (u0:Int),.int .u64 (v1:Int),.int .u64 (v0:Int)] w fun e w' =>
  (∃ q,e=.returned (.int .u64 (q:Nat))∧Often u2 u1 u0 v1 v0 q)∧∃ k,w'=w.drewN k:=by
 have hadd:=add64_run0
 subst h2
 have hnl:¬ u2 < u2:=by omega
 go_enter Tryz.func164,Tryz.ntmps164
 go_wp2_with fail
 go_loopw [11,12,13] (fun a b d wr=>∃ q r c:Nat,a=.int .u64 (q:Int)∧b=.int .u64 (r:Int)∧d=.int .u64 (c:Int)∧Hid (Guess u2 u1 u0 u2 v0 q r c)∧∃ k,wr=w.drewN k) (fun a _ _ _=>(intOf a).toNat)
 case atStart=>exact ⟨B64 - 1,_,_,rfl,rfl,rfl,guess_top rfl hv1 hu1,0,rfl⟩
 case round =>
  obtain ⟨q,r,c,rfl,rfl,rfl,HG,k,rfl⟩:=hrel
  by_cases hc0:c=0
  · subst hc0
    have hqB:=HG.out.lt
    by_cases hd:mulHi q v0 < r ∨ mulHi q v0=r∧mulLo q v0≤u0
    · have hO:=guess_fits HG.out (pair_le hu0 hd)
      go_wp2_with (go_at_call 166;(with_reducible refine (mul64_any q v0 hqB hv0 _).mono ?_);rintro e w' ⟨rfl,rfl⟩)
      all_goals
       go_ret
       exact ⟨⟨q,rfl,hO⟩,k,rfl⟩
    · obtain ⟨hq0,hL⟩:=guess_less hv1 HG.out (pair_lt hu0 hd)
      have hL2:=Lib.hid hL
      have hw:IntKind.u64.wrap ((q:Int) - 1)=((q - 1:Nat):Int):=by
       have:=B64_eq
       rw [IntKind.wrap_u64];omega
      have HW:=Lib.hid hw;clear hL hw
      go_wp2_with (go_at_call 166;(with_reducible refine (mul64_any q v0 hqB hv0 _).mono ?_);rintro e w' ⟨rfl,rfl⟩)
      · go_roundw
        case rel=>exact ⟨q - 1,_,_,by rw [HW.out],rfl,rfl,hL2,_,rfl⟩
        case measure=>simp only [intOf];rw [HW.out];omega
      · go_roundw
        case rel=>exact ⟨q - 1,_,_,by rw [HW.out],rfl,rfl,hL2,_,rfl⟩
        case measure=>simp only [intOf];rw [HW.out];omega
  · have hne:((c:Int) == 0)=false:=by simp;omega
    have hO:=guess_carry hv0 HG.out hc0
    go_wp2_with fail
    go_ret
    exact ⟨⟨q,rfl,hO⟩,k,rfl⟩
theorem guess_any (u2 u1 u0 v1 v0:Nat) (w:World) (h2:u2≤v1) (hu1:u1 < B64) (hu0:u0 < B64) (hv1:v1 < B64) (hv0:v0 < B64) :
 Calls Tryz.prog 164 #[.int .u64 (u2:Int),.int .u64 (u1:Int),.int .u64 (u0:Int),.int .u64 (v1:Int),.int .u64 (v0:Int)] w fun e w' =>
  (∃ q,e=.returned (.int .u64 (q:Nat))∧Often u2 u1 u0 v1 v0 q)∧∃ k,w'=w.drewN k:=by
 rcases Nat.lt_or_eq_of_le h2 with h | h
 · exact guess_lo u2 u1 u0 v1 v0 w h hu1 hu0 hv1 hv0
 · exact guess_hi u2 u1 u0 v1 v0 w h hu1 hu0 hv1 hv0
def often (u2 u1 u0 v1 v0:Nat):Nat:=min (B64 - 1) (((u2*B64+u1)*B64+u0) / (v1*B64+v0))
theorem min_math {B W Y q:Nat} (hY:0 < Y) (h1:q < B) (h2:q*Y≤W) (h3:q+1=B ∨ W < (q+1)*Y):q=min (B - 1) (W / Y):=by
 have a1:q≤W / Y:=(Nat.le_div_iff_mul_le hY).2 h2
 rcases h3 with h3 | h3
 · omega
 · have:W / Y < q+1:=(Nat.div_lt_iff_lt_mul hY).2 h3
   omega
theorem Often.eq {u2 u1 u0 v1 v0 q:Nat} (hv:0 < v1) (h:Often u2 u1 u0 v1 v0 q):q=often u2 u1 u0 v1 v0 :=
 min_math (Nat.lt_of_lt_of_le (Nat.mul_pos hv (by decide)) (Nat.le_add_right _ _)) h.1 h.2.1 h.2.2
theorem guess_at (u2 u1 u0 v1 v0:Nat) (w:World) (h2:u2≤v1) (hv:0 < v1) (hu1:u1 < B64) (hu0:u0 < B64) (hv1:v1 < B64) (hv0:v0 < B64) :
 Calls Tryz.prog 164 #[.int .u64 (u2:Int),.int .u64 (u1:Int),.int .u64 (u0:Int),.int .u64 (v1:Int),.int .u64 (v0:Int)] w fun e w' =>
  e=.returned (.int .u64 (often u2 u1 u0 v1 v0:Nat))∧∃ k,w'=w.drewN k:=by
 refine (guess_any u2 u1 u0 v1 v0 w h2 hu1 hu0 hv1 hv0).mono ?_
 rintro e w' ⟨⟨q,rfl,hq⟩,hw⟩
 exact ⟨by rw [hq.eq hv],hw⟩
theorem often_div {U V L u2 u1 u0 v1 v0 P:Nat} (hU:U=L+P*((u2*B64+u1)*B64+u0)) (hL:L < P) {M:Nat} (hV:V=M+P*(v1*B64+v0)) (hM:M < P) (hv1:0 < v1) (hfit:U < B64*V) :
 often u2 u1 u0 v1 v0=U / V ∨ often u2 u1 u0 v1 v0=U / V+1:=by
 have hY:0 < v1*B64+v0:=Nat.lt_of_lt_of_le (Nat.mul_pos hv1 (by decide)) (Nat.le_add_right _ _)
 refine often_near hU hL hV hM hv1 hfit ⟨?_,?_,?_⟩
 · exact Nat.lt_of_le_of_lt (Nat.min_le_left _ _) (by decide)
 · refine Nat.le_trans (Nat.mul_le_mul_right _ (Nat.min_le_right _ _)) (Nat.div_mul_le_self _ _)
 · unfold often
   rcases Nat.le_total (B64 - 1) (((u2*B64+u1)*B64+u0) / (v1*B64+v0)) with h | h
   · rw [Nat.min_eq_left h];exact .inl (by decide)
   · rw [Nat.min_eq_right h];exact .inr (Nat.lt_mul_of_div_lt (Nat.lt_succ_self _) hY)
theorem often_lt (u2 u1 u0 v1 v0:Nat):often u2 u1 u0 v1 v0 < B64:=Nat.lt_of_le_of_lt (Nat.min_le_left _ _) (by decide)
end
section
open Go.RowKit
theorem tp_step {seg lx P:List Nat} {k z x y v cc:Nat} (hzB:z < B64) (hy:y≤1) (hP:P.length=k) (hz:seg[k]?=some z) (hx:lx[k]?=some x) (h:val B64 P+val B64 (lx.take k)*v=val B64 (seg.take k)+B64 ^ k*(y+cc)) :
 val B64 (P ++ [subLo z (maLo x v cc) y])+val B64 (lx.take (k+1))*v=val B64 (seg.take (k+1))+B64 ^ (k+1)*(subHi z (maLo x v cc) y+maHi x v cc):=by
 have hp:=sub_parts hzB (maLo_lt x v cc) hy
 have hm:=ma_parts x v cc
 rw [val_snoc,val_take_succ hz,val_take_succ hx,hP,Nat.pow_succ]
 generalize subLo z (maLo x v cc) y=sl at *
 generalize subHi z (maLo x v cc) y=sh at *
 generalize maLo x v cc=lo at *
 generalize maHi x v cc=hi at *
 grind
theorem tp_end {seg lx P:List Nat} {k z y v cc:Nat} (hzB:z < B64) (hcB:cc < B64) (hy:y≤1) (hP:P.length=k) (hz:seg[k]?=some z) (hn:seg.length=k+1) (h:val B64 P+val B64 lx*v=val B64 (seg.take k)+B64 ^ k*(y+cc)) :
 val B64 (P ++ [subLo z cc y])+val B64 lx*v=val B64 seg+B64 ^ (k+1)*subHi z cc y:=by
 have hp:=sub_parts hzB hcB hy
 have hs:val B64 seg=val B64 (seg.take k)+B64 ^ k*z:=by
  rw [← val_take_succ hz,List.take_of_length_le (by omega)]
 rw [val_snoc,hs,hP,Nat.pow_succ]
 generalize subLo z cc y=sl at *
 generalize subHi z cc y=sh at *
 grind
theorem takeProduct_any (lx pre seg post:List Nat) (v g o n cz c:Nat) (X:Option Addr) (w:World) (hz:Own .u64 74 w g (pre ++ (seg ++ post))) (ho:pre.length=o) (hn:seg.length=n+1)
 (hx:Rd .u64 w X n lx) (hoff:Off X n g) (Lx:Lim B64 lx) (Lz:Lim B64 seg) (hv:v < B64) (hm:n+1≤maxLen) :
 Calls Tryz.prog 165 #[.slice (some ⟨g,o,none⟩) (n+1) cz,.slice X n c,.int .u64 (v:Int)] w fun e w' =>
  (∃ (P:List Nat) (y:Nat),e=.returned (.bool ((y:Int) != 0))∧y≤1∧P.length=n+1∧Lim B64 P∧val B64 P+val B64 lx*v=val B64 seg+B64 ^ (n+1)*y∧Own .u64 74 w' g (pre ++ (P ++ post)))∧Only g w w':=by
 have hadd:=sub64_run;have HS:=Lib.hid hn;have HO:=Lib.hid ho;have HX:=Lib.hid hx.1;have hz0:=Seg.start hz;clear hn ho
 unfold maxLen at hm
 go_enter Tryz.func165,Tryz.ntmps165
 go_wp2_with fail
 go_loopw [7,8,14] (fun cy b i wr=>∃ (k:Nat) (P:List Nat) (y cc:Nat),k≤n∧y≤1∧Hid (P.length=k)∧i=.int .i64 k∧b=.int .u64 (y:Int)∧cy=.int .u64 (cc:Int)∧Seg .u64 74 wr g pre P seg post∧Only g w wr ∧
  Hid (cc < B64∧Lim B64 P∧val B64 P+val B64 (lx.take k)*v=val B64 (seg.take k)+B64 ^ k*(y+cc))) (fun _ _ i _=>n - (intOf i).toNat)
 case atStart=>exact ⟨0,[],0,0,Nat.zero_le _,Nat.zero_le _,rfl,rfl,rfl,rfl,hz0,Only.refl _ _,by decide,Lim.nil,by simp⟩
 case round =>
  obtain ⟨k,P,y,cc,hk,hy,HP,rfl,rfl,rfl,hsg,hon,HV⟩:=hrel
  by_cases hlt:k < n
  · have hx':=hx.only hoff hon
    obtain ⟨b,o',rfl,hc⟩:=hx'.at_ (by omega)
    obtain ⟨u,hu,hcu⟩:=hc k hlt
    have hks:k < seg.length:=by have:=HS.out;omega
    obtain ⟨z,hz⟩:∃ z,seg[k]?=some z:=⟨_,List.getElem?_eq_getElem hks⟩
    have hcz:=hsg.cell HO.out HP.out hks hz
    have hfz:=Own.frozen hsg (o+k)
    have HU:=Lib.hid hu;have HZ:=Lib.hid hz;have HKS:=Lib.hid hks;clear hc hz hu hks
    go_wp2_with (go_at_call 163;(with_reducible refine (mulAdd_any u v cc (Lx.get HU.out) hv HV.out.1 _).mono ?_);rintro e w' ⟨rfl,rfl⟩)
    go_roundw
    case rel =>
     obtain ⟨hcB,hL,hval⟩:=HV.out
     exact ⟨k+1,_,_,_,by omega,subHi_le _ _ _,by show _=_;rw [List.length_append,HP.out];rfl,by go_num,rfl,rfl,hsg.store HO.out HP.out HKS.out _,hon.setCell _ _,
      maHi_lt (Lx.get HU.out) hv hcB,hL.snoc (subLo_lt _ _ _),tp_step (Lz.get HZ.out) hy HP.out HZ.out HU.out hval⟩
    case measure=>simp [intOf];omega
  · obtain rfl:k=n:=by omega
    have hks:k < seg.length:=by have:=HS.out;omega
    obtain ⟨z,hz⟩:∃ z,seg[k]?=some z:=⟨_,List.getElem?_eq_getElem hks⟩
    have hcz:=hsg.cell HO.out HP.out hks hz
    have hfz:=Own.frozen hsg (o+k)
    have HZ:=Lib.hid hz;have HKS:=Lib.hid hks;clear hz hks
    go_wp2_with fail
    go_ret
    obtain ⟨hcB,hL,hval⟩:=HV.out
    rw [List.take_of_length_le (l:=lx) (by have:=HX.out;omega)] at hval
    have hst:=hsg.store HO.out HP.out HKS.out (subLo z cc y)
    have hl:(P ++ [subLo z cc y]).length=k+1:=by rw [List.length_append,HP.out];rfl
    exact ⟨⟨_,_,rfl,subHi_le _ _ _,hl,hL.snoc (subLo_lt _ _ _),tp_end (Lz.get HZ.out) hcB hy HP.out HZ.out HS.out hval,hst.done (by rw [hl,HS.out])⟩,hon.setCell _ _⟩
end
section
open Go.RowKit
theorem split3 {l:List Nat} {n u2 u1 u0:Nat} (hl:l.length=n+2+1) (h2:l[n+2]?=some u2) (h1:l[n+1]?=some u1) (h0:l[n]?=some u0) :
 val B64 l=val B64 (l.take n)+B64 ^ n*((u2*B64+u1)*B64+u0):=by
 have e:val B64 l=val B64 (l.take (n+2+1)):=by rw [List.take_of_length_le (by omega)]
 rw [e,val_take_succ h2,show n+2=n+1+1 from rfl,val_take_succ h1,val_take_succ h0,Nat.pow_succ,Nat.pow_succ]
 grind
theorem split2 {l:List Nat} {n v1 v0:Nat} (hl:l.length=n+2) (h1:l[n+1]?=some v1) (h0:l[n]?=some v0) :
 val B64 l=val B64 (l.take n)+B64 ^ n*(v1*B64+v0):=by
 have e:val B64 l=val B64 (l.take (n+1+1)):=by rw [List.take_of_length_le (by omega)]
 rw [e,val_take_succ h1,val_take_succ h0,Nat.pow_succ]
 grind
theorem take_lt {l:List Nat} (h:Lim B64 l) {n:Nat} (hn:n≤l.length):val B64 (l.take n) < B64 ^ n:=by
 have:=val_lt (h.take n)
 rwa [List.length_take,Nat.min_eq_left hn] at this
theorem top_le {L M P W Y u2 v1 u v:Nat} (hM:M < P) (h:L+P*W < B64*(M+P*Y)) (hW:W=(u2*B64+u)*B64+v) (hY:∃ y,y < B64∧Y=v1*B64+y):u2≤v1:=by
 obtain ⟨y,hy,rfl⟩:=hY
 rcases Nat.lt_or_ge v1 u2 with hlt | hge
 · exfalso
   subst hW
   have a1:(v1+1)*B64≤u2*B64:=Nat.mul_le_mul_right _ hlt
   have a2:v1*B64+y+1≤u2*B64:=by rw [Nat.succ_mul] at a1;omega
   have a3:P*((v1*B64+y+1)*B64)≤P*((u2*B64)*B64):=Nat.mul_le_mul_left _ (Nat.mul_le_mul_right _ a2)
   have a4:P*((u2*B64)*B64)≤P*((u2*B64+u)*B64+v):=Nat.mul_le_mul_left _ (by rw [Nat.add_mul (u2*B64)];omega)
   have a5:B64*(M+P*(v1*B64+y))=B64*M+P*((v1*B64+y)*B64):=by grind
   have a6:P*((v1*B64+y+1)*B64)=P*((v1*B64+y)*B64)+B64*P:=by grind
   have a7:B64*M≤B64*P:=Nat.mul_le_mul_left _ (by omega)
   omega
 · exact hge
theorem step_right {U V q p T y:Nat} (hq:q=U / V ∨ q=U / V+1) (hV:0 < V) (h:p+V*q=U+T*y) (hy:y=0):q=U / V∧p=U % V:=by
 subst hy
 have hd:=Nat.div_add_mod U V;have hm:=Nat.mod_lt U hV
 rcases hq with rfl | rfl
 · exact ⟨rfl,by omega⟩
 · rw [Nat.mul_add] at h;omega
theorem step_great {U V q p T y:Nat} (hq:q=U / V ∨ q=U / V+1) (hV:0 < V) (hVT:V≤T) (hpT:p < T) (h:p+V*q=U+T*y) (hy1:y≤1) (hy:y ≠ 0):0 < q∧q - 1=U / V∧(p+V) % T=U % V:=by
 obtain rfl:y=1:=by omega
 have hd:=Nat.div_add_mod U V;have hm:=Nat.mod_lt U hV
 rcases hq with rfl | rfl
 · omega
 · refine ⟨Nat.succ_pos _,Nat.add_sub_cancel _ _,?_⟩
   rw [Nat.mul_add] at h
   have e:p+V=U % V+T:=by omega
   rw [e,Nat.add_mod_right,Nat.mod_eq_of_lt (by omega)]
theorem long_step {A V vQ vR lo U p P B:Nat} (hA:A=vQ*(P*B)*V+vR) (hR:vR=lo+P*U) (hlo:lo < P) (hp:p=U % V) (hV:0 < V) :
 A=(U / V+B*vQ)*P*V+(lo+P*p)∧lo+P*p < P*V:=by
 have hd:=Nat.div_add_mod U V;have hm:=Nat.mod_lt U hV
 subst hp
 constructor
 · rw [hA,hR]
   conv=>lhs;rw [← hd]
   generalize U / V=q
   generalize U % V=r
   grind
 · have:P*(U % V+1)≤P*V:=Nat.mul_le_mul_left _ hm
   rw [Nat.mul_add] at this
   omega
end
section
open Go.RowKit
theorem divideStep_any (N1:Nat) (lx pre seg post:List Nat) (g o N cz c:Nat) (X:Option Addr) (w:World) (hN:N1=N+1) (hN2:2≤N) (hz:Own .u64 74 w g (pre ++ (seg ++ post))) (ho:pre.length=o) (hn:seg.length=N+1)
 (hx:Rd .u64 w X N lx) (hoff:Off X N g) (Lx:Lim B64 lx) (Lz:Lim B64 seg) (hm:N+1≤maxLen) (htop:∀ x,lx[N - 1]?=some x→0 < x) (hfit:val B64 seg < B64*val B64 lx) :
 Calls Tryz.prog 158 #[.slice (some ⟨g,o,none⟩) N1 cz,.slice X N c] w fun e w' =>
  e=.returned (.int .u64 ((val B64 seg / val B64 lx:Nat):Int))∧(∃ P,P.length=N+1∧Lim B64 P∧val B64 P=val B64 seg % val B64 lx∧Own .u64 74 w' g (pre ++ (P ++ post)))∧Only g w w':=by
 subst hN
 obtain ⟨n,hNn⟩:∃ n,N=n+2:=⟨N - 2,by omega⟩
 obtain ⟨u2,hu2⟩:∃ x,seg[N]?=some x:=⟨_,List.getElem?_eq_getElem (by omega)⟩
 obtain ⟨u1,hu1⟩:∃ x,seg[N - 1]?=some x:=⟨_,List.getElem?_eq_getElem (by omega)⟩
 obtain ⟨u0,hu0⟩:∃ x,seg[N - 2]?=some x:=⟨_,List.getElem?_eq_getElem (by omega)⟩
 obtain ⟨b,o',rfl,hc⟩:=hx.at_ (by omega)
 obtain ⟨v1,hv1,hcv1⟩:=hc (N - 1) (by omega)
 obtain ⟨v0,hv0,hcv0⟩:=hc (N - 2) (by omega)
 have e3:=split3 (l:=seg) (n:=n) (by omega) (by rw [← hNn];exact hu2) (by rw [show n+1=N - 1 by omega];exact hu1) (by rw [show n=N - 2 by omega];exact hu0)
 have e2:=split2 (l:=lx) (n:=n) (by have:=hx.1;omega) (by rw [show n+1=N - 1 by omega];exact hv1) (by rw [show n=N - 2 by omega];exact hv0)
 have l3:=take_lt Lz (n:=n) (by omega)
 have l2:=take_lt Lx (n:=n) (by have:=hx.1;omega)
 have hV:0 < val B64 lx:=by
  rcases Nat.eq_zero_or_pos (val B64 lx) with h | h
  · rw [h,Nat.mul_zero] at hfit;exact absurd hfit (Nat.not_lt_zero _)
  · exact h
 have huv:u2≤v1:=top_le l2 (by rw [← e3,← e2];exact hfit) rfl ⟨v0,Lx.get hv0,rfl⟩
 have hVT:val B64 lx≤B64 ^ (N+1):=by
  have:=val_lt Lx
  rw [hx.1] at this
  exact Nat.le_trans (Nat.le_of_lt this) (Nat.pow_le_pow_right (by decide) (by omega))
 have hv1p:=htop v1 hv1
 have HF:Hid (often u2 u1 u0 v1 v0=val B64 seg / val B64 lx ∨ often u2 u1 u0 v1 v0=val B64 seg / val B64 lx+1):=often_div e3 l3 e2 l2 hv1p hfit
 have hqB:=often_lt u2 u1 u0 v1 v0
 have cell:∀ j x:Nat,seg[j]?=some x→w.cell? ⟨g,o+j,none⟩=some (.int .u64 (x:Int)):=fun j x hj=>hz.cell_at (by
  have:=(List.getElem?_eq_some_iff.1 hj).1
  rw [List.getElem?_append_right (by omega),List.getElem?_append_left (by omega),ho,Nat.add_sub_cancel_left]
  exact hj)
 have cu2:=cell _ _ hu2;have cu1:=cell _ _ hu1;have cu0:=cell _ _ hu0;have L2:=Lz.get hu2;have L1:=Lz.get hu1;have L0:=Lz.get hu0;have M1:=Lx.get hv1;have M0:=Lx.get hv0;have HS:=Lib.hid hn;have HO:=Lib.hid ho;have HV:=Lib.hid hV;have HVT:=Lib.hid hVT;clear hn ho hfit hV hVT e3 e2 l3 l2 hu2 hu1 hu0 hv1 hv0 cell hc htop hNn
 unfold maxLen at hm
 go_enter Tryz.func158,Tryz.ntmps158
 go_wp2_with fail
 go_quiet ((go_at_call 164;exact Calls.quiet_of (guess_at u2 u1 u0 v1 v0 _ huv hv1p L1 L0 M1 M0)))
 generalize often u2 u1 u0 v1 v0=q at *
 have od:Only g w (w.drewN nq):=⟨rfl,rfl,rfl,Nat.le_refl _,fun _ _ _=>rfl⟩
 go_wp2_with (first
  | (go_at_call 165;(refine (takeProduct_any lx pre seg post q g o N cz c _ (w.drewN nq) (show Own .u64 74 (w.drewN nq) g (pre ++ (seg ++ post)) from hz) HO.out HS.out (hx.drewN _) hoff Lx Lz hqB (by unfold maxLen;omega)).mono ?_);rintro e w2 ⟨⟨P,y,rfl,hy,hP1,hP2,hP3,hP4⟩,ho2⟩
     have HP1:=Lib.hid hP1;have HP3:=Lib.hid hP3;clear hP1 hP3)
  | (go_at_call 149
     refine (addTo_any lx pre P post g o (N+1) cz N c _ w2 hP4 HO.out HP1.out ((hx.drewN _).only hoff ho2) hoff Lx hP2 (by omega) (by unfold maxLen;omega)).mono ?_
     rintro e w3 ⟨rfl,⟨P',hP1',hP2',hP3',hP4'⟩,ho3⟩))
 · have hy0 : y ≠ 0 := by have hq : ((y : Int) != 0) = true := by assumption
                          simpa using hq
   go_ret;have hlt:=val_lt hP2;rw [HP1.out] at hlt
   obtain ⟨s1,s2,s3⟩:=step_great HF.out HV.out HVT.out hlt HP3.out hy hy0
   rw [s3] at hP3'
   refine ⟨ret_int ?_,⟨P',hP1',hP2',hP3',hP4'⟩,(od.trans ho2).trans ho3⟩
   rw [← s2]
   have:=B64_eq
   rw [IntKind.wrap_u64];omega
 · have hy0 : y = 0 := by have hq : ((y : Int) != 0) = false := by assumption
                          simp at hq;omega
   go_ret
   obtain ⟨s1,s2⟩:=step_right HF.out HV.out HP3.out hy0
   exact ⟨ret_int (by rw [s1]),⟨P,HP1.out,hP2,s2,hP4⟩,od.trans ho2⟩
end
section
open Go.RowKit
theorem top_pow {l:List Nat} {n t:Nat} (hl:l.length=n+1) (ht:l[n]?=some t) (h0:0 < t):B64 ^ n≤val B64 l:=by
 have e:val B64 l=val B64 (l.take (n+1)):=by rw [List.take_of_length_le (by omega)]
 rw [e,val_take_succ ht]
 have:=Nat.mul_le_mul_left (B64 ^ n) h0
 omega
theorem top_pos {l:List Nat} {n t:Nat} (hL:Lim B64 l) (hl:l.length=n+1) (ht:l[n]?=some t) (h:B64 ^ n≤val B64 l):0 < t:=by
 have e:val B64 l=val B64 (l.take (n+1)):=by rw [List.take_of_length_le (by omega)]
 rw [e,val_take_succ ht] at h
 have:=take_lt hL (n:=n) (by omega)
 rcases Nat.eq_zero_or_pos t with h0 | h0
 · subst h0;omega
 · exact h0
theorem norm_fits {l:List Nat} {n t s:Nat} (hL:Lim B64 l) (hl:l.length=n+1) (ht:l[n]?=some t) (hs:s=64 - bl t):val B64 l*2 ^ s < B64 ^ (n+1):=by
 have e:val B64 l=val B64 (l.take (n+1)):=by rw [List.take_of_length_le (by omega)]
 have h1:=take_lt hL (n:=n) (by omega)
 have hb:bl t≤64:=bl_le (hL.get ht)
 have h2:=lt_bl t
 rw [e,val_take_succ ht]
 have h3:val B64 (l.take n)+B64 ^ n*t < B64 ^ n*2 ^ bl t:=by
  have:=Nat.mul_le_mul_left (B64 ^ n) h2
  rw [Nat.mul_succ] at this
  omega
 have h4:=Nat.mul_lt_mul_of_pos_right h3 (Nat.two_pow_pos s)
 rw [Nat.mul_assoc,← Nat.pow_add,show bl t+s=64 by omega] at h4
 exact h4
theorem long_start {a b s k n:Nat} (ha:a < B64 ^ k) (hb:B64 ^ n≤b) (hk:n+1≤k):a*2 ^ s < B64 ^ (k - (n+1)+1)*(b*2 ^ s):=by
 have h1:B64 ^ k=B64 ^ (k - (n+1)+1)*B64 ^ n:=by rw [← Nat.pow_add];congr 1;omega
 have h2:=Nat.mul_le_mul_left (B64 ^ (k - (n+1)+1)) hb
 rw [← Nat.mul_assoc]
 exact Nat.mul_lt_mul_of_pos_right (by omega) (Nat.two_pow_pos s)
theorem long_cut {R:List Nat} {V i n:Nat} (hL:Lim B64 R) (hi:i+(n+1)≤R.length) (hV:V < B64 ^ n) (h:val B64 R < B64 ^ (i+1)*V) :
 val B64 ((R.drop i).take (n+1)) < B64*V∧val B64 (R.drop (i+(n+1)))=0∧val B64 R=val B64 (R.take i)+B64 ^ i*val B64 ((R.drop i).take (n+1)):=by
 have hd:val B64 (R.drop i) < B64*V:=by
  rw [val_drop hL _ (by omega) (by decide)]
  refine Nat.div_lt_of_lt_mul ?_
  rw [← Nat.mul_assoc,← Nat.pow_succ];exact h
 have h1:=val_take_drop (B:=B64) (R.drop i) (n+1) (by rw [List.length_drop];omega)
 rw [List.drop_drop] at h1
 have hBV:B64*V≤B64 ^ (n+1):=by
  rw [Nat.pow_succ,Nat.mul_comm];exact Nat.mul_le_mul_right _ (Nat.le_of_lt hV)
 have h0:val B64 (R.drop (i+(n+1)))=0:=by
  rcases Nat.eq_zero_or_pos (val B64 (R.drop (i+(n+1)))) with h0 | h0
  · exact h0
  · have:=Nat.mul_le_mul_left (B64 ^ (n+1)) h0
    omega
 rw [h0,Nat.mul_zero,Nat.add_zero] at h1
 refine ⟨by omega,h0,?_⟩
 rw [← h1]
 exact val_take_drop R i (by omega)
theorem long_end {a b s vQ vR:Nat} (h:a*2 ^ s=vQ*B64 ^ 0*(b*2 ^ s)+vR) (hR:vR < B64 ^ 0*(b*2 ^ s)):vQ=a / b∧vR / 2 ^ s=a % b:=by
 rw [Nat.pow_zero,Nat.mul_one] at h
 rw [Nat.pow_zero,Nat.one_mul] at hR
 have hp:=Nat.two_pow_pos s
 have hq:a*2 ^ s / (b*2 ^ s)=vQ:=by
  rw [h,Nat.mul_comm vQ,Nat.mul_add_div (by omega),Nat.div_eq_of_lt hR,Nat.add_zero]
 have hr:a*2 ^ s % (b*2 ^ s)=vR:=by
  rw [h,Nat.mul_comm vQ,Nat.mul_add_mod,Nat.mod_eq_of_lt hR]
 rw [Nat.mul_div_mul_right _ _ hp] at hq;rw [Nat.mul_mod_mul_right] at hr
 exact ⟨hq.symm,by rw [← hr,Nat.mul_div_cancel _ hp]⟩
def Gives2 (w:World) (lq lr:List Nat) (e:Ending) (w':World):Prop :=
 ∃ A n c A' n' c',e=.returned (.tuple #[.slice A n c,.slice A' n' c'])∧n≤c∧c≤maxLen∧n'≤c'∧c'≤maxLen ∧
  Fr .u64 74 w' w.heap.size A n c lq∧Fr .u64 74 w' w.heap.size A' n' c' lr∧Below w.heap.size w w'
theorem divideLong_any (la lb:List Nat) (A B:Option Addr) (k c n d:Nat) (w:World) (ha:Rd .u64 w A k la) (hb:Rd .u64 w B n lb) (La:Lim B64 la) (Lb:Lim B64 lb) (hk0:k≤35184372088830)
 (hn2:2≤n) (hnk:n≤k) (htop:∀ x,lb[n - 1]?=some x→x ≠ 0) :
 Calls Tryz.prog 143 #[.slice A k c,.slice B n d] w (Gives2 w (limbs B64 (val B64 la / val B64 lb)) (limbs B64 (val B64 la % val B64 lb))):=by
 have hM:Hid (k+1≤maxLen∧n≤maxLen∧k+1≤35184372088832):=by show _∧_;unfold maxLen;omega
 obtain ⟨b,o,rfl,hc⟩:=hb.at_ (by omega)
 obtain ⟨t,ht,hct⟩:=hc (n - 1) (by omega)
 have ht0:0 < t:=by have:=htop t ht;omega
 have htB:t < B64:=Lb.get ht
 obtain ⟨s,hs⟩:∃ s,s=64 - bl t:=⟨_,rfl⟩
 have hs64:s < 64:=by have:=bl_pos (show t ≠ 0 by omega);omega
 have hln:lb.length=(n - 1)+1:=by have:=hb.1;omega
 have hBb:=top_pow hln ht ht0
 have hfit:val B64 lb*2 ^ s < B64 ^ n:=by
  have:=norm_fits Lb hln ht hs
  rwa [show n - 1+1=n by omega] at this
 have halt:val B64 la < B64 ^ k:=by have:=val_lt La;rwa [ha.1] at this
 have HST:Hid (val B64 la*2 ^ s < B64 ^ (k - n+1)*(val B64 lb*2 ^ s)):=by
  have:=long_start (s:=s) halt hBb (show n - 1+1≤k by omega)
  rwa [show n - 1+1=n by omega] at this
 have hVB:B64 ^ (n - 1)≤val B64 lb*2 ^ s:=Nat.le_trans hBb (Nat.le_mul_of_pos_right _ (Nat.two_pow_pos s))
 have HVB:=Lib.hid hVB;have HF:=Lib.hid hfit;have HS:=Lib.hid hs
 have hwrap:IntKind.u64.wrap ((64 - bl t:Nat):Int)=(s:Int):=by rw [← hs,IntKind.wrap_u64];omega
 have hk1:k≤2 ^ 45:=by omega
 have hn1:n≤2 ^ 45:=by omega
 clear hc hln hBb hfit halt hVB hs ht htop hk0
 go_enter Tryz.func143,Tryz.ntmps143
 go_wp2_with (first
  | (go_at_call 156;(with_reducible refine (lz64_any t htB _).mono ?_);rintro e w' ⟨rfl,rfl⟩)
  | (at_make;refine wpList_make64 _ rfl (.tmp 22) (.tmp 22) rfl .i64 .i64 _ _ (k+1) rfl rfl (by omega) (by omega) hM.out.2.2 ?_;intro w1 hown1 hb1)
  | (go_at_call 157
     refine (shiftUp_at _ la (List.replicate (k+1) 0) [] s w.heap.size 0 (k+1) _ k c A w1 hown1 rfl (by simp) (ha.below hb1) (Off.of_lt ha (Nat.le_refl _)) La hs64 (Or.inr rfl) hM.out.1 rfl).mono ?_
     rintro e w2 ⟨rfl,⟨R0,hR1,hR2,hR3,hR4⟩,ho2⟩
     have hb2:Below w.heap.size w w2:=Below.only hb1 (Nat.le_refl _) hb1.size ho2
     rw [List.nil_append] at hR4;have hg2:=hR4.lt;have HR1:=Lib.hid hR1;have HR3:=Lib.hid hR3;clear hR1 hR3 hown1)
  | (at_make;refine wpList_make64 _ rfl (.tmp 28) (.tmp 28) rfl .i64 .i64 _ _ n rfl rfl (by omega) (by omega) (by omega) ?_;intro w3 hown3 hb3
     have hR4':=hR4.below hb3 hg2)
  | (go_at_call 157
     refine (shiftUp_at _ lb (List.replicate n 0) [] s w2.heap.size 0 n _ n d _ w3 hown3 rfl (by simp) ((hb.below hb2).below hb3) (Off.of_lt (hb.below hb2) (Nat.le_refl _)) Lb hs64 (Or.inl ⟨rfl,HF.out⟩) hM.out.2.1 rfl).mono ?_
     rintro e w4 ⟨rfl,⟨V,hV1,hV2,hV3,hV4⟩,ho4⟩
     rw [List.nil_append] at hV4
     have hR5:=hR4'.only ho4 (Nat.ne_of_lt hg2)
     have hb4:Below w2.heap.size w2 w4:=Below.only hb3 (Nat.le_refl _) hb3.size ho4
     have hg4:=hV4.lt;have HV1:=Lib.hid hV1;have HV3:=Lib.hid hV3
     clear hV1 hV3 hown3 hR4 hR4')
  | (at_make;refine wpList_make64 _ rfl (.tmp 38) (.tmp 38) rfl .i64 .i64 _ _ (k - n+1) rfl rfl (by omega) (by omega) (by omega) ?_;intro w5 hown5 hb5
     have hR6:=hR5.below hb5 (Nat.lt_trans hg2 hg4)
     have hV5:=hV4.below hb5 hg4
     have hb6:Below w.heap.size w w5:=hb2.trans ((hb4.mono hb2.size).trans (hb5.mono (Nat.le_trans hb2.size hb4.size)))
     clear hR5 hV4))
 obtain ⟨gq,hgq⟩:∃ g,g=w4.heap.size:=⟨_,rfl⟩
 obtain ⟨gv,hgv⟩:∃ g,g=w2.heap.size:=⟨_,rfl⟩
 obtain ⟨gr,hgr⟩:∃ g,g=w.heap.size:=⟨_,rfl⟩
 rw [← hgq] at hown5
 rw [← hgv] at hV5 hg4
 rw [← hgr] at hR6 hg2
 rw [← hgq] at hg4;rw [← hgv] at hg2
 simp only [← hgq,← hgv,← hgr]
 have hgw:w.heap.size≤gr:=by omega
 have HVB2:Hid (∀ x,V[n - 1]?=some x→0 < x):=fun x hx=>top_pos hV2 (by have:=HV1.out;omega) hx (by rw [HV3.out];exact HVB.out)
 have HVB3:=HVB
 have HVn:Hid (val B64 V < B64 ^ n):=by show _ < _;rw [HV3.out];exact HF.out
 have HS0:Hid (val B64 R0 < B64 ^ (k - n+1)*val B64 V):=by show _ < _;rw [HR3.out,HV3.out];exact HST.out
 clear hgq hgv hgr HST HVB HF hct hwrap ho2 ho4 hb1 hb2 hb3 hb4 hb5
 go_loopw [10] (fun i wr=>∃ (j:Nat) (R Q:List Nat),j≤k - n+1∧i=.int .i64 ((j:Int) - 1)∧Own .u64 74 wr gr R∧Own .u64 74 wr gv V∧Own .u64 74 wr gq (List.replicate j 0 ++ Q)∧Below w.heap.size w wr ∧
  Hid (R.length=k+1∧Q.length+j=k - n+1∧Lim B64 R∧Lim B64 Q∧val B64 R0=val B64 Q*B64 ^ j*val B64 V+val B64 R∧val B64 R < B64 ^ j*val B64 V)) (fun i _=>(intOf i+1).toNat)
 case atStart=>exact ⟨k - n+1,R0,[],Nat.le_refl _,by go_num,hR6,hV5,by simpa using hown5,hb6,HR1.out,by simp,hR2,Lim.nil,by simp,HS0.out⟩
 case round =>
  obtain ⟨j,R,Q,hj,rfl,hR,hV,hQ,hbw,HI⟩:=hrel
  by_cases hj0:0 < j
  · obtain ⟨i,rfl⟩:∃ i,j=i+1:=⟨j - 1,by omega⟩
    have HC:=Lib.hid (long_cut (i:=i) (n:=n) HI.out.2.2.1 (by rw [HI.out.1];omega) HVn.out HI.out.2.2.2.2.2)
    have hz:Own .u64 74 wr gr (R.take i ++ ((R.drop i).take (n+1) ++ R.drop (i+(n+1)))):=by
     rw [← List.drop_drop,List.take_append_drop,List.take_append_drop];exact hR
    have HL1:Hid ((R.take i).length=i):=by show _=_;rw [List.length_take,HI.out.1];omega
    have HL2:Hid (((R.drop i).take (n+1)).length=n+1):=by show _=_;rw [List.length_take,List.length_drop,HI.out.1];omega
    have hq:Own .u64 74 wr gq (List.replicate i 0 ++ (0 :: Q)):=by
     rw [List.replicate_succ',List.append_assoc] at hQ;exact hQ
    have hlz:Hid ((List.replicate i 0).length=i):=by show _=_;simp
    clear hR hQ
    go_wp2_with (first
     | (go_at_call 158
        refine (divideStep_any _ V (R.take i) ((R.drop i).take (n+1)) (R.drop (i+(n+1))) gr i n _ n (some ⟨gv,0,none⟩) wr (by omega) hn2 hz HL1.out HL2.out
         (hV.rd HV1.out (fun j x hx=>by simpa using hx)) (fun _ ad e=>by cases e;exact Nat.ne_of_gt hg2) hV2 ((HI.out.2.2.1.drop _).take _) (by have:=hM.out;omega) HVB2.out HC.out.1).mono ?_
        rintro e w7 ⟨rfl,⟨P,hP1,hP2,hP3,hP4⟩,ho7⟩
        have hV7:=hV.only ho7 (Nat.ne_of_gt hg2)
        have hq7:=hq.only ho7 (Nat.ne_of_gt (Nat.lt_trans hg2 hg4))
        have hcz:=hq7.cell_len hlz.out;have hfz:=Own.frozen hq7 i;have HP1:=Lib.hid hP1;have HP3:=Lib.hid hP3;clear hP1 hP3))
    have hst:=hq7.store_len hlz.out (val B64 ((R.drop i).take (n+1)) / val B64 V)
    rw [List.append_assoc] at hst;have HST:=Lib.hid hst
    go_roundw
    case rel =>
     rw [← Int.natCast_ediv]
     obtain ⟨i1,i2,i3,i4,i5,i6⟩:=HI.out
     obtain ⟨c1,c2,c3⟩:=HC.out
     have hV0:0 < val B64 V:=Nat.lt_of_lt_of_le (Nat.pow_pos (show 0 < B64 by decide)) (by rw [HV3.out];exact HVB3.out)
     obtain ⟨s1,s2⟩:=long_step (B:=B64) i5 c3 (by have:=take_lt i3 (n:=i) (by omega);exact this) HP3.out hV0
     have hval:val B64 (R.take i ++ (P ++ R.drop (i+(n+1))))=val B64 (R.take i)+B64 ^ i*val B64 P:=by
      rw [val_append,val_append,c2,HL1.out,Nat.mul_zero,Nat.add_zero]
     have hUB:val B64 ((R.drop i).take (n+1)) / val B64 V < B64:=Nat.div_lt_of_lt_mul (by rw [Nat.mul_comm];exact c1)
     refine ⟨i,R.take i ++ (P ++ R.drop (i+(n+1))),(val B64 ((R.drop i).take (n+1)) / val B64 V) :: Q,by omega,by go_num,?_,?_,HST.out,?_,?_,?_,?_,Lim.cons hUB i4,?_,?_⟩
     · exact hP4.only ((Only.refl _ _).setCell _ _) (by omega)
     · exact hV7.only ((Only.refl _ _).setCell _ _) (by omega)
     · exact (Below.only hbw hgw hbw.size ho7).setCell (p:=⟨gq,i,none⟩) (by show w.heap.size≤gq;omega) _
     · rw [List.length_append,List.length_append,HL1.out,HP1.out,List.length_drop,i1];try omega
     · rw [List.length_cons];try omega
     · exact (i3.take _).append (hP2.append (i3.drop _))
     · rw [val_cons,hval];exact s1
     · rw [hval];exact s2
    case measure=>simp [intOf]
  · obtain rfl:j=0:=by omega
    rw [List.replicate_zero,List.nil_append] at hQ
    obtain ⟨i1,i2,i3,i4,i5,i6⟩:=HI.out
    have hRn:val B64 R < B64 ^ n:=Nat.lt_of_lt_of_le i6 (by rw [Nat.pow_zero,Nat.one_mul];exact Nat.le_of_lt HVn.out)
    have hRt:val B64 (R.take n)=val B64 R:=by rw [val_take i3 n (by omega),Nat.mod_eq_of_lt hRn]
    have hfin:=long_end (a:=val B64 la) (b:=val B64 lb) (s:=s) (by rw [← HR3.out,← HV3.out];exact i5) (by rw [← HV3.out];exact i6)
    rw [← hRt] at hfin;have HFIN:=Lib.hid hfin
    have hz:Own .u64 74 wr gr ([] ++ (R.take n ++ R.drop n)):=by rw [List.take_append_drop];exact hR
    have HL:Hid ((R.take n).length=n):=by show _=_;rw [List.length_take];omega
    have hah:Ahead wr gr [] (R.take n) (R.drop n) (some ⟨gr,0,none⟩) n (R.take n):=by
     have:=Ahead.same (w:=wr) (g:=gr) (pre:=[]) (seg:=R.take n) (post:=R.drop n)
     rw [HL.out] at this
     exact this
    have HRD:Hid ((R.drop n).length+n=k+1):=by show _=_;rw [List.length_drop];omega
    have HLM:Hid (k - n+1≤maxLen):=by have:=hM.out;show _≤_;omega
    have HQ:Hid (Q.length=k - n+1):=by show _=_;omega
    clear hfin hRn hRt i5 i6 hR
    go_wp2_with (first
     | (go_at_call 159
        refine (shiftDown_any (R.take n) [] (R.take n) (R.drop n) s gr 0 n (k+1) n (k+1) (some ⟨gr,0,none⟩) wr hz rfl HL.out hah (i3.take _) hs64 rfl hM.out.2.1).mono ?_
        rintro e w7 ⟨rfl,⟨P,hP1,hP2,hP3,hP4⟩,ho7⟩
        have hq7:=hQ.only ho7 (Nat.ne_of_gt (Nat.lt_trans hg2 hg4))
        rw [List.nil_append] at hP4
        have hrP:Rd .u64 w7 (some ⟨gr,0,none⟩) n P:=hP4.rd hP1 (fun j x hx=>by rw [Nat.zero_add];exact (List.getElem?_append_left (List.getElem?_eq_some_iff.1 hx).1).trans hx)
        have HP1:=Lib.hid hP1;have HP3:=Lib.hid hP3;clear hP1 hP3)
     | (go_at_call 103;(with_reducible refine (trim_own Q gq _ w.heap.size w7 hq7 (by omega) HQ.out i4 HLM.out).mono ?_);rintro e w' ⟨⟨k3,hk3,rfl,hfr⟩,rfl⟩)
     | (go_at_call 103;(with_reducible refine (trim_any P (some ⟨gr,0,none⟩) n (k+1) w7 hrP hP2 hM.out.2.1 (by omega)).mono ?_);rintro e w' ⟨⟨k4,hk4,rfl,hrd⟩,rfl⟩))
    go_ret2
    obtain ⟨f1,f2⟩:=HFIN.out
    rw [f1] at hfr
    rw [HP3.out,f2] at hrd
    have hl:=hrd.1
    have hlim:limbs B64 (val B64 P)=limbs B64 (val B64 la % val B64 lb):=by rw [HP3.out,f2]
    have ht:=limbs_take B64_two hP2
    rw [hlim,hl] at ht
    have hfr2:=Fr.of_own hP4 (B:=w.heap.size) (k:=k4) (by omega) (by rw [List.length_append,HP1.out];omega) (by rw [List.length_append,HP1.out];have:=HRD.out;have:=hM.out;omega)
    rw [List.take_append_of_le_length (by rw [HP1.out];exact hk4),ht,List.length_append,HP1.out,show n+(R.drop n).length=k+1 by have:=HRD.out;omega] at hfr2
    have hbe:Below w.heap.size w w7:=Below.only hbw hgw hbw.size ho7
    exact ⟨_,_,_,_,_,_,rfl,hk3,HLM.out,by omega,hM.out.1,hfr,hfr2,hbe⟩
end
section
open Go.RowKit
theorem divmod_long (la lb:List Nat) (A B:Option Addr) (n c m d:Nat) (w:World) (ha:Rd .u64 w A n la) (hb:Rd .u64 w B m lb) (La:Lim B64 la) (Lb:Lim B64 lb) (hn0:n≤35184372088830) (hm0:m≤35184372088832)
 (hnc:n≤c) (hmd:m≤d) (hle:val B64 lb≤val B64 la) (hbB:B64≤val B64 lb) :
 Calls Tryz.prog 119 #[.slice A n c,.slice B m d] w (GivesQR w (limbs B64 (val B64 la / val B64 lb)) (limbs B64 (val B64 la % val B64 lb))):=by
 have HN:Hid (n≤maxLen∧m≤maxLen):=⟨by unfold maxLen;omega,by unfold maxLen;omega⟩
 have HN0:=Lib.hid hn0
 have HC:0≤cmpN (val B64 la) (val B64 lb):=by
  rcases Nat.lt_or_eq_of_le hle with h | h
  · rw [cmpN_gt h];omega
  · rw [cmpN_eq h.symm];omega
 have hmono:=length_limbs_mono B64_two hle
 have hlen2:2≤(limbs B64 (val B64 lb)).length:=by
  rcases Nat.lt_or_ge (limbs B64 (val B64 lb)).length 2 with h | h
  · have h1:=lt_pow_limbs B64_two (val B64 lb)
    have h2:B64 ^ (limbs B64 (val B64 lb)).length≤B64 ^ 1:=Nat.pow_le_pow_right (by decide) (by omega)
    rw [Nat.pow_one] at h2
    omega
  · exact h
 have hlast:=limbs_last B64_two (val B64 lb)
 generalize hX:limbs B64 (val B64 la)=xs at hmono
 have LX:Lim B64 xs:=by rw [← hX];exact lim_limbs B64_two _
 generalize hY:limbs B64 (val B64 lb)=ys at hmono hlen2 hlast
 have LY:Lim B64 ys:=by rw [← hY];exact lim_limbs B64_two _
 have hvx:val B64 xs=val B64 la:=by rw [← hX,val_limbs B64_two]
 have hvy:val B64 ys=val B64 lb:=by rw [← hY,val_limbs B64_two]
 rw [← hvx,← hvy] at HC
 have HX:=Lib.hid hX;have HY:=Lib.hid hY;have HVX:=Lib.hid hvx;have HVY:=Lib.hid hvy;have HMO:=Lib.hid hmono;have HL2:=Lib.hid hlen2;have HLA:=Lib.hid hlast;clear hX hY hvx hvy hle hbB hn0 hm0 hmono hlen2 hlast
 go_enter Tryz.func119,Tryz.ntmps119
 go_wp2_with (first
  | (go_at_call 103;(with_reducible refine (trim_any la A n c w ha La HN.out.1 hnc).mono ?_);rintro e w' ⟨⟨k,hk,rfl,hka⟩,rfl⟩;rw [HX.out] at hka)
  | (go_at_call 103;(with_reducible refine (trim_any lb B m d w hb Lb HN.out.2 hmd).mono ?_);rintro e w' ⟨⟨k2,hk2,rfl,hkb⟩,rfl⟩;rw [HY.out] at hkb
     have hkz:((k2:Int) == 0)=false:=by (have:=hkb.1;have:=HL2.out;simp;omega)
     have hk1:((k2:Int) == 1)=false:=by (have:=hkb.1;have:=HL2.out;simp;omega))
  | (go_at_call 95;refine (cmp_any xs ys A B k c k2 d w hka hkb LX LY (by have:=HN.out.1;omega) (by have:=HN.out.2;omega) (by omega) (by omega)).mono ?_;rintro e w' ⟨rfl,q,rfl⟩)
  | (go_at_call 143
     refine (divideLong_any xs ys A B k c k2 d _ (hka.drewN q) (hkb.drewN q) LX LY (by have:=HN0.out;omega) (by have:=HL2.out;have:=hkb.1;omega) (by have:=HMO.out;have:=hka.1;have:=hkb.1;omega) ?_).mono ?_
     · intro x hx h0
       refine HLA.out ?_
       rw [List.getLast?_eq_getElem?,hkb.1,hx,h0]
     rintro e w2 ⟨A1,n1,c1,A2,n2,c2,rfl,p1,p2,p3,p4,p5,p6,p7⟩))
 go_ret3
 rw [HVX.out,HVY.out] at p5 p6
 have hz:(w.drewN q).heap.size=w.heap.size:=rfl
 rw [hz] at p5 p6 p7
 exact ⟨_,_,_,_,_,_,rfl,p1,p2,p3,p4,p5,p6,(below_drawn (Below.refl _ _) q).trans p7⟩
theorem divmod_any (la lb:List Nat) (A B:Option Addr) (n c m d:Nat) (w:World) (ha:Rd .u64 w A n la) (hb:Rd .u64 w B m lb) (La:Lim B64 la) (Lb:Lim B64 lb) (hn0:n≤35184372088830) (hm0:m≤35184372088830)
 (hnc:n≤c) (hmd:m≤d) (hb0:val B64 lb ≠ 0) :
 Calls Tryz.prog 119 #[.slice A n c,.slice B m d] w (GivesQR w (limbs B64 (val B64 la / val B64 lb)) (limbs B64 (val B64 la % val B64 lb))):=by
 rcases Nat.lt_or_ge (val B64 la) (val B64 lb) with h | h
 · rw [Nat.div_eq_of_lt h,Nat.mod_eq_of_lt h,limbs_zero]
   exact divmod_below la lb A B n c m d w ha hb La Lb (by omega) (by omega) hnc hmd h
 · rcases Nat.lt_or_ge (val B64 lb) B64 with h2 | h2
   · exact divmod_limb la lb A B n c m d w ha hb La Lb (by omega) (by omega) hnc hmd h hb0 h2
   · exact divmod_long la lb A B n c m d w ha hb La Lb hn0 (by omega) hnc hmd h h2
end
section
open Go.RowKit
end
section
open Go.RowKit
def tenTo (k:Nat):Nat:=10 ^ k
theorem tenTo_lt {k:Nat} (h:k≤19):tenTo k < B64:=Nat.lt_of_le_of_lt (Nat.pow_le_pow_right (by omega) h) (show 10 ^ 19 < B64 by decide)
theorem ten_le {k:Nat} (h:k≤19):10 ^ k≤10000000000000000000:=Nat.pow_le_pow_right (by omega) h
theorem powerOfTen_any (k:Nat) (w:World) (hk:k≤19) :
 Calls Tryz.prog 132 #[.int .i64 (k:Int)] w fun e w'=>e=.returned (.int .u64 (tenTo k:Nat))∧w'=w:=by
 go_enter Tryz.func132,Tryz.ntmps132
 go_wp2_with fail
 go_loop [3,5] (fun p i=>∃ j t:Nat,j≤k∧Hid (t=10 ^ j)∧i=.int .i64 j∧p=.int .u64 (t:Int)) (fun _ i=>k - (intOf i).toNat)
 case atStart=>exact ⟨0,1,Nat.zero_le _,rfl,rfl,rfl⟩
 case round =>
  obtain ⟨j,t,hj,HT,rfl,rfl⟩:=hrel
  by_cases hlt:j < k
  · go_wp2_with fail
    go_round
    case rel =>
     refine ⟨j+1,t*10,by omega,?_,by go_num,?_⟩
     · show _=_;rw [HT.out,Nat.pow_succ]
     · have h1:=ten_le (k:=j+1) (by omega)
       rw [Nat.pow_succ,← HT.out] at h1
       have h2:=wrap_nat (t*10)
       rw [Nat.mod_eq_of_lt (by rw [B64_eq];omega)] at h2
       rw [← h2]
       rfl
    case measure=>simp [intOf];omega
  · obtain rfl:j=k:=by omega
    go_wp2_with fail
    go_ret
    exact ⟨ret_int (by rw [HT.out];rfl),rfl⟩
end
section
open Go.RowKit
theorem limbs_of_full {l:List Nat} {n:Nat} (hL:Lim B64 l) (hl:l.length=n) (h:n=0 ∨ B64 ^ (n - 1)≤val B64 l):l=limbs B64 (val B64 l):=by
 obtain ⟨h1,h2⟩:=limbs_prefix B64_two hL
 have h3:n≤(limbs B64 (val B64 l)).length:=by
  rcases h with h | h
  · omega
  · rcases Nat.lt_or_ge (limbs B64 (val B64 l)).length n with h4 | h4
    · have:=lt_pow_limbs B64_two (val B64 l)
      have h5:=Nat.pow_le_pow_right (n:=B64) (by decide) (show (limbs B64 (val B64 l)).length≤n - 1 by omega)
      omega
    · exact h4
 have h4:l.length - (limbs B64 (val B64 l)).length=0:=by omega
 rw [h4,List.replicate_zero,List.append_nil] at h1
 exact h1
end
end Go.Proofs.YtlpogecpdfdggaaGreat
