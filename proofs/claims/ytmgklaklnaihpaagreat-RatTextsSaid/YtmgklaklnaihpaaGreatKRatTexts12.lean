/- RatTexts: part 12. -/
import Derived.LoopTactic
import Derived.Test.YtmgklaklnaihpaaGreatKRatTexts11
set_option linter.unusedVariables false
set_option maxRecDepth 100000
set_option maxHeartbeats 16000000
variable {w:Go.World}
variable {s_a:Bool} {A_a B_a:Option Go.Addr} {n_a c_a m_a d_a:Nat}
namespace Go.Proofs.YtmgklaklnaihpaaGreat
section
open Go Go.RowKit
def GivesRQE (w:World) (v:Rat) (k:Nat) (e:Ending) (w':World):Prop :=
 ∃ s A n c B m d,e=.returned (.tuple #[.agg #[.bool s,.slice A n c,.slice B m d],.int .i64 0])∧RQ w' s A n c B m d v k∧Below w.heap.size w w'
theorem rpr_long (s:ByteArray) (w:World) (hs:20000 < s.size) (_hm:s.size≤maxLen) :
 Calls Tryz.prog 13 #[.string s] w (fun e w'=>e=.returned (.tuple #[.agg #[.bool false,.slice none 0 0,.slice none 0 0],.int .i64 2])∧Below w.heap.size w w'):=by
 have hle:(20000:Int) < (s.size:Int):=by omega
 go_enter Tryz.func13,Tryz.ntmps13
 go_wp2_with fail
 generalize hW:World.alloc _ _=W
 obtain ⟨hb,Z,hzW⟩:=mkbx21_11 hW;clear hW;have zf0:=Z.f0;have zf1:=Z.f1;have zf2:=Z.f2;obtain ⟨z0,z1,z2⟩:=Z.all
 go_wp2_with fail
 refine bodyPost_ret (v:=.tuple #[.agg #[.bool false,.slice none 0 0,.slice none 0 0],.int .i64 2]) (by simp [results,Tryz.results13,go_sem,z0,z1,z2]) rfl ?_
 exact ⟨rfl,hb⟩
theorem rpr_nbad (s:ByteArray) (w:World) (hs:s.size≤20000) (hno:∀ (j:Nat) (h:j < s.size),s[j].toNat ≠ 47) (hz:zbad s.data.toList=true) :
 Calls Tryz.prog 13 #[.string s] w (fun e w'=>e=.returned (.tuple #[.agg #[.bool false,.slice none 0 0,.slice none 0 0],.int .i64 11])∧Below w.heap.size w w'):=by
 have hle:¬ (20000:Int) < (s.size:Int):=by omega
 have HNO:=Lib.hid hno;have HZ:=Lib.hid hz;have HS1:=Lib.hid hs;clear hno hz
 go_enter Tryz.func13,Tryz.ntmps13
 go_wp2_with fail
 generalize hW:World.alloc _ _=W
 obtain ⟨hb,Z,hzW⟩:=mkbx21_11 hW;clear hW
 go_loop [4] (fun ix=>∃ j:Nat,j≤s.size∧ix=.int .i64 (j:Int)) (fun vv=>s.size - (intOf vv).toNat)
 case atStart=>exact ⟨0,Nat.zero_le _,rfl⟩
 case round =>
  obtain ⟨j,hj,rfl⟩:=hrel
  by_cases hjn:j < s.size
  · have hjs:j < s.size:=by omega
    have h47:¬ (s[j].toNat:Int)=47:=by have:=HNO.out j hjs;omega
    go_wp2_with fail
    go_round
    case rel=>exact ⟨j+1,by omega,by go_num⟩
    case measure=>simp [intOf];omega
  · obtain rfl:j=s.size:=by omega
    go_upto_region 7 with (first
     | (go_at_call 56;(with_reducible refine (rparse2_no s _ HS1.out HZ.out).mono ?_);rintro e w_n ⟨rfl,hh⟩
        replace Z:=Z.below hh;replace hb:=bend hb hh))
    have hzl:w.heap.size < w_n.heap.size:=Z.lt
    generalize hW:World.alloc _ _=W2
    obtain ⟨hh,XN,hzW2⟩:=mkbx15_10 hW;clear hW;(try replace Z:=Z.below hh);replace hb:=bend hb hh;obtain ⟨xn0,xn1⟩:=XN.all;have zf0:=Z.f0;have zf1:=Z.f1;have zf2:=Z.f2;obtain ⟨z0,z1,z2⟩:=Z.all
    go_wp2_with fail
    have Z2:=Z.set3 (.bool false) (.slice none 0 0) (.slice none 0 0)
    obtain ⟨g0,g1,g2⟩:=Z2.all
    refine bodyPost_ret (v:=.tuple #[.agg #[.bool false,.slice none 0 0,.slice none 0 0],.int .i64 11]) (by simp [results,Tryz.results13,go_sem,g0,g1,g2]) rfl ?_
    exact ⟨rfl,below_set3 hb (by omega) _ _ _⟩
theorem rpr_nook (s:ByteArray) (w:World) (hs:s.size≤20000) (hno:∀ (j:Nat) (h:j < s.size),s[j].toNat ≠ 47) {p:Int} {k:Nat} (hz:zbad s.data.toList=false) (hp:zval s.data.toList=p) (hpk:p.natAbs < B32 ^ k) (hk:k≤800) (h1:1≤k) (hc:qtxt (mkRat p 1)=s.data.toList) :
 Calls Tryz.prog 13 #[.string s] w (GivesRQE w (mkRat p 1) k):=by
 have hle:¬ (20000:Int) < (s.size:Int):=by omega
 have HNO:=Lib.hid hno;have HZ:=Lib.hid hz;have HS1:=Lib.hid hs;have HP:=Lib.hid hp;have HPK:=Lib.hid hpk;have HC:=Lib.hid hc;clear hno hz hp hpk hc
 go_enter Tryz.func13,Tryz.ntmps13
 go_wp2_with fail
 generalize hW:World.alloc _ _=W
 obtain ⟨hb,Z,hzW⟩:=mkbx21_11 hW;clear hW
 go_loop [4] (fun ix=>∃ j:Nat,j≤s.size∧ix=.int .i64 (j:Int)) (fun vv=>s.size - (intOf vv).toNat)
 case atStart=>exact ⟨0,Nat.zero_le _,rfl⟩
 case round =>
  obtain ⟨j,hj,rfl⟩:=hrel
  by_cases hjn:j < s.size
  · have hjs:j < s.size:=by omega
    have h47:¬ (s[j].toNat:Int)=47:=by have:=HNO.out j hjs;omega
    go_wp2_with fail
    go_round
    case rel=>exact ⟨j+1,by omega,by go_num⟩
    case measure=>simp [intOf];omega
  · obtain rfl:j=s.size:=by omega
    go_upto_region 7 with (first
     | (go_at_call 56;(with_reducible refine (rparse2_yes s _ HS1.out HZ.out).mono ?_);rintro e w_n ⟨s_x,A_x,n_x,c_x,rfl,x0,hh⟩
        rw [HP.out] at x0;have x:=x0.tight1 HPK.out;clear x0;replace Z:=Z.below hh;replace hb:=bend hb hh))
    have hzl:w.heap.size < w_n.heap.size:=Z.lt
    generalize hW:World.alloc _ _=W2
    obtain ⟨hh,XN,hzW2⟩:=mkbx15_10 hW;clear hW;(try replace x:=x.below hh);(try replace Z:=Z.below hh);replace hb:=bend hb hh;obtain ⟨xn0,xn1⟩:=XN.all
    go_upto_region 16 with (first
     | (go_at_call 57;(with_reducible refine (rof_rn _).mono ?_);rintro e w_o ⟨B_o,m_o,d_o,rfl,y0,hh⟩
        replace x:=x.below hh;replace XN:=XN.below hh;replace Z:=Z.below hh;replace hb:=bend hb hh;obtain ⟨xn0,xn1⟩:=XN.all;have zf0:=Z.f0;have zf1:=Z.f1;have zf2:=Z.f2;obtain ⟨z0,z1,z2⟩:=Z.all
        skip)
     | (go_at_call 59;(with_reducible refine (made_rq x (y0.more h1) (by omega) Nat.one_ne_zero).mono ?_);rintro e w_a ⟨s_a,A_a,n_a,c_a,B_a,m_a,d_a,rfl,a,hh⟩
        replace Z:=Z.below hh;replace hb:=bend hb hh))
    have hzl2:w.heap.size < w_a.heap.size:=Z.lt
    generalize hW:World.alloc _ _=W3
    obtain ⟨hh,XM,hzW3⟩:=mkbx21_11 hW;clear hW;(try replace a:=a.below hh);(try replace Z:=Z.below hh);replace hb:=bend hb hh;obtain ⟨xm0,xm1,xm2⟩:=XM.all
    have hcn:(qtxt (mkRat p 1) == s.toList)=true:=by rw [Lib.toList_data];have:=HC.out;simpa using this
    go_wp2_with (first
     | (go_at_call 16;(with_reducible refine (rtext3 a hk).mono ?_);rintro e w_z ⟨rfl,hh⟩
        (try replace a:=a.below hh);(try replace Z:=Z.below hh);replace hb:=bend hb hh;have XM:=XM.below hh;obtain ⟨xm0,xm1,xm2⟩:=XM.all;have zf0:=Z.f0;have zf1:=Z.f1;have zf2:=Z.f2;obtain ⟨z0,z1,z2⟩:=Z.all))
    have Z2:=Z.set3 (.bool s_a) (.slice A_a n_a c_a) (.slice B_a m_a d_a)
    obtain ⟨g0,g1,g2⟩:=Z2.all
    refine bodyPost_ret (v:=.tuple #[.agg #[.bool s_a,.slice A_a n_a c_a,.slice B_a m_a d_a],.int .i64 0]) (by simp [results,Tryz.results13,go_sem,g0,g1,g2]) rfl ?_
    exact ⟨s_a,A_a,n_a,c_a,B_a,m_a,d_a,rfl,a.set3 Z _ _ _,below_set3 hb (by omega) _ _ _⟩
theorem rpr_ubad (s:ByteArray) (i:Nat) (w:World) (hs:s.size≤20000) (hlt:i < s.size) (hno:∀ (j:Nat) (h:j < s.size),j < i→s[j].toNat ≠ 47) (hi:s[i].toNat=47) {u1 u2:ByteArray} (hu1:s.extract 0 i=u1) (hu2:s.extract (i+1) s.size=u2) (hs1:u1.size≤20000) (hs2:u2.size≤20000) (hz:zbad u1.data.toList=true) :
 Calls Tryz.prog 13 #[.string s] w (fun e w'=>e=.returned (.tuple #[.agg #[.bool false,.slice none 0 0,.slice none 0 0],.int .i64 11])∧Below w.heap.size w w'):=by
 have hle:¬ (20000:Int) < (s.size:Int):=by omega
 have HNO:=Lib.hid hno;have HZ:=Lib.hid hz;have HI:=Lib.hid hi;have HU1:=Lib.hid hu1;have HU2:=Lib.hid hu2;have HS1:=Lib.hid hs1;have HS2:=Lib.hid hs2;have HLT:=Lib.hid hlt;have HSZ:=Lib.hid hs;clear hno hz hi hu1 hu2 hs1 hs2
 go_enter Tryz.func13,Tryz.ntmps13
 go_wp2_with fail
 generalize hW:World.alloc _ _=W
 obtain ⟨hb,Z,hzW⟩:=mkbx21_11 hW;clear hW
 go_loop [4] (fun ix=>∃ j:Nat,j≤i∧ix=.int .i64 (j:Int)) (fun vv=>i - (intOf vv).toNat)
 case atStart=>exact ⟨0,Nat.zero_le _,rfl⟩
 case round =>
  obtain ⟨j,hj,rfl⟩:=hrel
  by_cases hjn:j < i
  · have hjs:j < s.size:=by omega
    have h47:¬ (s[j].toNat:Int)=47:=by have:=HNO.out j hjs hjn;omega
    go_wp2_with fail
    go_round
    case rel=>exact ⟨j+1,by omega,by go_num⟩
    case measure=>simp [intOf];omega
  · obtain rfl:j=i:=by omega
    have h47:(s[j].toNat:Int)=47:=by have:=HI.out;omega
    have hjs:j < s.size:=HLT.out
    have c2:(j:Int)≤(s.size:Int):=by omega
    have c3:(0:Int)≤(j:Int)+1:=by omega
    have c4:(j:Int)+1≤(s.size:Int):=by omega
    have c5:IntKind.i64.wrap ((j:Int)+1)=(j:Int)+1:=IntWalk.i64_in _ (by omega)
    have c6:((j:Int)+1).toNat=j+1:=by omega
    have hjz:(j:Int) < (s.size:Int):=by omega
    go_upto_region 7 with (first
     | (go_at_call 56;rw [HU1.out];(with_reducible refine (rparse2_no u1 _ HS1.out HZ.out).mono ?_);rintro e w_n ⟨rfl,hh⟩
        replace Z:=Z.below hh;replace hb:=bend hb hh))
    have hzl:w.heap.size < w_n.heap.size:=Z.lt
    generalize hW:World.alloc _ _=W2
    obtain ⟨hh,XN,hzW2⟩:=mkbx15_10 hW;clear hW;(try replace Z:=Z.below hh);replace hb:=bend hb hh;obtain ⟨xn0,xn1⟩:=XN.all;have zf0:=Z.f0;have zf1:=Z.f1;have zf2:=Z.f2;obtain ⟨z0,z1,z2⟩:=Z.all
    go_wp2_with fail
    have Z2:=Z.set3 (.bool false) (.slice none 0 0) (.slice none 0 0)
    obtain ⟨g0,g1,g2⟩:=Z2.all
    refine bodyPost_ret (v:=.tuple #[.agg #[.bool false,.slice none 0 0,.slice none 0 0],.int .i64 11]) (by simp [results,Tryz.results13,go_sem,g0,g1,g2]) rfl ?_
    exact ⟨rfl,below_set3 hb (by omega) _ _ _⟩
theorem rpr_lbad (s:ByteArray) (i:Nat) (w:World) (hs:s.size≤20000) (hlt:i < s.size) (hno:∀ (j:Nat) (h:j < s.size),j < i→s[j].toNat ≠ 47) (hi:s[i].toNat=47) {u1 u2:ByteArray} (hu1:s.extract 0 i=u1) (hu2:s.extract (i+1) s.size=u2) (hs1:u1.size≤20000) (hs2:u2.size≤20000) {p:Int} {k:Nat} (hz:zbad u1.data.toList=false) (hp:zval u1.data.toList=p) (hpk:p.natAbs < B32 ^ k) (_hk:k≤800) (ht:isTextB u2.data.toList=false) :
 Calls Tryz.prog 13 #[.string s] w (fun e w'=>e=.returned (.tuple #[.agg #[.bool false,.slice none 0 0,.slice none 0 0],.int .i64 11])∧Below w.heap.size w w'):=by
 have hle:¬ (20000:Int) < (s.size:Int):=by omega
 have HNO:=Lib.hid hno;have HZ:=Lib.hid hz;have HI:=Lib.hid hi;have HU1:=Lib.hid hu1;have HU2:=Lib.hid hu2;have HS1:=Lib.hid hs1;have HS2:=Lib.hid hs2;have HLT:=Lib.hid hlt;have HSZ:=Lib.hid hs;have HP:=Lib.hid hp;have HPK:=Lib.hid hpk;have HT:=Lib.hid ht;clear hno hz hi hu1 hu2 hs1 hs2 hp hpk ht
 go_enter Tryz.func13,Tryz.ntmps13
 go_wp2_with fail
 generalize hW:World.alloc _ _=W
 obtain ⟨hb,Z,hzW⟩:=mkbx21_11 hW;clear hW
 go_loop [4] (fun ix=>∃ j:Nat,j≤i∧ix=.int .i64 (j:Int)) (fun vv=>i - (intOf vv).toNat)
 case atStart=>exact ⟨0,Nat.zero_le _,rfl⟩
 case round =>
  obtain ⟨j,hj,rfl⟩:=hrel
  by_cases hjn:j < i
  · have hjs:j < s.size:=by omega
    have h47:¬ (s[j].toNat:Int)=47:=by have:=HNO.out j hjs hjn;omega
    go_wp2_with fail
    go_round
    case rel=>exact ⟨j+1,by omega,by go_num⟩
    case measure=>simp [intOf];omega
  · obtain rfl:j=i:=by omega
    have h47:(s[j].toNat:Int)=47:=by have:=HI.out;omega
    have hjs:j < s.size:=HLT.out
    have c2:(j:Int)≤(s.size:Int):=by omega
    have c3:(0:Int)≤(j:Int)+1:=by omega
    have c4:(j:Int)+1≤(s.size:Int):=by omega
    have c5:IntKind.i64.wrap ((j:Int)+1)=(j:Int)+1:=IntWalk.i64_in _ (by omega)
    have c6:((j:Int)+1).toNat=j+1:=by omega
    have hjz:(j:Int) < (s.size:Int):=by omega
    go_upto_region 7 with (first
     | (go_at_call 56;rw [HU1.out];(with_reducible refine (rparse2_yes u1 _ HS1.out HZ.out).mono ?_);rintro e w_n ⟨s_x,A_x,n_x,c_x,rfl,x0,hh⟩
        rw [HP.out] at x0;have x:=x0.tight1 HPK.out;clear x0;replace Z:=Z.below hh;replace hb:=bend hb hh))
    have hzl:w.heap.size < w_n.heap.size:=Z.lt
    generalize hW:World.alloc _ _=W2
    obtain ⟨hh,XN,hzW2⟩:=mkbx15_10 hW;clear hW;(try replace x:=x.below hh);(try replace Z:=Z.below hh);replace hb:=bend hb hh;obtain ⟨xn0,xn1⟩:=XN.all
    go_wp2_with (first
     | (go_at_call 57;(with_reducible refine (rof_rn _).mono ?_);rintro e w_o ⟨B_o,m_o,d_o,rfl,y0,hh⟩
        replace x:=x.below hh;replace XN:=XN.below hh;replace Z:=Z.below hh;replace hb:=bend hb hh;obtain ⟨xn0,xn1⟩:=XN.all;have zf0:=Z.f0;have zf1:=Z.f1;have zf2:=Z.f2;obtain ⟨z0,z1,z2⟩:=Z.all
        skip)
     | (go_at_call 58;rw [HU2.out];(with_reducible refine (rparse_no u2 _ HS2.out HT.out).mono ?_);rintro e w_q ⟨rfl,rfl⟩
        skip))
    have Z2:=Z.set3 (.bool false) (.slice none 0 0) (.slice none 0 0)
    obtain ⟨g0,g1,g2⟩:=Z2.all
    refine bodyPost_ret (v:=.tuple #[.agg #[.bool false,.slice none 0 0,.slice none 0 0],.int .i64 11]) (by simp [results,Tryz.results13,go_sem,g0,g1,g2]) rfl ?_
    exact ⟨rfl,below_set3 hb (by omega) _ _ _⟩
theorem rpr_lzero (s:ByteArray) (i:Nat) (w:World) (hs:s.size≤20000) (hlt:i < s.size) (hno:∀ (j:Nat) (h:j < s.size),j < i→s[j].toNat ≠ 47) (hi:s[i].toNat=47) {u1 u2:ByteArray} (hu1:s.extract 0 i=u1) (hu2:s.extract (i+1) s.size=u2) (hs1:u1.size≤20000) (hs2:u2.size≤20000) {p:Int} {k:Nat} (hz:zbad u1.data.toList=false) (hp:zval u1.data.toList=p) (hpk:p.natAbs < B32 ^ k) (_hk:k≤800) (ht:isTextB u2.data.toList=true) {q:Nat} (hq:dec u2.data.toList=q) (hqk:q < B32 ^ k) (hq0:q=0) :
 Calls Tryz.prog 13 #[.string s] w (fun e w'=>e=.returned (.tuple #[.agg #[.bool false,.slice none 0 0,.slice none 0 0],.int .i64 11])∧Below w.heap.size w w'):=by
 have hle:¬ (20000:Int) < (s.size:Int):=by omega
 have HNO:=Lib.hid hno;have HZ:=Lib.hid hz;have HI:=Lib.hid hi;have HU1:=Lib.hid hu1;have HU2:=Lib.hid hu2;have HS1:=Lib.hid hs1;have HS2:=Lib.hid hs2;have HLT:=Lib.hid hlt;have HSZ:=Lib.hid hs;have HP:=Lib.hid hp;have HPK:=Lib.hid hpk;have HT:=Lib.hid ht;have HQ:=Lib.hid hq;have HQK:=Lib.hid hqk;have HQ0:=Lib.hid hq0;clear hno hz hi hu1 hu2 hs1 hs2 hp hpk ht hq hqk hq0
 go_enter Tryz.func13,Tryz.ntmps13
 go_wp2_with fail
 generalize hW:World.alloc _ _=W
 obtain ⟨hb,Z,hzW⟩:=mkbx21_11 hW;clear hW
 go_loop [4] (fun ix=>∃ j:Nat,j≤i∧ix=.int .i64 (j:Int)) (fun vv=>i - (intOf vv).toNat)
 case atStart=>exact ⟨0,Nat.zero_le _,rfl⟩
 case round =>
  obtain ⟨j,hj,rfl⟩:=hrel
  by_cases hjn:j < i
  · have hjs:j < s.size:=by omega
    have h47:¬ (s[j].toNat:Int)=47:=by have:=HNO.out j hjs hjn;omega
    go_wp2_with fail
    go_round
    case rel=>exact ⟨j+1,by omega,by go_num⟩
    case measure=>simp [intOf];omega
  · obtain rfl:j=i:=by omega
    have h47:(s[j].toNat:Int)=47:=by have:=HI.out;omega
    have hjs:j < s.size:=HLT.out
    have c2:(j:Int)≤(s.size:Int):=by omega
    have c3:(0:Int)≤(j:Int)+1:=by omega
    have c4:(j:Int)+1≤(s.size:Int):=by omega
    have c5:IntKind.i64.wrap ((j:Int)+1)=(j:Int)+1:=IntWalk.i64_in _ (by omega)
    have c6:((j:Int)+1).toNat=j+1:=by omega
    have hjz:(j:Int) < (s.size:Int):=by omega
    go_upto_region 7 with (first
     | (go_at_call 56;rw [HU1.out];(with_reducible refine (rparse2_yes u1 _ HS1.out HZ.out).mono ?_);rintro e w_n ⟨s_x,A_x,n_x,c_x,rfl,x0,hh⟩
        rw [HP.out] at x0;have x:=x0.tight1 HPK.out;clear x0;replace Z:=Z.below hh;replace hb:=bend hb hh))
    have hzl:w.heap.size < w_n.heap.size:=Z.lt
    generalize hW:World.alloc _ _=W2
    obtain ⟨hh,XN,hzW2⟩:=mkbx15_10 hW;clear hW;(try replace x:=x.below hh);(try replace Z:=Z.below hh);replace hb:=bend hb hh;obtain ⟨xn0,xn1⟩:=XN.all
    go_wp2_with (first
     | (go_at_call 57;(with_reducible refine (rof_rn _).mono ?_);rintro e w_o ⟨B_o,m_o,d_o,rfl,y0,hh⟩
        replace x:=x.below hh;replace XN:=XN.below hh;replace Z:=Z.below hh;replace hb:=bend hb hh;obtain ⟨xn0,xn1⟩:=XN.all;have zf0:=Z.f0;have zf1:=Z.f1;have zf2:=Z.f2;obtain ⟨z0,z1,z2⟩:=Z.all
        skip)
     | (go_at_call 58;rw [HU2.out];(with_reducible refine (rparse_yes u2 _ HS2.out HT.out).mono ?_);rintro e w_q ⟨B_y,m_y,d_y,rfl,y1,hh⟩
        rw [HQ.out,HQ0.out] at y1
        obtain rfl:=y1.zero_n rfl
        clear y1;replace x:=x.below hh;replace XN:=XN.below hh;replace Z:=Z.below hh;replace hb:=bend hb hh;obtain ⟨xn0,xn1⟩:=XN.all;have zf0:=Z.f0;have zf1:=Z.f1;have zf2:=Z.f2;obtain ⟨z0,z1,z2⟩:=Z.all
        skip))
    have Z2:=Z.set3 (.bool false) (.slice none 0 0) (.slice none 0 0)
    obtain ⟨g0,g1,g2⟩:=Z2.all
    refine bodyPost_ret (v:=.tuple #[.agg #[.bool false,.slice none 0 0,.slice none 0 0],.int .i64 11]) (by simp [results,Tryz.results13,go_sem,g0,g1,g2]) rfl ?_
    exact ⟨rfl,below_set3 hb (by omega) _ _ _⟩
theorem rpr_neq (s:ByteArray) (i:Nat) (w:World) (hs:s.size≤20000) (hlt:i < s.size) (hno:∀ (j:Nat) (h:j < s.size),j < i→s[j].toNat ≠ 47) (hi:s[i].toNat=47) {u1 u2:ByteArray} (hu1:s.extract 0 i=u1) (hu2:s.extract (i+1) s.size=u2) (hs1:u1.size≤20000) (hs2:u2.size≤20000) {p:Int} {k:Nat} (hz:zbad u1.data.toList=false) (hp:zval u1.data.toList=p) (hpk:p.natAbs < B32 ^ k) (hk:k≤800) (ht:isTextB u2.data.toList=true) {q:Nat} (hq:dec u2.data.toList=q) (hqk:q < B32 ^ k) (hq0:q ≠ 0) (hc:qtxt (mkRat p q) ≠ s.data.toList) :
 Calls Tryz.prog 13 #[.string s] w (fun e w'=>e=.returned (.tuple #[.agg #[.bool false,.slice none 0 0,.slice none 0 0],.int .i64 11])∧Below w.heap.size w w'):=by
 have hle:¬ (20000:Int) < (s.size:Int):=by omega
 have HNO:=Lib.hid hno;have HZ:=Lib.hid hz;have HI:=Lib.hid hi;have HU1:=Lib.hid hu1;have HU2:=Lib.hid hu2;have HS1:=Lib.hid hs1;have HS2:=Lib.hid hs2;have HLT:=Lib.hid hlt;have HSZ:=Lib.hid hs;have HP:=Lib.hid hp;have HPK:=Lib.hid hpk;have HT:=Lib.hid ht;have HQ:=Lib.hid hq;have HQK:=Lib.hid hqk;have HQ0:=Lib.hid hq0;have HC:=Lib.hid hc;clear hno hz hi hu1 hu2 hs1 hs2 hp hpk ht hq hqk hq0 hc
 go_enter Tryz.func13,Tryz.ntmps13
 go_wp2_with fail
 generalize hW:World.alloc _ _=W
 obtain ⟨hb,Z,hzW⟩:=mkbx21_11 hW;clear hW
 go_loop [4] (fun ix=>∃ j:Nat,j≤i∧ix=.int .i64 (j:Int)) (fun vv=>i - (intOf vv).toNat)
 case atStart=>exact ⟨0,Nat.zero_le _,rfl⟩
 case round =>
  obtain ⟨j,hj,rfl⟩:=hrel
  by_cases hjn:j < i
  · have hjs:j < s.size:=by omega
    have h47:¬ (s[j].toNat:Int)=47:=by have:=HNO.out j hjs hjn;omega
    go_wp2_with fail
    go_round
    case rel=>exact ⟨j+1,by omega,by go_num⟩
    case measure=>simp [intOf];omega
  · obtain rfl:j=i:=by omega
    have h47:(s[j].toNat:Int)=47:=by have:=HI.out;omega
    have hjs:j < s.size:=HLT.out
    have c2:(j:Int)≤(s.size:Int):=by omega
    have c3:(0:Int)≤(j:Int)+1:=by omega
    have c4:(j:Int)+1≤(s.size:Int):=by omega
    have c5:IntKind.i64.wrap ((j:Int)+1)=(j:Int)+1:=IntWalk.i64_in _ (by omega)
    have c6:((j:Int)+1).toNat=j+1:=by omega
    have hjz:(j:Int) < (s.size:Int):=by omega
    go_upto_region 7 with (first
     | (go_at_call 56;rw [HU1.out];(with_reducible refine (rparse2_yes u1 _ HS1.out HZ.out).mono ?_);rintro e w_n ⟨s_x,A_x,n_x,c_x,rfl,x0,hh⟩
        rw [HP.out] at x0;have x:=x0.tight1 HPK.out;clear x0;replace Z:=Z.below hh;replace hb:=bend hb hh))
    have hzl:w.heap.size < w_n.heap.size:=Z.lt
    generalize hW:World.alloc _ _=W2
    obtain ⟨hh,XN,hzW2⟩:=mkbx15_10 hW;clear hW;(try replace x:=x.below hh);(try replace Z:=Z.below hh);replace hb:=bend hb hh;obtain ⟨xn0,xn1⟩:=XN.all
    go_upto_region 16 with (first
     | (go_at_call 57;(with_reducible refine (rof_rn _).mono ?_);rintro e w_o ⟨B_o,m_o,d_o,rfl,y0,hh⟩
        replace x:=x.below hh;replace XN:=XN.below hh;replace Z:=Z.below hh;replace hb:=bend hb hh;obtain ⟨xn0,xn1⟩:=XN.all;have zf0:=Z.f0;have zf1:=Z.f1;have zf2:=Z.f2;obtain ⟨z0,z1,z2⟩:=Z.all
        skip)
     | (go_at_call 58;rw [HU2.out];(with_reducible refine (rparse_yes u2 _ HS2.out HT.out).mono ?_);rintro e w_q ⟨B_y,m_y,d_y,rfl,y1,hh⟩
        rw [HQ.out] at y1;have y:=y1.tight1 HQK.out
        have hn0:¬ (m_y:Int)=0:=by have:=y1.pos_ne HQ0.out;simpa using this
        clear y1;replace x:=x.below hh;replace XN:=XN.below hh;replace Z:=Z.below hh;replace hb:=bend hb hh;obtain ⟨xn0,xn1⟩:=XN.all;have zf0:=Z.f0;have zf1:=Z.f1;have zf2:=Z.f2;obtain ⟨z0,z1,z2⟩:=Z.all
        skip)
     | (go_at_call 59;(with_reducible refine (made_rq x y (by omega) HQ0.out).mono ?_);rintro e w_a ⟨s_a,A_a,n_a,c_a,B_a,m_a,d_a,rfl,a,hh⟩
        replace Z:=Z.below hh;replace hb:=bend hb hh))
    have hzl2:w.heap.size < w_a.heap.size:=Z.lt
    generalize hW:World.alloc _ _=W3
    obtain ⟨hh,XM,hzW3⟩:=mkbx21_11 hW;clear hW;(try replace a:=a.below hh);(try replace Z:=Z.below hh);replace hb:=bend hb hh;obtain ⟨xm0,xm1,xm2⟩:=XM.all
    have hcn:(qtxt (mkRat p q) == s.toList)=false:=by rw [Lib.toList_data];have:=HC.out;simpa using this
    go_wp2_with (first
     | (go_at_call 16;(with_reducible refine (rtext3 a hk).mono ?_);rintro e w_z ⟨rfl,hh⟩
        (try replace a:=a.below hh);(try replace Z:=Z.below hh);replace hb:=bend hb hh;have XM:=XM.below hh;obtain ⟨xm0,xm1,xm2⟩:=XM.all;have zf0:=Z.f0;have zf1:=Z.f1;have zf2:=Z.f2;obtain ⟨z0,z1,z2⟩:=Z.all))
    have Z2:=Z.set3 (.bool false) (.slice none 0 0) (.slice none 0 0)
    obtain ⟨g0,g1,g2⟩:=Z2.all
    refine bodyPost_ret (v:=.tuple #[.agg #[.bool false,.slice none 0 0,.slice none 0 0],.int .i64 11]) (by simp [results,Tryz.results13,go_sem,g0,g1,g2]) rfl ?_
    exact ⟨rfl,below_set3 hb (by omega) _ _ _⟩
theorem rpr_yes (s:ByteArray) (i:Nat) (w:World) (hs:s.size≤20000) (hlt:i < s.size) (hno:∀ (j:Nat) (h:j < s.size),j < i→s[j].toNat ≠ 47) (hi:s[i].toNat=47) {u1 u2:ByteArray} (hu1:s.extract 0 i=u1) (hu2:s.extract (i+1) s.size=u2) (hs1:u1.size≤20000) (hs2:u2.size≤20000) {p:Int} {k:Nat} (hz:zbad u1.data.toList=false) (hp:zval u1.data.toList=p) (hpk:p.natAbs < B32 ^ k) (hk:k≤800) (ht:isTextB u2.data.toList=true) {q:Nat} (hq:dec u2.data.toList=q) (hqk:q < B32 ^ k) (hq0:q ≠ 0) (hc:qtxt (mkRat p q)=s.data.toList) :
 Calls Tryz.prog 13 #[.string s] w (GivesRQE w (mkRat p q) k):=by
 have hle:¬ (20000:Int) < (s.size:Int):=by omega
 have HNO:=Lib.hid hno;have HZ:=Lib.hid hz;have HI:=Lib.hid hi;have HU1:=Lib.hid hu1;have HU2:=Lib.hid hu2;have HS1:=Lib.hid hs1;have HS2:=Lib.hid hs2;have HLT:=Lib.hid hlt;have HSZ:=Lib.hid hs;have HP:=Lib.hid hp;have HPK:=Lib.hid hpk;have HT:=Lib.hid ht;have HQ:=Lib.hid hq;have HQK:=Lib.hid hqk;have HQ0:=Lib.hid hq0;have HC:=Lib.hid hc;clear hno hz hi hu1 hu2 hs1 hs2 hp hpk ht hq hqk hq0 hc
 go_enter Tryz.func13,Tryz.ntmps13
 go_wp2_with fail
 generalize hW:World.alloc _ _=W
 obtain ⟨hb,Z,hzW⟩:=mkbx21_11 hW;clear hW
 go_loop [4] (fun ix=>∃ j:Nat,j≤i∧ix=.int .i64 (j:Int)) (fun vv=>i - (intOf vv).toNat)
 case atStart=>exact ⟨0,Nat.zero_le _,rfl⟩
 case round =>
  obtain ⟨j,hj,rfl⟩:=hrel
  by_cases hjn:j < i
  · have hjs:j < s.size:=by omega
    have h47:¬ (s[j].toNat:Int)=47:=by have:=HNO.out j hjs hjn;omega
    go_wp2_with fail
    go_round
    case rel=>exact ⟨j+1,by omega,by go_num⟩
    case measure=>simp [intOf];omega
  · obtain rfl:j=i:=by omega
    have h47:(s[j].toNat:Int)=47:=by have:=HI.out;omega
    have hjs:j < s.size:=HLT.out
    have c2:(j:Int)≤(s.size:Int):=by omega
    have c3:(0:Int)≤(j:Int)+1:=by omega
    have c4:(j:Int)+1≤(s.size:Int):=by omega
    have c5:IntKind.i64.wrap ((j:Int)+1)=(j:Int)+1:=IntWalk.i64_in _ (by omega)
    have c6:((j:Int)+1).toNat=j+1:=by omega
    have hjz:(j:Int) < (s.size:Int):=by omega
    go_upto_region 7 with (first
     | (go_at_call 56;rw [HU1.out];(with_reducible refine (rparse2_yes u1 _ HS1.out HZ.out).mono ?_);rintro e w_n ⟨s_x,A_x,n_x,c_x,rfl,x0,hh⟩
        rw [HP.out] at x0;have x:=x0.tight1 HPK.out;clear x0;replace Z:=Z.below hh;replace hb:=bend hb hh))
    have hzl:w.heap.size < w_n.heap.size:=Z.lt
    generalize hW:World.alloc _ _=W2
    obtain ⟨hh,XN,hzW2⟩:=mkbx15_10 hW;clear hW;(try replace x:=x.below hh);(try replace Z:=Z.below hh);replace hb:=bend hb hh;obtain ⟨xn0,xn1⟩:=XN.all
    go_upto_region 16 with (first
     | (go_at_call 57;(with_reducible refine (rof_rn _).mono ?_);rintro e w_o ⟨B_o,m_o,d_o,rfl,y0,hh⟩
        replace x:=x.below hh;replace XN:=XN.below hh;replace Z:=Z.below hh;replace hb:=bend hb hh;obtain ⟨xn0,xn1⟩:=XN.all;have zf0:=Z.f0;have zf1:=Z.f1;have zf2:=Z.f2;obtain ⟨z0,z1,z2⟩:=Z.all
        skip)
     | (go_at_call 58;rw [HU2.out];(with_reducible refine (rparse_yes u2 _ HS2.out HT.out).mono ?_);rintro e w_q ⟨B_y,m_y,d_y,rfl,y1,hh⟩
        rw [HQ.out] at y1;have y:=y1.tight1 HQK.out
        have hn0:¬ (m_y:Int)=0:=by have:=y1.pos_ne HQ0.out;simpa using this
        clear y1;replace x:=x.below hh;replace XN:=XN.below hh;replace Z:=Z.below hh;replace hb:=bend hb hh;obtain ⟨xn0,xn1⟩:=XN.all;have zf0:=Z.f0;have zf1:=Z.f1;have zf2:=Z.f2;obtain ⟨z0,z1,z2⟩:=Z.all
        skip)
     | (go_at_call 59;(with_reducible refine (made_rq x y (by omega) HQ0.out).mono ?_);rintro e w_a ⟨s_a,A_a,n_a,c_a,B_a,m_a,d_a,rfl,a,hh⟩
        replace Z:=Z.below hh;replace hb:=bend hb hh))
    have hzl2:w.heap.size < w_a.heap.size:=Z.lt
    generalize hW:World.alloc _ _=W3
    obtain ⟨hh,XM,hzW3⟩:=mkbx21_11 hW;clear hW;(try replace a:=a.below hh);(try replace Z:=Z.below hh);replace hb:=bend hb hh;obtain ⟨xm0,xm1,xm2⟩:=XM.all
    have hcn:(qtxt (mkRat p q) == s.toList)=true:=by rw [Lib.toList_data];have:=HC.out;simpa using this
    go_wp2_with (first
     | (go_at_call 16;(with_reducible refine (rtext3 a hk).mono ?_);rintro e w_z ⟨rfl,hh⟩
        (try replace a:=a.below hh);(try replace Z:=Z.below hh);replace hb:=bend hb hh;have XM:=XM.below hh;obtain ⟨xm0,xm1,xm2⟩:=XM.all;have zf0:=Z.f0;have zf1:=Z.f1;have zf2:=Z.f2;obtain ⟨z0,z1,z2⟩:=Z.all))
    have Z2:=Z.set3 (.bool s_a) (.slice A_a n_a c_a) (.slice B_a m_a d_a)
    obtain ⟨g0,g1,g2⟩:=Z2.all
    refine bodyPost_ret (v:=.tuple #[.agg #[.bool s_a,.slice A_a n_a c_a,.slice B_a m_a d_a],.int .i64 0]) (by simp [results,Tryz.results13,go_sem,g0,g1,g2]) rfl ?_
    exact ⟨s_a,A_a,n_a,c_a,B_a,m_a,d_a,rfl,a.set3 Z _ _ _,below_set3 hb (by omega) _ _ _⟩
end
section
open Go Go.RowKit
theorem dec_end (l:List UInt8) (c:UInt8):dec (l ++ [c])=10*dec l+(c.toNat - 48):=by unfold dec;rw [List.foldl_append];rfl
theorem digit_back {c:UInt8} (h:Digit c):UInt8.ofNat (48+(c.toNat - 48))=c:=by
 unfold Digit at h
 rw [show 48+(c.toNat - 48)=c.toNat by omega]
 exact UInt8.ofNat_toNat
theorem txt_snoc {d x:Nat} (hd:d ≠ 0) (hx:x < 10):txt (10*d+x)=txt d ++ [UInt8.ofNat (48+x)]:=by
 unfold txt
 rw [if_neg (show ¬ 10*d+x=0 by omega),if_neg hd,limbs_pos (B:=10) (by decide) (show 10*d+x ≠ 0 by omega),show (10*d+x) % 10=x by omega,show (10*d+x) / 10=d by omega,List.reverse_cons,List.map_append]
 rfl
theorem txt_text (n:Nat):∀ (l:List UInt8),l.length≤n→l ≠ []→(l.head? ≠ some 48 ∨ l=[48])→Digits l→txt (dec l)=l:=by
 induction n with
 | zero=>intro l h h0;exact absurd (List.eq_nil_of_length_eq_zero (by omega)) h0
 | succ n ih =>
   intro l hn h0 h1 h
   obtain ⟨L,b,rfl⟩:∃ L b,l=L ++ [b]:=⟨l.dropLast,l.getLast h0,(List.dropLast_concat_getLast h0).symm⟩
   have hb:Digit b:=h b (by simp)
   have hb':=hb
   unfold Digit at hb'
   rw [dec_end]
   by_cases hL:L=[]
   · subst hL
     show txt (10*0+(b.toNat - 48))=[b]
     rw [show 10*0+(b.toNat - 48)=b.toNat - 48 by omega]
     by_cases hz:b.toNat - 48=0
     · rw [hz]
       have:b=48:=UInt8.toNat_inj.1 (show b.toNat=48 by omega)
       rw [this];rfl
     · unfold txt
       rw [if_neg hz,limbs_small (B:=10) (by decide) (by omega) hz]
       show [UInt8.ofNat (48+(b.toNat - 48))]=[b]
       rw [digit_back hb]
   · have hh : L.head? ≠ some 48 := by
       rcases h1 with h1 | h1
       · cases L with
         | nil=>exact absurd rfl hL
         | cons x L=>simpa using h1
       · exfalso
         have:=congrArg List.length h1
         have hl:L.length ≠ 0:=fun e=>hL (List.eq_nil_of_length_eq_zero e)
         simp at this
         exact hl (by simpa using this)
     have e:=ih L (by simp at hn;omega) hL (.inl hh) (fun c hc=>h c (List.mem_append_left _ hc))
     have hd:dec L ≠ 0:=fun q=>by
      rw [q] at e;rw [← e] at hh
      exact hh rfl
     rw [txt_snoc hd (by omega),e,digit_back hb]
theorem isTextB_parts {l:List UInt8} (h:isTextB l=true):l ≠ []∧(l.head? ≠ some 48 ∨ l=[48]):=by
 unfold isTextB at h
 simp only [Bool.and_eq_true] at h
 refine ⟨fun e=>by rw [e] at h;simp at h,?_⟩
 have h2:=h.1.2
 by_cases e:l=[48]
 · exact .inr e
 · left;intro q
   rw [q] at h2
   simp [e] at h2
theorem txt_of {l:List UInt8} (h:isTextB l=true):txt (dec l)=l:=txt_text l.length l (Nat.le_refl _) (isTextB_parts h).1 (isTextB_parts h).2 (isTextB_digits h)
theorem zneg_cons {l:List UInt8} (h:zneg l=true):l=45 :: zdig l:=by
 unfold zneg at h
 cases l with
 | nil=>cases h
 | cons c l =>
   have:(45:UInt8)=c:=by simpa [Lib.hasPrefix,List.isPrefixOf] using h
   subst this
   simp [zdig,Lib.trimPrefix,Lib.hasPrefix]
theorem ztxt_of {l:List UInt8} (h:zbad l=false):ztxt (zval l)=l:=by
 unfold zbad at h
 have ht:isTextB (zdig l)=true:=by cases e:isTextB (zdig l) <;> simp_all
 cases hn:zneg l with
 | true =>
   have hd:dec (zdig l) ≠ 0:=fun e=>by rw [hn,e] at h;simp at h
   have hv:zval l=-(dec (zdig l):Int):=by unfold zval;rw [hn];simp [iv]
   rw [hv]
   unfold ztxt
   rw [if_pos (by omega),Int.natAbs_neg,Int.natAbs_natCast,txt_of ht]
   exact (zneg_cons hn).symm
 | false =>
   have hv:zval l=(dec (zdig l):Int):=by unfold zval;rw [hn];simp [iv]
   rw [hv]
   unfold ztxt
   rw [if_neg (by omega),Int.natAbs_natCast,txt_of ht]
   exact zdig_false hn
theorem no47 {l:List UInt8} (h:Digits l):(47:UInt8) ∉ l:=fun e=>by
 have:=h _ e
 unfold Digit at this
 exact absurd this.1 (by decide)
theorem ztxt_47 (v:Int):(47:UInt8) ∉ ztxt v:=by
 unfold ztxt
 split
 · intro e
   rcases List.mem_cons.1 e with e | e
   · exact absurd e (by decide)
   · exact no47 (txt_dec _).2 e
 · exact no47 (txt_dec _).2
theorem bar_inj {a c b d:List UInt8} (h:a ++ 47 :: b=c ++ 47 :: d) (ha:(47:UInt8) ∉ a) (hc:(47:UInt8) ∉ c):a=c∧b=d:=by
 induction a generalizing c with
 | nil =>
   cases c with
   | nil=>exact ⟨rfl,by simpa using h⟩
   | cons x c =>
     simp only [List.nil_append,List.cons_append,List.cons.injEq] at h
     exact absurd (by rw [← h.1];exact List.mem_cons_self) hc
 | cons y a ih =>
   cases c with
   | nil =>
     simp only [List.nil_append,List.cons_append,List.cons.injEq] at h
     exact absurd (by rw [h.1];exact List.mem_cons_self) ha
   | cons x c =>
     simp only [List.cons_append,List.cons.injEq] at h
     obtain ⟨rfl,h⟩:=h
     have:=ih h (fun e=>ha (List.mem_cons_of_mem _ e)) (fun e=>hc (List.mem_cons_of_mem _ e))
     exact ⟨by rw [this.1],this.2⟩
theorem qtxt_one {l:List UInt8} (h:zbad l=false):qtxt (mkRat (zval l) 1)=l:=by
 have hm:=mk_cond (p:=zval l) (show (1:Nat) ≠ 0 by decide) (Nat.gcd_one_right _)
 unfold qtxt
 rw [if_pos hm.2,hm.1,ztxt_of h]
theorem qtxt_yes {u l:List UInt8} (h:zbad u=false) (h2:isTextB l=true) (hq:2≤dec l) (hg:Nat.gcd (zval u).natAbs (dec l)=1):qtxt (mkRat (zval u) (dec l))=u ++ 47 :: l:=by
 have hm:=mk_cond (p:=zval u) (show dec l ≠ 0 by omega) hg
 unfold qtxt
 rw [if_neg (by rw [hm.2];omega),hm.1,hm.2,ztxt_of h,txt_of h2]
theorem qtxt_no {u l:List UInt8} (h:zbad u=false) (hq0:dec l ≠ 0) (hb:dec l < 2 ∨ Nat.gcd (zval u).natAbs (dec l) ≠ 1):qtxt (mkRat (zval u) (dec l)) ≠ u ++ 47 :: l:=by
 intro e
 generalize hv:mkRat (zval u) (dec l)=v at e
 unfold qtxt at e
 split at e
 · exact ztxt_47 v.num (by rw [e];simp)
 · rename_i hd
   have hu:(47:UInt8) ∉ u:=by rw [← ztxt_of h];exact ztxt_47 _
   obtain ⟨e1,e2⟩:=bar_inj e (ztxt_47 _) hu
   have d1:v.den=dec l:=by rw [← e2,(txt_dec _).1]
   have d2:v.num=zval u:=by rw [← e1,(ztxt_num _).2]
   have hr:=v.reduced
   rw [d1,d2] at hr
   rcases hb with hb | hb
   · omega
   · exact hb hr
theorem index_cases (l:List UInt8):(Lib.indexByte l 47=-1∧(47:UInt8) ∉ l) ∨ ∃ i:Nat,Lib.indexByte l 47=(i:Int)∧i < l.length∧l[i]?=some 47∧∀ j,j < i→l[j]? ≠ some 47:=by
 induction l with
 | nil=>exact .inl ⟨rfl,by simp⟩
 | cons b l ih =>
   unfold Lib.indexByte
   by_cases hb:b=47
   · right
     refine ⟨0,by rw [if_pos (by simp [hb])];rfl,by simp,by simp [hb],fun j hj=>absurd hj (by omega)⟩
   · rw [if_neg (by simpa using hb)]
     rcases ih with ⟨h1,h2⟩ | ⟨i,h1,h2,h3,h4⟩
     · left
       rw [h1]
       exact ⟨rfl,fun e=>by rcases List.mem_cons.1 e with e | e;exact hb e.symm;exact h2 e⟩
     · right
       refine ⟨i+1,?_,by simp;omega,by simpa using h3,fun j hj=>?_⟩
       · rw [h1,if_neg (by rw [beq_iff_eq];omega)];rfl
       · match j,hj with
         | 0,_=>simpa using hb
         | j+1,hj=>simpa using h4 j (by omega)
theorem list_bar (s:ByteArray) (i:Nat) (hlt:i < s.size) (h:s.data.toList[i]?=some 47):s.data.toList=(s.extract 0 i).data.toList ++ 47 :: (s.extract (i+1) s.size).data.toList:=by
 have hz:=Lib.size_eq s
 have hi:i < s.data.toList.length:=by omega
 have e:s.data.toList[i]=47:=by rw [List.getElem?_eq_getElem hi] at h;exact Option.some.inj h
 rw [ByteArray.data_extract,ByteArray.data_extract,Array.toList_extract,Array.toList_extract]
 simp only [List.extract_eq_take_drop,Nat.sub_zero,List.drop_zero]
 have ht:List.take (s.size - (i+1)) (List.drop (i+1) s.data.toList)=List.drop (i+1) s.data.toList:=List.take_of_length_le (by rw [List.length_drop];omega)
 rw [ht,← e,← List.drop_eq_getElem_cons hi,List.take_append_drop]
end
section
open Go Go.RowKit
theorem QR.more {s:Bool} {A A':Option Addr} {n c n' c' k k1:Nat} {v:Rat} (h:QR w s A n c A' n' c' v k) (hk:k≤k1):QR w s A n c A' n' c' v k1:=by
 obtain ⟨p,q,h1,h2,h3⟩:=h
 exact ⟨p,q,h1.more hk,h2.more hk,h3⟩
theorem lit_txt {V d:Nat} (h:0 < d) (h2:d < 10) (hV:V=d):txt V=[UInt8.ofNat (48+d)]:=z_lit h h2 hV
theorem q_txt {v:Rat} {a b:Nat} (hn:v.num=-(a:Int)) (hd:v.den=b) (ha:0 < a) (ha2:a < 10) (hb:1 < b) (hb2:b < 10):qtxt v=[45,UInt8.ofNat (48+a),47,UInt8.ofNat (48+b)]:=by
 unfold qtxt
 rw [if_neg (by omega),hn,hd]
 unfold ztxt
 rw [if_pos (by omega),show (-(a:Int)).natAbs=a by omega,lit_txt ha ha2 rfl,lit_txt (by omega) hb2 rfl]
 rfl
theorem q_a:(⟨(qtxt (Rat.divInt 6 (-4))).toArray⟩:ByteArray)=⟨#[45,51,47,50]⟩:=by
 rw [q_txt (a:=3) (b:=2) (by decide +kernel) (by decide +kernel) (by decide) (by decide) (by decide) (by decide)];rfl
theorem q_d:(⟨(qtxt ((Rat.divInt 6 (-4)) / (Rat.divInt 1 3))).toArray⟩:ByteArray)=⟨#[45,57,47,50]⟩:=by
 rw [q_txt (a:=9) (b:=2) (by decide +kernel) (by decide +kernel) (by decide) (by decide) (by decide) (by decide)];rfl
theorem q_f:(⟨(ztxt (Rat.divInt 6 (-4)).floor).toArray⟩:ByteArray)=⟨#[45,50]⟩:=by
 rw [show (Rat.divInt 6 (-4)).floor=-2 by decide +kernel,ztxt,if_pos (by omega),show ((-2:Int).natAbs)=2 from rfl,z_lit (d:=2) (by omega) (by omega) rfl];rfl
theorem q_s:cmpQ ((Rat.divInt 6 (-4))+(Rat.divInt 1 3)) (mkRat (-7) 6)=0:=cmpQ_eq (by decide +kernel)
theorem lit_dec:dec [54]=6:=by
 have h:=(txt_dec 6).1
 rw [lit_txt (d:=6) (by omega) (by omega) rfl] at h
 exact h
theorem parse_lit (w:World):Calls Tryz.prog 12 #[.string ⟨#[45,55,47,54]⟩] w (GivesQE w (mkRat (-7) 6) 1):=by
 have e1:(⟨#[45,55,47,54]⟩:ByteArray).extract 0 2=⟨(ztxt (-7)).toArray⟩:=by
  rw [ztxt,if_pos (by omega),show ((-7:Int).natAbs)=7 from rfl,z_lit (d:=7) (by omega) (by omega) rfl];rfl
 have e2:(⟨#[45,55,47,54]⟩:ByteArray).extract (2+1) (⟨#[45,55,47,54]⟩:ByteArray).size=⟨(txt 6).toArray⟩:=by
  rw [lit_txt (d:=6) (by omega) (by omega) rfl];rfl
 have e3:=ztxt_num (-7)
 have e4:txt 6=[54]:=lit_txt (by omega) (by omega) rfl
 have e5:ztxt (-7)=[45,55]:=by rw [ztxt,if_pos (by omega),show ((-7:Int).natAbs)=7 from rfl,z_lit (d:=7) (by omega) (by omega) rfl];rfl
 refine rparse_hit _ 2 1 w (by decide) (by decide +kernel) (by decide) ?_ ?_ (-7) ?_ ?_ 6 ?_ ?_ (by decide) (by decide) ?_ ?_ (by decide)
 · rw [e1];simpa using e3.1
 · rw [e2,e4];decide +kernel
 · rw [e1];simpa using e3.2
 · rw [Nat.pow_one];unfold B64;decide
 · rw [e2,e4];exact lit_dec
 · rw [Nat.pow_one];unfold B64;decide
 · rw [e1,e5];decide
 · rw [e2,e4];decide
theorem qwakes_any (w:World):Calls Tryz.prog 11 #[] w fun e w'=>e=.returned (.bool true)∧Below w.heap.size w w':=by
 have hb:Below w.heap.size w w:=Below.refl _ _
 go_enter Tryz.func11,Tryz.ntmps11
 go_upto_region 2 with (first
  | (go_at_call 23;(with_reducible refine (rof_q 6 (-4) (by decide) (by decide) (by decide) (by decide) (by decide) _).mono ?_);rintro e w_a ⟨s_a,A_a,n_a,c_a,B_a,m_a,d_a,rfl,a,hh⟩
     (try replace b:=b.below hh);(try replace dd:=dd.below hh);(try replace pp:=pp.below hh);(try replace sm:=sm.below hh);(try replace fl:=fl.below hh);(try replace XA:=XA.below hh);(try replace XB:=XB.below hh);(try replace XD:=XD.below hh);(try replace XP:=XP.below hh);replace hb:=bend hb hh)
  | (go_at_call 23;(with_reducible refine (rof_q 1 3 (by decide) (by decide) (by decide) (by decide) (by decide) _).mono ?_);rintro e w_b ⟨s_b,A_b,n_b,c_b,B_b,m_b,d_b,rfl,b,hh⟩
     (try replace a:=a.below hh);(try replace dd:=dd.below hh);(try replace pp:=pp.below hh);(try replace sm:=sm.below hh);(try replace fl:=fl.below hh);(try replace XA:=XA.below hh);(try replace XB:=XB.below hh);(try replace XD:=XD.below hh);(try replace XP:=XP.below hh);replace hb:=bend hb hh))
 generalize hW:World.alloc _ _=W1
 obtain ⟨hh,XA,XB,hzW1⟩:=mkbx11_9 hW;clear hW;(try replace a:=a.below hh);(try replace b:=b.below hh);replace hb:=bend hb hh;obtain ⟨xa0,xa1,xa2⟩:=XA.all;obtain ⟨xb0,xb1,xb2⟩:=XB.all
 go_upto_region 3 with (first
  | (go_at_call 47;(with_reducible refine (rdiv_q a.qr b.qr (by decide) (by decide) (by decide) (by decide) (by decide) (by decide +kernel)).mono ?_);rintro e w_dd ⟨s_dd,A_dd,n_dd,c_dd,B_dd,m_dd,d_dd,rfl,dd,hh⟩
     (try replace a:=a.below hh);(try replace b:=b.below hh);(try replace pp:=pp.below hh);(try replace sm:=sm.below hh);(try replace fl:=fl.below hh);(try replace XA:=XA.below hh);(try replace XB:=XB.below hh);(try replace XD:=XD.below hh);(try replace XP:=XP.below hh);replace hb:=bend hb hh))
 generalize hW:World.alloc _ _=W2
 obtain ⟨hh,XD,hzW2⟩:=mkbx9_9 hW;clear hW;(try replace a:=a.below hh);(try replace b:=b.below hh);(try replace dd:=dd.below hh);(try replace XA:=XA.below hh);(try replace XB:=XB.below hh);replace hb:=bend hb hh
 refine wk_region (by simp) rfl XA a.qr ?_
 intro V w_x hv1 hh
 simp only [putAll,Act.put,List.setIfInBounds_toArray,List.set_cons_zero,List.set_cons_succ,hv1]
 clear hv1;replace a:=a.below hh;replace b:=b.below hh;replace dd:=dd.below hh;replace XA:=XA.below hh;replace XB:=XB.below hh;replace XD:=XD.below hh;replace hb:=bend hb hh
 go_upto_region 5 with (first
  | (go_at_call 12;(with_reducible refine (parse_lit _).mono ?_);rintro e w_pp ⟨s_pp,A_pp,n_pp,c_pp,B_pp,m_pp,d_pp,rfl,pp,hh⟩
     (try replace a:=a.below hh);(try replace b:=b.below hh);(try replace dd:=dd.below hh);(try replace sm:=sm.below hh);(try replace fl:=fl.below hh);(try replace XA:=XA.below hh);(try replace XB:=XB.below hh);(try replace XD:=XD.below hh);(try replace XP:=XP.below hh);replace hb:=bend hb hh))
 generalize hW:World.alloc _ _=W3
 obtain ⟨hh,XP,hzW3⟩:=mkbx9_9 hW;clear hW;(try replace a:=a.below hh);(try replace b:=b.below hh);(try replace dd:=dd.below hh);(try replace pp:=pp.below hh);(try replace XA:=XA.below hh);(try replace XB:=XB.below hh);(try replace XD:=XD.below hh);replace hb:=bend hb hh
 replace a:=a.below (Below.refl _ _).drew
 replace b:=b.below (Below.refl _ _).drew
 replace dd:=dd.below (Below.refl _ _).drew
 replace pp:=pp.below (Below.refl _ _).drew
 replace XA:=XA.below (Below.refl _ _).drew
 replace XB:=XB.below (Below.refl _ _).drew
 replace XD:=XD.below (Below.refl _ _).drew
 replace XP:=XP.below (Below.refl _ _).drew
 have aq:=a.qr;have bq:=b.qr;have dq:=dd.qr;have pq:=pp.qr;replace hb:=hb.drew
 go_region_held3 (fun w'=>w'.cell? ⟨w_b.heap.size,0,none⟩=some (.bool s_a)∧w'.cell? ⟨w_b.heap.size,1,none⟩=some (.slice A_a n_a c_a)∧w'.cell? ⟨w_b.heap.size,2,none⟩=some (.slice B_a m_a d_a)∧w'.cell? ⟨w_b.heap.size+1,0,none⟩=some (.bool s_b)∧w'.cell? ⟨w_b.heap.size+1,1,none⟩=some (.slice A_b n_b c_b)∧w'.cell? ⟨w_b.heap.size+1,2,none⟩=some (.slice B_b m_b d_b)∧w'.cell? ⟨w_dd.heap.size,0,none⟩=some (.bool s_dd)∧w'.cell? ⟨w_dd.heap.size,1,none⟩=some (.slice A_dd n_dd c_dd)∧w'.cell? ⟨w_dd.heap.size,2,none⟩=some (.slice B_dd m_dd d_dd)∧w'.cell? ⟨w_pp.heap.size,0,none⟩=some (.bool s_pp)∧w'.cell? ⟨w_pp.heap.size,1,none⟩=some (.slice A_pp n_pp c_pp)∧w'.cell? ⟨w_pp.heap.size,2,none⟩=some (.slice B_pp m_pp d_pp))
  (first | with_reducible exact ⟨XA.c0,XA.c1,XA.c2,XB.c0,XB.c1,XB.c2,XD.c0,XD.c1,XD.c2,XP.c0,XP.c1,XP.c2⟩)
  (first
  | (go_at_call 15;(with_reducible refine (rtext_q aq (by decide) (by decide)).mono ?_);rintro e w_z ⟨rfl,hh⟩
     rw [q_a];(try replace a:=a.below hh);(try replace aq:=aq.below hh);(try replace bq:=bq.below hh);(try replace dq:=dq.below hh);(try replace pq:=pq.below hh);(try replace sm:=sm.below hh);(try replace fl:=fl.below hh);(try replace XA:=XA.below hh);(try replace XB:=XB.below hh);(try replace XD:=XD.below hh);(try replace XP:=XP.below hh);replace hb:=bend hb hh)
  | (go_at_call 15;(with_reducible refine (rtext_q dq (by decide) (by decide)).mono ?_);rintro e w_z ⟨rfl,hh⟩
     rw [q_d];(try replace a:=a.below hh);(try replace aq:=aq.below hh);(try replace bq:=bq.below hh);(try replace dq:=dq.below hh);(try replace pq:=pq.below hh);(try replace sm:=sm.below hh);(try replace fl:=fl.below hh);(try replace XA:=XA.below hh);(try replace XB:=XB.below hh);(try replace XD:=XD.below hh);(try replace XP:=XP.below hh);replace hb:=bend hb hh)
  | (go_at_call 18;(with_reducible refine (radd_q aq bq (by decide) (by decide) (by decide) (by decide) (by decide)).mono ?_);rintro e w_sm ⟨s_sm,A_sm,n_sm,c_sm,B_sm,m_sm,d_sm,rfl,sm,hh⟩
     (try replace a:=a.below hh);(try replace aq:=aq.below hh);(try replace bq:=bq.below hh);(try replace dq:=dq.below hh);(try replace pq:=pq.below hh);(try replace fl:=fl.below hh);(try replace XA:=XA.below hh);(try replace XB:=XB.below hh);(try replace XD:=XD.below hh);(try replace XP:=XP.below hh);replace hb:=bend hb hh)
  | (go_at_call 45;(with_reducible refine (rcmp_q sm.qr pq (by decide) (by decide) (by decide) (by decide) (by decide)).mono ?_);rintro e w_z ⟨rfl,hh⟩
     rw [q_s];(try replace a:=a.below hh);(try replace aq:=aq.below hh);(try replace bq:=bq.below hh);(try replace dq:=dq.below hh);(try replace pq:=pq.below hh);(try replace sm:=sm.below hh);(try replace fl:=fl.below hh);(try replace XA:=XA.below hh);(try replace XB:=XB.below hh);(try replace XD:=XD.below hh);(try replace XP:=XP.below hh);replace hb:=bend hb hh)
  | (go_at_call 49;(with_reducible refine (rfloor_q aq (by decide) (by decide)).mono ?_);rintro e w_fl ⟨s_fl,A_fl,n_fl,c_fl,rfl,fl,hh⟩
     (try replace a:=a.below hh);(try replace aq:=aq.below hh);(try replace bq:=bq.below hh);(try replace dq:=dq.below hh);(try replace pq:=pq.below hh);(try replace sm:=sm.below hh);(try replace XA:=XA.below hh);(try replace XB:=XB.below hh);(try replace XD:=XD.below hh);(try replace XP:=XP.below hh);replace hb:=bend hb hh)
  | (go_at_call 48;(with_reducible refine (ztext_zr fl.zr (by decide)).mono ?_);rintro e w_z ⟨rfl,hh⟩
     rw [q_f];(try replace a:=a.below hh);(try replace aq:=aq.below hh);(try replace bq:=bq.below hh);(try replace dq:=dq.below hh);(try replace pq:=pq.below hh);(try replace sm:=sm.below hh);(try replace fl:=fl.below hh);(try replace XA:=XA.below hh);(try replace XB:=XB.below hh);(try replace XD:=XD.below hh);(try replace XP:=XP.below hh);replace hb:=bend hb hh)
  | (go_at_call 24;(with_reducible refine (rgood_q a (by decide)).mono ?_);rintro e w_z ⟨rfl,hh⟩
     (try replace a:=a.below hh);(try replace aq:=aq.below hh);(try replace bq:=bq.below hh);(try replace dq:=dq.below hh);(try replace pq:=pq.below hh);(try replace sm:=sm.below hh);(try replace fl:=fl.below hh);(try replace XA:=XA.below hh);(try replace XB:=XB.below hh);(try replace XD:=XD.below hh);(try replace XP:=XP.below hh);replace hb:=bend hb hh))
 go_wp2_with fail
 go_ret;exact ⟨rfl,hb⟩
end
section
open Go Go.RowKit
theorem txt_l1 (s:ByteArray) (hl:¬ (n_a≤12∧m_a≤12)) :
 Calls Tryz.prog 3 #[.agg #[.bool s_a,.slice A_a n_a c_a,.slice B_a m_a d_a],.string s] w fun e w'=>e=.returned (.bool true)∧Below w.heap.size w w':=by
 have HL:=Lib.hid hl;clear hl
 go_enter Tryz.func3,Tryz.ntmps3
 go_wp2_with fail
 generalize hW:World.alloc _ _=W
 obtain ⟨hb,XA,hzW⟩:=mkbx9_9 hW;clear hW;obtain ⟨xa0,xa1,xa2⟩:=XA.all
 go_wp2_with (first
  | (go_at_call 10;(with_reducible refine (qlarge_yes s_a A_a B_a n_a c_a m_a d_a _ HL.out).mono ?_);rintro e w_z ⟨rfl,hh⟩
     (try replace XA:=XA.below hh);replace hb:=bend hb hh;obtain ⟨xa0,xa1,xa2⟩:=XA.all)
  | (go_at_call 11;(with_reducible refine (qwakes_any _).mono ?_);rintro e w_z ⟨rfl,hh⟩
     (try replace XA:=XA.below hh);replace hb:=bend hb hh))
 go_ret;exact ⟨rfl,hb⟩
theorem txt_l2 (s:ByteArray) (hl:n_a≤12∧m_a≤12) (h1:500 < s.size) (h2:s.size≤20000) :
 Calls Tryz.prog 3 #[.agg #[.bool s_a,.slice A_a n_a c_a,.slice B_a m_a d_a],.string s] w fun e w'=>e=.returned (.bool true)∧Below w.heap.size w w':=by
 have HL:=Lib.hid hl
 have e1:(500:Int) < (s.size:Int):=by omega
 have e2:(s.size:Int)≤20000:=by omega
 clear hl h1 h2
 go_enter Tryz.func3,Tryz.ntmps3
 go_wp2_with fail
 generalize hW:World.alloc _ _=W
 obtain ⟨hb,XA,hzW⟩:=mkbx9_9 hW;clear hW;obtain ⟨xa0,xa1,xa2⟩:=XA.all
 go_wp2_with (first
  | (go_at_call 10;(with_reducible refine (qlarge_no s_a A_a B_a n_a c_a m_a d_a _ HL.out).mono ?_);rintro e w_z ⟨rfl,hh⟩
     (try replace XA:=XA.below hh);replace hb:=bend hb hh;obtain ⟨xa0,xa1,xa2⟩:=XA.all)
  | (go_at_call 11;(with_reducible refine (qwakes_any _).mono ?_);rintro e w_z ⟨rfl,hh⟩
     (try replace XA:=XA.below hh);replace hb:=bend hb hh))
 go_ret;exact ⟨rfl,hb⟩
theorem txt_err_few (s:ByteArray) {va:Rat} (a:QR w s_a A_a n_a c_a B_a m_a d_a va 12) (hl:n_a≤12∧m_a≤12) (hs:s.size≤500) {E:Int} (hE:E ≠ 0) (hp:∀ w:World,Calls Tryz.prog 12 #[.string s] w (fun e w'=>e=.returned (.tuple #[.agg #[.bool false,.slice none 0 0,.slice none 0 0],.int .i64 E])∧Below w.heap.size w w')) (hr:∀ w:World,Calls Tryz.prog 13 #[.string s] w (fun e w'=>e=.returned (.tuple #[.agg #[.bool false,.slice none 0 0,.slice none 0 0],.int .i64 E])∧Below w.heap.size w w')) :
 Calls Tryz.prog 3 #[.agg #[.bool s_a,.slice A_a n_a c_a,.slice B_a m_a d_a],.string s] w fun e w'=>e=.returned (.bool true)∧Below w.heap.size w w':=by
 have HL:=Lib.hid hl;have HP:=Lib.hid hp;have HR:=Lib.hid hr
 have e1:¬ (500:Int) < (s.size:Int):=by omega
 clear hl hs hp hr
 go_enter Tryz.func3,Tryz.ntmps3
 go_wp2_with fail
 generalize hW:World.alloc _ _=W
 obtain ⟨hb,XA,hzW⟩:=mkbx9_9 hW;clear hW;replace a:=a.below hb;obtain ⟨xa0,xa1,xa2⟩:=XA.all
 go_upto_region 4 with (first
  | (go_at_call 10;(with_reducible refine (qlarge_no s_a A_a B_a n_a c_a m_a d_a _ HL.out).mono ?_);rintro e w_z ⟨rfl,hh⟩
     (try replace a:=a.below hh);(try replace XA:=XA.below hh);replace hb:=bend hb hh;obtain ⟨xa0,xa1,xa2⟩:=XA.all)
  | (go_at_call 12;(with_reducible refine (HP.out _).mono ?_);rintro e w_n ⟨rfl,hh⟩
     (try replace a:=a.below hh);(try replace XA:=XA.below hh);replace hb:=bend hb hh))
 generalize hW:World.alloc _ _=W2
 obtain ⟨hh,XN,hzW2⟩:=mkbx9_9 hW;clear hW;(try replace a:=a.below hh);(try replace XA:=XA.below hh);replace hb:=bend hb hh
 go_upto_region 5 with (first
  | (go_at_call 13;(with_reducible refine (HR.out _).mono ?_);rintro e w_m ⟨rfl,hh⟩
     (try replace a:=a.below hh);(try replace XA:=XA.below hh);(try replace XN:=XN.below hh);replace hb:=bend hb hh))
 generalize hW:World.alloc _ _=W3
 obtain ⟨hh,XM,hzW3⟩:=mkbx21_11 hW;clear hW;(try replace a:=a.below hh);(try replace XA:=XA.below hh);(try replace XN:=XN.below hh);replace hb:=bend hb hh;obtain ⟨xa0,xa1,xa2⟩:=XA.all;obtain ⟨xn0,xn1,xn2⟩:=XN.all;obtain ⟨xm0,xm1,xm2⟩:=XM.all
 have hEE:(E != E)=false:=by simp
 go_upto_region 10 with (fail)
 replace a:=a.below (Below.refl _ _).drew
 replace XA:=XA.below (Below.refl _ _).drew
 replace hb:=hb.drew
 have hQQ:(qtxt va == qtxt va)=true:=by simp
 go_region_held3 (fun w'=>w'.cell? ⟨w.heap.size,0,none⟩=some (.bool s_a)∧w'.cell? ⟨w.heap.size,1,none⟩=some (.slice A_a n_a c_a)∧w'.cell? ⟨w.heap.size,2,none⟩=some (.slice B_a m_a d_a))
  (first | with_reducible exact ⟨XA.c0,XA.c1,XA.c2⟩)
  (first
  | (go_at_call 15;(with_reducible refine (rtext_q a (by decide) (by decide)).mono ?_);rintro e w_z ⟨rfl,hh⟩
     (try replace a:=a.below hh);(try replace XA:=XA.below hh);replace hb:=bend hb hh)
  | (go_at_call 17;(with_reducible refine (rin3 a (by decide) (by decide)).mono ?_);rintro e w_i ⟨s_i,A_i,n_i,c_i,B_i,m_i,d_i,rfl,i,hh⟩
     (try replace a:=a.below hh);(try replace XA:=XA.below hh);replace hb:=bend hb hh)
  | (go_at_call 16;(with_reducible refine (rtext3 i (by decide)).mono ?_);rintro e w_z ⟨rfl,hh⟩
     (try replace a:=a.below hh);(try replace XA:=XA.below hh);replace hb:=bend hb hh)
  | (go_at_call 11;(with_reducible refine (qwakes_any _).mono ?_);rintro e w_z ⟨rfl,hh⟩
     (try replace a:=a.below hh);(try replace XA:=XA.below hh);replace hb:=bend hb hh))
 go_wp2_with fail
 go_ret;exact ⟨rfl,hb⟩
theorem txt_err_many (s:ByteArray) {va:Rat} (a:QR w s_a A_a n_a c_a B_a m_a d_a va 12) (hl:n_a≤12∧m_a≤12) (hs:20000 < s.size) {E:Int} (hE:E ≠ 0) (hp:∀ w:World,Calls Tryz.prog 12 #[.string s] w (fun e w'=>e=.returned (.tuple #[.agg #[.bool false,.slice none 0 0,.slice none 0 0],.int .i64 E])∧Below w.heap.size w w')) (hr:∀ w:World,Calls Tryz.prog 13 #[.string s] w (fun e w'=>e=.returned (.tuple #[.agg #[.bool false,.slice none 0 0,.slice none 0 0],.int .i64 E])∧Below w.heap.size w w')) :
 Calls Tryz.prog 3 #[.agg #[.bool s_a,.slice A_a n_a c_a,.slice B_a m_a d_a],.string s] w fun e w'=>e=.returned (.bool true)∧Below w.heap.size w w':=by
 have HL:=Lib.hid hl;have HP:=Lib.hid hp;have HR:=Lib.hid hr
 have e1:(500:Int) < (s.size:Int):=by omega
 have e2:¬ (s.size:Int)≤20000:=by omega
 clear hl hs hp hr
 go_enter Tryz.func3,Tryz.ntmps3
 go_wp2_with fail
 generalize hW:World.alloc _ _=W
 obtain ⟨hb,XA,hzW⟩:=mkbx9_9 hW;clear hW;replace a:=a.below hb;obtain ⟨xa0,xa1,xa2⟩:=XA.all
 go_upto_region 4 with (first
  | (go_at_call 10;(with_reducible refine (qlarge_no s_a A_a B_a n_a c_a m_a d_a _ HL.out).mono ?_);rintro e w_z ⟨rfl,hh⟩
     (try replace a:=a.below hh);(try replace XA:=XA.below hh);replace hb:=bend hb hh;obtain ⟨xa0,xa1,xa2⟩:=XA.all)
  | (go_at_call 12;(with_reducible refine (HP.out _).mono ?_);rintro e w_n ⟨rfl,hh⟩
     (try replace a:=a.below hh);(try replace XA:=XA.below hh);replace hb:=bend hb hh))
 generalize hW:World.alloc _ _=W2
 obtain ⟨hh,XN,hzW2⟩:=mkbx9_9 hW;clear hW;(try replace a:=a.below hh);(try replace XA:=XA.below hh);replace hb:=bend hb hh
 go_upto_region 5 with (first
  | (go_at_call 13;(with_reducible refine (HR.out _).mono ?_);rintro e w_m ⟨rfl,hh⟩
     (try replace a:=a.below hh);(try replace XA:=XA.below hh);(try replace XN:=XN.below hh);replace hb:=bend hb hh))
 generalize hW:World.alloc _ _=W3
 obtain ⟨hh,XM,hzW3⟩:=mkbx21_11 hW;clear hW;(try replace a:=a.below hh);(try replace XA:=XA.below hh);(try replace XN:=XN.below hh);replace hb:=bend hb hh;obtain ⟨xa0,xa1,xa2⟩:=XA.all;obtain ⟨xn0,xn1,xn2⟩:=XN.all;obtain ⟨xm0,xm1,xm2⟩:=XM.all
 have hEE:(E != E)=false:=by simp
 go_upto_region 10 with (fail)
 replace a:=a.below (Below.refl _ _).drew
 replace XA:=XA.below (Below.refl _ _).drew
 replace hb:=hb.drew
 have hQQ:(qtxt va == qtxt va)=true:=by simp
 go_region_held3 (fun w'=>w'.cell? ⟨w.heap.size,0,none⟩=some (.bool s_a)∧w'.cell? ⟨w.heap.size,1,none⟩=some (.slice A_a n_a c_a)∧w'.cell? ⟨w.heap.size,2,none⟩=some (.slice B_a m_a d_a))
  (first | with_reducible exact ⟨XA.c0,XA.c1,XA.c2⟩)
  (first
  | (go_at_call 15;(with_reducible refine (rtext_q a (by decide) (by decide)).mono ?_);rintro e w_z ⟨rfl,hh⟩
     (try replace a:=a.below hh);(try replace XA:=XA.below hh);replace hb:=bend hb hh)
  | (go_at_call 17;(with_reducible refine (rin3 a (by decide) (by decide)).mono ?_);rintro e w_i ⟨s_i,A_i,n_i,c_i,B_i,m_i,d_i,rfl,i,hh⟩
     (try replace a:=a.below hh);(try replace XA:=XA.below hh);replace hb:=bend hb hh)
  | (go_at_call 16;(with_reducible refine (rtext3 i (by decide)).mono ?_);rintro e w_z ⟨rfl,hh⟩
     (try replace a:=a.below hh);(try replace XA:=XA.below hh);replace hb:=bend hb hh)
  | (go_at_call 11;(with_reducible refine (qwakes_any _).mono ?_);rintro e w_z ⟨rfl,hh⟩
     (try replace a:=a.below hh);(try replace XA:=XA.below hh);replace hb:=bend hb hh))
 go_wp2_with fail
 go_ret;exact ⟨rfl,hb⟩
theorem txt_ok_few (s:ByteArray) {va:Rat} (a:QR w s_a A_a n_a c_a B_a m_a d_a va 12) (hl:n_a≤12∧m_a≤12) (hs:s.size≤500) {v:Rat} {k1 k2:Nat} (hk1:k1≤100000) (hk2:k2≤100000) (hp:∀ w:World,Calls Tryz.prog 12 #[.string s] w (GivesQE w v k1)) (hr:∀ w:World,Calls Tryz.prog 13 #[.string s] w (GivesRQE w v k2)) :
 Calls Tryz.prog 3 #[.agg #[.bool s_a,.slice A_a n_a c_a,.slice B_a m_a d_a],.string s] w fun e w'=>e=.returned (.bool true)∧Below w.heap.size w w':=by
 have HL:=Lib.hid hl;have HP:=Lib.hid hp;have HR:=Lib.hid hr
 have e1:¬ (500:Int) < (s.size:Int):=by omega
 clear hl hs hp hr
 go_enter Tryz.func3,Tryz.ntmps3
 go_wp2_with fail
 generalize hW:World.alloc _ _=W
 obtain ⟨hb,XA,hzW⟩:=mkbx9_9 hW;clear hW;replace a:=a.below hb;obtain ⟨xa0,xa1,xa2⟩:=XA.all
 go_upto_region 4 with (first
  | (go_at_call 10;(with_reducible refine (qlarge_no s_a A_a B_a n_a c_a m_a d_a _ HL.out).mono ?_);rintro e w_z ⟨rfl,hh⟩
     (try replace a:=a.below hh);(try replace XA:=XA.below hh);replace hb:=bend hb hh;obtain ⟨xa0,xa1,xa2⟩:=XA.all)
  | (go_at_call 12;(with_reducible refine (HP.out _).mono ?_);rintro e w_n ⟨s_x,A_x,n_x,c_x,B_x,m_x,d_x,rfl,x,hh⟩
     (try replace a:=a.below hh);(try replace XA:=XA.below hh);replace hb:=bend hb hh))
 generalize hW:World.alloc _ _=W2
 obtain ⟨hh,XN,hzW2⟩:=mkbx9_9 hW;clear hW;(try replace a:=a.below hh);(try replace XA:=XA.below hh);(try replace x:=x.below hh);replace hb:=bend hb hh
 go_upto_region 5 with (first
  | (go_at_call 13;(with_reducible refine (HR.out _).mono ?_);rintro e w_m ⟨s_y,A_y,n_y,c_y,B_y,m_y,d_y,rfl,y,hh⟩
     (try replace a:=a.below hh);(try replace XA:=XA.below hh);(try replace x:=x.below hh);(try replace XN:=XN.below hh);replace hb:=bend hb hh))
 generalize hW:World.alloc _ _=W3
 obtain ⟨hh,XM,hzW3⟩:=mkbx21_11 hW;clear hW;(try replace a:=a.below hh);(try replace XA:=XA.below hh);(try replace x:=x.below hh);(try replace XN:=XN.below hh);(try replace y:=y.below hh);replace hb:=bend hb hh;obtain ⟨xa0,xa1,xa2⟩:=XA.all;obtain ⟨xn0,xn1,xn2⟩:=XN.all;obtain ⟨xm0,xm1,xm2⟩:=XM.all
 go_upto_region 10 with (first
  | (go_at_call 14;(with_reducible refine (same3 x y rfl hk1 hk2).mono ?_);rintro e w_z ⟨rfl,hh⟩
     (try replace a:=a.below hh);(try replace XA:=XA.below hh);(try replace x:=x.below hh);(try replace XN:=XN.below hh);(try replace y:=y.below hh);(try replace XM:=XM.below hh);replace hb:=bend hb hh;obtain ⟨xa0,xa1,xa2⟩:=XA.all))
 replace a:=a.below (Below.refl _ _).drew
 replace XA:=XA.below (Below.refl _ _).drew
 replace hb:=hb.drew
 have hQQ:(qtxt va == qtxt va)=true:=by simp
 go_region_held3 (fun w'=>w'.cell? ⟨w.heap.size,0,none⟩=some (.bool s_a)∧w'.cell? ⟨w.heap.size,1,none⟩=some (.slice A_a n_a c_a)∧w'.cell? ⟨w.heap.size,2,none⟩=some (.slice B_a m_a d_a))
  (first | with_reducible exact ⟨XA.c0,XA.c1,XA.c2⟩)
  (first
  | (go_at_call 15;(with_reducible refine (rtext_q a (by decide) (by decide)).mono ?_);rintro e w_z ⟨rfl,hh⟩
     (try replace a:=a.below hh);(try replace XA:=XA.below hh);replace hb:=bend hb hh)
  | (go_at_call 17;(with_reducible refine (rin3 a (by decide) (by decide)).mono ?_);rintro e w_i ⟨s_i,A_i,n_i,c_i,B_i,m_i,d_i,rfl,i,hh⟩
     (try replace a:=a.below hh);(try replace XA:=XA.below hh);replace hb:=bend hb hh)
  | (go_at_call 16;(with_reducible refine (rtext3 i (by decide)).mono ?_);rintro e w_z ⟨rfl,hh⟩
     (try replace a:=a.below hh);(try replace XA:=XA.below hh);replace hb:=bend hb hh)
  | (go_at_call 11;(with_reducible refine (qwakes_any _).mono ?_);rintro e w_z ⟨rfl,hh⟩
     (try replace a:=a.below hh);(try replace XA:=XA.below hh);replace hb:=bend hb hh))
 go_wp2_with fail
 go_ret;exact ⟨rfl,hb⟩
theorem dec_b {l:List UInt8} (h:isTextB l=true) (hl:l.length≤512):dec l < B32 ^ 64:=by
 refine Nat.lt_of_lt_of_le (dec_lt (isTextB_digits h)) ?_
 refine Nat.le_trans (Nat.pow_le_pow_left (show 10≤16 by decide) _) ?_
 refine Nat.le_trans (Nat.pow_le_pow_right (by decide) hl) ?_
 decide +kernel
theorem zval_b {l:List UInt8} (h:zbad l=false) (hl:l.length≤512):(zval l).natAbs < B32 ^ 64:=by
 unfold zval
 rw [iv_natAbs]
 have ht:isTextB (zdig l)=true:=by unfold zbad at h;cases h':isTextB (zdig l) <;> simp_all
 exact dec_b ht (Nat.le_trans (zdig_len l) hl)
theorem b_64 {x:Nat} (h:x < B32 ^ 64):x < B64 ^ 64:=Nat.lt_of_lt_of_le h (b32_b64 64)
theorem law_rtexts (s:ByteArray) {l1 l2:List Nat} (r1:Rd .u64 w A_a n_a l1) (r2:Rd .u64 w B_a m_a l2) (t1:Lim B64 l1) (t2:Lim B64 l2) (e1:n_a≤c_a) (e2:m_a≤d_a) (hm:s.size≤maxLen) :
 Calls Tryz.prog 3 #[.agg #[.bool s_a,.slice A_a n_a c_a,.slice B_a m_a d_a],.string s] w fun e w'=>e=.returned (.bool true)∧Below w.heap.size w w':=by
 by_cases h1:n_a≤12∧m_a≤12
 · have a:=QR.of_rd (s:=s_a) r1 t1 e1 r2 t2 e2 h1.1 h1.2
   by_cases hl:20000 < s.size
   · exact txt_err_many s a h1 hl (E:=2) (by decide) (fun w=>rpq_long s w hl hm) (fun w=>rpr_long s w hl hm)
   · by_cases h5:s.size≤500
     · have hs:s.size≤20000:=by omega
       have hz:=Lib.size_eq s
       have hget:∀ (j:Nat) (h:j < s.size),s.data.toList[j]?=some s[j]:=fun j h=>by
        rw [List.getElem?_eq_getElem (by omega)];rfl
       rcases index_cases s.data.toList with ⟨hi,hno⟩ | ⟨i,hi,hlt,h47,hno⟩
       · have hn : ∀ (j : Nat) (h : j < s.size), s[j].toNat ≠ 47 := fun j h e => hno (by
           have:s[j]=47:=UInt8.toNat_inj.1 e
           rw [← this];exact List.mem_of_getElem? (hget j h))
         cases hb:zbad s.data.toList with
         | true=>exact txt_err_few s a h1 h5 (E:=11) (by decide) (fun w=>rpq_nobad s w hs hi hb) (fun w=>rpr_nbad s w hs hn hb)
         | false =>
           have hp:=zval_b hb (by omega)
           exact txt_ok_few s a h1 h5 (k1:=64) (k2:=64) (by decide) (by decide) (fun w=>rpq_nook s w hs hi hb rfl (b_64 hp) (by decide) (by decide)) (fun w=>rpr_nook s w hs hn hb rfl hp (by decide) (by decide) (qtxt_one hb))
       · have hlt':i < s.size:=by omega
         have hn:∀ (j:Nat) (h:j < s.size),j < i→s[j].toNat ≠ 47:=fun j h hj e=>hno j hj (by
          rw [hget j h];exact congrArg some (UInt8.toNat_inj.1 e))
         have hi47:s[i].toNat=47:=by
          have:=hget i hlt'
          rw [h47] at this
          rw [← Option.some.inj this];rfl
         have hbar:=list_bar s i hlt' h47
         obtain ⟨u1,hu1⟩:∃ u,s.extract 0 i=u:=⟨_,rfl⟩
         obtain ⟨u2,hu2⟩:∃ u,s.extract (i+1) s.size=u:=⟨_,rfl⟩
         rw [hu1,hu2] at hbar
         have hz1:=Lib.size_eq u1;have hz2:=Lib.size_eq u2;have hlen:=congrArg List.length hbar
         rw [List.length_append,List.length_cons] at hlen
         have hs1:u1.size≤20000:=by omega
         have hs2:u2.size≤20000:=by omega
         cases hb:zbad u1.data.toList with
         | true=>exact txt_err_few s a h1 h5 (E:=11) (by decide) (fun w=>rpq_ubad s i w hs hi hlt' hu1 hu2 hs1 hs2 hb) (fun w=>rpr_ubad s i w hs hlt' hn hi47 hu1 hu2 hs1 hs2 hb)
         | false =>
           have hp:=zval_b hb (by omega)
           cases ht:isTextB u2.data.toList with
           | false=>exact txt_err_few s a h1 h5 (E:=11) (by decide) (fun w=>rpq_lbad s i w hs hi hlt' hu1 hu2 hs1 hs2 hb rfl (b_64 hp) (by decide) ht) (fun w=>rpr_lbad s i w hs hlt' hn hi47 hu1 hu2 hs1 hs2 hb rfl hp (by decide) ht)
           | true =>
             have hq:=dec_b ht (by omega)
             by_cases h2:2≤dec u2.data.toList
             · by_cases hg:Nat.gcd (zval u1.data.toList).natAbs (dec u2.data.toList)=1
               · exact txt_ok_few s a h1 h5 (k1:=64) (k2:=64) (by decide) (by decide) (fun w=>rparse_hit s i 64 w hs hi hlt' (by rw [hu1];exact hb) (by rw [hu2];exact ht) _ (by rw [hu1]) (b_64 hp) _ (by rw [hu2]) (b_64 hq) h2 hg (by rw [hu1];exact hs1) (by rw [hu2];exact hs2) (by decide)) (fun w=>rpr_yes s i w hs hlt' hn hi47 hu1 hu2 hs1 hs2 hb rfl hp (by decide) ht rfl hq (by omega) (by rw [hbar];exact qtxt_yes hb ht h2 hg))
               · exact txt_err_few s a h1 h5 (E:=11) (by decide) (fun w=>rpq_cop s i w hs hi hlt' hu1 hu2 hs1 hs2 hb rfl (b_64 hp) (by decide) ht rfl (b_64 hq) h2 hg) (fun w=>rpr_neq s i w hs hlt' hn hi47 hu1 hu2 hs1 hs2 hb rfl hp (by decide) ht rfl hq (by omega) (by rw [hbar];exact qtxt_no hb (by omega) (.inr hg)))
             · by_cases h0:dec u2.data.toList=0
               · exact txt_err_few s a h1 h5 (E:=11) (by decide) (fun w=>rpq_few s i w hs hi hlt' hu1 hu2 hs1 hs2 hb rfl (b_64 hp) (by decide) ht rfl (b_64 hq) (by omega)) (fun w=>rpr_lzero s i w hs hlt' hn hi47 hu1 hu2 hs1 hs2 hb rfl hp (by decide) ht rfl hq h0)
               · exact txt_err_few s a h1 h5 (E:=11) (by decide) (fun w=>rpq_few s i w hs hi hlt' hu1 hu2 hs1 hs2 hb rfl (b_64 hp) (by decide) ht rfl (b_64 hq) (by omega)) (fun w=>rpr_neq s i w hs hlt' hn hi47 hu1 hu2 hs1 hs2 hb rfl hp (by decide) ht rfl hq h0 (by rw [hbar];exact qtxt_no hb h0 (.inl (by omega))))
     · exact txt_l2 s h1 (by omega) (by omega)
 · exact txt_l1 s h1
end
end Go.Proofs.YtmgklaklnaihpaaGreat
