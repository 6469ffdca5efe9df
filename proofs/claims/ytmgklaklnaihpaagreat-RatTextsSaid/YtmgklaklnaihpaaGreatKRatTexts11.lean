/- RatTexts: part 11. -/
import Derived.Deep.Cut
import Derived.Deep.CutRange
import Derived.Orders
import Derived.Test.YtmgklaklnaihpaaGreatProg
import Derived.WalkKit
import Derived.Test.YtmgklaklnaihpaaGreatKRatTexts6
import Derived.Test.YtmgklaklnaihpaaGreatKRatTexts9
import Derived.Test.YtmgklaklnaihpaaGreatKRatTexts10
set_option linter.unusedVariables false
set_option maxRecDepth 100000
set_option maxHeartbeats 16000000
variable {w:Go.World}
variable {s_a:Bool} {A_a B_a:Option Go.Addr} {n_a c_a m_a d_a:Nat}
namespace Go.Proofs.YtmgklaklnaihpaaGreat
section
open Go Go.RowKit
theorem of_one1 (w:World):Calls Tryz.prog 52 #[.int .u64 1] w (GivesN w 1 1):=of_nr 1 (by decide) w
theorem lcut_miss (s:ByteArray) (hi:Lib.indexByte s.data.toList 47=-1) (w:World) :
 Calls Tryz.prog 111 #[.string s,.string ⟨#[47]⟩] w fun e w'=>e=.returned (.tuple #[.string s,.string ⟨#[]⟩,.bool false])∧∃ n,w'=w.drewN n:=by
 have HI:=Lib.hid hi;clear hi
 go_enter Tryz.func111,Tryz.ntmps111
 go_wp2_with (go_at_call 163;((with_reducible refine (Tryz.stringslite_Index_one s 47 _).mono ?_);rintro e w' ⟨rfl,rfl⟩;rw [HI.out]))
 go_ret3
 exact ⟨rfl,0,rfl⟩
theorem scut_miss (s:ByteArray) (hi:Lib.indexByte s.data.toList 47=-1) (w:World) :
 Calls Tryz.prog 50 #[.string s,.string ⟨#[47]⟩] w fun e w'=>e=.returned (.tuple #[.string s,.string ⟨#[]⟩,.bool false])∧∃ n,w'=w.drewN n:=by
 go_enter Tryz.func50,Tryz.ntmps50
 go_wp2_with (go_at_call 111;((with_reducible refine (lcut_miss s hi _).mono ?_);rintro e w' ⟨rfl,n,rfl⟩))
 go_ret3
 exact ⟨rfl,n,rfl⟩
theorem rpq_long (s:ByteArray) (w:World) (hs:20000 < s.size) (hm:s.size≤maxLen) :
 Calls Tryz.prog 12 #[.string s] w (fun e w'=>e=.returned (.tuple #[.agg #[.bool false,.slice none 0 0,.slice none 0 0],.int .i64 2])∧Below w.heap.size w w'):=by
 have hle:(20000:Int) < (s.size:Int):=by omega
 go_enter Tryz.func12,Tryz.ntmps12
 go_wp2_with fail
 generalize hW:World.alloc _ _=W
 obtain ⟨hb,Z,hzW⟩:=mkbx9_9 hW;clear hW;have zf0:=Z.f0;have zf1:=Z.f1;have zf2:=Z.f2;obtain ⟨z0,z1,z2⟩:=Z.all
 go_wp2_with fail
 refine bodyPost_ret (v:=.tuple #[.agg #[.bool false,.slice none 0 0,.slice none 0 0],.int .i64 2]) (by simp [results,Tryz.results12,go_sem,z0,z1,z2]) rfl ?_
 exact ⟨rfl,hb⟩
theorem rpq_nobad (s:ByteArray) (w:World) (hs:s.size≤20000) (hi:Lib.indexByte s.data.toList 47=-1) (hz:zbad s.data.toList=true) :
 Calls Tryz.prog 12 #[.string s] w (fun e w'=>e=.returned (.tuple #[.agg #[.bool false,.slice none 0 0,.slice none 0 0],.int .i64 11])∧Below w.heap.size w w'):=by
 have hle:¬ (20000:Int) < (s.size:Int):=by omega
 have HM:Hid (s.size≤maxLen):=by show s.size≤maxLen;unfold maxLen;omega
 have HI:=Lib.hid hi;have HZ:=Lib.hid hz;have HS1:=Lib.hid hs;clear hi hz hs
 go_enter Tryz.func12,Tryz.ntmps12
 go_wp2_with fail
 generalize hW:World.alloc _ _=W
 obtain ⟨hb,Z,hzW⟩:=mkbx9_9 hW;clear hW
 go_upto_region 5 with (first
  | (go_at_call 50;(with_reducible refine (scut_miss s HI.out _).mono ?_);rintro e w_c ⟨rfl,nn,rfl⟩
     replace Z:=Z.below (below_drawn (Below.refl _ _) nn)
     replace hb:=below_drawn hb nn)
  | (go_at_call 51;(with_reducible refine (zparse_form s _ HS1.out HZ.out).mono ?_);rintro e w_n ⟨rfl,hh⟩
     (try replace Z:=Z.below hh);replace hb:=bend hb hh))
 have hzl:w.heap.size < w_n.heap.size:=Z.lt
 generalize hW:World.alloc _ _=W2
 obtain ⟨hh,XN,hzW2⟩:=mkbx16_10 hW;clear hW;(try replace Z:=Z.below hh);replace hb:=bend hb hh;obtain ⟨xn0,xn1⟩:=XN.all;have zf0:=Z.f0;have zf1:=Z.f1;have zf2:=Z.f2;obtain ⟨z0,z1,z2⟩:=Z.all
 go_wp2_with fail
 have Z2:=Z.set3 (.bool false) (.slice none 0 0) (.slice none 0 0)
 obtain ⟨g0,g1,g2⟩:=Z2.all
 refine bodyPost_ret (v:=.tuple #[.agg #[.bool false,.slice none 0 0,.slice none 0 0],.int .i64 11]) (by simp [results,Tryz.results12,go_sem,g0,g1,g2]) rfl ?_
 exact ⟨rfl,below_set3 hb (by omega) _ _ _⟩
theorem rpq_nook (s:ByteArray) (w:World) (hs:s.size≤20000) (hi:Lib.indexByte s.data.toList 47=-1) {p:Int} {k:Nat} (hz:zbad s.data.toList=false) (hp:zval s.data.toList=p) (hpk:p.natAbs < B64 ^ k) (hk:k≤900) (h1:1≤k) :
 Calls Tryz.prog 12 #[.string s] w (GivesQE w (mkRat p 1) k):=by
 have hle:¬ (20000:Int) < (s.size:Int):=by omega
 have HM:Hid (s.size≤maxLen):=by show s.size≤maxLen;unfold maxLen;omega
 have HI:=Lib.hid hi;have HZ:=Lib.hid hz;have HS1:=Lib.hid hs;have HP:=Lib.hid hp;have HPK:=Lib.hid hpk;clear hi hz hs hp hpk
 go_enter Tryz.func12,Tryz.ntmps12
 go_wp2_with fail
 generalize hW:World.alloc _ _=W
 obtain ⟨hb,Z,hzW⟩:=mkbx9_9 hW;clear hW
 go_upto_region 5 with (first
  | (go_at_call 50;(with_reducible refine (scut_miss s HI.out _).mono ?_);rintro e w_c ⟨rfl,nn,rfl⟩
     replace Z:=Z.below (below_drawn (Below.refl _ _) nn)
     replace hb:=below_drawn hb nn)
  | (go_at_call 51;(with_reducible refine (zparse_ok s _ HS1.out HZ.out k (by rw [HP.out];exact HPK.out)).mono ?_);rintro e w_n ⟨A_x,n_x,c_x,rfl,x0,hxk,xr,hh⟩
     rw [HP.out] at x0 xr
     have x:ZG w_n (decide (p < 0)) A_x n_x c_x p k:=⟨rfl,xr,by obtain ⟨l,_,_,_,p4,_⟩:=x0;exact p4,hxk⟩
     clear x0 xr hxk;rw [HP.out];replace Z:=Z.below hh;replace hb:=bend hb hh))
 have hzl:w.heap.size < w_n.heap.size:=Z.lt
 generalize hW:World.alloc _ _=W2
 obtain ⟨hh,XN,hzW2⟩:=mkbx16_10 hW;clear hW;(try replace x:=x.below hh);(try replace Z:=Z.below hh);replace hb:=bend hb hh;obtain ⟨xn0,xn1⟩:=XN.all
 go_upto_region 8 with (fail)
 have zf0:=Z.f0;have zf1:=Z.f1;have zf2:=Z.f2;obtain ⟨z0,z1,z2⟩:=Z.all
 replace x:=x.below (Below.refl _ _).drew
 replace XN:=XN.below (Below.refl _ _).drew
 replace Z:=Z.below (Below.refl _ _).drew
 replace hb:=hb.drew;have zf0:=Z.f0;have z0:=Z.c0;have zf1:=Z.f1;have z1:=Z.c1;have zf2:=Z.f2;have z2:=Z.c2
 go_region_held3 (fun w'=>w'.cell? ⟨w_n.heap.size,0,none⟩=some (.bool (decide (p < 0)))∧w'.cell? ⟨w_n.heap.size,1,none⟩=some (.slice A_x n_x c_x))
  (first | with_reducible exact ⟨XN.c0,XN.c1⟩ | with_reducible exact ⟨(set3_cell _ _ _ _ _ _ _ (by omega)).trans XN.c0,(set3_cell _ _ _ _ _ _ _ (by omega)).trans XN.c1⟩)
  (first
  | (go_at_call 52;(with_reducible refine (of_one1 _).mono ?_);rintro e w_y ⟨B_y,m_y,d_y,rfl,y,hh⟩
     replace x:=x.below hh;replace XN:=XN.below hh;replace Z:=Z.below hh;replace hb:=bend hb hh;have zf0:=Z.f0;have zf1:=Z.f1;have zf2:=Z.f2;obtain ⟨z0,z1,z2⟩:=Z.all))
 go_wp2_with fail
 have Z2:=Z.set3 (.bool (decide (p < 0))) (.slice A_x n_x c_x) (.slice B_y m_y d_y)
 obtain ⟨g0,g1,g2⟩:=Z2.all
 refine bodyPost_ret (v:=.tuple #[.agg #[.bool (decide (p < 0)),.slice A_x n_x c_x,.slice B_y m_y d_y],.int .i64 0]) (by simp [results,Tryz.results12,go_sem,g0,g1,g2]) rfl ?_
 have hmk:=mk_cond (show (1:Nat) ≠ 0 by decide) (Nat.gcd_one_right p.natAbs)
 have r:QG w_y (decide (p < 0)) A_x n_x c_x B_y m_y d_y (mkRat p 1) k:=⟨by rw [hmk.1];exact x,by rw [hmk.2];exact y.more h1⟩
 exact ⟨_,A_x,n_x,c_x,B_y,m_y,d_y,rfl,r.set3 Z _ _ _,below_set3 hb (by omega) _ _ _⟩
theorem rpq_ubad (s:ByteArray) (i:Nat) (w:World) (hs:s.size≤20000) (hi:Lib.indexByte s.data.toList 47=(i:Int)) (hlt:i < s.size) {u1 u2:ByteArray} (hu1:s.extract 0 i=u1) (hu2:s.extract (i+1) s.size=u2) (hs1:u1.size≤20000) (hs2:u2.size≤20000) (hz:zbad u1.data.toList=true) :
 Calls Tryz.prog 12 #[.string s] w (fun e w'=>e=.returned (.tuple #[.agg #[.bool false,.slice none 0 0,.slice none 0 0],.int .i64 11])∧Below w.heap.size w w'):=by
 have hle:¬ (20000:Int) < (s.size:Int):=by omega
 have HM:Hid (s.size≤maxLen):=by show s.size≤maxLen;unfold maxLen;omega
 have HI:=Lib.hid hi;have HZ:=Lib.hid hz;have HLT:=Lib.hid hlt;have HU1:=Lib.hid hu1;have HU2:=Lib.hid hu2;have HS1:=Lib.hid hs1;have HS2:=Lib.hid hs2;clear hi hz hlt hu1 hu2 hs1 hs2 hs
 go_enter Tryz.func12,Tryz.ntmps12
 go_wp2_with fail
 generalize hW:World.alloc _ _=W
 obtain ⟨hb,Z,hzW⟩:=mkbx9_9 hW;clear hW
 go_upto_region 5 with (first
  | (go_at_call 50;(with_reducible refine (scut_hit s i HI.out HLT.out HM.out _).mono ?_);rintro e w_c ⟨rfl,nn,rfl⟩
     rw [HU1.out,HU2.out]
     replace Z:=Z.below (below_drawn (Below.refl _ _) nn)
     replace hb:=below_drawn hb nn)
  | (go_at_call 51;(with_reducible refine (zparse_form u1 _ HS1.out HZ.out).mono ?_);rintro e w_n ⟨rfl,hh⟩
     (try replace Z:=Z.below hh);replace hb:=bend hb hh))
 have hzl:w.heap.size < w_n.heap.size:=Z.lt
 generalize hW:World.alloc _ _=W2
 obtain ⟨hh,XN,hzW2⟩:=mkbx16_10 hW;clear hW;(try replace Z:=Z.below hh);replace hb:=bend hb hh;obtain ⟨xn0,xn1⟩:=XN.all;have zf0:=Z.f0;have zf1:=Z.f1;have zf2:=Z.f2;obtain ⟨z0,z1,z2⟩:=Z.all
 go_wp2_with fail
 have Z2:=Z.set3 (.bool false) (.slice none 0 0) (.slice none 0 0)
 obtain ⟨g0,g1,g2⟩:=Z2.all
 refine bodyPost_ret (v:=.tuple #[.agg #[.bool false,.slice none 0 0,.slice none 0 0],.int .i64 11]) (by simp [results,Tryz.results12,go_sem,g0,g1,g2]) rfl ?_
 exact ⟨rfl,below_set3 hb (by omega) _ _ _⟩
theorem rpq_lbad (s:ByteArray) (i:Nat) (w:World) (hs:s.size≤20000) (hi:Lib.indexByte s.data.toList 47=(i:Int)) (hlt:i < s.size) {u1 u2:ByteArray} (hu1:s.extract 0 i=u1) (hu2:s.extract (i+1) s.size=u2) (hs1:u1.size≤20000) (hs2:u2.size≤20000) {p:Int} {k:Nat} (hz:zbad u1.data.toList=false) (hp:zval u1.data.toList=p) (hpk:p.natAbs < B64 ^ k) (_hk:k≤900) (ht:isTextB u2.data.toList=false) :
 Calls Tryz.prog 12 #[.string s] w (fun e w'=>e=.returned (.tuple #[.agg #[.bool false,.slice none 0 0,.slice none 0 0],.int .i64 11])∧Below w.heap.size w w'):=by
 have hle:¬ (20000:Int) < (s.size:Int):=by omega
 have HM:Hid (s.size≤maxLen):=by show s.size≤maxLen;unfold maxLen;omega
 have HI:=Lib.hid hi;have HZ:=Lib.hid hz;have HLT:=Lib.hid hlt;have HU1:=Lib.hid hu1;have HU2:=Lib.hid hu2;have HS1:=Lib.hid hs1;have HS2:=Lib.hid hs2;have HP:=Lib.hid hp;have HPK:=Lib.hid hpk;have HT:=Lib.hid ht;clear hi hz hlt hu1 hu2 hs1 hs2 hs hp hpk ht
 go_enter Tryz.func12,Tryz.ntmps12
 go_wp2_with fail
 generalize hW:World.alloc _ _=W
 obtain ⟨hb,Z,hzW⟩:=mkbx9_9 hW;clear hW
 go_upto_region 5 with (first
  | (go_at_call 50;(with_reducible refine (scut_hit s i HI.out HLT.out HM.out _).mono ?_);rintro e w_c ⟨rfl,nn,rfl⟩
     rw [HU1.out,HU2.out]
     replace Z:=Z.below (below_drawn (Below.refl _ _) nn)
     replace hb:=below_drawn hb nn)
  | (go_at_call 51;(with_reducible refine (zparse_ok u1 _ HS1.out HZ.out k (by rw [HP.out];exact HPK.out)).mono ?_);rintro e w_n ⟨A_x,n_x,c_x,rfl,x0,hxk,xr,hh⟩
     rw [HP.out] at x0 xr
     have x:ZG w_n (decide (p < 0)) A_x n_x c_x p k:=⟨rfl,xr,by obtain ⟨l,_,_,_,p4,_⟩:=x0;exact p4,hxk⟩
     clear x0 xr hxk;rw [HP.out];replace Z:=Z.below hh;replace hb:=bend hb hh))
 have hzl:w.heap.size < w_n.heap.size:=Z.lt
 generalize hW:World.alloc _ _=W2
 obtain ⟨hh,XN,hzW2⟩:=mkbx16_10 hW;clear hW;(try replace x:=x.below hh);(try replace Z:=Z.below hh);replace hb:=bend hb hh;obtain ⟨xn0,xn1⟩:=XN.all;have xz:=x.zr;have zf0:=Z.f0;have zf1:=Z.f1;have zf2:=Z.f2;obtain ⟨z0,z1,z2⟩:=Z.all
 go_wp2_with (first
  | (go_at_call 53;(with_reducible refine (parse_form u2 _ HS2.out HT.out).mono ?_);rintro e w_q ⟨rfl,rfl⟩
     skip))
 have Z2:=Z.set3 (.bool false) (.slice none 0 0) (.slice none 0 0)
 obtain ⟨g0,g1,g2⟩:=Z2.all
 refine bodyPost_ret (v:=.tuple #[.agg #[.bool false,.slice none 0 0,.slice none 0 0],.int .i64 11]) (by simp [results,Tryz.results12,go_sem,g0,g1,g2]) rfl ?_
 exact ⟨rfl,below_set3 hb (by omega) _ _ _⟩
theorem rpq_few (s:ByteArray) (i:Nat) (w:World) (hs:s.size≤20000) (hi:Lib.indexByte s.data.toList 47=(i:Int)) (hlt:i < s.size) {u1 u2:ByteArray} (hu1:s.extract 0 i=u1) (hu2:s.extract (i+1) s.size=u2) (hs1:u1.size≤20000) (hs2:u2.size≤20000) {p:Int} {k:Nat} (hz:zbad u1.data.toList=false) (hp:zval u1.data.toList=p) (hpk:p.natAbs < B64 ^ k) (hk:k≤900) (ht:isTextB u2.data.toList=true) {q:Nat} (hq:dec u2.data.toList=q) (hqk:q < B64 ^ k) (hq2:q < 2) :
 Calls Tryz.prog 12 #[.string s] w (fun e w'=>e=.returned (.tuple #[.agg #[.bool false,.slice none 0 0,.slice none 0 0],.int .i64 11])∧Below w.heap.size w w'):=by
 have hle:¬ (20000:Int) < (s.size:Int):=by omega
 have HM:Hid (s.size≤maxLen):=by show s.size≤maxLen;unfold maxLen;omega
 have HI:=Lib.hid hi;have HZ:=Lib.hid hz;have HLT:=Lib.hid hlt;have HU1:=Lib.hid hu1;have HU2:=Lib.hid hu2;have HS1:=Lib.hid hs1;have HS2:=Lib.hid hs2;have HP:=Lib.hid hp;have HPK:=Lib.hid hpk;have HT:=Lib.hid ht;have HQ:=Lib.hid hq;have HQK:=Lib.hid hqk
 have hbl:((bl q:Nat):Int) < 2:=by
  have h1:=bl_mono (show q≤1 by omega)
  rw [show bl 1=1 from bl_eq (k:=0) (by decide) (by decide)] at h1
  omega
 clear hi hz hlt hu1 hu2 hs1 hs2 hs hp hpk ht hq hqk hq2
 go_enter Tryz.func12,Tryz.ntmps12
 go_wp2_with fail
 generalize hW:World.alloc _ _=W
 obtain ⟨hb,Z,hzW⟩:=mkbx9_9 hW;clear hW
 go_upto_region 5 with (first
  | (go_at_call 50;(with_reducible refine (scut_hit s i HI.out HLT.out HM.out _).mono ?_);rintro e w_c ⟨rfl,nn,rfl⟩
     rw [HU1.out,HU2.out]
     replace Z:=Z.below (below_drawn (Below.refl _ _) nn)
     replace hb:=below_drawn hb nn)
  | (go_at_call 51;(with_reducible refine (zparse_ok u1 _ HS1.out HZ.out k (by rw [HP.out];exact HPK.out)).mono ?_);rintro e w_n ⟨A_x,n_x,c_x,rfl,x0,hxk,xr,hh⟩
     rw [HP.out] at x0 xr
     have x:ZG w_n (decide (p < 0)) A_x n_x c_x p k:=⟨rfl,xr,by obtain ⟨l,_,_,_,p4,_⟩:=x0;exact p4,hxk⟩
     clear x0 xr hxk;rw [HP.out];replace Z:=Z.below hh;replace hb:=bend hb hh))
 have hzl:w.heap.size < w_n.heap.size:=Z.lt
 generalize hW:World.alloc _ _=W2
 obtain ⟨hh,XN,hzW2⟩:=mkbx16_10 hW;clear hW;(try replace x:=x.below hh);(try replace Z:=Z.below hh);replace hb:=bend hb hh;obtain ⟨xn0,xn1⟩:=XN.all;have xz:=x.zr
 go_wp2_with (first
  | (go_at_call 53;(with_reducible refine (parse_nr u2 _ HS2.out HT.out).mono ?_);rintro e w_q ⟨B_y,m_y,d_y,rfl,y0,hh⟩
     rw [HQ.out] at y0;have y:=y0.tight HQK.out;have yr:=y.nr;clear y0;replace x:=x.below hh;replace xz:=xz.below hh;replace XN:=XN.below hh;replace Z:=Z.below hh;replace hb:=bend hb hh;obtain ⟨xn0,xn1⟩:=XN.all;have zf0:=Z.f0;have zf1:=Z.f1;have zf2:=Z.f2;obtain ⟨z0,z1,z2⟩:=Z.all
     skip)
  | (go_at_call 54;(with_reducible refine (bits_nr yr (by omega)).mono ?_);rintro e w_b ⟨rfl,rfl⟩))
 have Z2:=Z.set3 (.bool false) (.slice none 0 0) (.slice none 0 0)
 obtain ⟨g0,g1,g2⟩:=Z2.all
 refine bodyPost_ret (v:=.tuple #[.agg #[.bool false,.slice none 0 0,.slice none 0 0],.int .i64 11]) (by simp [results,Tryz.results12,go_sem,g0,g1,g2]) rfl ?_
 exact ⟨rfl,below_set3 hb (by omega) _ _ _⟩
theorem rpq_cop (s:ByteArray) (i:Nat) (w:World) (hs:s.size≤20000) (hi:Lib.indexByte s.data.toList 47=(i:Int)) (hlt:i < s.size) {u1 u2:ByteArray} (hu1:s.extract 0 i=u1) (hu2:s.extract (i+1) s.size=u2) (hs1:u1.size≤20000) (hs2:u2.size≤20000) {p:Int} {k:Nat} (hz:zbad u1.data.toList=false) (hp:zval u1.data.toList=p) (hpk:p.natAbs < B64 ^ k) (hk:k≤900) (ht:isTextB u2.data.toList=true) {q:Nat} (hq:dec u2.data.toList=q) (hqk:q < B64 ^ k) (hq2:2≤q) (hg:Nat.gcd p.natAbs q ≠ 1) :
 Calls Tryz.prog 12 #[.string s] w (fun e w'=>e=.returned (.tuple #[.agg #[.bool false,.slice none 0 0,.slice none 0 0],.int .i64 11])∧Below w.heap.size w w'):=by
 have hle:¬ (20000:Int) < (s.size:Int):=by omega
 have HM:Hid (s.size≤maxLen):=by show s.size≤maxLen;unfold maxLen;omega
 have HI:=Lib.hid hi;have HZ:=Lib.hid hz;have HLT:=Lib.hid hlt;have HU1:=Lib.hid hu1;have HU2:=Lib.hid hu2;have HS1:=Lib.hid hs1;have HS2:=Lib.hid hs2;have HP:=Lib.hid hp;have HPK:=Lib.hid hpk;have HT:=Lib.hid ht;have HQ:=Lib.hid hq;have HQK:=Lib.hid hqk
 have hbl:¬ ((bl q:Nat):Int) < 2:=by
  have h1:=bl_mono hq2
  rw [show bl 2=2 from bl_eq (k:=1) (by decide) (by decide)] at h1
  omega
 have HG:Hid (decide (Nat.gcd p.natAbs q=1)=false):=decide_eq_false hg
 clear hi hz hlt hu1 hu2 hs1 hs2 hs hp hpk ht hq hqk hq2 hg
 go_enter Tryz.func12,Tryz.ntmps12
 go_wp2_with fail
 generalize hW:World.alloc _ _=W
 obtain ⟨hb,Z,hzW⟩:=mkbx9_9 hW;clear hW
 go_upto_region 5 with (first
  | (go_at_call 50;(with_reducible refine (scut_hit s i HI.out HLT.out HM.out _).mono ?_);rintro e w_c ⟨rfl,nn,rfl⟩
     rw [HU1.out,HU2.out]
     replace Z:=Z.below (below_drawn (Below.refl _ _) nn)
     replace hb:=below_drawn hb nn)
  | (go_at_call 51;(with_reducible refine (zparse_ok u1 _ HS1.out HZ.out k (by rw [HP.out];exact HPK.out)).mono ?_);rintro e w_n ⟨A_x,n_x,c_x,rfl,x0,hxk,xr,hh⟩
     rw [HP.out] at x0 xr
     have x:ZG w_n (decide (p < 0)) A_x n_x c_x p k:=⟨rfl,xr,by obtain ⟨l,_,_,_,p4,_⟩:=x0;exact p4,hxk⟩
     clear x0 xr hxk;rw [HP.out];replace Z:=Z.below hh;replace hb:=bend hb hh))
 have hzl:w.heap.size < w_n.heap.size:=Z.lt
 generalize hW:World.alloc _ _=W2
 obtain ⟨hh,XN,hzW2⟩:=mkbx16_10 hW;clear hW;(try replace x:=x.below hh);(try replace Z:=Z.below hh);replace hb:=bend hb hh;obtain ⟨xn0,xn1⟩:=XN.all;have xz:=x.zr
 go_wp2_with (first
  | (go_at_call 53;(with_reducible refine (parse_nr u2 _ HS2.out HT.out).mono ?_);rintro e w_q ⟨B_y,m_y,d_y,rfl,y0,hh⟩
     rw [HQ.out] at y0;have y:=y0.tight HQK.out;have yr:=y.nr;clear y0;replace x:=x.below hh;replace xz:=xz.below hh;replace XN:=XN.below hh;replace Z:=Z.below hh;replace hb:=bend hb hh;obtain ⟨xn0,xn1⟩:=XN.all;have zf0:=Z.f0;have zf1:=Z.f1;have zf2:=Z.f2;obtain ⟨z0,z1,z2⟩:=Z.all
     skip)
  | (go_at_call 54;(with_reducible refine (bits_nr yr (by omega)).mono ?_);rintro e w_b ⟨rfl,rfl⟩)
  | (go_at_call 55;(with_reducible refine (coprime_q xz yr (by omega)).mono ?_);rintro e w_z ⟨rfl,hh⟩
     rw [HG.out];replace Z:=Z.below hh;replace hb:=bend hb hh;have zf0:=Z.f0;have zf1:=Z.f1;have zf2:=Z.f2;obtain ⟨z0,z1,z2⟩:=Z.all
     skip))
 have Z2:=Z.set3 (.bool false) (.slice none 0 0) (.slice none 0 0)
 obtain ⟨g0,g1,g2⟩:=Z2.all
 refine bodyPost_ret (v:=.tuple #[.agg #[.bool false,.slice none 0 0,.slice none 0 0],.int .i64 11]) (by simp [results,Tryz.results12,go_sem,g0,g1,g2]) rfl ?_
 exact ⟨rfl,below_set3 hb (by omega) _ _ _⟩
end
section
open Go
def upd {α:Type} (f:Nat→α) (d:Nat) (x:α):Nat→α:=fun k=>if k=d then x else f k
theorem upd_same {α:Type} (f:Nat→α) (d:Nat) (x:α):upd f d x d=x:=by simp [upd]
theorem upd_ne {α:Type} (f:Nat→α) {d k:Nat} (x:α) (h:k ≠ d):upd f d x k=f k:=by simp [upd,h]
def putAll (a:Act):List Nat→(Nat→Value)→Act
 | [],_=>a
 | d :: l,v=>putAll (a.put (some d) (v d)) l v
theorem put_put (a:Act) (d:Nat) (x y:Value):(a.put (some d) x).put (some d) y=a.put (some d) y:=by
 simp [Act.put]
theorem putAll_comm (x:Value) (d:Nat) (v:Nat→Value):∀ (l:List Nat) (a:Act),d ∉ l→(putAll a l v).put (some d) x=putAll (a.put (some d) x) l v
 | [],_,_=>rfl
 | e :: l,a,h=>by
   have h1:e ≠ d:=fun k=>h (by simp [k])
   have h2:d ∉ l:=fun k=>h (by simp [k])
   rw [putAll,putAll_comm x d v l _ h2,putAll]
   congr 1
   simp [Act.put,Array.setIfInBounds_comm _ _ h1]
theorem putAll_congr {v u:Nat→Value}:∀ (l:List Nat) (a:Act),(∀ d ∈ l,v d=u d)→putAll a l v=putAll a l u
 | [],_,_=>rfl
 | e :: l,a,h=>by
   rw [putAll,putAll,h e (by simp)]
   exact putAll_congr l _ fun d hd=>h d (by simp [hd])
theorem putAll_put (x:Value) (d:Nat) (v:Nat→Value):∀ (l:List Nat) (a:Act),l.Nodup→d ∈ l→(putAll a l v).put (some d) x=putAll a l (upd v d x)
 | [],_,_,h=>by cases h
 | e :: l,a,hn,h=>by
   have hn':=List.nodup_cons.1 hn
   by_cases hd:e=d
   · subst hd
     rw [putAll,putAll_comm x e v l _ hn'.1,put_put,putAll,upd_same]
     exact putAll_congr l _ fun k hk=>(upd_ne v x (fun q=>by subst q;exact hn'.1 hk)).symm
   · have hm : d ∈ l := by
       cases h with
       | head=>exact absurd rfl hd
       | tail _ h=>exact h
     rw [putAll,putAll_put x d v l _ hn'.2 hm,putAll,upd_ne v x hd]
theorem put_self (a:Act) (d:Nat):a.put (some d) (a.tmps.getD d undef)=a:=by
 cases a with
 | mk tmps defers =>
   simp only [Act.put]
   congr 1
   apply Array.ext
   · simp
   · intro i h1 h2
     simp only [Array.getElem_setIfInBounds h2]
     split
     · rename_i h;subst h;simp [h2]
     · rfl
theorem putAll_self (a:Act):∀ (l:List Nat),putAll a l (fun d=>a.tmps.getD d undef)=a
 | []=>rfl
 | d :: l=>by rw [putAll,put_self];exact putAll_self a l
section
variable {P:Program} {ops:Array Oper} {Q:Exit→Act→World→Prop}
def backB (ops:Array Oper):Bool:=(List.range ops.size).all fun i=>((ops[i]?).map fun o=>o.after.all fun e=>!Region.binds .any e || decide (e.on < i)).getD true
theorem all_listed {listed:Array Bool} (hs:listed.size=ops.size) (hb:backB ops=true) (hr:Region.ready .any ops listed=[]):∀ i,i < ops.size→listed.getD i false=true:=by
 intro i
 induction i using Nat.strongRecOn with
 | ind i ih =>
   intro hi
   cases hl:listed.getD i false with
   | true=>rfl
   | false =>
     exfalso
     have hm:i ∈ Region.ready .any ops listed:=by
      unfold Region.ready
      rw [List.mem_filter]
      refine ⟨by simpa using hi,?_⟩
      have h1:listed.getD i true=false:=by
       simp only [Array.getD_eq_getD_getElem?,Array.getElem?_eq_getElem (show i < listed.size by omega),Option.getD_some] at hl ⊢;exact hl
      rw [h1,Array.getElem?_eq_getElem hi]
      simp only [Bool.not_false,Option.map_some,Option.getD_some,Bool.true_and]
      rw [Array.all_eq_true]
      intro j hj
      have h2:=List.all_eq_true.1 hb i (by simpa using hi)
      rw [Array.getElem?_eq_getElem hi] at h2
      simp only [Option.map_some,Option.getD_some] at h2
      have h3:=Array.all_eq_true.1 h2 j hj
      cases hbd:Region.binds .any (ops[i].after[j]) with
      | false=>simp
      | true =>
        rw [hbd] at h3
        have h4:(ops[i].after[j]).on < i:=of_decide_eq_true (by simpa using h3)
        rw [ih _ h4 (by omega)]
        simp
     rw [hr] at hm;cases hm
theorem wpAny_inv (J:(Nat→Bool)→Act→World→Prop) (hb:backB ops=true)
 (hstep:∀ (i:Nat) (o:Oper) (D:Nat→Bool) (a:Act) (w:World),ops[i]?=some o→D i=false→(∀ e ∈ o.after,Region.binds .any e=true→D e.on=true)→J D a w →
  wpOp P ops Q i (fun a' w'=>J (upd D i true) a' w') a w)
 (hend:∀ (D:Nat→Bool) (a:Act) (w:World),(∀ i,i < ops.size→D i=true)→J D a w→Q .normal a w)
 (hcong:∀ D D' a w,(∀ i,i < ops.size→D i=D' i)→J D a w→J D' a w) :
 ∀ (fuel:Nat) (listed:Array Bool) (a:Act) (w:World),listed.size=ops.size→listed.toList.count false≤fuel→J (fun i=>listed.getD i false) a w→wpAny P .any ops Q fuel listed a w
 | 0,listed,a,w,hs,hf,hJ=>by
   have hall:∀ i,i < ops.size→listed.getD i false=true:=by
    intro i hi
    have h0:listed.toList.count false=0:=by omega
    have hi':i < listed.size:=by omega
    have:=List.count_eq_zero.1 h0
    simp only [Array.getD_eq_getD_getElem?,Array.getElem?_eq_getElem hi',Option.getD_some]
    cases h:listed[i] with
    | true=>rfl
    | false=>exact absurd (by rw [← h];exact Array.mem_toList_iff.2 (Array.getElem_mem hi')) this
   refine ⟨?_,hend _ _ _ hall hJ⟩
   unfold Region.ready
   rw [List.filter_eq_nil_iff]
   intro i hi
   have hi2:i < ops.size:=by simpa using hi
   have h2:listed.getD i true=true:=by
    have h:=hall i hi2
    have hi':i < listed.size:=by omega
    simp only [Array.getD_eq_getD_getElem?,Array.getElem?_eq_getElem hi',Option.getD_some] at h ⊢;exact h
   simp [h2]
 | fuel+1,listed,a,w,hs,hf,hJ=>by
   refine ⟨fun hr=>hend _ _ _ (all_listed hs hb hr) hJ,fun i hi=>?_⟩
   obtain ⟨hjun,o,ho,hall⟩:=mem_ready.1 hi
   have hi1:i < ops.size:=by
    rcases Nat.lt_or_ge i ops.size with h | h
    · exact h
    · rw [Array.getElem?_eq_none h] at ho;cases ho
   have hi':i < listed.size:=by omega
   have hl:listed[i]=false:=by
    simp only [Array.getD_eq_getD_getElem?,Array.getElem?_eq_getElem hi',Option.getD_some] at hjun;exact hjun
   have hD:listed.getD i false=false:=by
    simp only [Array.getD_eq_getD_getElem?,Array.getElem?_eq_getElem hi',Option.getD_some];exact hl
   refine wpOp_mono (fun a' w' h=>wpAny_inv J hb hstep hend hcong fuel _ a' w' (by simpa using hs) ?_ (hcong _ _ _ _ (fun j hj=>?_) h)) (hstep i o _ a w ho hD hall hJ)
   · rw [Array.toList_setIfInBounds,List.count_set (by simpa using hi')]
     have:listed.toList[i]'(by simpa using hi')=false:=by simpa using hl
     rw [this]
     show listed.toList.count false - 1+0≤fuel
     omega
   · by_cases hji:j=i
     · subst hji
       rw [upd_same]
       simp [hi']
     · rw [upd_ne _ _ hji]
       simp [Array.getD_eq_getD_getElem?,Ne.symm hji]
theorem wp_region_inv {id:Nat} {a:Act} (l:List Nat) (J:(Nat→Bool)→(Nat→Value)→World→Prop) (hm:P.follows .mixedOrders=true) (hb:backB ops=true)
 (h0:J (fun _=>false) (fun d=>a.tmps.getD d undef) w.drew)
 (hcong:∀ D D' v w,(∀ i,i < ops.size→D i=D' i)→J D v w→J D' v w)
 (hstep:∀ (i:Nat) (o:Oper) (D:Nat→Bool) (v:Nat→Value) (w:World),ops[i]?=some o→D i=false→(∀ e ∈ o.after,Region.binds .any e=true→D e.on=true)→J D v w →
  wpOp P ops Q i (fun a' w'=>∃ v',a'=putAll a l v'∧J (upd D i true) v' w') (putAll a l v) w)
 (hend:∀ (D:Nat→Bool) (v:Nat→Value) (w:World),(∀ i,i < ops.size→D i=true)→J D v w→Q .normal (putAll a l v) w) :
 (Code.region id ops true).wp P Q a w:=by
 refine wp_region_any hm (wpAny_inv (fun D a' w'=>∃ v,a'=putAll a l v∧J D v w') hb ?_ ?_ ?_ _ _ _ _ (by simp) (by simp) ?_)
 · rintro i o D a' w' ho hD hall ⟨v,rfl,hJ⟩
   exact hstep i o D v w' ho hD hall hJ
 · rintro D a' w' hall ⟨v,rfl,hJ⟩
   exact hend D v w' hall hJ
 · rintro D D' a' w' h ⟨v,e,hJ⟩
   exact ⟨v,e,hcong D D' v w' h hJ⟩
 · refine ⟨_,(putAll_self a l).symm,hcong _ _ _ _ (fun i hi=>?_) h0⟩
   simp [hi]
end
end
section
open Go Go.RowKit
theorem wpOp_plain {P:Program} {ops:Array Oper} {Q:Exit→Act→World→Prop} {i:Nat} {o:Oper} {K:Act→World→Prop} {a:Act} (hi:ops[i]?=some o) (hg:Region.wanted o (yielded ops a.tmps)=true) (h:o.wp P a w K Q):wpOp P ops Q i K a w:=by
 unfold wpOp
 simp only [hi,hg,if_true]
 exact .inl h
theorem put_none (a:Act) (x:Value):a.put none x=a:=rfl
theorem eval_putAll_not {t:Nat} {v:Nat→Value}:∀ (l:List Nat) (a:Act),t ∉ l→(putAll a l v).eval (.tmp t)=a.eval (.tmp t)
 | [],_,_=>rfl
 | d :: l,a,h=>by
   rw [putAll,eval_putAll_not l _ (fun q=>h (by simp [q]))]
   have hne:d ≠ t:=fun q=>h (by simp [q])
   simp [Act.eval,Act.put,Array.getD_eq_getD_getElem?,hne]
theorem eval_putAll_mem {t:Nat} {v:Nat→Value}:∀ (l:List Nat) (a:Act),l.Nodup→t ∈ l→t < a.tmps.size→(putAll a l v).eval (.tmp t)=v t
 | [],_,_,h,_=>by cases h
 | d :: l,a,hn,h,hs=>by
   have hn':=List.nodup_cons.1 hn
   rw [putAll]
   by_cases hd:d=t
   · subst hd
     rw [eval_putAll_not l _ hn'.1]
     simp [Act.eval,Act.put,hs]
   · have hm : t ∈ l := by
       cases h with
       | head=>exact absurd rfl hd
       | tail _ h=>exact h
     exact eval_putAll_mem l _ hn'.2 hm (by simpa [Act.put] using hs)
def IsG (w:World) (v:Value) (x:Int) (k:Nat):Prop:=∃ s A n c,v=.agg #[.bool s,.slice A n c]∧RG w s A n c x k
def IsBox (w:World) (base:Nat) (p cont:Value) (full:Bool):Prop:=∃ g s A n c,p=.pointer (some ⟨g,0,none⟩)∧base≤g∧By w g (.bool s) (.slice A n c)∧(full=true→cont=.agg #[.bool s,.slice A n c])
theorem IsG.below {w w':World} {v:Value} {x:Int} {k:Nat} (h:IsG w v x k) (hb:Below w.heap.size w w'):IsG w' v x k:=by
 obtain ⟨s,A,n,c,h1,h2⟩:=h;exact ⟨s,A,n,c,h1,h2.below hb⟩
theorem IsBox.below {w w':World} {base:Nat} {p cont:Value} {full:Bool} (h:IsBox w base p cont full) (hb:Below w.heap.size w w'):IsBox w' base p cont full:=by
 obtain ⟨g,s,A,n,c,h1,h2,h3,h4⟩:=h;exact ⟨g,s,A,n,c,h1,h2,h3.below hb,h4⟩
theorem IsG.store {v:Value} {x:Int} {k g n0 c0:Nat} {s0:Bool} {A0:Option Addr} (h:IsG w v x k) (Z:By w g (.bool s0) (.slice A0 n0 c0)) (y z:Value):IsG ((w.setCell ⟨g,0,none⟩ y).setCell ⟨g,1,none⟩ z) v x k:=by
 obtain ⟨s,A,n,c,h1,h2⟩:=h;exact ⟨s,A,n,c,h1,h2.set2 Z y z⟩
theorem IsBox.other {base g:Nat} {p cont:Value} {full:Bool} (h:IsBox w base p cont full) (hne:p ≠ .pointer (some ⟨g,0,none⟩)) (y z:Value):IsBox ((w.setCell ⟨g,0,none⟩ y).setCell ⟨g,1,none⟩ z) base p cont full:=by
 obtain ⟨g',s,A,n,c,h1,h2,h3,h4⟩:=h
 refine ⟨g',s,A,n,c,h1,h2,h3.other (fun q=>hne (by rw [h1,q])) y z,h4⟩
end
section
open Go.RowKit
theorem z_lit {V d:Nat} (h:0 < d) (h2:d < 10) (hV:V=d):txt V=[UInt8.ofNat (48+d)]:=by
 subst hV
 rw [txt,if_neg (by omega),limbs_small (by omega) h2 (by omega)]
 rfl
end
section
open Go Go.RowKit
theorem run_loadQ {e:Operand→Value} {x:Operand} {d:Option Tmp} {y g:Nat} {pos:String} {af:Array Edge} {u v z:Value} (h:e x=.pointer (some ⟨g,0,none⟩)) (h0:w.cell? ⟨g,0,none⟩=some u) (h1:w.cell? ⟨g,1,none⟩=some v) (h2:w.cell? ⟨g,2,none⟩=some z) :
 (execOp e ⟨d,.load 26 x,y,pos,af,none⟩).run Tryz.prog w=.ok (.value (.agg #[u,v,z])) w:=by
 go_simp
theorem run_storeQ {e:Operand→Value} {x z:Operand} {d:Option Tmp} {y g:Nat} {pos:String} {af:Array Edge} {s:Bool} {A B:Option Addr} {n c m k:Nat} {u0 v0 z0:Value} (h:e x=.pointer (some ⟨g,0,none⟩)) (hz:e z=.agg #[.bool s,.slice A n c,.slice B m k]) (h0:w.cell? ⟨g,0,none⟩=some u0) (h1:w.cell? ⟨g,1,none⟩=some v0) (h2:w.cell? ⟨g,2,none⟩=some z0) (f0:w.frozen? ⟨g,0,none⟩=false) (f1:w.frozen? ⟨g,1,none⟩=false) (f2:w.frozen? ⟨g,2,none⟩=false) :
 (execOp e ⟨d,.store 26 x z,y,pos,af,none⟩).run Tryz.prog w=.ok .skip (((w.setCell ⟨g,0,none⟩ (.bool s)).setCell ⟨g,1,none⟩ (.slice A n c)).setCell ⟨g,2,none⟩ (.slice B m k)):=by
 go_simp
theorem run_allocQ {e:Operand→Value} {d:Option Tmp} {y:Nat} {pos:String} {af:Array Edge} :
 (execOp e ⟨d,.alloc 26,y,pos,af,none⟩).run Tryz.prog w=.ok (.value (.pointer (some ⟨w.heap.size,0,none⟩))) (w.alloc (.cells #[.bool false,.slice none 0 0,.slice none 0 0] 26)):=by
 go_simp
theorem run_move {e:Operand→Value} {x:Operand} {d:Option Tmp} {y:Nat} {pos:String} {af:Array Edge} {u:Value} (h:e x=u) :
 (execOp e ⟨d,.move x,y,pos,af,none⟩).run Tryz.prog w=.ok (.value u) w:=by
 subst h;go_simp
theorem run_assign {e:Operand→Value} {x:Operand} {d:Option Tmp} {y:Nat} {pos:String} {af:Array Edge} {u:Value} (h:e x=u) :
 (execOp e ⟨d,.assign x,y,pos,af,none⟩).run Tryz.prog w=.ok (.value u) w:=by
 subst h;go_simp
theorem run_ext0 {e:Operand→Value} {x:Operand} {d:Option Tmp} {y:Nat} {pos:String} {af:Array Edge} {u v:Value} (h:e x=.tuple #[u,v]) :
 (execOp e ⟨d,.extract x 0,y,pos,af,none⟩).run Tryz.prog w=.ok (.value u) w:=by
 go_simp
theorem run_ext1 {e:Operand→Value} {x:Operand} {d:Option Tmp} {y:Nat} {pos:String} {af:Array Edge} {u v:Value} (h:e x=.tuple #[u,v]) :
 (execOp e ⟨d,.extract x 1,y,pos,af,none⟩).run Tryz.prog w=.ok (.value v) w:=by
 go_simp
theorem run_callOf {e:Operand→Value} {d:Option Tmp} {y:Nat} {pos:String} {af:Array Edge} {i j:Int} (h1:e (.const (.int .i64 i))=.int .i64 i) (h2:e (.const (.int .i64 j))=.int .i64 j) (h3:e (.func 23)=.func (.func 23) #[] #[]) :
 (execOp e ⟨d,.call ⟨.value (.func 23),#[.const (.int .i64 i),.const (.int .i64 j)],#[2,2]⟩,y,pos,af,none⟩).run Tryz.prog w=.ok (.enter 23 #[.int .i64 i,.int .i64 j]) w:=by
 go_simp
theorem run_callDiv {e:Operand→Value} {x z:Operand} {d:Option Tmp} {y:Nat} {pos:String} {af:Array Edge} {u v:Value} (h1:e x=u) (h2:e z=v) (h3:e (.func 47)=.func (.func 47) #[] #[]) :
 (execOp e ⟨d,.call ⟨.value (.func 47),#[x,z],#[26,26]⟩,y,pos,af,none⟩).run Tryz.prog w=.ok (.enter 47 #[u,v]) w:=by
 go_simp
def IsQ (w:World) (v:Value) (x:Rat) (k:Nat):Prop:=∃ s A n c A' n' c',v=.agg #[.bool s,.slice A n c,.slice A' n' c']∧QG w s A n c A' n' c' x k
theorem IsQ.below {w w':World} {v:Value} {x:Rat} {k:Nat} (h:IsQ w v x k) (hb:Below w.heap.size w w'):IsQ w' v x k:=by
 obtain ⟨s,A,n,c,A',n',c',h1,h2⟩:=h;exact ⟨s,A,n,c,A',n',c',h1,h2.below hb⟩
def HasBox (w:World) (base:Nat) (p:Value):Prop:=∃ g s A n c A' n' c',p=.pointer (some ⟨g,0,none⟩)∧base≤g∧B3 w g (.bool s) (.slice A n c) (.slice A' n' c')
theorem HasBox.below {w w':World} {b:Nat} {p:Value} (h:HasBox w b p) (hb:Below w.heap.size w w'):HasBox w' b p:=by
 obtain ⟨g,s,A,n,c,A',n',c',h1,h2,h3⟩:=h;exact ⟨g,s,A,n,c,A',n',c',h1,h2,h3.below hb⟩
def ErrT:Value:=.tuple #[.agg #[.bool false,.slice none 0 0,.slice none 0 0],.int .i64 12]
def JW (w:World) (V:Value) (D:Nat→Bool) (v:Nat→Value) (w':World):Prop :=
 Below w.heap.size w w'∧(D 0=true→v 18=V)∧(D 1=true∧D 2=false→IsQ w' (v 19) (Rat.divInt 0 1) 1)∧(D 2=true→v 20=ErrT)∧(D 3=true→v 17=ErrT) ∧
 (D 4=true→v 21=.agg #[.bool false,.slice none 0 0,.slice none 0 0])∧(D 5=true→v 22=.int .i64 12)∧(D 6=true→HasBox w' w.heap.size (v 5))∧(D 8=true→v 6=.int .i64 12)
theorem wk_region {id:Nat} {a:Act} {Q:Exit→Act→World→Prop} {g1:Nat} {s:Bool} {A A':Option Addr} {n c n' c':Nat} {va:Rat}
 (hsz:22 < a.tmps.size) (e1:a.eval (.tmp 1)=.pointer (some ⟨g1,0,none⟩)) (XA:B3 w g1 (.bool s) (.slice A n c) (.slice A' n' c')) (X:QR w s A n c A' n' c' va 1)
 (hend:∀ (v:Nat→Value) (w':World),v 6=.int .i64 12→Below w.heap.size w w'→Q .normal (putAll a [18,19,20,17,21,22,5,6] v) w') :
 (Code.region id #[⟨some 18,.load 26 (.tmp 1),26, "law.go:19",#[],none⟩,
  ⟨some 19,.call ⟨.value (.func 23),#[.const (Value.int IntKind.i64 0),.const (Value.int IntKind.i64 1)],#[2,2]⟩,26, "law.go:19",#[],none⟩,
  ⟨some 20,.call ⟨.value (.func 47),#[.tmp 18,.tmp 19],#[26,26]⟩,30, "law.go:19",#[⟨0,.data⟩,⟨1,.data⟩,⟨1,.chain⟩],none⟩,
  ⟨some 17,.move (.tmp 20),30, "law.go:19",#[⟨2,.data⟩],none⟩,
  ⟨some 21,.extract (.tmp 17) 0,26, "law.go:19",#[⟨3,.data⟩],none⟩,
  ⟨some 22,.extract (.tmp 17) 1,29, "law.go:19",#[⟨3,.data⟩,⟨7,.gcOnly .lateStores⟩],none⟩,
  ⟨some 5,.alloc 26,0, "law.go:19",#[],none⟩,
  ⟨none,.store 26 (.tmp 5) (.tmp 21),0, "law.go:19",#[⟨6,.data⟩,⟨4,.data⟩,⟨2,.chain⟩,⟨0,.phase⟩,⟨1,.phase⟩,⟨2,.phase⟩,⟨3,.phase⟩,⟨4,.phase⟩,⟨5,.textOnly .lateStores⟩,⟨6,.phase⟩],none⟩,
  ⟨some 6,.assign (.tmp 22),29, "law.go:19",#[⟨5,.data⟩,⟨7,.chain⟩,⟨0,.phase⟩,⟨1,.phase⟩,⟨2,.phase⟩,⟨3,.phase⟩,⟨4,.phase⟩,⟨5,.phase⟩,⟨6,.phase⟩,⟨7,.phase⟩],none⟩] true).wp Tryz.prog Q a w:=by
 have hnd:[18,19,20,17,21,22,5,6].Nodup:=by decide
 refine wp_region_inv [18,19,20,17,21,22,5,6] (JW w (.agg #[.bool s,.slice A n c,.slice A' n' c'])) rfl (by kernel_rfl) ?_ ?_ ?_ ?_
 · refine ⟨(Below.refl _ _).drew,?_,?_,?_,?_,?_,?_,?_,?_⟩ <;> intro h <;> first | (exact absurd h (by decide)) | (exact absurd h.1 (by decide))
 · intro D D' v w' hD h
   unfold JW at h ⊢
   rw [← hD 0 (by show 0 < 9;omega),← hD 1 (by show 1 < 9;omega),← hD 2 (by show 2 < 9;omega),← hD 3 (by show 3 < 9;omega),← hD 4 (by show 4 < 9;omega),← hD 5 (by show 5 < 9;omega),← hD 6 (by show 6 < 9;omega),← hD 8 (by show 8 < 9;omega)]
   exact h
 · intro i o D v w' ho hDi hall hJ
   obtain ⟨J0,J1,J2,J3,J4,J5,J6,J7,J8⟩:=hJ
   have E1:=(eval_putAll_not (v:=v) [18,19,20,17,21,22,5,6] a (show 1 ∉ _ by decide)).trans e1
   have F:∀ t,t ∈ [18,19,20,17,21,22,5,6]→t≤22→(putAll a [18,19,20,17,21,22,5,6] v).eval (.tmp t)=v t:=fun t ht h=>eval_putAll_mem (t:=t) [18,19,20,17,21,22,5,6] a hnd ht (Nat.lt_of_le_of_lt h hsz)
   have X':=X.below J0
   have XA':=XA.below J0
   match i,ho with
   | 0,ho =>
     have hall':∀ e ∈ (⟨some 18,.load 26 (.tmp 1),26, "law.go:19",#[],none⟩:Oper).after,Region.binds .any e=true→D e.on=true:=by cases ho;exact hall
     refine wpOp_plain (o:=⟨some 18,.load 26 (.tmp 1),26, "law.go:19",#[],none⟩) rfl rfl ?_
     unfold Oper.wp
     rw [run_loadQ E1 XA'.c0 XA'.c1 XA'.c2,Oper.upon_value]
     have J2K:upd D 0 true 1=true∧upd D 0 true 2=false→IsQ w' (v 19) (Rat.divInt 0 1) 1:=fun h=>J2 ⟨h.1,h.2⟩
     refine ⟨_,putAll_put _ _ _ _ _ hnd (by decide),J0,?_,?_,?_,?_,?_,?_,?_,?_⟩
     · exact fun _=>upd_same _ _ _
     · rw [upd_ne _ _ (by decide)];exact J2K
     · rw [upd_ne _ _ (by decide)];exact J3
     · rw [upd_ne _ _ (by decide)];exact J4
     · rw [upd_ne _ _ (by decide)];exact J5
     · rw [upd_ne _ _ (by decide)];exact J6
     · rw [upd_ne _ _ (by decide)];exact J7
     · rw [upd_ne _ _ (by decide)];exact J8
   | 1,ho =>
     have hall':∀ e ∈ (⟨some 19,.call ⟨.value (.func 23),#[.const (Value.int IntKind.i64 0),.const (Value.int IntKind.i64 1)],#[2,2]⟩,26, "law.go:19",#[],none⟩:Oper).after,Region.binds .any e=true→D e.on=true:=by cases ho;exact hall
     refine wpOp_plain (o:=⟨some 19,.call ⟨.value (.func 23),#[.const (Value.int IntKind.i64 0),.const (Value.int IntKind.i64 1)],#[2,2]⟩,26, "law.go:19",#[],none⟩) rfl rfl ?_
     unfold Oper.wp
     rw [run_callOf rfl rfl rfl,Oper.upon_enter]
     refine (rof_q 0 1 (by decide) (by decide) (by decide) (by decide) (by decide) _).mono ?_
     rintro e w1 ⟨s1,A1,n1,c1,B1,m1,d1,rfl,hg,hb⟩
     refine ⟨_,putAll_put _ _ _ _ _ hnd (by decide),bend J0 hb,?_,?_,?_,?_,?_,?_,?_,?_⟩
     · rw [upd_ne _ _ (by decide)];exact J1
     · intro _;rw [upd_same];exact ⟨s1,A1,n1,c1,B1,m1,d1,rfl,hg⟩
     · rw [upd_ne _ _ (by decide)];exact J3
     · rw [upd_ne _ _ (by decide)];exact J4
     · rw [upd_ne _ _ (by decide)];exact J5
     · rw [upd_ne _ _ (by decide)];exact J6
     · rw [upd_ne _ _ (by decide)];exact fun h=>(J7 h).below hb
     · rw [upd_ne _ _ (by decide)];exact J8
   | 2,ho =>
     have hall':∀ e ∈ (⟨some 20,.call ⟨.value (.func 47),#[.tmp 18,.tmp 19],#[26,26]⟩,30, "law.go:19",#[⟨0,.data⟩,⟨1,.data⟩,⟨1,.chain⟩],none⟩:Oper).after,Region.binds .any e=true→D e.on=true:=by cases ho;exact hall
     refine wpOp_plain (o:=⟨some 20,.call ⟨.value (.func 47),#[.tmp 18,.tmp 19],#[26,26]⟩,30, "law.go:19",#[⟨0,.data⟩,⟨1,.data⟩,⟨1,.chain⟩],none⟩) rfl rfl ?_
     unfold Oper.wp
     have h0:=J1 (hall' ⟨0,.data⟩ (by simp) rfl)
     obtain ⟨s1,A1,n1,c1,B1,m1,d1,u1,u2⟩:=J2 ⟨hall' ⟨1,.data⟩ (by simp) rfl,hDi⟩
     rw [run_callDiv ((F 18 (by decide) (by decide)).trans h0) ((F 19 (by decide) (by decide)).trans u1) rfl,Oper.upon_enter]
     refine (rdiv_zero X' u2.qr (by decide) (by decide) (by decide) (by decide) (by decide) (by decide +kernel)).mono ?_
     rintro e w1 ⟨rfl,hb⟩
     refine ⟨_,putAll_put _ _ _ _ _ hnd (by decide),bend J0 hb,?_,?_,?_,?_,?_,?_,?_,?_⟩
     · rw [upd_ne _ _ (by decide)];exact J1
     · exact fun h=>absurd h.2 (by rw [upd_same];decide)
     · exact fun _=>upd_same _ _ _
     · rw [upd_ne _ _ (by decide)];exact J4
     · rw [upd_ne _ _ (by decide)];exact J5
     · rw [upd_ne _ _ (by decide)];exact J6
     · rw [upd_ne _ _ (by decide)];exact fun h=>(J7 h).below hb
     · rw [upd_ne _ _ (by decide)];exact J8
   | 3,ho =>
     have hall':∀ e ∈ (⟨some 17,.move (.tmp 20),30, "law.go:19",#[⟨2,.data⟩],none⟩:Oper).after,Region.binds .any e=true→D e.on=true:=by cases ho;exact hall
     refine wpOp_plain (o:=⟨some 17,.move (.tmp 20),30, "law.go:19",#[⟨2,.data⟩],none⟩) rfl rfl ?_
     unfold Oper.wp
     have h0:=J3 (hall' ⟨2,.data⟩ (by simp) rfl)
     rw [run_move ((F 20 (by decide) (by decide)).trans h0),Oper.upon_value]
     have J2K:upd D 3 true 1=true∧upd D 3 true 2=false→IsQ w' (v 19) (Rat.divInt 0 1) 1:=fun h=>J2 ⟨h.1,h.2⟩
     refine ⟨_,putAll_put _ _ _ _ _ hnd (by decide),J0,?_,?_,?_,?_,?_,?_,?_,?_⟩
     · rw [upd_ne _ _ (by decide)];exact J1
     · rw [upd_ne _ _ (by decide)];exact J2K
     · rw [upd_ne _ _ (by decide)];exact J3
     · exact fun _=>upd_same _ _ _
     · rw [upd_ne _ _ (by decide)];exact J5
     · rw [upd_ne _ _ (by decide)];exact J6
     · rw [upd_ne _ _ (by decide)];exact J7
     · rw [upd_ne _ _ (by decide)];exact J8
   | 4,ho =>
     have hall':∀ e ∈ (⟨some 21,.extract (.tmp 17) 0,26, "law.go:19",#[⟨3,.data⟩],none⟩:Oper).after,Region.binds .any e=true→D e.on=true:=by cases ho;exact hall
     refine wpOp_plain (o:=⟨some 21,.extract (.tmp 17) 0,26, "law.go:19",#[⟨3,.data⟩],none⟩) rfl rfl ?_
     unfold Oper.wp
     have h0:=J4 (hall' ⟨3,.data⟩ (by simp) rfl)
     rw [run_ext0 ((F 17 (by decide) (by decide)).trans h0),Oper.upon_value]
     have J2K:upd D 4 true 1=true∧upd D 4 true 2=false→IsQ w' (v 19) (Rat.divInt 0 1) 1:=fun h=>J2 ⟨h.1,h.2⟩
     refine ⟨_,putAll_put _ _ _ _ _ hnd (by decide),J0,?_,?_,?_,?_,?_,?_,?_,?_⟩
     · rw [upd_ne _ _ (by decide)];exact J1
     · rw [upd_ne _ _ (by decide)];exact J2K
     · rw [upd_ne _ _ (by decide)];exact J3
     · rw [upd_ne _ _ (by decide)];exact J4
     · exact fun _=>upd_same _ _ _
     · rw [upd_ne _ _ (by decide)];exact J6
     · rw [upd_ne _ _ (by decide)];exact J7
     · rw [upd_ne _ _ (by decide)];exact J8
   | 5,ho =>
     have hall':∀ e ∈ (⟨some 22,.extract (.tmp 17) 1,29, "law.go:19",#[⟨3,.data⟩,⟨7,.gcOnly .lateStores⟩],none⟩:Oper).after,Region.binds .any e=true→D e.on=true:=by cases ho;exact hall
     refine wpOp_plain (o:=⟨some 22,.extract (.tmp 17) 1,29, "law.go:19",#[⟨3,.data⟩,⟨7,.gcOnly .lateStores⟩],none⟩) rfl rfl ?_
     unfold Oper.wp
     have h0:=J4 (hall' ⟨3,.data⟩ (by simp) rfl)
     rw [run_ext1 ((F 17 (by decide) (by decide)).trans h0),Oper.upon_value]
     have J2K:upd D 5 true 1=true∧upd D 5 true 2=false→IsQ w' (v 19) (Rat.divInt 0 1) 1:=fun h=>J2 ⟨h.1,h.2⟩
     refine ⟨_,putAll_put _ _ _ _ _ hnd (by decide),J0,?_,?_,?_,?_,?_,?_,?_,?_⟩
     · rw [upd_ne _ _ (by decide)];exact J1
     · rw [upd_ne _ _ (by decide)];exact J2K
     · rw [upd_ne _ _ (by decide)];exact J3
     · rw [upd_ne _ _ (by decide)];exact J4
     · rw [upd_ne _ _ (by decide)];exact J5
     · exact fun _=>upd_same _ _ _
     · rw [upd_ne _ _ (by decide)];exact J7
     · rw [upd_ne _ _ (by decide)];exact J8
   | 6,ho =>
     have hall':∀ e ∈ (⟨some 5,.alloc 26,0, "law.go:19",#[],none⟩:Oper).after,Region.binds .any e=true→D e.on=true:=by cases ho;exact hall
     refine wpOp_plain (o:=⟨some 5,.alloc 26,0, "law.go:19",#[],none⟩) rfl rfl ?_
     unfold Oper.wp
     rw [run_allocQ,Oper.upon_value]
     have hb:=(Below.refl w'.heap.size w').alloc (Nat.le_refl _) (.cells #[.bool false,.slice none 0 0,.slice none 0 0] 26)
     refine ⟨_,putAll_put _ _ _ _ _ hnd (by decide),bend J0 hb,?_,?_,?_,?_,?_,?_,?_,?_⟩
     · rw [upd_ne _ _ (by decide)];exact J1
     · rw [upd_ne _ _ (by decide)];exact fun h=>(J2 ⟨h.1,h.2⟩).below hb
     · rw [upd_ne _ _ (by decide)];exact J3
     · rw [upd_ne _ _ (by decide)];exact J4
     · rw [upd_ne _ _ (by decide)];exact J5
     · rw [upd_ne _ _ (by decide)];exact J6
     · intro _;rw [upd_same];exact ⟨_,_,_,_,_,_,_,_,rfl,J0.size,B3.new' w' _ _ _ _ rfl⟩
     · rw [upd_ne _ _ (by decide)];exact J8
   | 7,ho =>
     have hall':∀ e ∈ (⟨none,.store 26 (.tmp 5) (.tmp 21),0, "law.go:19",#[⟨6,.data⟩,⟨4,.data⟩,⟨2,.chain⟩,⟨0,.phase⟩,⟨1,.phase⟩,⟨2,.phase⟩,⟨3,.phase⟩,⟨4,.phase⟩,⟨5,.textOnly .lateStores⟩,⟨6,.phase⟩],none⟩:Oper).after,Region.binds .any e=true→D e.on=true:=by cases ho;exact hall
     obtain ⟨g,s0,A0,n0,c0,B0,m0,d0,p1,p2,p3⟩:=J7 (hall' ⟨6,.data⟩ (by simp) rfl)
     have h0:=J5 (hall' ⟨4,.data⟩ (by simp) rfl)
     refine wpOp_plain (o:=⟨none,.store 26 (.tmp 5) (.tmp 21),0, "law.go:19",#[⟨6,.data⟩,⟨4,.data⟩,⟨2,.chain⟩,⟨0,.phase⟩,⟨1,.phase⟩,⟨2,.phase⟩,⟨3,.phase⟩,⟨4,.phase⟩,⟨5,.textOnly .lateStores⟩,⟨6,.phase⟩],none⟩) rfl rfl ?_
     unfold Oper.wp
     rw [run_storeQ ((F 5 (by decide) (by decide)).trans p1) ((F 21 (by decide) (by decide)).trans h0) p3.c0 p3.c1 p3.c2 p3.f0 p3.f1 p3.f2,Oper.upon_skip]
     have D0:upd D 7 true 0=D 0:=rfl
     have D1:upd D 7 true 1=D 1:=rfl
     have D2:upd D 7 true 2=D 2:=rfl
     have D3:upd D 7 true 3=D 3:=rfl
     have D4:upd D 7 true 4=D 4:=rfl
     have D5:upd D 7 true 5=D 5:=rfl
     have D6:upd D 7 true 6=D 6:=rfl
     have D8:upd D 7 true 8=D 8:=rfl
     refine ⟨v,put_none _ _,?_⟩
     unfold JW
     rw [D0,D1,D2,D3,D4,D5,D6,D8]
     refine ⟨below_set3 J0 p2 _ _ _,J1,?_,J3,J4,J5,J6,?_,J8⟩
     · intro h
       obtain ⟨s1,A1,n1,c1,B1,m1,d1,u1,u2⟩:=J2 ⟨h.1,h.2⟩
       exact ⟨s1,A1,n1,c1,B1,m1,d1,u1,u2.set3 p3 _ _ _⟩
     · intro _;exact ⟨g,_,_,_,_,_,_,_,p1,p2,p3.set3 _ _ _⟩
   | 8,ho =>
     have hall':∀ e ∈ (⟨some 6,.assign (.tmp 22),29, "law.go:19",#[⟨5,.data⟩,⟨7,.chain⟩,⟨0,.phase⟩,⟨1,.phase⟩,⟨2,.phase⟩,⟨3,.phase⟩,⟨4,.phase⟩,⟨5,.phase⟩,⟨6,.phase⟩,⟨7,.phase⟩],none⟩:Oper).after,Region.binds .any e=true→D e.on=true:=by cases ho;exact hall
     refine wpOp_plain (o:=⟨some 6,.assign (.tmp 22),29, "law.go:19",#[⟨5,.data⟩,⟨7,.chain⟩,⟨0,.phase⟩,⟨1,.phase⟩,⟨2,.phase⟩,⟨3,.phase⟩,⟨4,.phase⟩,⟨5,.phase⟩,⟨6,.phase⟩,⟨7,.phase⟩],none⟩) rfl rfl ?_
     unfold Oper.wp
     have h0:=J6 (hall' ⟨5,.data⟩ (by simp) rfl)
     rw [run_assign ((F 22 (by decide) (by decide)).trans h0),Oper.upon_value]
     have J2K:upd D 8 true 1=true∧upd D 8 true 2=false→IsQ w' (v 19) (Rat.divInt 0 1) 1:=fun h=>J2 ⟨h.1,h.2⟩
     refine ⟨_,putAll_put _ _ _ _ _ hnd (by decide),J0,?_,?_,?_,?_,?_,?_,?_,?_⟩
     · rw [upd_ne _ _ (by decide)];exact J1
     · rw [upd_ne _ _ (by decide)];exact J2K
     · rw [upd_ne _ _ (by decide)];exact J3
     · rw [upd_ne _ _ (by decide)];exact J4
     · rw [upd_ne _ _ (by decide)];exact J5
     · rw [upd_ne _ _ (by decide)];exact J6
     · rw [upd_ne _ _ (by decide)];exact J7
     · exact fun _=>upd_same _ _ _
   | i+9,ho=>cases ho
 · intro D v w' hall hJ
   exact hend v w' (hJ.2.2.2.2.2.2.2.2 (hall 8 (by show 8 < 9;omega))) hJ.1
end
section
open Go Go.RowKit
def IsZ (w:World) (v:Value) (x:Int) (k:Nat):Prop:=∃ s A n c,v=.agg #[.bool s,.slice A n c]∧ZR w s A n c x k
def IsDM (w:World) (v:Value) (x:Int) (k:Nat):Prop:=∃ s A n c s' A' n' c',v=.tuple #[.agg #[.bool s,.slice A n c],.agg #[.bool s',.slice A' n' c'],.int .i64 0]∧ZG w s A n c x k
def IBox (w:World) (base:Nat) (p cont:Value) (full:Bool):Prop:=∃ g s A n c,p=.pointer (some ⟨g,0,none⟩)∧base≤g∧Bx w g (.bool s) (.slice A n c)∧(full=true→cont=.agg #[.bool s,.slice A n c])
theorem IsZ.below {w w':World} {v:Value} {x:Int} {k:Nat} (h:IsZ w v x k) (hb:Below w.heap.size w w'):IsZ w' v x k:=by
 obtain ⟨s,A,n,c,h1,h2⟩:=h;exact ⟨s,A,n,c,h1,h2.below hb⟩
theorem IsDM.below {w w':World} {v:Value} {x:Int} {k:Nat} (h:IsDM w v x k) (hb:Below w.heap.size w w'):IsDM w' v x k:=by
 obtain ⟨s,A,n,c,s',A',n',c',h1,h2⟩:=h;exact ⟨s,A,n,c,s',A',n',c',h1,h2.below hb⟩
theorem IBox.below {w w':World} {base:Nat} {p cont:Value} {full:Bool} (h:IBox w base p cont full) (hb:Below w.heap.size w w'):IBox w' base p cont full:=by
 obtain ⟨g,s,A,n,c,h1,h2,h3,h4⟩:=h;exact ⟨g,s,A,n,c,h1,h2,h3.below hb,h4⟩
theorem IsZ.store {v:Value} {x:Int} {k g n0 c0:Nat} {s0:Bool} {A0:Option Addr} (h:IsZ w v x k) (Z:Bx w g (.bool s0) (.slice A0 n0 c0)) (y z:Value):IsZ ((w.setCell ⟨g,0,none⟩ y).setCell ⟨g,1,none⟩ z) v x k:=by
 obtain ⟨s,A,n,c,h1,h2⟩:=h;exact ⟨s,A,n,c,h1,h2.set2x Z y z⟩
theorem IsDM.store {v:Value} {x:Int} {k g n0 c0:Nat} {s0:Bool} {A0:Option Addr} (h:IsDM w v x k) (Z:Bx w g (.bool s0) (.slice A0 n0 c0)) (y z:Value):IsDM ((w.setCell ⟨g,0,none⟩ y).setCell ⟨g,1,none⟩ z) v x k:=by
 obtain ⟨s,A,n,c,s',A',n',c',h1,h2⟩:=h;exact ⟨s,A,n,c,s',A',n',c',h1,h2.set2x Z y z⟩
theorem IBox.other {base g:Nat} {p cont:Value} {full:Bool} (h:IBox w base p cont full) (hne:p ≠ .pointer (some ⟨g,0,none⟩)) (y z:Value):IBox ((w.setCell ⟨g,0,none⟩ y).setCell ⟨g,1,none⟩ z) base p cont full:=by
 obtain ⟨g',s,A,n,c,h1,h2,h3,h4⟩:=h
 exact ⟨g',s,A,n,c,h1,h2,h3.other (fun q=>hne (by rw [h1,q])) y z,h4⟩
end
section
open Go Go.RowKit
structure BoxAt (T:TypeId) (w:World) (g:Nat) (cs:Array Value):Prop where
 at_:w.heap[g]?=some (.cells cs T (0,0))
 free:∀ (i:Nat) (k:IntKind) (x:Int),cs[i]? ≠ some (Value.int k x)
section
variable {T:TypeId} {w w':World} {g:Nat} {cs:Array Value}
theorem BoxAt.lt (h:BoxAt T w g cs):g < w.heap.size:=by
 rcases Nat.lt_or_ge g w.heap.size with k | k
 · exact k
 · have:=h.at_;simp [Array.getElem?_eq_none k] at this
theorem BoxAt.below (h:BoxAt T w g cs) (hb:Below w.heap.size w w'):BoxAt T w' g cs:=⟨(hb.block g h.lt).trans h.at_,h.free⟩
theorem BoxAt.offx {K:IntKind} {A:Option Addr} {n:Nat} {l:List Nat} (h:BoxAt T w g cs) (hr:Rd K w A n l):Off A n g:=by
 intro hn ad e hg
 obtain ⟨b,o,eA,hc⟩:=hr.at_ hn
 obtain ⟨y,_,hx⟩:=hc 0 hn
 rw [eA] at e
 cases e
 have hg2:b=g:=hg
 subst hg2
 rw [cell_of_row w b (o+0) _ _ (0,0) h.at_] at hx
 exact h.free _ _ _ hx
end
section
variable {P:Program} {ops:Array Oper} {Q:Exit→Act→World→Prop}
end
end
section
open Go Go.RowKit
def B3R (W:World) (g:Nat) (x y z:Value):Prop:=W.heap[g]?=some (.cells #[x,y,z] 37 (0,0))
section
variable {W W':World} {g:Nat} {x y z:Value}
theorem B3R.c0 (h:B3R W g x y z):W.cell? ⟨g,0,none⟩=some x:=by rw [cell_of_row W g 0 _ _ (0,0) h];rfl
theorem B3R.c1 (h:B3R W g x y z):W.cell? ⟨g,1,none⟩=some y:=by rw [cell_of_row W g 1 _ _ (0,0) h];rfl
theorem B3R.c2 (h:B3R W g x y z):W.cell? ⟨g,2,none⟩=some z:=by rw [cell_of_row W g 2 _ _ (0,0) h];rfl
theorem B3R.all (h:B3R W g x y z):W.cell? ⟨g,0,none⟩=some x∧W.cell? ⟨g,1,none⟩=some y∧W.cell? ⟨g,2,none⟩=some z:=⟨h.c0,h.c1,h.c2⟩
theorem B3R.f0 (h:B3R W g x y z):W.frozen? ⟨g,0,none⟩=false:=frozen_of_row W g 0 _ _ h
theorem B3R.f1 (h:B3R W g x y z):W.frozen? ⟨g,1,none⟩=false:=frozen_of_row W g 1 _ _ h
theorem B3R.f2 (h:B3R W g x y z):W.frozen? ⟨g,2,none⟩=false:=frozen_of_row W g 2 _ _ h
theorem B3R.lt (h:B3R W g x y z):g < W.heap.size:=World.block_lt_of_cell? W _ h.c0
theorem B3R.below (h:B3R W g x y z) (hb:Below W.heap.size W W'):B3R W' g x y z:=(hb.block g h.lt).trans h
theorem B3R.alloc (h:B3R W g x y z) (o:Obj):B3R (W.alloc o) g x y z:=(Below.heap_alloc W o g h.lt).trans h
theorem B3R.new' (W:World) (x y z:Value) (g:Nat) (hg:g=W.heap.size):B3R (W.alloc (.cells #[x,y,z] 37)) g x y z:=by subst hg;exact heap_alloc_new W _
theorem B3R.set3 (h:B3R W g x y z) (a b c:Value):B3R (((W.setCell ⟨g,0,none⟩ a).setCell ⟨g,1,none⟩ b).setCell ⟨g,2,none⟩ c) g a b c:=by
 unfold B3R at h ⊢
 simp [World.setCell,Array.getElem?_modify,h]
theorem B3R.offx {s:Bool} {A A1 A2:Option Addr} {n n1 n2 c1 c2:Nat} {K:IntKind} {l:List Nat} (h:B3R W g (.bool s) (.slice A1 n1 c1) (.slice A2 n2 c2)) (hr:Rd K W A n l):Off A n g:=by
 intro hn ad e hg
 obtain ⟨b,o,eA,hc⟩:=hr.at_ hn
 obtain ⟨x,_,hx⟩:=hc 0 hn
 rw [eA] at e
 cases e
 have hg2:b=g:=hg
 subst hg2
 rw [cell_of_row W b (o+0) _ _ (0,0) h] at hx
 match o,hx with
 | 0,hx=>cases hx
 | 1,hx=>cases hx
 | 2,hx=>cases hx
 | o+3,hx=>cases hx
end
def RQ (w:World) (s:Bool) (A:Option Addr) (n c:Nat) (A':Option Addr) (n' c':Nat) (v:Rat) (k:Nat):Prop:=RG w s A n c v.num k∧RN w A' n' c' v.den k
def GivesRQ (w:World) (v:Rat) (k:Nat) (e:Ending) (w':World):Prop :=
 ∃ s A n c A' n' c',e=.returned (.agg #[.bool s,.slice A n c,.slice A' n' c'])∧RQ w' s A n c A' n' c' v k∧Below w.heap.size w w'
section
variable {w w':World} {s:Bool} {A A':Option Addr} {n c n' c' k g:Nat} {v:Rat}
theorem RQ.below (h:RQ w s A n c A' n' c' v k) (hb:Below w.heap.size w w'):RQ w' s A n c A' n' c' v k:=⟨h.1.below hb,h.2.below hb⟩
theorem RN.only {V:Nat} (h:RN w A n c V k) (ho:Off A n g) (hb:Only g w w'):RN w' A n c V k:=⟨h.1.only ho hb,h.2⟩
theorem RG.only {V:Int} (h:RG w s A n c V k) (ho:Off A n g) (hb:Only g w w'):RG w' s A n c V k:=⟨h.1,h.2.only ho hb⟩
theorem RG.rn {V:Int} (h:RG w s A n c V k):RN w A n c V.natAbs k:=h.2
theorem RG.more {V:Int} {k1:Nat} (h:RG w s A n c V k) (hk:k≤k1):RG w s A n c V k1:=⟨h.1,h.2.more hk⟩
theorem RQ.set3 {t:Bool} {A1 A2:Option Addr} {n1 c1 n2 c2:Nat} (h:RQ w s A n c A' n' c' v k) (Z:B3R w g (.bool t) (.slice A1 n1 c1) (.slice A2 n2 c2)) (x y z:Value) :
 RQ (((w.setCell ⟨g,0,none⟩ x).setCell ⟨g,1,none⟩ y).setCell ⟨g,2,none⟩ z) s A n c A' n' c' v k:=by
 have ho:Only g w (((w.setCell ⟨g,0,none⟩ x).setCell ⟨g,1,none⟩ y).setCell ⟨g,2,none⟩ z):=(((Only.refl g w).setCell 0 _).setCell 1 _).setCell 2 _
 exact ⟨h.1.only (Z.offx h.1.2.1) ho,h.2.only (Z.offx h.2.1) ho⟩
end
theorem mkRat_num {p:Int} {q:Nat} (hq:q ≠ 0):(mkRat p q).num.natAbs=p.natAbs / Nat.gcd p.natAbs q∧(mkRat p q).den=q / Nat.gcd p.natAbs q∧((mkRat p q).num < 0 ↔ p < 0):=by
 have h0:(q:Int) ≠ 0:=by omega
 have h1:=div_num (p:=p) h0
 have h2:=div_den (p:=p) h0
 rw [Rat.divInt_ofNat] at h1 h2
 simp only [Int.natAbs_natCast] at h1 h2
 exact ⟨h1,h2,by rw [num_neg_iff,mk_negv hq]⟩
theorem mkbx17_11 {w W:World} {x0 x1 x2 x3 x4:Value} (h:((w.alloc (Obj.cells #[x0,x1] 35)).alloc (Obj.cells #[x2,x3,x4] 37))=W):Below w.heap.size w W∧By W (w.heap.size) x0 x1∧B3R W (w.heap.size+1) x2 x3 x4∧W.heap.size=w.heap.size+2:=by subst h;exact ⟨by exact (((Below.refl _ _).alloc (Nat.le_refl _) _).alloc (by simp) _),by exact (By.new' _ _ _ _ rfl).alloc _,by exact B3R.new' _ _ _ _ _ (by simp),by simp⟩
theorem made_one {s:Bool} {A B:Option Addr} {n c m d k q:Nat} {p:Int} (X:RG w s A n c p k) (Y:RN w B m d q k) (hk:k≤100000) (hq:q ≠ 0) (hg:Nat.gcd p.natAbs q=1) :
 Calls Tryz.prog 59 #[.agg #[.bool s,.slice A n c],.slice B m d] w (GivesRQ w (mkRat p q) k):=by
 have HG:=Lib.hid hg
 have hm:=mkRat_num (p:=p) hq
 rw [hg,Nat.div_one,Nat.div_one] at hm
 have HM:=Lib.hid hm;clear hg hm
 go_enter Tryz.func59,Tryz.ntmps59
 go_wp2_with fail
 generalize hW:World.alloc _ _=W
 obtain ⟨hb,XP,Z,hzW⟩:=mkbx17_11 hW;clear hW;replace X:=X.below hb;replace Y:=Y.below hb;obtain ⟨xp0,xp1⟩:=XP.all
 go_upto_region 2 with (first
  | (go_at_call 123;(with_reducible refine (rgcd_nr X.rn Y (by omega)).mono ?_);rintro e w_g ⟨A_g,n_g,c_g,rfl,g,hh⟩
     rw [HG.out] at g;(try replace X:=X.below hh);(try replace Y:=Y.below hh);(try replace x:=x.below hh);(try replace y:=y.below hh);(try replace XP:=XP.below hh);(try replace Z:=Z.below hh);replace hb:=bend hb hh;obtain ⟨xp0,xp1⟩:=XP.all))
 have hl:limbs B32 1=[1]:=limbs_small B32_two (by decide) (by decide)
 have hg1:=g.1;rw [hl] at hg1
 have hn:1=n_g:=hg1.1
 subst hn
 obtain ⟨gb,go,rfl,hgc⟩:=hg1.at_ (by decide)
 obtain ⟨gx,hgx,hgc0⟩:=hgc 0 (by decide)
 have hgx1:1=gx:=by simpa using hgx
 subst hgx1
 have hc1:w_g.cell? ⟨gb,go,none⟩=some (.int .u32 1):=by simpa using hgc0
 clear hgc hgx hgc0 hg1 hl g;have zf0:=Z.f0;have zf1:=Z.f1;have zf2:=Z.f2;obtain ⟨z0,z1,z2⟩:=Z.all
 go_wp2_with fail
 have Z2:=Z.set3 (.bool s) (.slice A n c) (.slice B m d)
 obtain ⟨g0,g1,g2⟩:=Z2.all
 refine bodyPost_ret (v:=.agg #[.bool s,.slice A n c,.slice B m d]) (by simp [results,Tryz.results59,go_sem,g0,g1,g2]) rfl ?_
 have hm:=HM.out
 have hr:RQ w_g s A n c B m d (mkRat p q) k:=⟨⟨X.1.trans (by rw [decide_eq_decide];exact hm.2.2.symm),by rw [hm.1];exact X.rn⟩,by rw [hm.2.1];exact Y⟩
 exact ⟨s,_,_,_,_,_,_,rfl,hr.set3 Z _ _ _,below_set3 hb (by omega) _ _ _⟩
theorem made_big {s:Bool} {A B:Option Addr} {n c m d k q G:Nat} {p:Int} (X:RG w s A n c p k) (Y:RN w B m d q k) (hk:k≤100000) (hq:q ≠ 0) (hg:Nat.gcd p.natAbs q=G) (hG:B32≤G) :
 Calls Tryz.prog 59 #[.agg #[.bool s,.slice A n c],.slice B m d] w (GivesRQ w (mkRat p q) k):=by
 have HG:=Lib.hid hg
 have HG0:Hid (G ≠ 0):=by
  show G ≠ 0
  have:=Nat.gcd_pos_of_pos_right p.natAbs (Nat.pos_of_ne_zero hq)
  omega
 have hm:=mkRat_num (p:=p) hq
 rw [hg] at hm;have HM:=Lib.hid hm;clear hg hm
 go_enter Tryz.func59,Tryz.ntmps59
 go_wp2_with fail
 generalize hW:World.alloc _ _=W
 obtain ⟨hb,XP,Z,hzW⟩:=mkbx17_11 hW;clear hW;replace X:=X.below hb;replace Y:=Y.below hb;obtain ⟨xp0,xp1⟩:=XP.all
 go_upto_region 2 with (first
  | (go_at_call 123;(with_reducible refine (rgcd_nr X.rn Y (by omega)).mono ?_);rintro e w_g ⟨A_g,n_g,c_g,rfl,g,hh⟩
     rw [HG.out] at g;(try replace X:=X.below hh);(try replace Y:=Y.below hh);(try replace x:=x.below hh);(try replace y:=y.below hh);(try replace XP:=XP.below hh);(try replace Z:=Z.below hh);replace hb:=bend hb hh;obtain ⟨xp0,xp1⟩:=XP.all))
 have hng:2≤n_g:=by
  rcases Nat.lt_or_ge n_g 2 with h | h
  · have h1:=val_lt (lim_limbs B32_two G)
    rw [val_limbs B32_two,g.1.1] at h1
    have h2:B32 ^ n_g≤B32 ^ 1:=Nat.pow_le_pow_right (by decide) (by omega)
    rw [Nat.pow_one] at h2
    omega
  · exact h
 have hn0:((n_g:Int) == 0)=false:=by simp;omega
 have hn1:((n_g:Int) == 1)=false:=by simp;omega
 clear hng hG
 have hfd:∀ (A:Option Addr) (n c:Nat) (A':Option Addr) (n' c':Nat) (w:World),(Instr.field 162 (.agg #[.slice A n c,.slice A' n' c']) 0).run Tryz.prog w=.ok (.slice A n c) w:=fun _ _ _ _ _ _ _=>by kernel_rfl
 go_upto_region 4 with (fail)
 replace X:=X.below (Below.refl _ _).drew
 replace Y:=Y.below (Below.refl _ _).drew
 replace g:=g.below (Below.refl _ _).drew
 replace XP:=XP.below (Below.refl _ _).drew
 replace Z:=Z.below (Below.refl _ _).drew
 replace hb:=hb.drew
 go_region_held3 (fun w'=>w'.cell? ⟨w.heap.size,0,none⟩=some (.bool s)∧w'.cell? ⟨w.heap.size,1,none⟩=some (.slice A n c))
  (first | with_reducible exact ⟨XP.c0,XP.c1⟩ | with_reducible exact ⟨(set3_cell _ _ _ _ _ _ _ (by omega)).trans XP.c0,(set3_cell _ _ _ _ _ _ _ (by omega)).trans XP.c1⟩)
  (first
  | (go_at_call 124;(with_reducible refine (rdm_nr X.rn g (by omega) (by omega) HG0.out).mono ?_);rintro e w_x ⟨A_x,n_x,c_x,A_r,n_r,c_r,rfl,x,xr,hh⟩
     (try replace X:=X.below hh);(try replace Y:=Y.below hh);(try replace g:=g.below hh);(try replace y:=y.below hh);(try replace XP:=XP.below hh);(try replace Z:=Z.below hh);replace hb:=bend hb hh;have zf0:=Z.f0;have zf1:=Z.f1;have zf2:=Z.f2;obtain ⟨z0,z1,z2⟩:=Z.all)
  | (go_at_call 124;(with_reducible refine (rdm_nr Y g (by omega) (by omega) HG0.out).mono ?_);rintro e w_y ⟨A_y,n_y,c_y,A_t,n_t,c_t,rfl,y,yr,hh⟩
     (try replace X:=X.below hh);(try replace Y:=Y.below hh);(try replace g:=g.below hh);(try replace x:=x.below hh);(try replace XP:=XP.below hh);(try replace Z:=Z.below hh);replace hb:=bend hb hh;have zf0:=Z.f0;have zf1:=Z.f1;have zf2:=Z.f2;obtain ⟨z0,z1,z2⟩:=Z.all))
 go_wp2_with fail
 have Z2:=Z.set3 (.bool s) (.slice A_x n_x c_x) (.slice A_y n_y c_y)
 obtain ⟨g0,g1,g2⟩:=Z2.all
 refine bodyPost_ret (v:=.agg #[.bool s,.slice A_x n_x c_x,.slice A_y n_y c_y]) (by simp [results,Tryz.results59,go_sem,g0,g1,g2]) rfl ?_
 have hm:=HM.out
 have hr:RQ w_y s A_x n_x c_x A_y n_y c_y (mkRat p q) k:=⟨⟨X.1.trans (by rw [decide_eq_decide];exact hm.2.2.symm),by rw [hm.1];exact x⟩,by rw [hm.2.1];exact y⟩
 exact ⟨s,_,_,_,_,_,_,rfl,hr.set3 Z _ _ _,below_set3 hb (by omega) _ _ _⟩
theorem made_small {s:Bool} {A B:Option Addr} {n c m d k q G:Nat} {p:Int} (X:RG w s A n c p k) (Y:RN w B m d q k) (hk:k≤100000) (hq:q ≠ 0) (hg:Nat.gcd p.natAbs q=G) (hG:G < B32) (hG1:G ≠ 1) :
 Calls Tryz.prog 59 #[.agg #[.bool s,.slice A n c],.slice B m d] w (GivesRQ w (mkRat p q) k):=by
 have HG:=Lib.hid hg
 have HG0:Hid (G ≠ 0):=by
  show G ≠ 0
  have:=Nat.gcd_pos_of_pos_right p.natAbs (Nat.pos_of_ne_zero hq)
  omega
 have hm:=mkRat_num (p:=p) hq
 rw [hg] at hm;have HM:=Lib.hid hm;clear hg hm
 go_enter Tryz.func59,Tryz.ntmps59
 go_wp2_with fail
 generalize hW:World.alloc _ _=W
 obtain ⟨hb,XP,Z,hzW⟩:=mkbx17_11 hW;clear hW;replace X:=X.below hb;replace Y:=Y.below hb;obtain ⟨xp0,xp1⟩:=XP.all
 go_upto_region 2 with (first
  | (go_at_call 123;(with_reducible refine (rgcd_nr X.rn Y (by omega)).mono ?_);rintro e w_g ⟨A_g,n_g,c_g,rfl,g,hh⟩
     rw [HG.out] at g;(try replace X:=X.below hh);(try replace Y:=Y.below hh);(try replace x:=x.below hh);(try replace y:=y.below hh);(try replace XP:=XP.below hh);(try replace Z:=Z.below hh);replace hb:=bend hb hh;obtain ⟨xp0,xp1⟩:=XP.all))
 have hl:limbs B32 G=[G]:=limbs_small B32_two hG HG0.out
 have hg1:=g.1;rw [hl] at hg1
 have hn:1=n_g:=hg1.1
 subst hn
 obtain ⟨gb,go,eA,hgc⟩:=hg1.at_ (by decide)
 subst eA
 obtain ⟨gx,hgx,hgc0⟩:=hgc 0 (by decide)
 have hgx1:G=gx:=by simpa using hgx
 subst hgx1
 have hc1:w_g.cell? ⟨gb,go,none⟩=some (.int .u32 (G:Int)):=by simpa using hgc0
 have hG2:((G:Int) == 1)=false:=by simp;omega
 clear hgc hgx hgc0 hg1 hl hG hG1
 have hfd:∀ (A:Option Addr) (n c:Nat) (A':Option Addr) (n' c':Nat) (w:World),(Instr.field 162 (.agg #[.slice A n c,.slice A' n' c']) 0).run Tryz.prog w=.ok (.slice A n c) w:=fun _ _ _ _ _ _ _=>by kernel_rfl
 go_upto_region 4 with (fail)
 replace X:=X.below (Below.refl _ _).drew
 replace Y:=Y.below (Below.refl _ _).drew
 replace g:=g.below (Below.refl _ _).drew
 replace XP:=XP.below (Below.refl _ _).drew
 replace Z:=Z.below (Below.refl _ _).drew
 replace hb:=hb.drew
 go_region_held3 (fun w'=>w'.cell? ⟨w.heap.size,0,none⟩=some (.bool s)∧w'.cell? ⟨w.heap.size,1,none⟩=some (.slice A n c))
  (first | with_reducible exact ⟨XP.c0,XP.c1⟩ | with_reducible exact ⟨(set3_cell _ _ _ _ _ _ _ (by omega)).trans XP.c0,(set3_cell _ _ _ _ _ _ _ (by omega)).trans XP.c1⟩)
  (first
  | (go_at_call 124;(with_reducible refine (rdm_nr X.rn g (by omega) (by omega) HG0.out).mono ?_);rintro e w_x ⟨A_x,n_x,c_x,A_r,n_r,c_r,rfl,x,xr,hh⟩
     (try replace X:=X.below hh);(try replace Y:=Y.below hh);(try replace g:=g.below hh);(try replace y:=y.below hh);(try replace XP:=XP.below hh);(try replace Z:=Z.below hh);replace hb:=bend hb hh;have zf0:=Z.f0;have zf1:=Z.f1;have zf2:=Z.f2;obtain ⟨z0,z1,z2⟩:=Z.all)
  | (go_at_call 124;(with_reducible refine (rdm_nr Y g (by omega) (by omega) HG0.out).mono ?_);rintro e w_y ⟨A_y,n_y,c_y,A_t,n_t,c_t,rfl,y,yr,hh⟩
     (try replace X:=X.below hh);(try replace Y:=Y.below hh);(try replace g:=g.below hh);(try replace x:=x.below hh);(try replace XP:=XP.below hh);(try replace Z:=Z.below hh);replace hb:=bend hb hh;have zf0:=Z.f0;have zf1:=Z.f1;have zf2:=Z.f2;obtain ⟨z0,z1,z2⟩:=Z.all))
 go_wp2_with fail
 have Z2:=Z.set3 (.bool s) (.slice A_x n_x c_x) (.slice A_y n_y c_y)
 obtain ⟨g0,g1,g2⟩:=Z2.all
 refine bodyPost_ret (v:=.agg #[.bool s,.slice A_x n_x c_x,.slice A_y n_y c_y]) (by simp [results,Tryz.results59,go_sem,g0,g1,g2]) rfl ?_
 have hm:=HM.out
 have hr:RQ w_y s A_x n_x c_x A_y n_y c_y (mkRat p q) k:=⟨⟨X.1.trans (by rw [decide_eq_decide];exact hm.2.2.symm),by rw [hm.1];exact x⟩,by rw [hm.2.1];exact y⟩
 exact ⟨s,_,_,_,_,_,_,rfl,hr.set3 Z _ _ _,below_set3 hb (by omega) _ _ _⟩
theorem made_rq {s:Bool} {A B:Option Addr} {n c m d k q:Nat} {p:Int} (X:RG w s A n c p k) (Y:RN w B m d q k) (hk:k≤100000) (hq:q ≠ 0) :
 Calls Tryz.prog 59 #[.agg #[.bool s,.slice A n c],.slice B m d] w (GivesRQ w (mkRat p q) k):=by
 by_cases h1:Nat.gcd p.natAbs q=1
 · exact made_one X Y hk hq h1
 · rcases Nat.lt_or_ge (Nat.gcd p.natAbs q) B32 with h | h
   · exact made_small X Y hk hq rfl h h1
   · exact made_big X Y hk hq rfl h
end
section
open Go Go.RowKit
theorem RN.pos_ne {A:Option Addr} {n c V k:Nat} (h:RN w A n c V k) (hV:V ≠ 0):((n:Int) == 0)=false:=by
 have h1:=rn_pos h
 rw [decide_eq_true (show 0 < V by omega)] at h1
 have:=of_decide_eq_true h1
 simp;omega
theorem RN.zero_n {A:Option Addr} {n c V k:Nat} (h:RN w A n c V k) (hV:V=0):n=0:=by
 have h1:=h.1.1
 rw [hV,limbs_zero] at h1
 exact h1.symm
section
variable {w:World} {s:Bool} {A A':Option Addr} {n c n' c' k k1:Nat} {v:Rat}
theorem RQ.pg (h:RQ w s A n c A' n' c' v k):RG w s A n c v.num k:=h.1
theorem RQ.qn (h:RQ w s A n c A' n' c' v k):RN w A' n' c' v.den k:=h.2
theorem RQ.more (h:RQ w s A n c A' n' c' v k) (hk:k≤k1):RQ w s A n c A' n' c' v k1:=⟨h.1.more hk,h.2.more hk⟩
end
theorem mkbx18_11 {w W:World} {x0 x1 x2 x3 x4 x5:Value} (h:((w.alloc (Obj.cells #[x0,x1,x2] 26)).alloc (Obj.cells #[x3,x4,x5] 37))=W):Below w.heap.size w W∧B3 W (w.heap.size) x0 x1 x2∧B3R W (w.heap.size+1) x3 x4 x5∧W.heap.size=w.heap.size+2:=by subst h;exact ⟨by exact (((Below.refl _ _).alloc (Nat.le_refl _) _).alloc (by simp) _),by exact (B3.new' _ _ _ _ _ rfl).alloc _,by exact B3R.new' _ _ _ _ _ (by simp),by simp⟩
theorem rin3_zero {s:Bool} {A A':Option Addr} {n c n' c' k qq:Nat} {pp:Int} (p:ZR w s A n c pp k) (q:NR w A' n' c' qq k) (hk:k≤1000) (hk1:1≤k) (hq:qq=0) :
 Calls Tryz.prog 17 #[.agg #[.bool s,.slice A n c,.slice A' n' c']] w (GivesRQ w (mkRat pp (den1 qq)) (2*k)):=by
 have HQ:=Lib.hid hq
 have HD:Hid (mkRat pp 1=mkRat pp (den1 qq)):=by show _=_;rw [hq];rfl
 clear hq
 go_enter Tryz.func17,Tryz.ntmps17
 go_wp2_with fail
 generalize hW:World.alloc _ _=W
 obtain ⟨hb,XA,Z,hzW⟩:=mkbx18_11 hW;clear hW;replace p:=p.below hb;replace q:=q.below hb;obtain ⟨xa0,xa1,xa2⟩:=XA.all
 go_upto_region 2 with (first
  | (go_at_call 68;(with_reducible refine (rin_nr (2*k) q (by omega) rfl).mono ?_);rintro e w_x ⟨A_x,n_x,c_x,rfl,x,hh⟩
     (try replace p:=p.below hh);(try replace q:=q.below hh);(try replace y:=y.below hh);(try replace o:=o.below hh);(try replace r:=r.below hh);(try replace XA:=XA.below hh);(try replace Z:=Z.below hh);replace hb:=bend hb hh;obtain ⟨xa0,xa1,xa2⟩:=XA.all))
 have hx0:=x.zero_n HQ.out
 subst hx0
 go_wp2_with (first
  | (go_at_call 57;(with_reducible refine (rof_rn _).mono ?_);rintro e w_o ⟨A_o,n_o,c_o,rfl,o,hh⟩
     (try replace p:=p.below hh);(try replace q:=q.below hh);(try replace x:=x.below hh);(try replace y:=y.below hh);(try replace r:=r.below hh);(try replace XA:=XA.below hh);(try replace Z:=Z.below hh);replace hb:=bend hb hh;obtain ⟨xa0,xa1,xa2⟩:=XA.all)
  | (go_at_call 69;(with_reducible refine (rin2 p hk).mono ?_);rintro e w_y ⟨s_y,A_y,n_y,c_y,rfl,y,hh⟩
     (try replace p:=p.below hh);(try replace q:=q.below hh);(try replace x:=x.below hh);(try replace o:=o.below hh);(try replace r:=r.below hh);(try replace XA:=XA.below hh);(try replace Z:=Z.below hh);replace hb:=bend hb hh;obtain ⟨xa0,xa1,xa2⟩:=XA.all)
  | (go_at_call 59;(with_reducible refine (made_rq y (o.more (by omega)) (by omega) (by decide)).mono ?_);rintro e w_r ⟨s_r,A_r,n_r,c_r,B_r,m_r,d_r,rfl,r,hh⟩
     rw [HD.out] at r;(try replace p:=p.below hh);(try replace q:=q.below hh);(try replace x:=x.below hh);(try replace y:=y.below hh);(try replace o:=o.below hh);(try replace XA:=XA.below hh);(try replace Z:=Z.below hh);replace hb:=bend hb hh;obtain ⟨xa0,xa1,xa2⟩:=XA.all;have zf0:=Z.f0;have zf1:=Z.f1;have zf2:=Z.f2;obtain ⟨z0,z1,z2⟩:=Z.all))
 have Z2:=Z.set3 (.bool s_r) (.slice A_r n_r c_r) (.slice B_r m_r d_r)
 obtain ⟨g0,g1,g2⟩:=Z2.all
 refine bodyPost_ret (v:=.agg #[.bool s_r,.slice A_r n_r c_r,.slice B_r m_r d_r]) (by simp [results,Tryz.results17,go_sem,g0,g1,g2]) rfl ?_
 exact ⟨s_r,A_r,n_r,c_r,B_r,m_r,d_r,rfl,r.set3 Z _ _ _,below_set3 hb (by omega) _ _ _⟩
theorem rin3_pos {s:Bool} {A A':Option Addr} {n c n' c' k qq:Nat} {pp:Int} (p:ZR w s A n c pp k) (q:NR w A' n' c' qq k) (hk:k≤1000) (hk1:1≤k) (hq:qq ≠ 0) :
 Calls Tryz.prog 17 #[.agg #[.bool s,.slice A n c,.slice A' n' c']] w (GivesRQ w (mkRat pp (den1 qq)) (2*k)):=by
 have HQ:=Lib.hid hq
 have HD:Hid (mkRat pp qq=mkRat pp (den1 qq)):=by show _=_;rw [den1_of hq]
 clear hq
 go_enter Tryz.func17,Tryz.ntmps17
 go_wp2_with fail
 generalize hW:World.alloc _ _=W
 obtain ⟨hb,XA,Z,hzW⟩:=mkbx18_11 hW;clear hW;replace p:=p.below hb;replace q:=q.below hb;obtain ⟨xa0,xa1,xa2⟩:=XA.all
 go_upto_region 2 with (first
  | (go_at_call 68;(with_reducible refine (rin_nr (2*k) q (by omega) rfl).mono ?_);rintro e w_x ⟨A_x,n_x,c_x,rfl,x,hh⟩
     (try replace p:=p.below hh);(try replace q:=q.below hh);(try replace y:=y.below hh);(try replace o:=o.below hh);(try replace r:=r.below hh);(try replace XA:=XA.below hh);(try replace Z:=Z.below hh);replace hb:=bend hb hh;obtain ⟨xa0,xa1,xa2⟩:=XA.all))
 have hx0:=x.pos_ne HQ.out
 go_wp2_with (first
  | (go_at_call 69;(with_reducible refine (rin2 p hk).mono ?_);rintro e w_y ⟨s_y,A_y,n_y,c_y,rfl,y,hh⟩
     (try replace p:=p.below hh);(try replace q:=q.below hh);(try replace x:=x.below hh);(try replace o:=o.below hh);(try replace r:=r.below hh);(try replace XA:=XA.below hh);(try replace Z:=Z.below hh);replace hb:=bend hb hh;obtain ⟨xa0,xa1,xa2⟩:=XA.all)
  | (go_at_call 59;(with_reducible refine (made_rq y x (by omega) HQ.out).mono ?_);rintro e w_r ⟨s_r,A_r,n_r,c_r,B_r,m_r,d_r,rfl,r,hh⟩
     rw [HD.out] at r;(try replace p:=p.below hh);(try replace q:=q.below hh);(try replace x:=x.below hh);(try replace y:=y.below hh);(try replace o:=o.below hh);(try replace XA:=XA.below hh);(try replace Z:=Z.below hh);replace hb:=bend hb hh;obtain ⟨xa0,xa1,xa2⟩:=XA.all;have zf0:=Z.f0;have zf1:=Z.f1;have zf2:=Z.f2;obtain ⟨z0,z1,z2⟩:=Z.all))
 have Z2:=Z.set3 (.bool s_r) (.slice A_r n_r c_r) (.slice B_r m_r d_r)
 obtain ⟨g0,g1,g2⟩:=Z2.all
 refine bodyPost_ret (v:=.agg #[.bool s_r,.slice A_r n_r c_r,.slice B_r m_r d_r]) (by simp [results,Tryz.results17,go_sem,g0,g1,g2]) rfl ?_
 exact ⟨s_r,A_r,n_r,c_r,B_r,m_r,d_r,rfl,r.set3 Z _ _ _,below_set3 hb (by omega) _ _ _⟩
theorem rin3 {s:Bool} {A A':Option Addr} {n c n' c' k:Nat} {v:Rat} (X0:QR w s A n c A' n' c' v k) (hk:k≤1000) (hk1:1≤k) :
 Calls Tryz.prog 17 #[.agg #[.bool s,.slice A n c,.slice A' n' c']] w (GivesRQ w v (2*k)):=by
 obtain ⟨pp,qq,p,q,rfl⟩:=X0
 by_cases h:qq=0
 · exact rin3_zero p q hk hk1 h
 · exact rin3_pos p q hk hk1 h
theorem mkbx19_11 {w W:World} {x0 x1 x2 x3 x4:Value} (h:((w.alloc (Obj.cells #[x0,x1,x2] 37)).alloc (Obj.cells #[x3,x4] 35))=W):Below w.heap.size w W∧B3R W (w.heap.size) x0 x1 x2∧By W (w.heap.size+1) x3 x4∧W.heap.size=w.heap.size+2:=by subst h;exact ⟨by exact (((Below.refl _ _).alloc (Nat.le_refl _) _).alloc (by simp) _),by exact (B3R.new' _ _ _ _ _ rfl).alloc _,by exact By.new' _ _ _ _ (by simp),by simp⟩
theorem rden3 {s:Bool} {A A':Option Addr} {n c n' c' k:Nat} {v:Rat} (X:RQ w s A n c A' n' c' v k) :
 Calls Tryz.prog 66 #[.agg #[.bool s,.slice A n c,.slice A' n' c']] w fun e w'=>e=.returned (.agg #[.bool false,.slice A' n' c'])∧Below w.heap.size w w':=by
 have hn:=X.qn.pos_ne v.den_nz;clear X
 go_enter Tryz.func66,Tryz.ntmps66
 go_upto_region 1 with (fail)
 generalize hW:World.alloc _ _=W
 obtain ⟨hb,XA,Z,hzW⟩:=mkbx19_11 hW;clear hW;obtain ⟨xa0,xa1,xa2⟩:=XA.all;obtain ⟨z0,z1⟩:=Z.all;have zf0:=Z.f0;have zf1:=Z.f1
 go_wp2_with fail
 have Z2:=Z.set2 (.bool false) (.slice A' n' c')
 obtain ⟨g0,g1⟩:=Z2.all
 refine bodyPost_ret (v:=.agg #[.bool false,.slice A' n' c']) (by simp [results,Tryz.results66,go_sem,g0,g1]) rfl ?_
 exact ⟨rfl,below_set2' hb (by omega) _ _⟩
end
section
open Go Go.RowKit
theorem rout_v {A:Option Addr} {n c V k:Nat} (Y:RN w A n c V k) (hk:k≤200000) :
 Calls Tryz.prog 125 #[.slice A n c] w fun e w'=>∃ A n c,e=.returned (.slice A n c)∧Rd .u64 w' A n (limbs B64 V)∧Below w.heap.size w w':=by
 refine (rout_any (limbs B32 V) A n c w Y.1 (lim_limbs B32_two _) (Nat.le_trans Y.2.2 (by omega))).mono ?_
 rintro e w' ⟨A1,n1,c1,rfl,p1,p2,p3,p4⟩
 rw [join32_limbs] at p3
 exact ⟨A1,n1,c1,rfl,p3.rd,p4⟩
def GivesOut3 (w:World) (v:Rat) (e:Ending) (w':World):Prop :=
 ∃ A n c B m d,e=.returned (.agg #[.bool (decide (v.num < 0)),.slice A n c,.slice B m d])∧Rd .u64 w' A n (limbs B64 v.num.natAbs)∧Rd .u64 w' B m (limbs B64 v.den)∧Below w.heap.size w w'
theorem mkbx20_11 {w W:World} {x0 x1 x2 x3 x4 x5:Value} (h:((w.alloc (Obj.cells #[x0,x1,x2] 37)).alloc (Obj.cells #[x3,x4,x5] 26))=W):Below w.heap.size w W∧B3R W (w.heap.size) x0 x1 x2∧B3 W (w.heap.size+1) x3 x4 x5∧W.heap.size=w.heap.size+2:=by subst h;exact ⟨by exact (((Below.refl _ _).alloc (Nat.le_refl _) _).alloc (by simp) _),by exact (B3R.new' _ _ _ _ _ rfl).alloc _,by exact B3.new' _ _ _ _ _ (by simp),by simp⟩
theorem rout3 {s:Bool} {A A':Option Addr} {n c n' c' k:Nat} {v:Rat} (X:RQ w s A n c A' n' c' v k) (hk:k≤100000) :
 Calls Tryz.prog 60 #[.agg #[.bool s,.slice A n c,.slice A' n' c']] w (GivesOut3 w v):=by
 have hs:s=decide (v.num < 0):=X.pg.1
 have HS:=Lib.hid hs;clear hs
 go_enter Tryz.func60,Tryz.ntmps60
 go_wp2_with fail
 generalize hW:World.alloc _ _=W
 obtain ⟨hb,XA,Z,hzW⟩:=mkbx20_11 hW;clear hW;replace X:=X.below hb;obtain ⟨xa0,xa1,xa2⟩:=XA.all
 go_upto_region 2 with (first
  | (go_at_call 125;(with_reducible refine (rout_v X.qn (by omega)).mono ?_);rintro e w_q ⟨A_q,n_q,c_q,rfl,q,hh⟩
     (try replace X:=X.below hh);(try replace p:=p.below hh);(try replace XA:=XA.below hh);(try replace Z:=Z.below hh);replace hb:=bend hb hh;obtain ⟨xa0,xa1,xa2⟩:=XA.all))
 have hq0:((n_q:Int) == 0)=false:=by
  have h1:=q.1;rw [limbs_pos B64_two v.den_nz] at h1
  simp at h1 ⊢
  omega
 have zf0:=Z.f0;have zf1:=Z.f1;have zf2:=Z.f2;obtain ⟨z0,z1,z2⟩:=Z.all
 go_wp2_with (first
  | (go_at_call 126;(with_reducible refine (out2 X.pg (by omega)).mono ?_);rintro e w_p ⟨A_p,n_p,c_p,rfl,p,hh⟩
     (try replace X:=X.below hh);(try replace q:=q.below hh);(try replace XA:=XA.below hh);(try replace Z:=Z.below hh);replace hb:=bend hb hh;obtain ⟨xa0,xa1,xa2⟩:=XA.all;have zf0:=Z.f0;have zf1:=Z.f1;have zf2:=Z.f2;obtain ⟨z0,z1,z2⟩:=Z.all))
 have Z2:=Z.set3 (.bool s) (.slice A_p n_p c_p) (.slice A_q n_q c_q)
 obtain ⟨g0,g1,g2⟩:=Z2.all
 refine bodyPost_ret (v:=.agg #[.bool s,.slice A_p n_p c_p,.slice A_q n_q c_q]) (by simp [results,Tryz.results60,go_sem,g0,g1,g2]) rfl ?_
 have ho:=(((Only.refl (w.heap.size+1) w_p).setCell 0 (Value.bool s)).setCell 1 (Value.slice A_p n_p c_p)).setCell 2 (Value.slice A_q n_q c_q)
 exact ⟨A_p,n_p,c_p,A_q,n_q,c_q,by rw [← HS.out],p.only (Z.offx p) ho,q.only (Z.offx q) ho,below_set3 hb (by omega) _ _ _⟩
theorem rats_no {s t:Bool} {A A' B B':Option Addr} {n c n' c' m d m' d':Nat} {la lb lc ld:List Nat} (p:Rd .u64 w A n la) (q:Rd .u64 w A' n' lc) (p2:Rd .u64 w B m lb) (q2:Rd .u64 w B' m' ld) (hn:n≤maxLen) (hi:(s == t && decide (la=lb))=false) :
 Calls Tryz.prog 28 #[.agg #[.bool s,.slice A n c,.slice A' n' c'],.agg #[.bool t,.slice B m d,.slice B' m' d']] w fun e w'=>e=.returned (.bool false)∧Below w.heap.size w w':=by
 have HI:=Lib.hid hi;clear hi
 go_enter Tryz.func28,Tryz.ntmps28
 go_wp2_with fail
 generalize hW:World.alloc _ _=W
 obtain ⟨hb,XA,XB,hzW⟩:=mkbx11_9 hW;clear hW;replace p:=p.below hb;replace q:=q.below hb;replace p2:=p2.below hb;replace q2:=q2.below hb;obtain ⟨xa0,xa1,xa2⟩:=XA.all;obtain ⟨xb0,xb1,xb2⟩:=XB.all
 go_wp2_with (first
  | (go_at_call 79;(with_reducible refine (ints_any s t la lb A B n c m d _ p p2 hn).mono ?_);rintro e w_z ⟨rfl,hh⟩
     rw [HI.out];(try replace p:=p.below hh);(try replace q:=q.below hh);(try replace p2:=p2.below hh);(try replace q2:=q2.below hh);(try replace XA:=XA.below hh);(try replace XB:=XB.below hh);replace hb:=bend hb hh;obtain ⟨xa0,xa1,xa2⟩:=XA.all;obtain ⟨xb0,xb1,xb2⟩:=XB.all))
 go_ret;exact ⟨rfl,hb⟩
theorem rats_yes {s t:Bool} {A A' B B':Option Addr} {n c n' c' m d m' d':Nat} {la lb lc ld:List Nat} (p:Rd .u64 w A n la) (q:Rd .u64 w A' n' lc) (p2:Rd .u64 w B m lb) (q2:Rd .u64 w B' m' ld) (hn:n≤maxLen) (hn':n'≤maxLen) (hi:(s == t && decide (la=lb))=true) :
 Calls Tryz.prog 28 #[.agg #[.bool s,.slice A n c,.slice A' n' c'],.agg #[.bool t,.slice B m d,.slice B' m' d']] w fun e w'=>e=.returned (.bool (decide (lc=ld)))∧Below w.heap.size w w':=by
 have HI:=Lib.hid hi;clear hi
 go_enter Tryz.func28,Tryz.ntmps28
 go_wp2_with fail
 generalize hW:World.alloc _ _=W
 obtain ⟨hb,XA,XB,hzW⟩:=mkbx11_9 hW;clear hW;replace p:=p.below hb;replace q:=q.below hb;replace p2:=p2.below hb;replace q2:=q2.below hb;obtain ⟨xa0,xa1,xa2⟩:=XA.all;obtain ⟨xb0,xb1,xb2⟩:=XB.all
 go_wp2_with (first
  | (go_at_call 79;(with_reducible refine (ints_any s t la lb A B n c m d _ p p2 hn).mono ?_);rintro e w_z ⟨rfl,hh⟩
     rw [HI.out];(try replace p:=p.below hh);(try replace q:=q.below hh);(try replace p2:=p2.below hh);(try replace q2:=q2.below hh);(try replace XA:=XA.below hh);(try replace XB:=XB.below hh);replace hb:=bend hb hh;obtain ⟨xa0,xa1,xa2⟩:=XA.all;obtain ⟨xb0,xb1,xb2⟩:=XB.all)
  | (go_at_call 80;(with_reducible refine (nats_any lc ld A' B' n' c' m' d' _ q q2 hn').mono ?_);rintro e w_z ⟨rfl,jj,rfl⟩
     replace hb:=below_drawn hb jj))
 go_ret;exact ⟨rfl,hb⟩
theorem rats_any {s t:Bool} {A A' B B':Option Addr} {n c n' c' m d m' d':Nat} {la lb lc ld:List Nat} (p:Rd .u64 w A n la) (q:Rd .u64 w A' n' lc) (p2:Rd .u64 w B m lb) (q2:Rd .u64 w B' m' ld) (hn:n≤maxLen) (hn':n'≤maxLen) (r:Bool) (hr:((s == t && decide (la=lb)) && decide (lc=ld))=r) :
 Calls Tryz.prog 28 #[.agg #[.bool s,.slice A n c,.slice A' n' c'],.agg #[.bool t,.slice B m d,.slice B' m' d']] w fun e w'=>e=.returned (.bool r)∧Below w.heap.size w w':=by
 cases h:(s == t && decide (la=lb)) with
 | false =>
   rw [h,Bool.false_and] at hr
   subst hr
   exact rats_no p q p2 q2 hn h
 | true =>
   rw [h,Bool.true_and] at hr
   subst hr
   exact rats_yes p q p2 q2 hn hn' h
theorem same_eq (a:Bool) (l m:List Nat):((a == a && decide (l=l)) && decide (m=m))=true:=by simp
theorem same3 {s t:Bool} {A A' B B':Option Addr} {n c n' c' m d m' d' k k2:Nat} {v u:Rat} (X:QG w s A n c A' n' c' v k) (Y:RQ w t B m d B' m' d' u k2) (he:v=u) (hk:k≤100000) (hk2:k2≤100000) :
 Calls Tryz.prog 14 #[.agg #[.bool s,.slice A n c,.slice A' n' c'],.agg #[.bool t,.slice B m d,.slice B' m' d']] w fun e w'=>e=.returned (.bool true)∧Below w.heap.size w w':=by
 subst he
 have hs:s=decide (v.num < 0):=X.1.1
 subst hs
 have hn:n≤maxLen:=by have:=X.1.2.2.2;unfold maxLen;omega
 have hn':n'≤maxLen:=by have:=X.2.2.2;unfold maxLen;omega
 have xp:Rd .u64 w A n (limbs B64 v.num.natAbs):=X.1.2.1
 have xq:Rd .u64 w A' n' (limbs B64 v.den):=X.2.1
 have HN:=Lib.hid hn
 have HN':=Lib.hid hn'
 clear X hn hn'
 go_enter Tryz.func14,Tryz.ntmps14
 go_wp2_with fail
 generalize hW:World.alloc _ _=W
 obtain ⟨hb,XA,XB,hzW⟩:=mkbx18_11 hW;clear hW;replace xp:=xp.below hb;replace xq:=xq.below hb;replace Y:=Y.below hb
 replace xp:=xp.below (Below.refl _ _).drew
 replace xq:=xq.below (Below.refl _ _).drew
 replace Y:=Y.below (Below.refl _ _).drew
 replace XA:=XA.below (Below.refl _ _).drew
 replace XB:=XB.below (Below.refl _ _).drew
 replace hb:=hb.drew
 go_region_held3 (fun w'=>w'.cell? ⟨w.heap.size,0,none⟩=some (.bool (decide (v.num < 0)))∧w'.cell? ⟨w.heap.size,1,none⟩=some (.slice A n c)∧w'.cell? ⟨w.heap.size,2,none⟩=some (.slice A' n' c')∧w'.cell? ⟨w.heap.size+1,0,none⟩=some (.bool t)∧w'.cell? ⟨w.heap.size+1,1,none⟩=some (.slice B m d)∧w'.cell? ⟨w.heap.size+1,2,none⟩=some (.slice B' m' d'))
  (first | with_reducible exact ⟨XA.c0,XA.c1,XA.c2,XB.c0,XB.c1,XB.c2⟩)
  (first
  | (go_at_call 60;(with_reducible refine (rout3 Y hk2).mono ?_);rintro e w_y ⟨A_p,n_p,c_p,A_q,n_q,c_q,rfl,yp,yq,hh⟩
     (try replace xp:=xp.below hh);(try replace xq:=xq.below hh);(try replace Y:=Y.below hh);(try replace XA:=XA.below hh);(try replace XB:=XB.below hh);replace hb:=bend hb hh)
  | (go_at_call 28;(with_reducible refine (rats_any xp xq yp yq HN.out HN'.out true (same_eq _ _ _)).mono ?_);rintro e w_z ⟨rfl,hh⟩
     (try replace xp:=xp.below hh);(try replace xq:=xq.below hh);(try replace Y:=Y.below hh);(try replace yp:=yp.below hh);(try replace yq:=yq.below hh);(try replace XA:=XA.below hh);(try replace XB:=XB.below hh);replace hb:=bend hb hh))
 go_wp2_with fail
 go_ret;exact ⟨rfl,hb⟩
end
section
open Go Go.RowKit
theorem ba_app3r (a b:List UInt8):(⟨a.toArray⟩ ++ (⟨#[47]⟩ ++ ⟨b.toArray⟩):ByteArray)=⟨(a ++ (47 :: b)).toArray⟩:=by
 apply ByteArray.ext
 simp [ByteArray.data_append]
theorem b32_b64 (k:Nat):B32 ^ k≤B64 ^ k:=Nat.pow_le_pow_left (by decide) k
theorem limbs_one_of {V n:Nat} (h:(limbs B32 V).length=n) (hn:n=1):limbs B32 V=[V]:=by
 by_cases h0:V=0
 · rw [h0,limbs_zero] at h;subst hn;cases h
 · by_cases hV:V < B32
   · exact limbs_small B32_two hV h0
   · have h1 : V / B32 ≠ 0 := by
       have:=Nat.div_pos (Nat.not_lt.1 hV) (Nat.lt_of_lt_of_le (by decide) B32_two)
       omega
     rw [limbs_pos B32_two h0,limbs_pos B32_two h1] at h
     simp at h
     omega
theorem RG.tight1 {s:Bool} {A:Option Addr} {n c k k1:Nat} {v:Int} (h:RG w s A n c v k) (hv:v.natAbs < B32 ^ k1):RG w s A n c v k1 :=
 ⟨h.1,h.2.1,h.2.2.1,by rw [← h.2.1.1];exact length_limbs_le B32_two hv⟩
theorem RN.tight1 {A:Option Addr} {n c V k k1:Nat} (h:RN w A n c V k) (hV:V < B32 ^ k1):RN w A n c V k1:=⟨h.1,h.2.1,by rw [← h.1.1];exact length_limbs_le B32_two hV⟩
theorem mkbx21_11 {w W:World} {x0 x1 x2:Value} (h:(w.alloc (Obj.cells #[x0,x1,x2] 37))=W):Below w.heap.size w W∧B3R W (w.heap.size) x0 x1 x2∧W.heap.size=w.heap.size+1:=by subst h;exact ⟨by exact ((Below.refl _ _).alloc (Nat.le_refl _) _),by exact B3R.new' _ _ _ _ _ rfl,by simp⟩
theorem rtext3_one {k:Nat} {v:Rat} (a:RQ w s_a A_a n_a c_a B_a m_a d_a v k) (hk:k≤800) (hd:v.den=1) :
 Calls Tryz.prog 16 #[.agg #[.bool s_a,.slice A_a n_a c_a,.slice B_a m_a d_a]] w fun e w'=>e=.returned (.string ⟨(qtxt v).toArray⟩)∧Below w.heap.size w w':=by
 have HQ:Hid (qtxt v=ztxt v.num):=if_pos hd
 have HD:=Lib.hid hd;clear hd
 have hfd:∀ (b:Bool) (A:Option Addr) (n c:Nat) (w:World),(Instr.field 35 (.agg #[.bool b,.slice A n c]) 1).run Tryz.prog w=.ok (.slice A n c) w:=fun _ _ _ _ _=>by kernel_rfl
 go_enter Tryz.func16,Tryz.ntmps16
 go_wp2_with fail
 generalize hW:World.alloc _ _=W
 obtain ⟨hb,XA,hzW⟩:=mkbx21_11 hW;clear hW;replace a:=a.below hb;obtain ⟨xa0,xa1,xa2⟩:=XA.all
 go_upto_region 3 with (first
  | (go_at_call 65;(with_reducible refine (rtext2 a.pg (by omega)).mono ?_);rintro e w_z ⟨rfl,hh⟩
     (try replace a:=a.below hh);(try replace XA:=XA.below hh);replace hb:=bend hb hh;obtain ⟨xa0,xa1,xa2⟩:=XA.all)
  | (go_at_call 66;(with_reducible refine (rden3 a).mono ?_);rintro e w_z ⟨rfl,hh⟩
     (try replace a:=a.below hh);(try replace XA:=XA.below hh);replace hb:=bend hb hh;obtain ⟨xa0,xa1,xa2⟩:=XA.all))
 have hg1:=a.qn.1
 have hl:limbs B32 v.den=[v.den]:=by rw [HD.out];exact limbs_small B32_two (by decide) (by decide)
 rw [hl] at hg1
 have hn:1=m_a:=hg1.1
 subst hn
 obtain ⟨gb,go,eA,hgc⟩:=hg1.at_ (by decide)
 subst eA
 obtain ⟨gx,hgx,hgc0⟩:=hgc 0 (by decide)
 have hgx1:v.den=gx:=by simpa using hgx
 subst hgx1
 have hc1:w_z.cell? ⟨gb,go,none⟩=some (.int .u32 1):=by rw [HD.out] at hgc0;simpa using hgc0
 clear hgc hgx hgc0 hg1 hl
 go_wp2_with fail
 go_ret
 refine ⟨?_,hb⟩
 rw [HQ.out]
 exact ret_eq rfl
theorem rtext3_m {k:Nat} {v:Rat} (a:RQ w s_a A_a n_a c_a B_a m_a d_a v k) (hk:k≤800) (hd:¬ v.den=1) (hm:m_a ≠ 1) :
 Calls Tryz.prog 16 #[.agg #[.bool s_a,.slice A_a n_a c_a,.slice B_a m_a d_a]] w fun e w'=>e=.returned (.string ⟨(qtxt v).toArray⟩)∧Below w.heap.size w w':=by
 have HQ:Hid (qtxt v=ztxt v.num ++ (47 :: txt v.den)):=if_neg hd
 have HD:=Lib.hid hd;have HM:=Lib.hid hm
 have l1:=ztxt_le (v:=v.num) (Nat.lt_of_lt_of_le a.pg.rn.lt (b32_b64 k)) hk
 have l2:=txt_len (Nat.lt_of_lt_of_le a.qn.lt (b32_b64 k)) (show k≤900 by omega)
 have hs1:¬ 9223372036854775807 < 1+(txt v.den).length:=by omega
 have hs2:¬ 9223372036854775807 < (ztxt v.num).length+(1+(txt v.den).length):=by omega
 clear l1 l2 hd hm
 have hfd:∀ (b:Bool) (A:Option Addr) (n c:Nat) (w:World),(Instr.field 35 (.agg #[.bool b,.slice A n c]) 1).run Tryz.prog w=.ok (.slice A n c) w:=fun _ _ _ _ _=>by kernel_rfl
 go_enter Tryz.func16,Tryz.ntmps16
 go_wp2_with fail
 generalize hW:World.alloc _ _=W
 obtain ⟨hb,XA,hzW⟩:=mkbx21_11 hW;clear hW;replace a:=a.below hb;obtain ⟨xa0,xa1,xa2⟩:=XA.all
 go_upto_region 3 with (first
  | (go_at_call 65;(with_reducible refine (rtext2 a.pg (by omega)).mono ?_);rintro e w_z ⟨rfl,hh⟩
     (try replace a:=a.below hh);(try replace XA:=XA.below hh);replace hb:=bend hb hh;obtain ⟨xa0,xa1,xa2⟩:=XA.all)
  | (go_at_call 66;(with_reducible refine (rden3 a).mono ?_);rintro e w_z ⟨rfl,hh⟩
     (try replace a:=a.below hh);(try replace XA:=XA.below hh);replace hb:=bend hb hh;obtain ⟨xa0,xa1,xa2⟩:=XA.all))
 have hne:¬ (m_a:Int)=1:=by have:=HM.out;omega
 go_wp2_with (first
  | (go_at_call 67;(with_reducible refine (rtext_any a.qn (by omega)).mono ?_);rintro e w_z ⟨rfl,hh⟩
     (try replace a:=a.below hh);(try replace XA:=XA.below hh);replace hb:=bend hb hh))
 go_ret
 refine ⟨?_,hb⟩
 rw [HQ.out]
 refine ret_eq ?_
 show Value.string (⟨(ztxt v.num).toArray⟩ ++ (⟨#[47]⟩ ++ ⟨(txt v.den).toArray⟩))=_
 rw [ba_app3r]
theorem rtext3_v {k:Nat} {v:Rat} (a:RQ w s_a A_a n_a c_a B_a m_a d_a v k) (hk:k≤800) (hd:¬ v.den=1) (hm:m_a=1) :
 Calls Tryz.prog 16 #[.agg #[.bool s_a,.slice A_a n_a c_a,.slice B_a m_a d_a]] w fun e w'=>e=.returned (.string ⟨(qtxt v).toArray⟩)∧Below w.heap.size w w':=by
 have HQ:Hid (qtxt v=ztxt v.num ++ (47 :: txt v.den)):=if_neg hd
 have HD:=Lib.hid hd;have HM:=Lib.hid hm
 have l1:=ztxt_le (v:=v.num) (Nat.lt_of_lt_of_le a.pg.rn.lt (b32_b64 k)) hk
 have l2:=txt_len (Nat.lt_of_lt_of_le a.qn.lt (b32_b64 k)) (show k≤900 by omega)
 have hs1:¬ 9223372036854775807 < 1+(txt v.den).length:=by omega
 have hs2:¬ 9223372036854775807 < (ztxt v.num).length+(1+(txt v.den).length):=by omega
 clear l1 l2 hd hm
 have hfd:∀ (b:Bool) (A:Option Addr) (n c:Nat) (w:World),(Instr.field 35 (.agg #[.bool b,.slice A n c]) 1).run Tryz.prog w=.ok (.slice A n c) w:=fun _ _ _ _ _=>by kernel_rfl
 go_enter Tryz.func16,Tryz.ntmps16
 go_wp2_with fail
 generalize hW:World.alloc _ _=W
 obtain ⟨hb,XA,hzW⟩:=mkbx21_11 hW;clear hW;replace a:=a.below hb;obtain ⟨xa0,xa1,xa2⟩:=XA.all
 go_upto_region 3 with (first
  | (go_at_call 65;(with_reducible refine (rtext2 a.pg (by omega)).mono ?_);rintro e w_z ⟨rfl,hh⟩
     (try replace a:=a.below hh);(try replace XA:=XA.below hh);replace hb:=bend hb hh;obtain ⟨xa0,xa1,xa2⟩:=XA.all)
  | (go_at_call 66;(with_reducible refine (rden3 a).mono ?_);rintro e w_z ⟨rfl,hh⟩
     (try replace a:=a.below hh);(try replace XA:=XA.below hh);replace hb:=bend hb hh;obtain ⟨xa0,xa1,xa2⟩:=XA.all))
 have hg1:=a.qn.1
 have hl:limbs B32 v.den=[v.den]:=limbs_one_of hg1.1 HM.out
 rw [hl] at hg1
 have hn:1=m_a:=hg1.1
 clear HM
 subst hn
 obtain ⟨gb,go,eA,hgc⟩:=hg1.at_ (by decide)
 subst eA
 obtain ⟨gx,hgx,hgc0⟩:=hgc 0 (by decide)
 have hgx1:v.den=gx:=by simpa using hgx
 subst hgx1
 have hc1:w_z.cell? ⟨gb,go,none⟩=some (.int .u32 (v.den:Int)):=by simpa using hgc0
 have hG2:((v.den:Int) == 1)=false:=by rw [beq_eq_false_iff_ne];have:=HD.out;omega
 clear hgc hgx hgc0 hg1 hl
 go_wp2_with (first
  | (go_at_call 67;(with_reducible refine (rtext_any a.qn (by omega)).mono ?_);rintro e w_z ⟨rfl,hh⟩
     (try replace a:=a.below hh);(try replace XA:=XA.below hh);replace hb:=bend hb hh))
 go_ret
 refine ⟨?_,hb⟩
 rw [HQ.out]
 refine ret_eq ?_
 show Value.string (⟨(ztxt v.num).toArray⟩ ++ (⟨#[47]⟩ ++ ⟨(txt v.den).toArray⟩))=_
 rw [ba_app3r]
theorem rtext3 {k:Nat} {v:Rat} (a:RQ w s_a A_a n_a c_a B_a m_a d_a v k) (hk:k≤800) :
 Calls Tryz.prog 16 #[.agg #[.bool s_a,.slice A_a n_a c_a,.slice B_a m_a d_a]] w fun e w'=>e=.returned (.string ⟨(qtxt v).toArray⟩)∧Below w.heap.size w w':=by
 by_cases hd:v.den=1
 · exact rtext3_one a hk hd
 · by_cases hm:m_a=1
   · exact rtext3_v a hk hd hm
   · exact rtext3_m a hk hd hm
end
section
open Go Go.RowKit
theorem ZG.nil (k:Nat):ZG w false none 0 0 0 k:=⟨rfl,by rw [show ((0:Int).natAbs)=0 from rfl,limbs_zero];exact Rd.nil,Nat.le_refl _,Nat.zero_le _⟩
theorem RG.nil (k:Nat):RG w false none 0 0 0 k:=⟨rfl,RN.zero w k⟩
end
end Go.Proofs.YtmgklaklnaihpaaGreat
