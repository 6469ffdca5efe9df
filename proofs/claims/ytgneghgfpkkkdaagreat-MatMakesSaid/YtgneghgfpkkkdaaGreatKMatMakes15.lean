/- MatMakes: part 15. -/
import Derived.Lib.SmallJoins
import Derived.OpenShut
import Derived.Test.YtgneghgfpkkkdaaGreatKMatMakes0
import Derived.Test.YtgneghgfpkkkdaaGreatKMatMakes9
import Derived.Test.YtgneghgfpkkkdaaGreatKMatMakes10
import Derived.Test.YtgneghgfpkkkdaaGreatKMatMakes11
import Derived.Test.YtgneghgfpkkkdaaGreatKMatMakes13
import Derived.Test.YtgneghgfpkkkdaaGreatKMatMakes14
set_option linter.unusedVariables false
set_option maxRecDepth 100000
set_option maxHeartbeats 16000000
variable {w:Go.World}
namespace Go.Proofs.YtgneghgfpkkkdaaGreat
section
open Go Go.RowKit
attribute [local go_sem ↓] open_LVM open_STM open_LVN open_STN
def AM.fits (v:AM) (K:Nat):Prop:=(v.a.num.natAbs < B64 ^ K∧v.a.den < B64 ^ K)∧(v.b.num.natAbs < B64 ^ K∧v.b.den < B64 ^ K)∧(v.c.num.natAbs < B64 ^ K∧v.c.den < B64 ^ K)∧(v.d.num.natAbs < B64 ^ K∧v.d.den < B64 ^ K)∧(v.e.num.natAbs < B64 ^ K∧v.e.den < B64 ^ K)∧v.f.num.natAbs < B64 ^ K∧v.f.den < B64 ^ K
theorem AM.fits_ex (v:AM):∃ K,v.fits K:=by
 have h:∀ n m:Nat,n≤m→n < B64 ^ m:=fun n m h=>Nat.lt_of_lt_of_le (Nat.lt_pow_self (by decide)) (Nat.pow_le_pow_right (by decide) h)
 exact ⟨v.a.num.natAbs+v.a.den+(v.b.num.natAbs+v.b.den)+(v.c.num.natAbs+v.c.den)+(v.d.num.natAbs+v.d.den)+(v.e.num.natAbs+v.e.den)+(v.f.num.natAbs+v.f.den),⟨h _ _ (by omega),h _ _ (by omega)⟩,⟨h _ _ (by omega),h _ _ (by omega)⟩,⟨h _ _ (by omega),h _ _ (by omega)⟩,⟨h _ _ (by omega),h _ _ (by omega)⟩,⟨h _ _ (by omega),h _ _ (by omega)⟩,h _ _ (by omega),h _ _ (by omega)⟩
theorem mkbx38_15 {w W:World} {x0 x1 x2 x3 x4 x5 x6 x7 x8 x9 x10 x11 x12 x13 x14 x15 x16 x17 x18 x19 x20 x21 x22 x23 x24 x25 x26 x27 x28 x29 x30 x31 x32 x33 x34 x35:Value} (h:((w.alloc (Obj.cells #[x0,x1,x2,x3,x4,x5,x6,x7,x8,x9,x10,x11,x12,x13,x14,x15,x16,x17] 74)).alloc (Obj.cells #[x18,x19,x20,x21,x22,x23,x24,x25,x26,x27,x28,x29,x30,x31,x32,x33,x34,x35] 71))=W):Below w.heap.size w W∧B18R W (w.heap.size) x0 x1 x2 x3 x4 x5 x6 x7 x8 x9 x10 x11 x12 x13 x14 x15 x16 x17∧B18 W (w.heap.size+1) x18 x19 x20 x21 x22 x23 x24 x25 x26 x27 x28 x29 x30 x31 x32 x33 x34 x35∧W.heap.size=w.heap.size+2:=by subst h;exact ⟨by exact (((Below.refl _ _).alloc (Nat.le_refl _) _).alloc (by simp) _),by exact (B18R.new' _ _ _ _ _ _ _ _ _ _ _ _ _ _ _ _ _ _ _ _ rfl).alloc _,by exact B18.new' _ _ _ _ _ _ _ _ _ _ _ _ _ _ _ _ _ _ _ _ (by simp),by simp⟩
theorem rout9 {k l K:Nat} {v:AM} {m:MV} (M:RM w m v k l) (hk:k≤100000) (hl:l≤100000) (hK:v.fits K) :
 Calls Tryz.prog 50 #[.agg #[.bool m.a.s,.slice m.a.A m.a.n m.a.c,.slice m.a.B m.a.m m.a.d,.bool m.b.s,.slice m.b.A m.b.n m.b.c,.slice m.b.B m.b.m m.b.d,.bool m.c.s,.slice m.c.A m.c.n m.c.c,.slice m.c.B m.c.m m.c.d,.bool m.d.s,.slice m.d.A m.d.n m.d.c,.slice m.d.B m.d.m m.d.d,.bool m.e.s,.slice m.e.A m.e.n m.e.c,.slice m.e.B m.e.m m.e.d,.bool m.f.s,.slice m.f.A m.f.n m.f.c,.slice m.f.B m.f.m m.f.d]] w (GivesMt w v K K):=by
 have HK:Hid ((v.a.num.natAbs < B64 ^ K∧v.a.den < B64 ^ K)∧(v.b.num.natAbs < B64 ^ K∧v.b.den < B64 ^ K)∧(v.c.num.natAbs < B64 ^ K∧v.c.den < B64 ^ K)∧(v.d.num.natAbs < B64 ^ K∧v.d.den < B64 ^ K)∧(v.e.num.natAbs < B64 ^ K∧v.e.den < B64 ^ K)∧v.f.num.natAbs < B64 ^ K∧v.f.den < B64 ^ K):=hK
 clear hK
 go_enter Tryz.func50,Tryz.ntmps50
 go_upto_region 1 with (fail)
 generalize hW:World.alloc _ _=W
 obtain ⟨hb,XA,Z,hzW⟩:=mkbx38_15 hW;clear hW;replace M:=M.below hb
 replace M:=M.below (Below.refl _ _).drew
 replace XA:=XA.below (Below.refl _ _).drew
 replace Z:=Z.below (Below.refl _ _).drew
 replace hb:=hb.drew
 go_region_held3 (fun w'=>w'.cell? ⟨w.heap.size,0,none⟩=some (.bool m.a.s)∧w'.cell? ⟨w.heap.size,1,none⟩=some (.slice m.a.A m.a.n m.a.c)∧w'.cell? ⟨w.heap.size,2,none⟩=some (.slice m.a.B m.a.m m.a.d)∧w'.cell? ⟨w.heap.size,3,none⟩=some (.bool m.b.s)∧w'.cell? ⟨w.heap.size,4,none⟩=some (.slice m.b.A m.b.n m.b.c)∧w'.cell? ⟨w.heap.size,5,none⟩=some (.slice m.b.B m.b.m m.b.d)∧w'.cell? ⟨w.heap.size,6,none⟩=some (.bool m.c.s)∧w'.cell? ⟨w.heap.size,7,none⟩=some (.slice m.c.A m.c.n m.c.c)∧w'.cell? ⟨w.heap.size,8,none⟩=some (.slice m.c.B m.c.m m.c.d)∧w'.cell? ⟨w.heap.size,9,none⟩=some (.bool m.d.s)∧w'.cell? ⟨w.heap.size,10,none⟩=some (.slice m.d.A m.d.n m.d.c)∧w'.cell? ⟨w.heap.size,11,none⟩=some (.slice m.d.B m.d.m m.d.d)∧w'.cell? ⟨w.heap.size,12,none⟩=some (.bool m.e.s)∧w'.cell? ⟨w.heap.size,13,none⟩=some (.slice m.e.A m.e.n m.e.c)∧w'.cell? ⟨w.heap.size,14,none⟩=some (.slice m.e.B m.e.m m.e.d)∧w'.cell? ⟨w.heap.size,15,none⟩=some (.bool m.f.s)∧w'.cell? ⟨w.heap.size,16,none⟩=some (.slice m.f.A m.f.n m.f.c)∧w'.cell? ⟨w.heap.size,17,none⟩=some (.slice m.f.B m.f.m m.f.d))
  (first | with_reducible exact ⟨XA.c0,XA.c1,XA.c2,XA.c3,XA.c4,XA.c5,XA.c6,XA.c7,XA.c8,XA.c9,XA.c10,XA.c11,XA.c12,XA.c13,XA.c14,XA.c15,XA.c16,XA.c17⟩ | with_reducible exact ⟨(XA.restm (by omega) (only_set18 _ _ _ _ _ _ _ _ _ _ _ _ _ _ _ _ _ _ _ _)).c0,(XA.restm (by omega) (only_set18 _ _ _ _ _ _ _ _ _ _ _ _ _ _ _ _ _ _ _ _)).c1,(XA.restm (by omega) (only_set18 _ _ _ _ _ _ _ _ _ _ _ _ _ _ _ _ _ _ _ _)).c2,(XA.restm (by omega) (only_set18 _ _ _ _ _ _ _ _ _ _ _ _ _ _ _ _ _ _ _ _)).c3,(XA.restm (by omega) (only_set18 _ _ _ _ _ _ _ _ _ _ _ _ _ _ _ _ _ _ _ _)).c4,(XA.restm (by omega) (only_set18 _ _ _ _ _ _ _ _ _ _ _ _ _ _ _ _ _ _ _ _)).c5,(XA.restm (by omega) (only_set18 _ _ _ _ _ _ _ _ _ _ _ _ _ _ _ _ _ _ _ _)).c6,(XA.restm (by omega) (only_set18 _ _ _ _ _ _ _ _ _ _ _ _ _ _ _ _ _ _ _ _)).c7,(XA.restm (by omega) (only_set18 _ _ _ _ _ _ _ _ _ _ _ _ _ _ _ _ _ _ _ _)).c8,(XA.restm (by omega) (only_set18 _ _ _ _ _ _ _ _ _ _ _ _ _ _ _ _ _ _ _ _)).c9,(XA.restm (by omega) (only_set18 _ _ _ _ _ _ _ _ _ _ _ _ _ _ _ _ _ _ _ _)).c10,(XA.restm (by omega) (only_set18 _ _ _ _ _ _ _ _ _ _ _ _ _ _ _ _ _ _ _ _)).c11,(XA.restm (by omega) (only_set18 _ _ _ _ _ _ _ _ _ _ _ _ _ _ _ _ _ _ _ _)).c12,(XA.restm (by omega) (only_set18 _ _ _ _ _ _ _ _ _ _ _ _ _ _ _ _ _ _ _ _)).c13,(XA.restm (by omega) (only_set18 _ _ _ _ _ _ _ _ _ _ _ _ _ _ _ _ _ _ _ _)).c14,(XA.restm (by omega) (only_set18 _ _ _ _ _ _ _ _ _ _ _ _ _ _ _ _ _ _ _ _)).c15,(XA.restm (by omega) (only_set18 _ _ _ _ _ _ _ _ _ _ _ _ _ _ _ _ _ _ _ _)).c16,(XA.restm (by omega) (only_set18 _ _ _ _ _ _ _ _ _ _ _ _ _ _ _ _ _ _ _ _)).c17⟩)
  (first
  | (go_at_call 77;(with_reducible refine (rout3g M.ab.qx hk K HK.out.1.1 HK.out.1.2).mono ?_);rintro e w_r1 ⟨s_r1,A_r1,n_r1,c_r1,B_r1,m_r1,d_r1,rfl,r1,hh⟩
     (try replace M:=M.below hh);(try replace XA:=XA.below hh);(try replace Z:=Z.below hh);replace hb:=bend hb hh)
  | (go_at_call 77;(with_reducible refine (rout3g M.ab.qy hk K HK.out.2.1.1 HK.out.2.1.2).mono ?_);rintro e w_r2 ⟨s_r2,A_r2,n_r2,c_r2,B_r2,m_r2,d_r2,rfl,r2,hh⟩
     (try replace M:=M.below hh);(try replace XA:=XA.below hh);(try replace Z:=Z.below hh);(try replace r1:=r1.below hh);replace hb:=bend hb hh)
  | (go_at_call 77;(with_reducible refine (rout3g M.cd.qx hk K HK.out.2.2.1.1 HK.out.2.2.1.2).mono ?_);rintro e w_r3 ⟨s_r3,A_r3,n_r3,c_r3,B_r3,m_r3,d_r3,rfl,r3,hh⟩
     (try replace M:=M.below hh);(try replace XA:=XA.below hh);(try replace Z:=Z.below hh);(try replace r1:=r1.below hh);(try replace r2:=r2.below hh);replace hb:=bend hb hh)
  | (go_at_call 77;(with_reducible refine (rout3g M.cd.qy hk K HK.out.2.2.2.1.1 HK.out.2.2.2.1.2).mono ?_);rintro e w_r4 ⟨s_r4,A_r4,n_r4,c_r4,B_r4,m_r4,d_r4,rfl,r4,hh⟩
     (try replace M:=M.below hh);(try replace XA:=XA.below hh);(try replace Z:=Z.below hh);(try replace r1:=r1.below hh);(try replace r2:=r2.below hh);(try replace r3:=r3.below hh);replace hb:=bend hb hh)
  | (go_at_call 77;(with_reducible refine (rout3g M.ef.qx hl K HK.out.2.2.2.2.1.1 HK.out.2.2.2.2.1.2).mono ?_);rintro e w_r5 ⟨s_r5,A_r5,n_r5,c_r5,B_r5,m_r5,d_r5,rfl,r5,hh⟩
     (try replace M:=M.below hh);(try replace XA:=XA.below hh);(try replace Z:=Z.below hh);(try replace r1:=r1.below hh);(try replace r2:=r2.below hh);(try replace r3:=r3.below hh);(try replace r4:=r4.below hh);replace hb:=bend hb hh)
  | (go_at_call 77;(with_reducible refine (rout3g M.ef.qy hl K HK.out.2.2.2.2.2.1 HK.out.2.2.2.2.2.2).mono ?_);rintro e w_r6 ⟨s_r6,A_r6,n_r6,c_r6,B_r6,m_r6,d_r6,rfl,r6,hh⟩
     (try replace M:=M.below hh);(try replace XA:=XA.below hh);(try replace Z:=Z.below hh);(try replace r1:=r1.below hh);(try replace r2:=r2.below hh);(try replace r3:=r3.below hh);(try replace r4:=r4.below hh);(try replace r5:=r5.below hh);replace hb:=bend hb hh
     have zst:=Z.st (.bool s_r1) (.slice A_r1 n_r1 c_r1) (.slice B_r1 m_r1 d_r1) (.bool s_r2) (.slice A_r2 n_r2 c_r2) (.slice B_r2 m_r2 d_r2) (.bool s_r3) (.slice A_r3 n_r3 c_r3) (.slice B_r3 m_r3 d_r3) (.bool s_r4) (.slice A_r4 n_r4 c_r4) (.slice B_r4 m_r4 d_r4) (.bool s_r5) (.slice A_r5 n_r5 c_r5) (.slice B_r5 m_r5 d_r5) (.bool s_r6) (.slice A_r6 n_r6 c_r6) (.slice B_r6 m_r6 d_r6) (by simp [Value.oneCell'])))
 go_wp2_with fail
 have Z2:=Z.set18 (.bool s_r1) (.slice A_r1 n_r1 c_r1) (.slice B_r1 m_r1 d_r1) (.bool s_r2) (.slice A_r2 n_r2 c_r2) (.slice B_r2 m_r2 d_r2) (.bool s_r3) (.slice A_r3 n_r3 c_r3) (.slice B_r3 m_r3 d_r3) (.bool s_r4) (.slice A_r4 n_r4 c_r4) (.slice B_r4 m_r4 d_r4) (.bool s_r5) (.slice A_r5 n_r5 c_r5) (.slice B_r5 m_r5 d_r5) (.bool s_r6) (.slice A_r6 n_r6 c_r6) (.slice B_r6 m_r6 d_r6)
 have gl:=Z2.ld
 refine bodyPost_ret (v:=.agg #[.bool s_r1,.slice A_r1 n_r1 c_r1,.slice B_r1 m_r1 d_r1,.bool s_r2,.slice A_r2 n_r2 c_r2,.slice B_r2 m_r2 d_r2,.bool s_r3,.slice A_r3 n_r3 c_r3,.slice B_r3 m_r3 d_r3,.bool s_r4,.slice A_r4 n_r4 c_r4,.slice B_r4 m_r4 d_r4,.bool s_r5,.slice A_r5 n_r5 c_r5,.slice B_r5 m_r5 d_r5,.bool s_r6,.slice A_r6 n_r6 c_r6,.slice B_r6 m_r6 d_r6]) (res_M Tryz.results50 _ _ (by simp) gl) rfl ?_
 exact ⟨⟨⟨s_r1,A_r1,n_r1,c_r1,B_r1,m_r1,d_r1⟩,⟨s_r2,A_r2,n_r2,c_r2,B_r2,m_r2,d_r2⟩,⟨s_r3,A_r3,n_r3,c_r3,B_r3,m_r3,d_r3⟩,⟨s_r4,A_r4,n_r4,c_r4,B_r4,m_r4,d_r4⟩,⟨s_r5,A_r5,n_r5,c_r5,B_r5,m_r5,d_r5⟩,⟨s_r6,A_r6,n_r6,c_r6,B_r6,m_r6,d_r6⟩⟩,rfl,MG.set18 (m:=⟨⟨s_r1,A_r1,n_r1,c_r1,B_r1,m_r1,d_r1⟩,⟨s_r2,A_r2,n_r2,c_r2,B_r2,m_r2,d_r2⟩,⟨s_r3,A_r3,n_r3,c_r3,B_r3,m_r3,d_r3⟩,⟨s_r4,A_r4,n_r4,c_r4,B_r4,m_r4,d_r4⟩,⟨s_r5,A_r5,n_r5,c_r5,B_r5,m_r5,d_r5⟩,⟨s_r6,A_r6,n_r6,c_r6,B_r6,m_r6,d_r6⟩⟩) (v:=v) ⟨⟨r1,r2⟩,⟨r3,r4⟩,⟨r5,r6⟩⟩ Z _ _ _ _ _ _ _ _ _ _ _ _ _ _ _ _ _ _,below_set18 hb (by omega) _ _ _ _ _ _ _ _ _ _ _ _ _ _ _ _ _ _⟩
def AM.rof (x0 x1 x2 x3 x4 x5:Int):AM:=⟨Rat.divInt x0 65536,Rat.divInt x1 65536,Rat.divInt x2 65536,Rat.divInt x3 65536,Rat.divInt x4 64,Rat.divInt x5 64⟩
theorem mkbx39_15 {w W:World} {x0 x1 x2 x3 x4 x5 x6 x7 x8 x9 x10 x11 x12 x13 x14 x15 x16 x17 x18 x19 x20 x21 x22 x23:Value} (h:((w.alloc (Obj.cells #[x0,x1,x2,x3,x4,x5] 91)).alloc (Obj.cells #[x6,x7,x8,x9,x10,x11,x12,x13,x14,x15,x16,x17,x18,x19,x20,x21,x22,x23] 74))=W):Below w.heap.size w W∧BV6 W (w.heap.size) x0 x1 x2 x3 x4 x5∧B18R W (w.heap.size+1) x6 x7 x8 x9 x10 x11 x12 x13 x14 x15 x16 x17 x18 x19 x20 x21 x22 x23∧W.heap.size=w.heap.size+2:=by subst h;exact ⟨by exact (((Below.refl _ _).alloc (Nat.le_refl _) _).alloc (by simp) _),by exact (BV6.new' _ _ _ _ _ _ _ _ rfl).alloc _,by exact B18R.new' _ _ _ _ _ _ _ _ _ _ _ _ _ _ _ _ _ _ _ _ (by simp),by simp⟩
theorem rof9 (x0 x1 x2 x3 x4 x5:Int) (hx01:-9223372036854775808≤x0) (hx02:x0 < 9223372036854775808) (hx11:-9223372036854775808≤x1) (hx12:x1 < 9223372036854775808) (hx21:-9223372036854775808≤x2) (hx22:x2 < 9223372036854775808) (hx31:-9223372036854775808≤x3) (hx32:x3 < 9223372036854775808) (hx41:-9223372036854775808≤x4) (hx42:x4 < 9223372036854775808) (hx51:-9223372036854775808≤x5) (hx52:x5 < 9223372036854775808) (w:World) :
 Calls Tryz.prog 52 #[.agg #[.int .i64 x0,.int .i64 x1,.int .i64 x2,.int .i64 x3,.int .i64 x4,.int .i64 x5]] w (GivesRM w (AM.rof x0 x1 x2 x3 x4 x5) 2 2):=by
 have Hx01:=Lib.hid hx01;have Hx02:=Lib.hid hx02;have Hx11:=Lib.hid hx11;have Hx12:=Lib.hid hx12;have Hx21:=Lib.hid hx21;have Hx22:=Lib.hid hx22;have Hx31:=Lib.hid hx31;have Hx32:=Lib.hid hx32;have Hx41:=Lib.hid hx41;have Hx42:=Lib.hid hx42;have Hx51:=Lib.hid hx51;have Hx52:=Lib.hid hx52;clear hx01 hx02 hx11 hx12 hx21 hx22 hx31 hx32 hx41 hx42 hx51 hx52;have hat0:=atv_0;have hat1:=atv_1;have hat2:=atv_2;have hat3:=atv_3;have hat4:=atv_4;have hat5:=atv_5
 go_enter Tryz.func52,Tryz.ntmps52
 go_upto_region 1 with (fail)
 generalize hW:World.alloc _ _=W
 obtain ⟨hb,XA,Z,hzW⟩:=mkbx39_15 hW;clear hW
 replace XA:=XA.below (Below.refl _ _).drew
 replace Z:=Z.below (Below.refl _ _).drew
 replace hb:=hb.drew
 go_region_held3 (fun w'=>w'.cell? ⟨w.heap.size,0,none⟩=some (.int .i64 x0)∧w'.cell? ⟨w.heap.size,1,none⟩=some (.int .i64 x1)∧w'.cell? ⟨w.heap.size,2,none⟩=some (.int .i64 x2)∧w'.cell? ⟨w.heap.size,3,none⟩=some (.int .i64 x3)∧w'.cell? ⟨w.heap.size,4,none⟩=some (.int .i64 x4)∧w'.cell? ⟨w.heap.size,5,none⟩=some (.int .i64 x5))
  (first | with_reducible exact ⟨XA.c0,XA.c1,XA.c2,XA.c3,XA.c4,XA.c5⟩ | with_reducible exact ⟨(XA.restm (by omega) (only_set18 _ _ _ _ _ _ _ _ _ _ _ _ _ _ _ _ _ _ _ _)).c0,(XA.restm (by omega) (only_set18 _ _ _ _ _ _ _ _ _ _ _ _ _ _ _ _ _ _ _ _)).c1,(XA.restm (by omega) (only_set18 _ _ _ _ _ _ _ _ _ _ _ _ _ _ _ _ _ _ _ _)).c2,(XA.restm (by omega) (only_set18 _ _ _ _ _ _ _ _ _ _ _ _ _ _ _ _ _ _ _ _)).c3,(XA.restm (by omega) (only_set18 _ _ _ _ _ _ _ _ _ _ _ _ _ _ _ _ _ _ _ _)).c4,(XA.restm (by omega) (only_set18 _ _ _ _ _ _ _ _ _ _ _ _ _ _ _ _ _ _ _ _)).c5⟩)
  (first
  | (go_at_call 80;(with_reducible refine (rof3 x0 65536 Hx01.out Hx02.out (by decide) (by decide) (by decide) _).mono ?_);rintro e w_r1 ⟨s_r1,A_r1,n_r1,c_r1,B_r1,m_r1,d_r1,rfl,r1,hh⟩
     (try replace XA:=XA.below hh);(try replace Z:=Z.below hh);replace hb:=bend hb hh)
  | (go_at_call 80;(with_reducible refine (rof3 x1 65536 Hx11.out Hx12.out (by decide) (by decide) (by decide) _).mono ?_);rintro e w_r2 ⟨s_r2,A_r2,n_r2,c_r2,B_r2,m_r2,d_r2,rfl,r2,hh⟩
     (try replace XA:=XA.below hh);(try replace Z:=Z.below hh);(try replace r1:=r1.below hh);replace hb:=bend hb hh)
  | (go_at_call 80;(with_reducible refine (rof3 x2 65536 Hx21.out Hx22.out (by decide) (by decide) (by decide) _).mono ?_);rintro e w_r3 ⟨s_r3,A_r3,n_r3,c_r3,B_r3,m_r3,d_r3,rfl,r3,hh⟩
     (try replace XA:=XA.below hh);(try replace Z:=Z.below hh);(try replace r1:=r1.below hh);(try replace r2:=r2.below hh);replace hb:=bend hb hh)
  | (go_at_call 80;(with_reducible refine (rof3 x3 65536 Hx31.out Hx32.out (by decide) (by decide) (by decide) _).mono ?_);rintro e w_r4 ⟨s_r4,A_r4,n_r4,c_r4,B_r4,m_r4,d_r4,rfl,r4,hh⟩
     (try replace XA:=XA.below hh);(try replace Z:=Z.below hh);(try replace r1:=r1.below hh);(try replace r2:=r2.below hh);(try replace r3:=r3.below hh);replace hb:=bend hb hh)
  | (go_at_call 80;(with_reducible refine (rof3 x4 64 Hx41.out Hx42.out (by decide) (by decide) (by decide) _).mono ?_);rintro e w_r5 ⟨s_r5,A_r5,n_r5,c_r5,B_r5,m_r5,d_r5,rfl,r5,hh⟩
     (try replace XA:=XA.below hh);(try replace Z:=Z.below hh);(try replace r1:=r1.below hh);(try replace r2:=r2.below hh);(try replace r3:=r3.below hh);(try replace r4:=r4.below hh);replace hb:=bend hb hh)
  | (go_at_call 80;(with_reducible refine (rof3 x5 64 Hx51.out Hx52.out (by decide) (by decide) (by decide) _).mono ?_);rintro e w_r6 ⟨s_r6,A_r6,n_r6,c_r6,B_r6,m_r6,d_r6,rfl,r6,hh⟩
     (try replace XA:=XA.below hh);(try replace Z:=Z.below hh);(try replace r1:=r1.below hh);(try replace r2:=r2.below hh);(try replace r3:=r3.below hh);(try replace r4:=r4.below hh);(try replace r5:=r5.below hh);replace hb:=bend hb hh
     have zst:=Z.st (.bool s_r1) (.slice A_r1 n_r1 c_r1) (.slice B_r1 m_r1 d_r1) (.bool s_r2) (.slice A_r2 n_r2 c_r2) (.slice B_r2 m_r2 d_r2) (.bool s_r3) (.slice A_r3 n_r3 c_r3) (.slice B_r3 m_r3 d_r3) (.bool s_r4) (.slice A_r4 n_r4 c_r4) (.slice B_r4 m_r4 d_r4) (.bool s_r5) (.slice A_r5 n_r5 c_r5) (.slice B_r5 m_r5 d_r5) (.bool s_r6) (.slice A_r6 n_r6 c_r6) (.slice B_r6 m_r6 d_r6) (by simp [Value.oneCell'])))
 go_wp2_with fail
 have Z2:=Z.set18 (.bool s_r1) (.slice A_r1 n_r1 c_r1) (.slice B_r1 m_r1 d_r1) (.bool s_r2) (.slice A_r2 n_r2 c_r2) (.slice B_r2 m_r2 d_r2) (.bool s_r3) (.slice A_r3 n_r3 c_r3) (.slice B_r3 m_r3 d_r3) (.bool s_r4) (.slice A_r4 n_r4 c_r4) (.slice B_r4 m_r4 d_r4) (.bool s_r5) (.slice A_r5 n_r5 c_r5) (.slice B_r5 m_r5 d_r5) (.bool s_r6) (.slice A_r6 n_r6 c_r6) (.slice B_r6 m_r6 d_r6)
 have gl:=Z2.ld
 refine bodyPost_ret (v:=.agg #[.bool s_r1,.slice A_r1 n_r1 c_r1,.slice B_r1 m_r1 d_r1,.bool s_r2,.slice A_r2 n_r2 c_r2,.slice B_r2 m_r2 d_r2,.bool s_r3,.slice A_r3 n_r3 c_r3,.slice B_r3 m_r3 d_r3,.bool s_r4,.slice A_r4 n_r4 c_r4,.slice B_r4 m_r4 d_r4,.bool s_r5,.slice A_r5 n_r5 c_r5,.slice B_r5 m_r5 d_r5,.bool s_r6,.slice A_r6 n_r6 c_r6,.slice B_r6 m_r6 d_r6]) (res_N Tryz.results52 _ _ (by simp) gl) rfl ?_
 exact ⟨⟨⟨s_r1,A_r1,n_r1,c_r1,B_r1,m_r1,d_r1⟩,⟨s_r2,A_r2,n_r2,c_r2,B_r2,m_r2,d_r2⟩,⟨s_r3,A_r3,n_r3,c_r3,B_r3,m_r3,d_r3⟩,⟨s_r4,A_r4,n_r4,c_r4,B_r4,m_r4,d_r4⟩,⟨s_r5,A_r5,n_r5,c_r5,B_r5,m_r5,d_r5⟩,⟨s_r6,A_r6,n_r6,c_r6,B_r6,m_r6,d_r6⟩⟩,rfl,RM.set18 (m:=⟨⟨s_r1,A_r1,n_r1,c_r1,B_r1,m_r1,d_r1⟩,⟨s_r2,A_r2,n_r2,c_r2,B_r2,m_r2,d_r2⟩,⟨s_r3,A_r3,n_r3,c_r3,B_r3,m_r3,d_r3⟩,⟨s_r4,A_r4,n_r4,c_r4,B_r4,m_r4,d_r4⟩,⟨s_r5,A_r5,n_r5,c_r5,B_r5,m_r5,d_r5⟩,⟨s_r6,A_r6,n_r6,c_r6,B_r6,m_r6,d_r6⟩⟩) (v:=AM.rof x0 x1 x2 x3 x4 x5) ⟨⟨r1,r2⟩,⟨r3,r4⟩,⟨r5,r6⟩⟩ Z _ _ _ _ _ _ _ _ _ _ _ _ _ _ _ _ _ _,below_set18 hb (by omega) _ _ _ _ _ _ _ _ _ _ _ _ _ _ _ _ _ _⟩
theorem mkbx40_15 {w W:World} {x0 x1 x2 x3 x4 x5 x6 x7 x8 x9 x10 x11 x12 x13 x14 x15 x16 x17:Value} (h:(w.alloc (Obj.cells #[x0,x1,x2,x3,x4,x5,x6,x7,x8,x9,x10,x11,x12,x13,x14,x15,x16,x17] 74))=W):Below w.heap.size w W∧B18R W (w.heap.size) x0 x1 x2 x3 x4 x5 x6 x7 x8 x9 x10 x11 x12 x13 x14 x15 x16 x17∧W.heap.size=w.heap.size+1:=by subst h;exact ⟨by exact ((Below.refl _ _).alloc (Nat.le_refl _) _),by exact B18R.new' _ _ _ _ _ _ _ _ _ _ _ _ _ _ _ _ _ _ _ _ rfl,by simp⟩
theorem rone9 (w:World) :
 Calls Tryz.prog 54 #[] w (GivesRM w (AM.rof 65536 0 0 65536 0 0) 2 2):=by
 go_enter Tryz.func54,Tryz.ntmps54
 go_upto_region 1 with (fail)
 generalize hW:World.alloc _ _=W
 obtain ⟨hb,Z,hzW⟩:=mkbx40_15 hW;clear hW
 go_wp2_with (first
  | (go_at_call 52;(with_reducible refine (rof9 65536 0 0 65536 0 0 (by decide) (by decide) (by decide) (by decide) (by decide) (by decide) (by decide) (by decide) (by decide) (by decide) (by decide) (by decide) _).mono ?_);rintro e w_r ⟨r,rfl,rh,hh⟩
     (try replace Z:=Z.below hh);replace hb:=bend hb hh
     have zst:=Z.st (.bool r.a.s) (.slice r.a.A r.a.n r.a.c) (.slice r.a.B r.a.m r.a.d) (.bool r.b.s) (.slice r.b.A r.b.n r.b.c) (.slice r.b.B r.b.m r.b.d) (.bool r.c.s) (.slice r.c.A r.c.n r.c.c) (.slice r.c.B r.c.m r.c.d) (.bool r.d.s) (.slice r.d.A r.d.n r.d.c) (.slice r.d.B r.d.m r.d.d) (.bool r.e.s) (.slice r.e.A r.e.n r.e.c) (.slice r.e.B r.e.m r.e.d) (.bool r.f.s) (.slice r.f.A r.f.n r.f.c) (.slice r.f.B r.f.m r.f.d) (by simp [Value.oneCell'])))
 have Z2:=Z.set18 (.bool r.a.s) (.slice r.a.A r.a.n r.a.c) (.slice r.a.B r.a.m r.a.d) (.bool r.b.s) (.slice r.b.A r.b.n r.b.c) (.slice r.b.B r.b.m r.b.d) (.bool r.c.s) (.slice r.c.A r.c.n r.c.c) (.slice r.c.B r.c.m r.c.d) (.bool r.d.s) (.slice r.d.A r.d.n r.d.c) (.slice r.d.B r.d.m r.d.d) (.bool r.e.s) (.slice r.e.A r.e.n r.e.c) (.slice r.e.B r.e.m r.e.d) (.bool r.f.s) (.slice r.f.A r.f.n r.f.c) (.slice r.f.B r.f.m r.f.d)
 have gl:=Z2.ld
 refine bodyPost_ret (v:=.agg #[.bool r.a.s,.slice r.a.A r.a.n r.a.c,.slice r.a.B r.a.m r.a.d,.bool r.b.s,.slice r.b.A r.b.n r.b.c,.slice r.b.B r.b.m r.b.d,.bool r.c.s,.slice r.c.A r.c.n r.c.c,.slice r.c.B r.c.m r.c.d,.bool r.d.s,.slice r.d.A r.d.n r.d.c,.slice r.d.B r.d.m r.d.d,.bool r.e.s,.slice r.e.A r.e.n r.e.c,.slice r.e.B r.e.m r.e.d,.bool r.f.s,.slice r.f.A r.f.n r.f.c,.slice r.f.B r.f.m r.f.d]) (res_N Tryz.results54 _ _ (by simp) gl) rfl ?_
 exact ⟨r,rfl,rh.set18 Z _ _ _ _ _ _ _ _ _ _ _ _ _ _ _ _ _ _,below_set18 hb (by omega) _ _ _ _ _ _ _ _ _ _ _ _ _ _ _ _ _ _⟩
end
section
open Go Go.RowKit
attribute [local go_sem ↓] open_LVM open_STM open_LVN open_STN
theorem limbs_inj {a b:Nat} (h:limbs B64 a=limbs B64 b):a=b:=by
 have h1:=val_limbs B64_two a;have h2:=val_limbs B64_two b;rw [h] at h1
 exact h1.symm.trans h2
theorem dec_rat (v u:Rat):((decide (v.num < 0) == decide (u.num < 0) && decide (limbs B64 v.num.natAbs=limbs B64 u.num.natAbs)) && decide (limbs B64 v.den=limbs B64 u.den))=decide (v=u):=by
 by_cases h:v=u
 · subst h;simp
 · rw [decide_eq_false h]
   by_cases h1:limbs B64 v.num.natAbs=limbs B64 u.num.natAbs
   · by_cases h2:limbs B64 v.den=limbs B64 u.den
     · have e1:=limbs_inj h1
       have e2:=limbs_inj h2
       by_cases h3:decide (v.num < 0)=decide (u.num < 0)
       · exfalso
         apply h
         have e3:v.num < 0 ↔ u.num < 0:=decide_eq_decide.1 h3
         exact Rat.ext (by omega) e2
       · simp [h3]
     · simp [h2]
   · simp [h1]
theorem rats_dec {s t:Bool} {A A' B B':Option Addr} {n c n' c' m d m' d' k k2:Nat} {v u:Rat} (p:QG w s A n c A' n' c' v k) (q:QG w t B m d B' m' d' u k2) (hn:n≤maxLen) (hn':n'≤maxLen) (R:Bool) (hR:decide (v=u)=R) :
 Calls Tryz.prog 76 #[.agg #[.bool s,.slice A n c,.slice A' n' c'],.agg #[.bool t,.slice B m d,.slice B' m' d']] w fun e w'=>e=.returned (.bool R)∧Below w.heap.size w w':=by
 obtain ⟨⟨h1,h2,h3,h4⟩,⟨g2,g3,g4⟩⟩:=p
 obtain ⟨⟨e1,e2,_,_⟩,⟨f2,_,_⟩⟩:=q
 exact rats_any h2 g2 e2 f2 hn hn' R (by rw [h1,e1,dec_rat];exact hR)
theorem mats_0 {k l k2 l2:Nat} {v u:AM} {m n:MV} (M:MG w m v k l) (N:MG w n u k2 l2) (hn:((m.a.n≤maxLen∧m.a.m≤maxLen)∧(m.b.n≤maxLen∧m.b.m≤maxLen)∧(m.c.n≤maxLen∧m.c.m≤maxLen)∧(m.d.n≤maxLen∧m.d.m≤maxLen)∧(m.e.n≤maxLen∧m.e.m≤maxLen)∧(m.f.n≤maxLen∧m.f.m≤maxLen))) (e0:decide (v.a=u.a)=false) :
 Calls Tryz.prog 49 #[.agg #[.bool m.a.s,.slice m.a.A m.a.n m.a.c,.slice m.a.B m.a.m m.a.d,.bool m.b.s,.slice m.b.A m.b.n m.b.c,.slice m.b.B m.b.m m.b.d,.bool m.c.s,.slice m.c.A m.c.n m.c.c,.slice m.c.B m.c.m m.c.d,.bool m.d.s,.slice m.d.A m.d.n m.d.c,.slice m.d.B m.d.m m.d.d,.bool m.e.s,.slice m.e.A m.e.n m.e.c,.slice m.e.B m.e.m m.e.d,.bool m.f.s,.slice m.f.A m.f.n m.f.c,.slice m.f.B m.f.m m.f.d],.agg #[.bool n.a.s,.slice n.a.A n.a.n n.a.c,.slice n.a.B n.a.m n.a.d,.bool n.b.s,.slice n.b.A n.b.n n.b.c,.slice n.b.B n.b.m n.b.d,.bool n.c.s,.slice n.c.A n.c.n n.c.c,.slice n.c.B n.c.m n.c.d,.bool n.d.s,.slice n.d.A n.d.n n.d.c,.slice n.d.B n.d.m n.d.d,.bool n.e.s,.slice n.e.A n.e.n n.e.c,.slice n.e.B n.e.m n.e.d,.bool n.f.s,.slice n.f.A n.f.n n.f.c,.slice n.f.B n.f.m n.f.d]] w fun e w'=>e=.returned (.bool false)∧Below w.heap.size w w':=by
 have HN:=Lib.hid hn;clear hn;have H0:=Lib.hid e0;clear e0
 go_enter Tryz.func49,Tryz.ntmps49
 go_wp2_with fail
 generalize hW:World.alloc _ _=W
 obtain ⟨hb,XA,XB,hzW⟩:=mkbx37_13 hW;clear hW;replace M:=M.below hb;replace N:=N.below hb;obtain ⟨xa0,xa1,xa2,xa3,xa4,xa5,xa6,xa7,xa8,xa9,xa10,xa11,xa12,xa13,xa14,xa15,xa16,xa17⟩:=XA.all;obtain ⟨xb0,xb1,xb2,xb3,xb4,xb5,xb6,xb7,xb8,xb9,xb10,xb11,xb12,xb13,xb14,xb15,xb16,xb17⟩:=XB.all
 go_wp2_with (first
  | (go_at_call 76;(with_reducible refine (rats_dec M.ab.qx N.ab.qx HN.out.1.1 HN.out.1.2 false H0.out).mono ?_);rintro e w_z ⟨rfl,hh⟩
     (try replace M:=M.below hh);(try replace N:=N.below hh);(try replace XA:=XA.below hh);(try replace XB:=XB.below hh);replace hb:=bend hb hh;obtain ⟨xa0,xa1,xa2,xa3,xa4,xa5,xa6,xa7,xa8,xa9,xa10,xa11,xa12,xa13,xa14,xa15,xa16,xa17⟩:=XA.all;obtain ⟨xb0,xb1,xb2,xb3,xb4,xb5,xb6,xb7,xb8,xb9,xb10,xb11,xb12,xb13,xb14,xb15,xb16,xb17⟩:=XB.all))
 go_ret;exact ⟨rfl,hb⟩
theorem mats_1 {k l k2 l2:Nat} {v u:AM} {m n:MV} (M:MG w m v k l) (N:MG w n u k2 l2) (hn:((m.a.n≤maxLen∧m.a.m≤maxLen)∧(m.b.n≤maxLen∧m.b.m≤maxLen)∧(m.c.n≤maxLen∧m.c.m≤maxLen)∧(m.d.n≤maxLen∧m.d.m≤maxLen)∧(m.e.n≤maxLen∧m.e.m≤maxLen)∧(m.f.n≤maxLen∧m.f.m≤maxLen))) (e0:decide (v.a=u.a)=true) (e1:decide (v.b=u.b)=false) :
 Calls Tryz.prog 49 #[.agg #[.bool m.a.s,.slice m.a.A m.a.n m.a.c,.slice m.a.B m.a.m m.a.d,.bool m.b.s,.slice m.b.A m.b.n m.b.c,.slice m.b.B m.b.m m.b.d,.bool m.c.s,.slice m.c.A m.c.n m.c.c,.slice m.c.B m.c.m m.c.d,.bool m.d.s,.slice m.d.A m.d.n m.d.c,.slice m.d.B m.d.m m.d.d,.bool m.e.s,.slice m.e.A m.e.n m.e.c,.slice m.e.B m.e.m m.e.d,.bool m.f.s,.slice m.f.A m.f.n m.f.c,.slice m.f.B m.f.m m.f.d],.agg #[.bool n.a.s,.slice n.a.A n.a.n n.a.c,.slice n.a.B n.a.m n.a.d,.bool n.b.s,.slice n.b.A n.b.n n.b.c,.slice n.b.B n.b.m n.b.d,.bool n.c.s,.slice n.c.A n.c.n n.c.c,.slice n.c.B n.c.m n.c.d,.bool n.d.s,.slice n.d.A n.d.n n.d.c,.slice n.d.B n.d.m n.d.d,.bool n.e.s,.slice n.e.A n.e.n n.e.c,.slice n.e.B n.e.m n.e.d,.bool n.f.s,.slice n.f.A n.f.n n.f.c,.slice n.f.B n.f.m n.f.d]] w fun e w'=>e=.returned (.bool false)∧Below w.heap.size w w':=by
 have HN:=Lib.hid hn;clear hn;have H0:=Lib.hid e0;clear e0;have H1:=Lib.hid e1;clear e1
 go_enter Tryz.func49,Tryz.ntmps49
 go_wp2_with fail
 generalize hW:World.alloc _ _=W
 obtain ⟨hb,XA,XB,hzW⟩:=mkbx37_13 hW;clear hW;replace M:=M.below hb;replace N:=N.below hb;obtain ⟨xa0,xa1,xa2,xa3,xa4,xa5,xa6,xa7,xa8,xa9,xa10,xa11,xa12,xa13,xa14,xa15,xa16,xa17⟩:=XA.all;obtain ⟨xb0,xb1,xb2,xb3,xb4,xb5,xb6,xb7,xb8,xb9,xb10,xb11,xb12,xb13,xb14,xb15,xb16,xb17⟩:=XB.all
 go_wp2_with (first
  | (go_at_call 76;(with_reducible refine (rats_dec M.ab.qx N.ab.qx HN.out.1.1 HN.out.1.2 true H0.out).mono ?_);rintro e w_z ⟨rfl,hh⟩
     (try replace M:=M.below hh);(try replace N:=N.below hh);(try replace XA:=XA.below hh);(try replace XB:=XB.below hh);replace hb:=bend hb hh;obtain ⟨xa0,xa1,xa2,xa3,xa4,xa5,xa6,xa7,xa8,xa9,xa10,xa11,xa12,xa13,xa14,xa15,xa16,xa17⟩:=XA.all;obtain ⟨xb0,xb1,xb2,xb3,xb4,xb5,xb6,xb7,xb8,xb9,xb10,xb11,xb12,xb13,xb14,xb15,xb16,xb17⟩:=XB.all)
  | (go_at_call 76;(with_reducible refine (rats_dec M.ab.qy N.ab.qy HN.out.2.1.1 HN.out.2.1.2 false H1.out).mono ?_);rintro e w_z ⟨rfl,hh⟩
     (try replace M:=M.below hh);(try replace N:=N.below hh);(try replace XA:=XA.below hh);(try replace XB:=XB.below hh);replace hb:=bend hb hh;obtain ⟨xa0,xa1,xa2,xa3,xa4,xa5,xa6,xa7,xa8,xa9,xa10,xa11,xa12,xa13,xa14,xa15,xa16,xa17⟩:=XA.all;obtain ⟨xb0,xb1,xb2,xb3,xb4,xb5,xb6,xb7,xb8,xb9,xb10,xb11,xb12,xb13,xb14,xb15,xb16,xb17⟩:=XB.all))
 go_ret;exact ⟨rfl,hb⟩
theorem mats_2 {k l k2 l2:Nat} {v u:AM} {m n:MV} (M:MG w m v k l) (N:MG w n u k2 l2) (hn:((m.a.n≤maxLen∧m.a.m≤maxLen)∧(m.b.n≤maxLen∧m.b.m≤maxLen)∧(m.c.n≤maxLen∧m.c.m≤maxLen)∧(m.d.n≤maxLen∧m.d.m≤maxLen)∧(m.e.n≤maxLen∧m.e.m≤maxLen)∧(m.f.n≤maxLen∧m.f.m≤maxLen))) (e0:decide (v.a=u.a)=true) (e1:decide (v.b=u.b)=true) (e2:decide (v.c=u.c)=false) :
 Calls Tryz.prog 49 #[.agg #[.bool m.a.s,.slice m.a.A m.a.n m.a.c,.slice m.a.B m.a.m m.a.d,.bool m.b.s,.slice m.b.A m.b.n m.b.c,.slice m.b.B m.b.m m.b.d,.bool m.c.s,.slice m.c.A m.c.n m.c.c,.slice m.c.B m.c.m m.c.d,.bool m.d.s,.slice m.d.A m.d.n m.d.c,.slice m.d.B m.d.m m.d.d,.bool m.e.s,.slice m.e.A m.e.n m.e.c,.slice m.e.B m.e.m m.e.d,.bool m.f.s,.slice m.f.A m.f.n m.f.c,.slice m.f.B m.f.m m.f.d],.agg #[.bool n.a.s,.slice n.a.A n.a.n n.a.c,.slice n.a.B n.a.m n.a.d,.bool n.b.s,.slice n.b.A n.b.n n.b.c,.slice n.b.B n.b.m n.b.d,.bool n.c.s,.slice n.c.A n.c.n n.c.c,.slice n.c.B n.c.m n.c.d,.bool n.d.s,.slice n.d.A n.d.n n.d.c,.slice n.d.B n.d.m n.d.d,.bool n.e.s,.slice n.e.A n.e.n n.e.c,.slice n.e.B n.e.m n.e.d,.bool n.f.s,.slice n.f.A n.f.n n.f.c,.slice n.f.B n.f.m n.f.d]] w fun e w'=>e=.returned (.bool false)∧Below w.heap.size w w':=by
 have HN:=Lib.hid hn;clear hn;have H0:=Lib.hid e0;clear e0;have H1:=Lib.hid e1;clear e1;have H2:=Lib.hid e2;clear e2
 go_enter Tryz.func49,Tryz.ntmps49
 go_wp2_with fail
 generalize hW:World.alloc _ _=W
 obtain ⟨hb,XA,XB,hzW⟩:=mkbx37_13 hW;clear hW;replace M:=M.below hb;replace N:=N.below hb;obtain ⟨xa0,xa1,xa2,xa3,xa4,xa5,xa6,xa7,xa8,xa9,xa10,xa11,xa12,xa13,xa14,xa15,xa16,xa17⟩:=XA.all;obtain ⟨xb0,xb1,xb2,xb3,xb4,xb5,xb6,xb7,xb8,xb9,xb10,xb11,xb12,xb13,xb14,xb15,xb16,xb17⟩:=XB.all
 go_wp2_with (first
  | (go_at_call 76;(with_reducible refine (rats_dec M.ab.qx N.ab.qx HN.out.1.1 HN.out.1.2 true H0.out).mono ?_);rintro e w_z ⟨rfl,hh⟩
     (try replace M:=M.below hh);(try replace N:=N.below hh);(try replace XA:=XA.below hh);(try replace XB:=XB.below hh);replace hb:=bend hb hh;obtain ⟨xa0,xa1,xa2,xa3,xa4,xa5,xa6,xa7,xa8,xa9,xa10,xa11,xa12,xa13,xa14,xa15,xa16,xa17⟩:=XA.all;obtain ⟨xb0,xb1,xb2,xb3,xb4,xb5,xb6,xb7,xb8,xb9,xb10,xb11,xb12,xb13,xb14,xb15,xb16,xb17⟩:=XB.all)
  | (go_at_call 76;(with_reducible refine (rats_dec M.ab.qy N.ab.qy HN.out.2.1.1 HN.out.2.1.2 true H1.out).mono ?_);rintro e w_z ⟨rfl,hh⟩
     (try replace M:=M.below hh);(try replace N:=N.below hh);(try replace XA:=XA.below hh);(try replace XB:=XB.below hh);replace hb:=bend hb hh;obtain ⟨xa0,xa1,xa2,xa3,xa4,xa5,xa6,xa7,xa8,xa9,xa10,xa11,xa12,xa13,xa14,xa15,xa16,xa17⟩:=XA.all;obtain ⟨xb0,xb1,xb2,xb3,xb4,xb5,xb6,xb7,xb8,xb9,xb10,xb11,xb12,xb13,xb14,xb15,xb16,xb17⟩:=XB.all)
  | (go_at_call 76;(with_reducible refine (rats_dec M.cd.qx N.cd.qx HN.out.2.2.1.1 HN.out.2.2.1.2 false H2.out).mono ?_);rintro e w_z ⟨rfl,hh⟩
     (try replace M:=M.below hh);(try replace N:=N.below hh);(try replace XA:=XA.below hh);(try replace XB:=XB.below hh);replace hb:=bend hb hh;obtain ⟨xa0,xa1,xa2,xa3,xa4,xa5,xa6,xa7,xa8,xa9,xa10,xa11,xa12,xa13,xa14,xa15,xa16,xa17⟩:=XA.all;obtain ⟨xb0,xb1,xb2,xb3,xb4,xb5,xb6,xb7,xb8,xb9,xb10,xb11,xb12,xb13,xb14,xb15,xb16,xb17⟩:=XB.all))
 go_ret;exact ⟨rfl,hb⟩
theorem mats_3 {k l k2 l2:Nat} {v u:AM} {m n:MV} (M:MG w m v k l) (N:MG w n u k2 l2) (hn:((m.a.n≤maxLen∧m.a.m≤maxLen)∧(m.b.n≤maxLen∧m.b.m≤maxLen)∧(m.c.n≤maxLen∧m.c.m≤maxLen)∧(m.d.n≤maxLen∧m.d.m≤maxLen)∧(m.e.n≤maxLen∧m.e.m≤maxLen)∧(m.f.n≤maxLen∧m.f.m≤maxLen))) (e0:decide (v.a=u.a)=true) (e1:decide (v.b=u.b)=true) (e2:decide (v.c=u.c)=true) (e3:decide (v.d=u.d)=false) :
 Calls Tryz.prog 49 #[.agg #[.bool m.a.s,.slice m.a.A m.a.n m.a.c,.slice m.a.B m.a.m m.a.d,.bool m.b.s,.slice m.b.A m.b.n m.b.c,.slice m.b.B m.b.m m.b.d,.bool m.c.s,.slice m.c.A m.c.n m.c.c,.slice m.c.B m.c.m m.c.d,.bool m.d.s,.slice m.d.A m.d.n m.d.c,.slice m.d.B m.d.m m.d.d,.bool m.e.s,.slice m.e.A m.e.n m.e.c,.slice m.e.B m.e.m m.e.d,.bool m.f.s,.slice m.f.A m.f.n m.f.c,.slice m.f.B m.f.m m.f.d],.agg #[.bool n.a.s,.slice n.a.A n.a.n n.a.c,.slice n.a.B n.a.m n.a.d,.bool n.b.s,.slice n.b.A n.b.n n.b.c,.slice n.b.B n.b.m n.b.d,.bool n.c.s,.slice n.c.A n.c.n n.c.c,.slice n.c.B n.c.m n.c.d,.bool n.d.s,.slice n.d.A n.d.n n.d.c,.slice n.d.B n.d.m n.d.d,.bool n.e.s,.slice n.e.A n.e.n n.e.c,.slice n.e.B n.e.m n.e.d,.bool n.f.s,.slice n.f.A n.f.n n.f.c,.slice n.f.B n.f.m n.f.d]] w fun e w'=>e=.returned (.bool false)∧Below w.heap.size w w':=by
 have HN:=Lib.hid hn;clear hn;have H0:=Lib.hid e0;clear e0;have H1:=Lib.hid e1;clear e1;have H2:=Lib.hid e2;clear e2;have H3:=Lib.hid e3;clear e3
 go_enter Tryz.func49,Tryz.ntmps49
 go_wp2_with fail
 generalize hW:World.alloc _ _=W
 obtain ⟨hb,XA,XB,hzW⟩:=mkbx37_13 hW;clear hW;replace M:=M.below hb;replace N:=N.below hb;obtain ⟨xa0,xa1,xa2,xa3,xa4,xa5,xa6,xa7,xa8,xa9,xa10,xa11,xa12,xa13,xa14,xa15,xa16,xa17⟩:=XA.all;obtain ⟨xb0,xb1,xb2,xb3,xb4,xb5,xb6,xb7,xb8,xb9,xb10,xb11,xb12,xb13,xb14,xb15,xb16,xb17⟩:=XB.all
 go_wp2_with (first
  | (go_at_call 76;(with_reducible refine (rats_dec M.ab.qx N.ab.qx HN.out.1.1 HN.out.1.2 true H0.out).mono ?_);rintro e w_z ⟨rfl,hh⟩
     (try replace M:=M.below hh);(try replace N:=N.below hh);(try replace XA:=XA.below hh);(try replace XB:=XB.below hh);replace hb:=bend hb hh;obtain ⟨xa0,xa1,xa2,xa3,xa4,xa5,xa6,xa7,xa8,xa9,xa10,xa11,xa12,xa13,xa14,xa15,xa16,xa17⟩:=XA.all;obtain ⟨xb0,xb1,xb2,xb3,xb4,xb5,xb6,xb7,xb8,xb9,xb10,xb11,xb12,xb13,xb14,xb15,xb16,xb17⟩:=XB.all)
  | (go_at_call 76;(with_reducible refine (rats_dec M.ab.qy N.ab.qy HN.out.2.1.1 HN.out.2.1.2 true H1.out).mono ?_);rintro e w_z ⟨rfl,hh⟩
     (try replace M:=M.below hh);(try replace N:=N.below hh);(try replace XA:=XA.below hh);(try replace XB:=XB.below hh);replace hb:=bend hb hh;obtain ⟨xa0,xa1,xa2,xa3,xa4,xa5,xa6,xa7,xa8,xa9,xa10,xa11,xa12,xa13,xa14,xa15,xa16,xa17⟩:=XA.all;obtain ⟨xb0,xb1,xb2,xb3,xb4,xb5,xb6,xb7,xb8,xb9,xb10,xb11,xb12,xb13,xb14,xb15,xb16,xb17⟩:=XB.all)
  | (go_at_call 76;(with_reducible refine (rats_dec M.cd.qx N.cd.qx HN.out.2.2.1.1 HN.out.2.2.1.2 true H2.out).mono ?_);rintro e w_z ⟨rfl,hh⟩
     (try replace M:=M.below hh);(try replace N:=N.below hh);(try replace XA:=XA.below hh);(try replace XB:=XB.below hh);replace hb:=bend hb hh;obtain ⟨xa0,xa1,xa2,xa3,xa4,xa5,xa6,xa7,xa8,xa9,xa10,xa11,xa12,xa13,xa14,xa15,xa16,xa17⟩:=XA.all;obtain ⟨xb0,xb1,xb2,xb3,xb4,xb5,xb6,xb7,xb8,xb9,xb10,xb11,xb12,xb13,xb14,xb15,xb16,xb17⟩:=XB.all)
  | (go_at_call 76;(with_reducible refine (rats_dec M.cd.qy N.cd.qy HN.out.2.2.2.1.1 HN.out.2.2.2.1.2 false H3.out).mono ?_);rintro e w_z ⟨rfl,hh⟩
     (try replace M:=M.below hh);(try replace N:=N.below hh);(try replace XA:=XA.below hh);(try replace XB:=XB.below hh);replace hb:=bend hb hh;obtain ⟨xa0,xa1,xa2,xa3,xa4,xa5,xa6,xa7,xa8,xa9,xa10,xa11,xa12,xa13,xa14,xa15,xa16,xa17⟩:=XA.all;obtain ⟨xb0,xb1,xb2,xb3,xb4,xb5,xb6,xb7,xb8,xb9,xb10,xb11,xb12,xb13,xb14,xb15,xb16,xb17⟩:=XB.all))
 go_ret;exact ⟨rfl,hb⟩
theorem mats_4 {k l k2 l2:Nat} {v u:AM} {m n:MV} (M:MG w m v k l) (N:MG w n u k2 l2) (hn:((m.a.n≤maxLen∧m.a.m≤maxLen)∧(m.b.n≤maxLen∧m.b.m≤maxLen)∧(m.c.n≤maxLen∧m.c.m≤maxLen)∧(m.d.n≤maxLen∧m.d.m≤maxLen)∧(m.e.n≤maxLen∧m.e.m≤maxLen)∧(m.f.n≤maxLen∧m.f.m≤maxLen))) (e0:decide (v.a=u.a)=true) (e1:decide (v.b=u.b)=true) (e2:decide (v.c=u.c)=true) (e3:decide (v.d=u.d)=true) (e4:decide (v.e=u.e)=false) :
 Calls Tryz.prog 49 #[.agg #[.bool m.a.s,.slice m.a.A m.a.n m.a.c,.slice m.a.B m.a.m m.a.d,.bool m.b.s,.slice m.b.A m.b.n m.b.c,.slice m.b.B m.b.m m.b.d,.bool m.c.s,.slice m.c.A m.c.n m.c.c,.slice m.c.B m.c.m m.c.d,.bool m.d.s,.slice m.d.A m.d.n m.d.c,.slice m.d.B m.d.m m.d.d,.bool m.e.s,.slice m.e.A m.e.n m.e.c,.slice m.e.B m.e.m m.e.d,.bool m.f.s,.slice m.f.A m.f.n m.f.c,.slice m.f.B m.f.m m.f.d],.agg #[.bool n.a.s,.slice n.a.A n.a.n n.a.c,.slice n.a.B n.a.m n.a.d,.bool n.b.s,.slice n.b.A n.b.n n.b.c,.slice n.b.B n.b.m n.b.d,.bool n.c.s,.slice n.c.A n.c.n n.c.c,.slice n.c.B n.c.m n.c.d,.bool n.d.s,.slice n.d.A n.d.n n.d.c,.slice n.d.B n.d.m n.d.d,.bool n.e.s,.slice n.e.A n.e.n n.e.c,.slice n.e.B n.e.m n.e.d,.bool n.f.s,.slice n.f.A n.f.n n.f.c,.slice n.f.B n.f.m n.f.d]] w fun e w'=>e=.returned (.bool false)∧Below w.heap.size w w':=by
 have HN:=Lib.hid hn;clear hn;have H0:=Lib.hid e0;clear e0;have H1:=Lib.hid e1;clear e1;have H2:=Lib.hid e2;clear e2;have H3:=Lib.hid e3;clear e3;have H4:=Lib.hid e4;clear e4
 go_enter Tryz.func49,Tryz.ntmps49
 go_wp2_with fail
 generalize hW:World.alloc _ _=W
 obtain ⟨hb,XA,XB,hzW⟩:=mkbx37_13 hW;clear hW;replace M:=M.below hb;replace N:=N.below hb;obtain ⟨xa0,xa1,xa2,xa3,xa4,xa5,xa6,xa7,xa8,xa9,xa10,xa11,xa12,xa13,xa14,xa15,xa16,xa17⟩:=XA.all;obtain ⟨xb0,xb1,xb2,xb3,xb4,xb5,xb6,xb7,xb8,xb9,xb10,xb11,xb12,xb13,xb14,xb15,xb16,xb17⟩:=XB.all
 go_wp2_with (first
  | (go_at_call 76;(with_reducible refine (rats_dec M.ab.qx N.ab.qx HN.out.1.1 HN.out.1.2 true H0.out).mono ?_);rintro e w_z ⟨rfl,hh⟩
     (try replace M:=M.below hh);(try replace N:=N.below hh);(try replace XA:=XA.below hh);(try replace XB:=XB.below hh);replace hb:=bend hb hh;obtain ⟨xa0,xa1,xa2,xa3,xa4,xa5,xa6,xa7,xa8,xa9,xa10,xa11,xa12,xa13,xa14,xa15,xa16,xa17⟩:=XA.all;obtain ⟨xb0,xb1,xb2,xb3,xb4,xb5,xb6,xb7,xb8,xb9,xb10,xb11,xb12,xb13,xb14,xb15,xb16,xb17⟩:=XB.all)
  | (go_at_call 76;(with_reducible refine (rats_dec M.ab.qy N.ab.qy HN.out.2.1.1 HN.out.2.1.2 true H1.out).mono ?_);rintro e w_z ⟨rfl,hh⟩
     (try replace M:=M.below hh);(try replace N:=N.below hh);(try replace XA:=XA.below hh);(try replace XB:=XB.below hh);replace hb:=bend hb hh;obtain ⟨xa0,xa1,xa2,xa3,xa4,xa5,xa6,xa7,xa8,xa9,xa10,xa11,xa12,xa13,xa14,xa15,xa16,xa17⟩:=XA.all;obtain ⟨xb0,xb1,xb2,xb3,xb4,xb5,xb6,xb7,xb8,xb9,xb10,xb11,xb12,xb13,xb14,xb15,xb16,xb17⟩:=XB.all)
  | (go_at_call 76;(with_reducible refine (rats_dec M.cd.qx N.cd.qx HN.out.2.2.1.1 HN.out.2.2.1.2 true H2.out).mono ?_);rintro e w_z ⟨rfl,hh⟩
     (try replace M:=M.below hh);(try replace N:=N.below hh);(try replace XA:=XA.below hh);(try replace XB:=XB.below hh);replace hb:=bend hb hh;obtain ⟨xa0,xa1,xa2,xa3,xa4,xa5,xa6,xa7,xa8,xa9,xa10,xa11,xa12,xa13,xa14,xa15,xa16,xa17⟩:=XA.all;obtain ⟨xb0,xb1,xb2,xb3,xb4,xb5,xb6,xb7,xb8,xb9,xb10,xb11,xb12,xb13,xb14,xb15,xb16,xb17⟩:=XB.all)
  | (go_at_call 76;(with_reducible refine (rats_dec M.cd.qy N.cd.qy HN.out.2.2.2.1.1 HN.out.2.2.2.1.2 true H3.out).mono ?_);rintro e w_z ⟨rfl,hh⟩
     (try replace M:=M.below hh);(try replace N:=N.below hh);(try replace XA:=XA.below hh);(try replace XB:=XB.below hh);replace hb:=bend hb hh;obtain ⟨xa0,xa1,xa2,xa3,xa4,xa5,xa6,xa7,xa8,xa9,xa10,xa11,xa12,xa13,xa14,xa15,xa16,xa17⟩:=XA.all;obtain ⟨xb0,xb1,xb2,xb3,xb4,xb5,xb6,xb7,xb8,xb9,xb10,xb11,xb12,xb13,xb14,xb15,xb16,xb17⟩:=XB.all)
  | (go_at_call 76;(with_reducible refine (rats_dec M.ef.qx N.ef.qx HN.out.2.2.2.2.1.1 HN.out.2.2.2.2.1.2 false H4.out).mono ?_);rintro e w_z ⟨rfl,hh⟩
     (try replace M:=M.below hh);(try replace N:=N.below hh);(try replace XA:=XA.below hh);(try replace XB:=XB.below hh);replace hb:=bend hb hh;obtain ⟨xa0,xa1,xa2,xa3,xa4,xa5,xa6,xa7,xa8,xa9,xa10,xa11,xa12,xa13,xa14,xa15,xa16,xa17⟩:=XA.all;obtain ⟨xb0,xb1,xb2,xb3,xb4,xb5,xb6,xb7,xb8,xb9,xb10,xb11,xb12,xb13,xb14,xb15,xb16,xb17⟩:=XB.all))
 go_ret;exact ⟨rfl,hb⟩
theorem mats_5 {k l k2 l2:Nat} {v u:AM} {m n:MV} (M:MG w m v k l) (N:MG w n u k2 l2) (hn:((m.a.n≤maxLen∧m.a.m≤maxLen)∧(m.b.n≤maxLen∧m.b.m≤maxLen)∧(m.c.n≤maxLen∧m.c.m≤maxLen)∧(m.d.n≤maxLen∧m.d.m≤maxLen)∧(m.e.n≤maxLen∧m.e.m≤maxLen)∧(m.f.n≤maxLen∧m.f.m≤maxLen))) (e0:decide (v.a=u.a)=true) (e1:decide (v.b=u.b)=true) (e2:decide (v.c=u.c)=true) (e3:decide (v.d=u.d)=true) (e4:decide (v.e=u.e)=true) (e5:decide (v.f=u.f)=false) :
 Calls Tryz.prog 49 #[.agg #[.bool m.a.s,.slice m.a.A m.a.n m.a.c,.slice m.a.B m.a.m m.a.d,.bool m.b.s,.slice m.b.A m.b.n m.b.c,.slice m.b.B m.b.m m.b.d,.bool m.c.s,.slice m.c.A m.c.n m.c.c,.slice m.c.B m.c.m m.c.d,.bool m.d.s,.slice m.d.A m.d.n m.d.c,.slice m.d.B m.d.m m.d.d,.bool m.e.s,.slice m.e.A m.e.n m.e.c,.slice m.e.B m.e.m m.e.d,.bool m.f.s,.slice m.f.A m.f.n m.f.c,.slice m.f.B m.f.m m.f.d],.agg #[.bool n.a.s,.slice n.a.A n.a.n n.a.c,.slice n.a.B n.a.m n.a.d,.bool n.b.s,.slice n.b.A n.b.n n.b.c,.slice n.b.B n.b.m n.b.d,.bool n.c.s,.slice n.c.A n.c.n n.c.c,.slice n.c.B n.c.m n.c.d,.bool n.d.s,.slice n.d.A n.d.n n.d.c,.slice n.d.B n.d.m n.d.d,.bool n.e.s,.slice n.e.A n.e.n n.e.c,.slice n.e.B n.e.m n.e.d,.bool n.f.s,.slice n.f.A n.f.n n.f.c,.slice n.f.B n.f.m n.f.d]] w fun e w'=>e=.returned (.bool false)∧Below w.heap.size w w':=by
 have HN:=Lib.hid hn;clear hn;have H0:=Lib.hid e0;clear e0;have H1:=Lib.hid e1;clear e1;have H2:=Lib.hid e2;clear e2;have H3:=Lib.hid e3;clear e3;have H4:=Lib.hid e4;clear e4;have H5:=Lib.hid e5;clear e5
 go_enter Tryz.func49,Tryz.ntmps49
 go_wp2_with fail
 generalize hW:World.alloc _ _=W
 obtain ⟨hb,XA,XB,hzW⟩:=mkbx37_13 hW;clear hW;replace M:=M.below hb;replace N:=N.below hb;obtain ⟨xa0,xa1,xa2,xa3,xa4,xa5,xa6,xa7,xa8,xa9,xa10,xa11,xa12,xa13,xa14,xa15,xa16,xa17⟩:=XA.all;obtain ⟨xb0,xb1,xb2,xb3,xb4,xb5,xb6,xb7,xb8,xb9,xb10,xb11,xb12,xb13,xb14,xb15,xb16,xb17⟩:=XB.all
 go_wp2_with (first
  | (go_at_call 76;(with_reducible refine (rats_dec M.ab.qx N.ab.qx HN.out.1.1 HN.out.1.2 true H0.out).mono ?_);rintro e w_z ⟨rfl,hh⟩
     (try replace M:=M.below hh);(try replace N:=N.below hh);(try replace XA:=XA.below hh);(try replace XB:=XB.below hh);replace hb:=bend hb hh;obtain ⟨xa0,xa1,xa2,xa3,xa4,xa5,xa6,xa7,xa8,xa9,xa10,xa11,xa12,xa13,xa14,xa15,xa16,xa17⟩:=XA.all;obtain ⟨xb0,xb1,xb2,xb3,xb4,xb5,xb6,xb7,xb8,xb9,xb10,xb11,xb12,xb13,xb14,xb15,xb16,xb17⟩:=XB.all)
  | (go_at_call 76;(with_reducible refine (rats_dec M.ab.qy N.ab.qy HN.out.2.1.1 HN.out.2.1.2 true H1.out).mono ?_);rintro e w_z ⟨rfl,hh⟩
     (try replace M:=M.below hh);(try replace N:=N.below hh);(try replace XA:=XA.below hh);(try replace XB:=XB.below hh);replace hb:=bend hb hh;obtain ⟨xa0,xa1,xa2,xa3,xa4,xa5,xa6,xa7,xa8,xa9,xa10,xa11,xa12,xa13,xa14,xa15,xa16,xa17⟩:=XA.all;obtain ⟨xb0,xb1,xb2,xb3,xb4,xb5,xb6,xb7,xb8,xb9,xb10,xb11,xb12,xb13,xb14,xb15,xb16,xb17⟩:=XB.all)
  | (go_at_call 76;(with_reducible refine (rats_dec M.cd.qx N.cd.qx HN.out.2.2.1.1 HN.out.2.2.1.2 true H2.out).mono ?_);rintro e w_z ⟨rfl,hh⟩
     (try replace M:=M.below hh);(try replace N:=N.below hh);(try replace XA:=XA.below hh);(try replace XB:=XB.below hh);replace hb:=bend hb hh;obtain ⟨xa0,xa1,xa2,xa3,xa4,xa5,xa6,xa7,xa8,xa9,xa10,xa11,xa12,xa13,xa14,xa15,xa16,xa17⟩:=XA.all;obtain ⟨xb0,xb1,xb2,xb3,xb4,xb5,xb6,xb7,xb8,xb9,xb10,xb11,xb12,xb13,xb14,xb15,xb16,xb17⟩:=XB.all)
  | (go_at_call 76;(with_reducible refine (rats_dec M.cd.qy N.cd.qy HN.out.2.2.2.1.1 HN.out.2.2.2.1.2 true H3.out).mono ?_);rintro e w_z ⟨rfl,hh⟩
     (try replace M:=M.below hh);(try replace N:=N.below hh);(try replace XA:=XA.below hh);(try replace XB:=XB.below hh);replace hb:=bend hb hh;obtain ⟨xa0,xa1,xa2,xa3,xa4,xa5,xa6,xa7,xa8,xa9,xa10,xa11,xa12,xa13,xa14,xa15,xa16,xa17⟩:=XA.all;obtain ⟨xb0,xb1,xb2,xb3,xb4,xb5,xb6,xb7,xb8,xb9,xb10,xb11,xb12,xb13,xb14,xb15,xb16,xb17⟩:=XB.all)
  | (go_at_call 76;(with_reducible refine (rats_dec M.ef.qx N.ef.qx HN.out.2.2.2.2.1.1 HN.out.2.2.2.2.1.2 true H4.out).mono ?_);rintro e w_z ⟨rfl,hh⟩
     (try replace M:=M.below hh);(try replace N:=N.below hh);(try replace XA:=XA.below hh);(try replace XB:=XB.below hh);replace hb:=bend hb hh;obtain ⟨xa0,xa1,xa2,xa3,xa4,xa5,xa6,xa7,xa8,xa9,xa10,xa11,xa12,xa13,xa14,xa15,xa16,xa17⟩:=XA.all;obtain ⟨xb0,xb1,xb2,xb3,xb4,xb5,xb6,xb7,xb8,xb9,xb10,xb11,xb12,xb13,xb14,xb15,xb16,xb17⟩:=XB.all)
  | (go_at_call 76;(with_reducible refine (rats_dec M.ef.qy N.ef.qy HN.out.2.2.2.2.2.1 HN.out.2.2.2.2.2.2 false H5.out).mono ?_);rintro e w_z ⟨rfl,hh⟩
     (try replace M:=M.below hh);(try replace N:=N.below hh);(try replace XA:=XA.below hh);(try replace XB:=XB.below hh);replace hb:=bend hb hh;obtain ⟨xa0,xa1,xa2,xa3,xa4,xa5,xa6,xa7,xa8,xa9,xa10,xa11,xa12,xa13,xa14,xa15,xa16,xa17⟩:=XA.all;obtain ⟨xb0,xb1,xb2,xb3,xb4,xb5,xb6,xb7,xb8,xb9,xb10,xb11,xb12,xb13,xb14,xb15,xb16,xb17⟩:=XB.all))
 go_ret;exact ⟨rfl,hb⟩
theorem mats_6 {k l k2 l2:Nat} {v u:AM} {m n:MV} (M:MG w m v k l) (N:MG w n u k2 l2) (hn:((m.a.n≤maxLen∧m.a.m≤maxLen)∧(m.b.n≤maxLen∧m.b.m≤maxLen)∧(m.c.n≤maxLen∧m.c.m≤maxLen)∧(m.d.n≤maxLen∧m.d.m≤maxLen)∧(m.e.n≤maxLen∧m.e.m≤maxLen)∧(m.f.n≤maxLen∧m.f.m≤maxLen))) (e0:decide (v.a=u.a)=true) (e1:decide (v.b=u.b)=true) (e2:decide (v.c=u.c)=true) (e3:decide (v.d=u.d)=true) (e4:decide (v.e=u.e)=true) (e5:decide (v.f=u.f)=true) :
 Calls Tryz.prog 49 #[.agg #[.bool m.a.s,.slice m.a.A m.a.n m.a.c,.slice m.a.B m.a.m m.a.d,.bool m.b.s,.slice m.b.A m.b.n m.b.c,.slice m.b.B m.b.m m.b.d,.bool m.c.s,.slice m.c.A m.c.n m.c.c,.slice m.c.B m.c.m m.c.d,.bool m.d.s,.slice m.d.A m.d.n m.d.c,.slice m.d.B m.d.m m.d.d,.bool m.e.s,.slice m.e.A m.e.n m.e.c,.slice m.e.B m.e.m m.e.d,.bool m.f.s,.slice m.f.A m.f.n m.f.c,.slice m.f.B m.f.m m.f.d],.agg #[.bool n.a.s,.slice n.a.A n.a.n n.a.c,.slice n.a.B n.a.m n.a.d,.bool n.b.s,.slice n.b.A n.b.n n.b.c,.slice n.b.B n.b.m n.b.d,.bool n.c.s,.slice n.c.A n.c.n n.c.c,.slice n.c.B n.c.m n.c.d,.bool n.d.s,.slice n.d.A n.d.n n.d.c,.slice n.d.B n.d.m n.d.d,.bool n.e.s,.slice n.e.A n.e.n n.e.c,.slice n.e.B n.e.m n.e.d,.bool n.f.s,.slice n.f.A n.f.n n.f.c,.slice n.f.B n.f.m n.f.d]] w fun e w'=>e=.returned (.bool true)∧Below w.heap.size w w':=by
 have HN:=Lib.hid hn;clear hn;have H0:=Lib.hid e0;clear e0;have H1:=Lib.hid e1;clear e1;have H2:=Lib.hid e2;clear e2;have H3:=Lib.hid e3;clear e3;have H4:=Lib.hid e4;clear e4;have H5:=Lib.hid e5;clear e5
 go_enter Tryz.func49,Tryz.ntmps49
 go_wp2_with fail
 generalize hW:World.alloc _ _=W
 obtain ⟨hb,XA,XB,hzW⟩:=mkbx37_13 hW;clear hW;replace M:=M.below hb;replace N:=N.below hb;obtain ⟨xa0,xa1,xa2,xa3,xa4,xa5,xa6,xa7,xa8,xa9,xa10,xa11,xa12,xa13,xa14,xa15,xa16,xa17⟩:=XA.all;obtain ⟨xb0,xb1,xb2,xb3,xb4,xb5,xb6,xb7,xb8,xb9,xb10,xb11,xb12,xb13,xb14,xb15,xb16,xb17⟩:=XB.all
 go_wp2_with (first
  | (go_at_call 76;(with_reducible refine (rats_dec M.ab.qx N.ab.qx HN.out.1.1 HN.out.1.2 true H0.out).mono ?_);rintro e w_z ⟨rfl,hh⟩
     (try replace M:=M.below hh);(try replace N:=N.below hh);(try replace XA:=XA.below hh);(try replace XB:=XB.below hh);replace hb:=bend hb hh;obtain ⟨xa0,xa1,xa2,xa3,xa4,xa5,xa6,xa7,xa8,xa9,xa10,xa11,xa12,xa13,xa14,xa15,xa16,xa17⟩:=XA.all;obtain ⟨xb0,xb1,xb2,xb3,xb4,xb5,xb6,xb7,xb8,xb9,xb10,xb11,xb12,xb13,xb14,xb15,xb16,xb17⟩:=XB.all)
  | (go_at_call 76;(with_reducible refine (rats_dec M.ab.qy N.ab.qy HN.out.2.1.1 HN.out.2.1.2 true H1.out).mono ?_);rintro e w_z ⟨rfl,hh⟩
     (try replace M:=M.below hh);(try replace N:=N.below hh);(try replace XA:=XA.below hh);(try replace XB:=XB.below hh);replace hb:=bend hb hh;obtain ⟨xa0,xa1,xa2,xa3,xa4,xa5,xa6,xa7,xa8,xa9,xa10,xa11,xa12,xa13,xa14,xa15,xa16,xa17⟩:=XA.all;obtain ⟨xb0,xb1,xb2,xb3,xb4,xb5,xb6,xb7,xb8,xb9,xb10,xb11,xb12,xb13,xb14,xb15,xb16,xb17⟩:=XB.all)
  | (go_at_call 76;(with_reducible refine (rats_dec M.cd.qx N.cd.qx HN.out.2.2.1.1 HN.out.2.2.1.2 true H2.out).mono ?_);rintro e w_z ⟨rfl,hh⟩
     (try replace M:=M.below hh);(try replace N:=N.below hh);(try replace XA:=XA.below hh);(try replace XB:=XB.below hh);replace hb:=bend hb hh;obtain ⟨xa0,xa1,xa2,xa3,xa4,xa5,xa6,xa7,xa8,xa9,xa10,xa11,xa12,xa13,xa14,xa15,xa16,xa17⟩:=XA.all;obtain ⟨xb0,xb1,xb2,xb3,xb4,xb5,xb6,xb7,xb8,xb9,xb10,xb11,xb12,xb13,xb14,xb15,xb16,xb17⟩:=XB.all)
  | (go_at_call 76;(with_reducible refine (rats_dec M.cd.qy N.cd.qy HN.out.2.2.2.1.1 HN.out.2.2.2.1.2 true H3.out).mono ?_);rintro e w_z ⟨rfl,hh⟩
     (try replace M:=M.below hh);(try replace N:=N.below hh);(try replace XA:=XA.below hh);(try replace XB:=XB.below hh);replace hb:=bend hb hh;obtain ⟨xa0,xa1,xa2,xa3,xa4,xa5,xa6,xa7,xa8,xa9,xa10,xa11,xa12,xa13,xa14,xa15,xa16,xa17⟩:=XA.all;obtain ⟨xb0,xb1,xb2,xb3,xb4,xb5,xb6,xb7,xb8,xb9,xb10,xb11,xb12,xb13,xb14,xb15,xb16,xb17⟩:=XB.all)
  | (go_at_call 76;(with_reducible refine (rats_dec M.ef.qx N.ef.qx HN.out.2.2.2.2.1.1 HN.out.2.2.2.2.1.2 true H4.out).mono ?_);rintro e w_z ⟨rfl,hh⟩
     (try replace M:=M.below hh);(try replace N:=N.below hh);(try replace XA:=XA.below hh);(try replace XB:=XB.below hh);replace hb:=bend hb hh;obtain ⟨xa0,xa1,xa2,xa3,xa4,xa5,xa6,xa7,xa8,xa9,xa10,xa11,xa12,xa13,xa14,xa15,xa16,xa17⟩:=XA.all;obtain ⟨xb0,xb1,xb2,xb3,xb4,xb5,xb6,xb7,xb8,xb9,xb10,xb11,xb12,xb13,xb14,xb15,xb16,xb17⟩:=XB.all)
  | (go_at_call 76;(with_reducible refine (rats_dec M.ef.qy N.ef.qy HN.out.2.2.2.2.2.1 HN.out.2.2.2.2.2.2 true H5.out).mono ?_);rintro e w_z ⟨rfl,hh⟩
     (try replace M:=M.below hh);(try replace N:=N.below hh);(try replace XA:=XA.below hh);(try replace XB:=XB.below hh);replace hb:=bend hb hh;obtain ⟨xa0,xa1,xa2,xa3,xa4,xa5,xa6,xa7,xa8,xa9,xa10,xa11,xa12,xa13,xa14,xa15,xa16,xa17⟩:=XA.all;obtain ⟨xb0,xb1,xb2,xb3,xb4,xb5,xb6,xb7,xb8,xb9,xb10,xb11,xb12,xb13,xb14,xb15,xb16,xb17⟩:=XB.all))
 go_ret;exact ⟨rfl,hb⟩
def AM.eqs (v u:AM):Bool:=decide (v.a=u.a) && (decide (v.b=u.b) && (decide (v.c=u.c) && (decide (v.d=u.d) && (decide (v.e=u.e) && decide (v.f=u.f)))))
theorem mats_p {k l k2 l2:Nat} {v u:AM} {m n:MV} (M:MG w m v k l) (N:MG w n u k2 l2) (hn:((m.a.n≤maxLen∧m.a.m≤maxLen)∧(m.b.n≤maxLen∧m.b.m≤maxLen)∧(m.c.n≤maxLen∧m.c.m≤maxLen)∧(m.d.n≤maxLen∧m.d.m≤maxLen)∧(m.e.n≤maxLen∧m.e.m≤maxLen)∧(m.f.n≤maxLen∧m.f.m≤maxLen))) (R:Bool) (hR:v.eqs u=R) :
 Calls Tryz.prog 49 #[.agg #[.bool m.a.s,.slice m.a.A m.a.n m.a.c,.slice m.a.B m.a.m m.a.d,.bool m.b.s,.slice m.b.A m.b.n m.b.c,.slice m.b.B m.b.m m.b.d,.bool m.c.s,.slice m.c.A m.c.n m.c.c,.slice m.c.B m.c.m m.c.d,.bool m.d.s,.slice m.d.A m.d.n m.d.c,.slice m.d.B m.d.m m.d.d,.bool m.e.s,.slice m.e.A m.e.n m.e.c,.slice m.e.B m.e.m m.e.d,.bool m.f.s,.slice m.f.A m.f.n m.f.c,.slice m.f.B m.f.m m.f.d],.agg #[.bool n.a.s,.slice n.a.A n.a.n n.a.c,.slice n.a.B n.a.m n.a.d,.bool n.b.s,.slice n.b.A n.b.n n.b.c,.slice n.b.B n.b.m n.b.d,.bool n.c.s,.slice n.c.A n.c.n n.c.c,.slice n.c.B n.c.m n.c.d,.bool n.d.s,.slice n.d.A n.d.n n.d.c,.slice n.d.B n.d.m n.d.d,.bool n.e.s,.slice n.e.A n.e.n n.e.c,.slice n.e.B n.e.m n.e.d,.bool n.f.s,.slice n.f.A n.f.n n.f.c,.slice n.f.B n.f.m n.f.d]] w fun e w'=>e=.returned (.bool R)∧Below w.heap.size w w':=by
 subst hR
 unfold AM.eqs
 cases e0:decide (v.a=u.a) with
 | false=>exact mats_0 M N hn e0
 | true =>
   cases e1:decide (v.b=u.b) with
   | false=>exact mats_1 M N hn e0 e1
   | true =>
     cases e2:decide (v.c=u.c) with
     | false=>exact mats_2 M N hn e0 e1 e2
     | true =>
       cases e3:decide (v.d=u.d) with
       | false=>exact mats_3 M N hn e0 e1 e2 e3
       | true =>
         cases e4:decide (v.e=u.e) with
         | false=>exact mats_4 M N hn e0 e1 e2 e3 e4
         | true =>
           cases e5:decide (v.f=u.f) with
           | false=>exact mats_5 M N hn e0 e1 e2 e3 e4 e5
           | true =>
             exact mats_6 M N hn e0 e1 e2 e3 e4 e5
theorem eqs_self (v:AM):v.eqs v=true:=by unfold AM.eqs;simp
theorem MG.len {k l:Nat} {v:AM} {m:MV} (h:MG w m v k l) (hk:k≤100000) (hl:l≤100000):((m.a.n≤maxLen∧m.a.m≤maxLen)∧(m.b.n≤maxLen∧m.b.m≤maxLen)∧(m.c.n≤maxLen∧m.c.m≤maxLen)∧(m.d.n≤maxLen∧m.d.m≤maxLen)∧(m.e.n≤maxLen∧m.e.m≤maxLen)∧(m.f.n≤maxLen∧m.f.m≤maxLen)):=by
 have a1:=h.1.1.1.2.2.2;have a2:=h.1.1.2.2.2;have b1:=h.1.2.1.2.2.2;have b2:=h.1.2.2.2.2;have c1:=h.2.1.1.1.2.2.2;have c2:=h.2.1.1.2.2.2;have d1:=h.2.1.2.1.2.2.2;have d2:=h.2.1.2.2.2.2;have e1:=h.2.2.1.1.2.2.2;have e2:=h.2.2.1.2.2.2;have f1:=h.2.2.2.1.2.2.2;have f2:=h.2.2.2.2.2.2
 unfold maxLen;omega
theorem mkbx41_15 {w W:World} {x0 x1 x2 x3 x4 x5 x6 x7 x8 x9 x10 x11 x12 x13 x14 x15 x16 x17 x18 x19 x20 x21 x22 x23 x24 x25 x26 x27 x28 x29 x30 x31 x32 x33 x34 x35:Value} (h:((w.alloc (Obj.cells #[x0,x1,x2,x3,x4,x5,x6,x7,x8,x9,x10,x11,x12,x13,x14,x15,x16,x17] 71)).alloc (Obj.cells #[x18,x19,x20,x21,x22,x23,x24,x25,x26,x27,x28,x29,x30,x31,x32,x33,x34,x35] 74))=W):Below w.heap.size w W∧B18 W (w.heap.size) x0 x1 x2 x3 x4 x5 x6 x7 x8 x9 x10 x11 x12 x13 x14 x15 x16 x17∧B18R W (w.heap.size+1) x18 x19 x20 x21 x22 x23 x24 x25 x26 x27 x28 x29 x30 x31 x32 x33 x34 x35∧W.heap.size=w.heap.size+2:=by subst h;exact ⟨by exact (((Below.refl _ _).alloc (Nat.le_refl _) _).alloc (by simp) _),by exact (B18.new' _ _ _ _ _ _ _ _ _ _ _ _ _ _ _ _ _ _ _ _ rfl).alloc _,by exact B18R.new' _ _ _ _ _ _ _ _ _ _ _ _ _ _ _ _ _ _ _ _ (by simp),by simp⟩
theorem lsame9 {k l k2 l2:Nat} {v u:AM} {m n:MV} (M:MG w m v k l) (N:RM w n u k2 l2) (hk:k≤100000) (hl:l≤100000) (hk2:k2≤100000) (hl2:l2≤100000) (hvu:v=u) :
 Calls Tryz.prog 41 #[.agg #[.bool m.a.s,.slice m.a.A m.a.n m.a.c,.slice m.a.B m.a.m m.a.d,.bool m.b.s,.slice m.b.A m.b.n m.b.c,.slice m.b.B m.b.m m.b.d,.bool m.c.s,.slice m.c.A m.c.n m.c.c,.slice m.c.B m.c.m m.c.d,.bool m.d.s,.slice m.d.A m.d.n m.d.c,.slice m.d.B m.d.m m.d.d,.bool m.e.s,.slice m.e.A m.e.n m.e.c,.slice m.e.B m.e.m m.e.d,.bool m.f.s,.slice m.f.A m.f.n m.f.c,.slice m.f.B m.f.m m.f.d],.agg #[.bool n.a.s,.slice n.a.A n.a.n n.a.c,.slice n.a.B n.a.m n.a.d,.bool n.b.s,.slice n.b.A n.b.n n.b.c,.slice n.b.B n.b.m n.b.d,.bool n.c.s,.slice n.c.A n.c.n n.c.c,.slice n.c.B n.c.m n.c.d,.bool n.d.s,.slice n.d.A n.d.n n.d.c,.slice n.d.B n.d.m n.d.d,.bool n.e.s,.slice n.e.A n.e.n n.e.c,.slice n.e.B n.e.m n.e.d,.bool n.f.s,.slice n.f.A n.f.n n.f.c,.slice n.f.B n.f.m n.f.d]] w fun e w'=>e=.returned (.bool true)∧Below w.heap.size w w':=by
 subst hvu
 have HN:=Lib.hid (M.len hk hl)
 obtain ⟨K,hK⟩:=v.fits_ex
 have HK:=Lib.hid hK;clear hK
 go_enter Tryz.func41,Tryz.ntmps41
 go_upto_region 1 with (fail)
 generalize hW:World.alloc _ _=W
 obtain ⟨hb,XA,XB,hzW⟩:=mkbx41_15 hW;clear hW;replace M:=M.below hb;replace N:=N.below hb
 replace M:=M.below (Below.refl _ _).drew
 replace N:=N.below (Below.refl _ _).drew
 replace XA:=XA.below (Below.refl _ _).drew
 replace XB:=XB.below (Below.refl _ _).drew
 replace hb:=hb.drew
 go_region_held3 (fun w'=>(LVM ⟨w.heap.size,0,none⟩).run Tryz.prog w'=.ok (.agg #[.bool m.a.s,.slice m.a.A m.a.n m.a.c,.slice m.a.B m.a.m m.a.d,.bool m.b.s,.slice m.b.A m.b.n m.b.c,.slice m.b.B m.b.m m.b.d,.bool m.c.s,.slice m.c.A m.c.n m.c.c,.slice m.c.B m.c.m m.c.d,.bool m.d.s,.slice m.d.A m.d.n m.d.c,.slice m.d.B m.d.m m.d.d,.bool m.e.s,.slice m.e.A m.e.n m.e.c,.slice m.e.B m.e.m m.e.d,.bool m.f.s,.slice m.f.A m.f.n m.f.c,.slice m.f.B m.f.m m.f.d]) w'∧(LVN ⟨w.heap.size+1,0,none⟩).run Tryz.prog w'=.ok (.agg #[.bool n.a.s,.slice n.a.A n.a.n n.a.c,.slice n.a.B n.a.m n.a.d,.bool n.b.s,.slice n.b.A n.b.n n.b.c,.slice n.b.B n.b.m n.b.d,.bool n.c.s,.slice n.c.A n.c.n n.c.c,.slice n.c.B n.c.m n.c.d,.bool n.d.s,.slice n.d.A n.d.n n.d.c,.slice n.d.B n.d.m n.d.d,.bool n.e.s,.slice n.e.A n.e.n n.e.c,.slice n.e.B n.e.m n.e.d,.bool n.f.s,.slice n.f.A n.f.n n.f.c,.slice n.f.B n.f.m n.f.d]) w')
  (first | with_reducible exact ⟨XA.ld,XB.ld⟩)
  (first
  | (go_at_call 50;(with_reducible refine (rout9 N hk2 hl2 HK.out).mono ?_);rintro e w_o ⟨o,rfl,oh,hh⟩
     (try replace M:=M.below hh);(try replace N:=N.below hh);(try replace XA:=XA.below hh);(try replace XB:=XB.below hh);replace hb:=bend hb hh)
  | (go_at_call 49;(with_reducible refine (mats_p M oh HN.out true (eqs_self _)).mono ?_);rintro e w_z ⟨rfl,hh⟩
     (try replace M:=M.below hh);(try replace N:=N.below hh);(try replace XA:=XA.below hh);(try replace XB:=XB.below hh);(try replace oh:=oh.below hh);replace hb:=bend hb hh))
 go_wp2_with fail
 go_ret;exact ⟨rfl,hb⟩
end
section
open Go Go.RowKit
attribute [local go_sem ↓] open_LVM open_STM open_LVN open_STN
theorem from_of (x u:Int) (hu:1≤u):fromQ x u=Rat.divInt x u:=by unfold fromQ;rw [if_neg (by omega)]
theorem of_rof (x0 x1 x2 x3 x4 x5:Int):AM.of x0 x1 x2 x3 x4 x5=AM.rof x0 x1 x2 x3 x4 x5:=by
 unfold AM.of AM.rof
 rw [from_of _ _ (by decide),from_of _ _ (by decide),from_of _ _ (by decide),from_of _ _ (by decide),from_of _ _ (by decide),from_of _ _ (by decide)]
theorem one_rone:AM.one=AM.rof 65536 0 0 65536 0 0:=by
 have e1:Rat.divInt 1 1=Rat.divInt 65536 65536:=by decide +kernel
 have e2:Rat.divInt 0 1=Rat.divInt 0 65536:=by decide +kernel
 have e3:Rat.divInt 0 1=Rat.divInt 0 64:=by decide +kernel
 unfold AM.one AM.rof
 rw [e1,← e2,← e3]
theorem mkbx42_15 {w W:World} {x0 x1 x2 x3 x4 x5:Value} (h:(w.alloc (Obj.cells #[x0,x1,x2,x3,x4,x5] 91))=W):Below w.heap.size w W∧BV6 W (w.heap.size) x0 x1 x2 x3 x4 x5∧W.heap.size=w.heap.size+1:=by subst h;exact ⟨by exact ((Below.refl _ _).alloc (Nat.le_refl _) _),by exact BV6.new' _ _ _ _ _ _ _ _ rfl,by simp⟩
theorem law_makes9 (x0 x1 x2 x3 x4 x5:Int) (hx01:-9223372036854775808≤x0) (hx02:x0 < 9223372036854775808) (hx11:-9223372036854775808≤x1) (hx12:x1 < 9223372036854775808) (hx21:-9223372036854775808≤x2) (hx22:x2 < 9223372036854775808) (hx31:-9223372036854775808≤x3) (hx32:x3 < 9223372036854775808) (hx41:-9223372036854775808≤x4) (hx42:x4 < 9223372036854775808) (hx51:-9223372036854775808≤x5) (hx52:x5 < 9223372036854775808) (w:World) :
 Calls Tryz.prog 7 #[.agg #[.int .i64 x0,.int .i64 x1,.int .i64 x2,.int .i64 x3,.int .i64 x4,.int .i64 x5]] w fun e w'=>e=.returned (.bool true)∧Below w.heap.size w w':=by
 have Hx01:=Lib.hid hx01;have Hx02:=Lib.hid hx02;have Hx11:=Lib.hid hx11;have Hx12:=Lib.hid hx12;have Hx21:=Lib.hid hx21;have Hx22:=Lib.hid hx22;have Hx31:=Lib.hid hx31;have Hx32:=Lib.hid hx32;have Hx41:=Lib.hid hx41;have Hx42:=Lib.hid hx42;have Hx51:=Lib.hid hx51;have Hx52:=Lib.hid hx52;clear hx01 hx02 hx11 hx12 hx21 hx22 hx31 hx32 hx41 hx42 hx51 hx52
 go_enter Tryz.func7,Tryz.ntmps7
 go_upto_region 1 with (fail)
 generalize hW:World.alloc _ _=W
 obtain ⟨hb,XA,hzW⟩:=mkbx42_15 hW;clear hW
 replace XA:=XA.below (Below.refl _ _).drew
 replace hb:=hb.drew
 go_region_held3 (fun w'=>w'.cell? ⟨w.heap.size,0,none⟩=some (.int .i64 x0)∧w'.cell? ⟨w.heap.size,1,none⟩=some (.int .i64 x1)∧w'.cell? ⟨w.heap.size,2,none⟩=some (.int .i64 x2)∧w'.cell? ⟨w.heap.size,3,none⟩=some (.int .i64 x3)∧w'.cell? ⟨w.heap.size,4,none⟩=some (.int .i64 x4)∧w'.cell? ⟨w.heap.size,5,none⟩=some (.int .i64 x5))
  (first | with_reducible exact ⟨XA.c0,XA.c1,XA.c2,XA.c3,XA.c4,XA.c5⟩)
  (first
  | (go_at_call 51;(with_reducible refine (mof_p x0 x1 x2 x3 x4 x5 Hx01.out Hx02.out Hx11.out Hx12.out Hx21.out Hx22.out Hx31.out Hx32.out Hx41.out Hx42.out Hx51.out Hx52.out _).mono ?_);rintro e w_m ⟨m,rfl,mh,hh⟩
     (try replace XA:=XA.below hh);replace hb:=bend hb hh)
  | (go_at_call 52;(with_reducible refine (rof9 x0 x1 x2 x3 x4 x5 Hx01.out Hx02.out Hx11.out Hx12.out Hx21.out Hx22.out Hx31.out Hx32.out Hx41.out Hx42.out Hx51.out Hx52.out _).mono ?_);rintro e w_n ⟨n,rfl,nh,hh⟩
     (try replace XA:=XA.below hh);(try replace mh:=mh.below hh);replace hb:=bend hb hh)
  | (go_at_call 41;(with_reducible refine (lsame9 mh nh (by decide) (by decide) (by decide) (by decide) (of_rof x0 x1 x2 x3 x4 x5)).mono ?_);rintro e w_z ⟨rfl,hh⟩
     (try replace XA:=XA.below hh);(try replace mh:=mh.below hh);(try replace nh:=nh.below hh);replace hb:=bend hb hh;clear mh nh)
  | (go_at_call 53;(with_reducible refine (mone_p _).mono ?_);rintro e w_o ⟨o,rfl,oh,hh⟩
     (try replace XA:=XA.below hh);replace hb:=bend hb hh)
  | (go_at_call 54;(with_reducible refine (rone9 _).mono ?_);rintro e w_u ⟨u,rfl,uh,hh⟩
     (try replace XA:=XA.below hh);(try replace oh:=oh.below hh);replace hb:=bend hb hh)
  | (go_at_call 41;(with_reducible refine (lsame9 oh uh (by decide) (by decide) (by decide) (by decide) one_rone).mono ?_);rintro e w_z ⟨rfl,hh⟩
     (try replace XA:=XA.below hh);(try replace oh:=oh.below hh);(try replace uh:=uh.below hh);replace hb:=bend hb hh;clear oh uh)
  | (go_at_call 36;(with_reducible refine (wakes9_any _).mono ?_);rintro e w_z ⟨rfl,hh⟩
     (try replace XA:=XA.below hh);replace hb:=bend hb hh))
 go_wp2_with fail
 go_ret;exact ⟨rfl,hb⟩
end
section
open Go Go.ChangeShapes Go.WideShapes Go.ChangeAt Go.RowKit
theorem okWide_array {P:Program} {r:Reach} {base:Nat} {t:TypeId} {v:Value} {n:Nat} {e:TypeId} (ht:P.underlying t=some (.array n e)) (h:Value.okWide P w r base t v):∃ cs,v=.agg cs∧cs.size=P.cellsOf t:=by
 unfold Value.okWide at h
 simp only [ht] at h
 obtain ⟨cs,rfl,h1,_⟩:=h
 exact ⟨cs,rfl,h1⟩
end
section
open Go Go.ChangeShapes Go.WideShapes Go.ChangeAt Go.RowKit
def MRows (w:World) (m:MV):Prop:=(∃ zs,IsRow64 w m.a.A m.a.n m.a.c zs)∧(∃ zs,IsRow64 w m.a.B m.a.m m.a.d zs)∧(∃ zs,IsRow64 w m.b.A m.b.n m.b.c zs)∧(∃ zs,IsRow64 w m.b.B m.b.m m.b.d zs)∧(∃ zs,IsRow64 w m.c.A m.c.n m.c.c zs)∧(∃ zs,IsRow64 w m.c.B m.c.m m.c.d zs)∧(∃ zs,IsRow64 w m.d.A m.d.n m.d.c zs)∧(∃ zs,IsRow64 w m.d.B m.d.m m.d.d zs)∧(∃ zs,IsRow64 w m.e.A m.e.n m.e.c zs)∧(∃ zs,IsRow64 w m.e.B m.e.m m.e.d zs)∧(∃ zs,IsRow64 w m.f.A m.f.n m.f.c zs)∧(∃ zs,IsRow64 w m.f.B m.f.m m.f.d zs)
theorem open_l6 {H:Type} {enc:TypeId × Value→H} {base:Nat} {held:Bool} {r:Reach} {b0:Nat} {v:Value} {d:DataW H} {p:List MemPlace}
 (hv:Value.okWide Tryz.prog w r b0 91 v) (h:DataW.Trod enc Tryz.prog w base (fun _=>true) held 91 v d p) :
 ∃ a0 a1 a2 a3 a4 a5:Int,v=.agg #[.int .i64 a0,.int .i64 a1,.int .i64 a2,.int .i64 a3,.int .i64 a4,.int .i64 a5]∧(-9223372036854775808≤a0∧a0 < 9223372036854775808)∧(-9223372036854775808≤a1∧a1 < 9223372036854775808)∧(-9223372036854775808≤a2∧a2 < 9223372036854775808)∧(-9223372036854775808≤a3∧a3 < 9223372036854775808)∧(-9223372036854775808≤a4∧a4 < 9223372036854775808)∧(-9223372036854775808≤a5∧a5 < 9223372036854775808):=by
 have e0:Tryz.prog.cellsOf 2=1:=by kernel_rfl
 obtain ⟨cs,rfl,hsz⟩:=okWide_array Tryz.underlying91 hv
 have hsz6:cs.size=6:=hsz.trans (by kernel_rfl)
 obtain ⟨x0,x1,x2,x3,x4,x5,rfl⟩:∃ x0 x1 x2 x3 x4 x5,cs=#[x0,x1,x2,x3,x4,x5]:=by
  obtain ⟨l⟩:=cs
  match l,hsz6 with
  | [a,b,c,d,e,f],_=>exact ⟨a,b,c,d,e,f,rfl⟩
 obtain ⟨fuel,hf⟩:=h
 obtain ⟨xs,m,_,hx,_,hl,hi⟩:=DataW.trod_array Tryz.underlying91 hf
 have h0:=hi 0 (by decide)
 have h1:=hi 1 (by decide)
 have h2:=hi 2 (by decide)
 have h3:=hi 3 (by decide)
 have h4:=hi 4 (by decide)
 have h5:=hi 5 (by decide)
 match xs,hl with
 | [y0,y1,y2,y3,y4,y5],_ =>
   simp [Value.cells,e0] at h0 h1 h2 h3 h4 h5
   obtain ⟨n0,hn0,_,hw0⟩:=DataW.trod_int Tryz.underlying2 h0
   cases hn0
   have g0:=bounds_i64 hw0
   obtain ⟨n1,hn1,_,hw1⟩:=DataW.trod_int Tryz.underlying2 h1
   cases hn1
   have g1:=bounds_i64 hw1
   obtain ⟨n2,hn2,_,hw2⟩:=DataW.trod_int Tryz.underlying2 h2
   cases hn2
   have g2:=bounds_i64 hw2
   obtain ⟨n3,hn3,_,hw3⟩:=DataW.trod_int Tryz.underlying2 h3
   cases hn3
   have g3:=bounds_i64 hw3
   obtain ⟨n4,hn4,_,hw4⟩:=DataW.trod_int Tryz.underlying2 h4
   cases hn4
   have g4:=bounds_i64 hw4
   obtain ⟨n5,hn5,_,hw5⟩:=DataW.trod_int Tryz.underlying2 h5
   cases hn5
   have g5:=bounds_i64 hw5
   exact ⟨n0,n1,n2,n3,n4,n5,rfl,by omega,by omega,by omega,by omega,by omega,by omega⟩
theorem MRows.mr {m:MV} (h:MRows w m):∃ v:AM,((((m.a.n≤6∧m.a.m≤6)∧m.b.n≤6∧m.b.m≤6)∧(((m.c.n≤6∧m.c.m≤6)∧m.d.n≤6∧m.d.m≤6))∧(((m.e.n≤6∧m.e.m≤6)∧m.f.n≤6∧m.f.m≤6)))→MR w m v 6 6):=by
 obtain ⟨⟨_,ra⟩,⟨_,ta⟩,⟨_,rb⟩,⟨_,tb⟩,⟨_,rc⟩,⟨_,tc⟩,⟨_,rd⟩,⟨_,td⟩,⟨_,re⟩,⟨_,te⟩,⟨_,rf⟩,⟨_,tf⟩⟩:=h
 obtain ⟨lia,pa,sa,ea,_⟩:=ra.rd
 obtain ⟨lja,qa,ua,ga,_⟩:=ta.rd
 obtain ⟨lib,pb,sb,eb,_⟩:=rb.rd
 obtain ⟨ljb,qb,ub,gb,_⟩:=tb.rd
 obtain ⟨lic,pc,sc,ec,_⟩:=rc.rd
 obtain ⟨ljc,qc,uc,gc,_⟩:=tc.rd
 obtain ⟨lid,pd,sd,ed,_⟩:=rd.rd
 obtain ⟨ljd,qd,ud,gd,_⟩:=td.rd
 obtain ⟨lie,pe,se,ee,_⟩:=re.rd
 obtain ⟨lje,qe,ue,ge,_⟩:=te.rd
 obtain ⟨lif,pf,sf,ef,_⟩:=rf.rd
 obtain ⟨ljf,qf,uf,gf,_⟩:=tf.rd
 exact ⟨⟨_,_,_,_,_,_⟩,fun k=>⟨⟨QR.of_rd pa sa ea qa ua ga k.1.1.1 k.1.1.2,QR.of_rd pb sb eb qb ub gb k.1.2.1 k.1.2.2⟩,⟨QR.of_rd pc sc ec qc uc gc k.2.1.1.1 k.2.1.1.2,QR.of_rd pd sd ed qd ud gd k.2.1.2.1 k.2.1.2.2⟩,⟨QR.of_rd pe se ee qe ue ge k.2.2.1.1 k.2.2.1.2,QR.of_rd pf sf ef qf uf gf k.2.2.2.1 k.2.2.2.2⟩⟩⟩
end
end Go.Proofs.YtgneghgfpkkkdaaGreat
