/- MatDoes: part 16. -/
import Derived.Test.YtgneghgfpkkkdaaGreatKMatDoes12
import Derived.Test.YtgneghgfpkkkdaaGreatKMatDoes15
set_option linter.unusedVariables false
set_option maxRecDepth 100000
set_option maxHeartbeats 16000000
variable {w:Go.World}
variable {s_p t_p:Bool} {A_p B_p E_p F_p:Option Go.Addr} {n_p c_p m_p d_p i_p e_p j_p f_p:Nat}
variable {s_a:Bool} {A_a B_a:Option Go.Addr} {n_a c_a m_a d_a:Nat}
variable {s_c:Bool} {A_c B_c:Option Go.Addr} {n_c c_c m_c d_c:Nat}
variable {s_e:Bool} {A_e B_e:Option Go.Addr} {n_e c_e m_e d_e:Nat}
variable {s_x:Bool} {A_x B_x:Option Go.Addr} {n_x c_x m_x d_x:Nat}
variable {s_y:Bool} {A_y B_y:Option Go.Addr} {n_y c_y m_y d_y:Nat}
namespace Go.Proofs.YtgneghgfpkkkdaaGreat
section
open Go Go.RowKit
attribute [local go_sem ↓] open_LVM open_STM open_LVN open_STN
def AM.fits (v:AM) (K:Nat):Prop:=(v.a.num.natAbs < B64 ^ K∧v.a.den < B64 ^ K)∧(v.b.num.natAbs < B64 ^ K∧v.b.den < B64 ^ K)∧(v.c.num.natAbs < B64 ^ K∧v.c.den < B64 ^ K)∧(v.d.num.natAbs < B64 ^ K∧v.d.den < B64 ^ K)∧(v.e.num.natAbs < B64 ^ K∧v.e.den < B64 ^ K)∧v.f.num.natAbs < B64 ^ K∧v.f.den < B64 ^ K
theorem AM.fits_ex (v:AM):∃ K,v.fits K:=by
 have h:∀ n m:Nat,n≤m→n < B64 ^ m:=fun n m h=>Nat.lt_of_lt_of_le (Nat.lt_pow_self (by decide)) (Nat.pow_le_pow_right (by decide) h)
 exact ⟨v.a.num.natAbs+v.a.den+(v.b.num.natAbs+v.b.den)+(v.c.num.natAbs+v.c.den)+(v.d.num.natAbs+v.d.den)+(v.e.num.natAbs+v.e.den)+(v.f.num.natAbs+v.f.den),⟨h _ _ (by omega),h _ _ (by omega)⟩,⟨h _ _ (by omega),h _ _ (by omega)⟩,⟨h _ _ (by omega),h _ _ (by omega)⟩,⟨h _ _ (by omega),h _ _ (by omega)⟩,⟨h _ _ (by omega),h _ _ (by omega)⟩,h _ _ (by omega),h _ _ (by omega)⟩
theorem mkbx47_16 {w W:World} {x0 x1 x2 x3 x4 x5 x6 x7 x8 x9 x10 x11 x12 x13 x14 x15 x16 x17 x18 x19 x20 x21 x22 x23 x24 x25 x26 x27 x28 x29 x30 x31 x32 x33 x34 x35:Value} (h:((w.alloc (Obj.cells #[x0,x1,x2,x3,x4,x5,x6,x7,x8,x9,x10,x11,x12,x13,x14,x15,x16,x17] 71)).alloc (Obj.cells #[x18,x19,x20,x21,x22,x23,x24,x25,x26,x27,x28,x29,x30,x31,x32,x33,x34,x35] 74))=W):Below w.heap.size w W∧B18 W (w.heap.size) x0 x1 x2 x3 x4 x5 x6 x7 x8 x9 x10 x11 x12 x13 x14 x15 x16 x17∧B18R W (w.heap.size+1) x18 x19 x20 x21 x22 x23 x24 x25 x26 x27 x28 x29 x30 x31 x32 x33 x34 x35∧W.heap.size=w.heap.size+2:=by subst h;exact ⟨by exact (((Below.refl _ _).alloc (Nat.le_refl _) _).alloc (by simp) _),by exact (B18.new' _ _ _ _ _ _ _ _ _ _ _ _ _ _ _ _ _ _ _ _ rfl).alloc _,by exact B18R.new' _ _ _ _ _ _ _ _ _ _ _ _ _ _ _ _ _ _ _ _ (by simp),by simp⟩
theorem rin9 {k l:Nat} {v:AM} {m:MV} (M:MR w m v k l) (hk:k≤1000) (hl:l≤1000) (h1:1≤k) (h3:1≤l) :
 Calls Tryz.prog 37 #[.agg #[.bool m.a.s,.slice m.a.A m.a.n m.a.c,.slice m.a.B m.a.m m.a.d,.bool m.b.s,.slice m.b.A m.b.n m.b.c,.slice m.b.B m.b.m m.b.d,.bool m.c.s,.slice m.c.A m.c.n m.c.c,.slice m.c.B m.c.m m.c.d,.bool m.d.s,.slice m.d.A m.d.n m.d.c,.slice m.d.B m.d.m m.d.d,.bool m.e.s,.slice m.e.A m.e.n m.e.c,.slice m.e.B m.e.m m.e.d,.bool m.f.s,.slice m.f.A m.f.n m.f.c,.slice m.f.B m.f.m m.f.d]] w (GivesRM w v (2*k) (2*l)):=by
 go_enter Tryz.func37,Tryz.ntmps37
 go_upto_region 1 with (fail)
 generalize hW:World.alloc _ _=W
 obtain ⟨hb,XA,Z,hzW⟩:=mkbx47_16 hW;clear hW;replace M:=M.below hb
 replace M:=M.below (Below.refl _ _).drew
 replace XA:=XA.below (Below.refl _ _).drew
 replace Z:=Z.below (Below.refl _ _).drew
 replace hb:=hb.drew
 go_region_held3 (fun w'=>w'.cell? ⟨w.heap.size,0,none⟩=some (.bool m.a.s)∧w'.cell? ⟨w.heap.size,1,none⟩=some (.slice m.a.A m.a.n m.a.c)∧w'.cell? ⟨w.heap.size,2,none⟩=some (.slice m.a.B m.a.m m.a.d)∧w'.cell? ⟨w.heap.size,3,none⟩=some (.bool m.b.s)∧w'.cell? ⟨w.heap.size,4,none⟩=some (.slice m.b.A m.b.n m.b.c)∧w'.cell? ⟨w.heap.size,5,none⟩=some (.slice m.b.B m.b.m m.b.d)∧w'.cell? ⟨w.heap.size,6,none⟩=some (.bool m.c.s)∧w'.cell? ⟨w.heap.size,7,none⟩=some (.slice m.c.A m.c.n m.c.c)∧w'.cell? ⟨w.heap.size,8,none⟩=some (.slice m.c.B m.c.m m.c.d)∧w'.cell? ⟨w.heap.size,9,none⟩=some (.bool m.d.s)∧w'.cell? ⟨w.heap.size,10,none⟩=some (.slice m.d.A m.d.n m.d.c)∧w'.cell? ⟨w.heap.size,11,none⟩=some (.slice m.d.B m.d.m m.d.d)∧w'.cell? ⟨w.heap.size,12,none⟩=some (.bool m.e.s)∧w'.cell? ⟨w.heap.size,13,none⟩=some (.slice m.e.A m.e.n m.e.c)∧w'.cell? ⟨w.heap.size,14,none⟩=some (.slice m.e.B m.e.m m.e.d)∧w'.cell? ⟨w.heap.size,15,none⟩=some (.bool m.f.s)∧w'.cell? ⟨w.heap.size,16,none⟩=some (.slice m.f.A m.f.n m.f.c)∧w'.cell? ⟨w.heap.size,17,none⟩=some (.slice m.f.B m.f.m m.f.d))
  (first | with_reducible exact ⟨XA.c0,XA.c1,XA.c2,XA.c3,XA.c4,XA.c5,XA.c6,XA.c7,XA.c8,XA.c9,XA.c10,XA.c11,XA.c12,XA.c13,XA.c14,XA.c15,XA.c16,XA.c17⟩ | with_reducible exact ⟨(XA.restm (by omega) (only_set18 _ _ _ _ _ _ _ _ _ _ _ _ _ _ _ _ _ _ _ _)).c0,(XA.restm (by omega) (only_set18 _ _ _ _ _ _ _ _ _ _ _ _ _ _ _ _ _ _ _ _)).c1,(XA.restm (by omega) (only_set18 _ _ _ _ _ _ _ _ _ _ _ _ _ _ _ _ _ _ _ _)).c2,(XA.restm (by omega) (only_set18 _ _ _ _ _ _ _ _ _ _ _ _ _ _ _ _ _ _ _ _)).c3,(XA.restm (by omega) (only_set18 _ _ _ _ _ _ _ _ _ _ _ _ _ _ _ _ _ _ _ _)).c4,(XA.restm (by omega) (only_set18 _ _ _ _ _ _ _ _ _ _ _ _ _ _ _ _ _ _ _ _)).c5,(XA.restm (by omega) (only_set18 _ _ _ _ _ _ _ _ _ _ _ _ _ _ _ _ _ _ _ _)).c6,(XA.restm (by omega) (only_set18 _ _ _ _ _ _ _ _ _ _ _ _ _ _ _ _ _ _ _ _)).c7,(XA.restm (by omega) (only_set18 _ _ _ _ _ _ _ _ _ _ _ _ _ _ _ _ _ _ _ _)).c8,(XA.restm (by omega) (only_set18 _ _ _ _ _ _ _ _ _ _ _ _ _ _ _ _ _ _ _ _)).c9,(XA.restm (by omega) (only_set18 _ _ _ _ _ _ _ _ _ _ _ _ _ _ _ _ _ _ _ _)).c10,(XA.restm (by omega) (only_set18 _ _ _ _ _ _ _ _ _ _ _ _ _ _ _ _ _ _ _ _)).c11,(XA.restm (by omega) (only_set18 _ _ _ _ _ _ _ _ _ _ _ _ _ _ _ _ _ _ _ _)).c12,(XA.restm (by omega) (only_set18 _ _ _ _ _ _ _ _ _ _ _ _ _ _ _ _ _ _ _ _)).c13,(XA.restm (by omega) (only_set18 _ _ _ _ _ _ _ _ _ _ _ _ _ _ _ _ _ _ _ _)).c14,(XA.restm (by omega) (only_set18 _ _ _ _ _ _ _ _ _ _ _ _ _ _ _ _ _ _ _ _)).c15,(XA.restm (by omega) (only_set18 _ _ _ _ _ _ _ _ _ _ _ _ _ _ _ _ _ _ _ _)).c16,(XA.restm (by omega) (only_set18 _ _ _ _ _ _ _ _ _ _ _ _ _ _ _ _ _ _ _ _)).c17⟩)
  (first
  | (go_at_call 88;(with_reducible refine (rin3 M.ab.qx hk h1).mono ?_);rintro e w_r1 ⟨s_r1,A_r1,n_r1,c_r1,B_r1,m_r1,d_r1,rfl,r1,hh⟩
     (try replace M:=M.below hh);(try replace XA:=XA.below hh);(try replace Z:=Z.below hh);replace hb:=bend hb hh)
  | (go_at_call 88;(with_reducible refine (rin3 M.ab.qy hk h1).mono ?_);rintro e w_r2 ⟨s_r2,A_r2,n_r2,c_r2,B_r2,m_r2,d_r2,rfl,r2,hh⟩
     (try replace M:=M.below hh);(try replace XA:=XA.below hh);(try replace Z:=Z.below hh);(try replace r1:=r1.below hh);replace hb:=bend hb hh)
  | (go_at_call 88;(with_reducible refine (rin3 M.cd.qx hk h1).mono ?_);rintro e w_r3 ⟨s_r3,A_r3,n_r3,c_r3,B_r3,m_r3,d_r3,rfl,r3,hh⟩
     (try replace M:=M.below hh);(try replace XA:=XA.below hh);(try replace Z:=Z.below hh);(try replace r1:=r1.below hh);(try replace r2:=r2.below hh);replace hb:=bend hb hh)
  | (go_at_call 88;(with_reducible refine (rin3 M.cd.qy hk h1).mono ?_);rintro e w_r4 ⟨s_r4,A_r4,n_r4,c_r4,B_r4,m_r4,d_r4,rfl,r4,hh⟩
     (try replace M:=M.below hh);(try replace XA:=XA.below hh);(try replace Z:=Z.below hh);(try replace r1:=r1.below hh);(try replace r2:=r2.below hh);(try replace r3:=r3.below hh);replace hb:=bend hb hh)
  | (go_at_call 88;(with_reducible refine (rin3 M.ef.qx hl h3).mono ?_);rintro e w_r5 ⟨s_r5,A_r5,n_r5,c_r5,B_r5,m_r5,d_r5,rfl,r5,hh⟩
     (try replace M:=M.below hh);(try replace XA:=XA.below hh);(try replace Z:=Z.below hh);(try replace r1:=r1.below hh);(try replace r2:=r2.below hh);(try replace r3:=r3.below hh);(try replace r4:=r4.below hh);replace hb:=bend hb hh)
  | (go_at_call 88;(with_reducible refine (rin3 M.ef.qy hl h3).mono ?_);rintro e w_r6 ⟨s_r6,A_r6,n_r6,c_r6,B_r6,m_r6,d_r6,rfl,r6,hh⟩
     (try replace M:=M.below hh);(try replace XA:=XA.below hh);(try replace Z:=Z.below hh);(try replace r1:=r1.below hh);(try replace r2:=r2.below hh);(try replace r3:=r3.below hh);(try replace r4:=r4.below hh);(try replace r5:=r5.below hh);replace hb:=bend hb hh
     have zst:=Z.st (.bool s_r1) (.slice A_r1 n_r1 c_r1) (.slice B_r1 m_r1 d_r1) (.bool s_r2) (.slice A_r2 n_r2 c_r2) (.slice B_r2 m_r2 d_r2) (.bool s_r3) (.slice A_r3 n_r3 c_r3) (.slice B_r3 m_r3 d_r3) (.bool s_r4) (.slice A_r4 n_r4 c_r4) (.slice B_r4 m_r4 d_r4) (.bool s_r5) (.slice A_r5 n_r5 c_r5) (.slice B_r5 m_r5 d_r5) (.bool s_r6) (.slice A_r6 n_r6 c_r6) (.slice B_r6 m_r6 d_r6) (by simp [Value.oneCell'])))
 go_wp2_with fail
 have Z2:=Z.set18 (.bool s_r1) (.slice A_r1 n_r1 c_r1) (.slice B_r1 m_r1 d_r1) (.bool s_r2) (.slice A_r2 n_r2 c_r2) (.slice B_r2 m_r2 d_r2) (.bool s_r3) (.slice A_r3 n_r3 c_r3) (.slice B_r3 m_r3 d_r3) (.bool s_r4) (.slice A_r4 n_r4 c_r4) (.slice B_r4 m_r4 d_r4) (.bool s_r5) (.slice A_r5 n_r5 c_r5) (.slice B_r5 m_r5 d_r5) (.bool s_r6) (.slice A_r6 n_r6 c_r6) (.slice B_r6 m_r6 d_r6)
 have gl:=Z2.ld
 refine bodyPost_ret (v:=.agg #[.bool s_r1,.slice A_r1 n_r1 c_r1,.slice B_r1 m_r1 d_r1,.bool s_r2,.slice A_r2 n_r2 c_r2,.slice B_r2 m_r2 d_r2,.bool s_r3,.slice A_r3 n_r3 c_r3,.slice B_r3 m_r3 d_r3,.bool s_r4,.slice A_r4 n_r4 c_r4,.slice B_r4 m_r4 d_r4,.bool s_r5,.slice A_r5 n_r5 c_r5,.slice B_r5 m_r5 d_r5,.bool s_r6,.slice A_r6 n_r6 c_r6,.slice B_r6 m_r6 d_r6]) (res_N Tryz.results37 _ _ (by simp) gl) rfl ?_
 exact ⟨⟨⟨s_r1,A_r1,n_r1,c_r1,B_r1,m_r1,d_r1⟩,⟨s_r2,A_r2,n_r2,c_r2,B_r2,m_r2,d_r2⟩,⟨s_r3,A_r3,n_r3,c_r3,B_r3,m_r3,d_r3⟩,⟨s_r4,A_r4,n_r4,c_r4,B_r4,m_r4,d_r4⟩,⟨s_r5,A_r5,n_r5,c_r5,B_r5,m_r5,d_r5⟩,⟨s_r6,A_r6,n_r6,c_r6,B_r6,m_r6,d_r6⟩⟩,rfl,RM.set18 (m:=⟨⟨s_r1,A_r1,n_r1,c_r1,B_r1,m_r1,d_r1⟩,⟨s_r2,A_r2,n_r2,c_r2,B_r2,m_r2,d_r2⟩,⟨s_r3,A_r3,n_r3,c_r3,B_r3,m_r3,d_r3⟩,⟨s_r4,A_r4,n_r4,c_r4,B_r4,m_r4,d_r4⟩,⟨s_r5,A_r5,n_r5,c_r5,B_r5,m_r5,d_r5⟩,⟨s_r6,A_r6,n_r6,c_r6,B_r6,m_r6,d_r6⟩⟩) (v:=v) ⟨⟨r1,r2⟩,⟨r3,r4⟩,⟨r5,r6⟩⟩ Z _ _ _ _ _ _ _ _ _ _ _ _ _ _ _ _ _ _,below_set18 hb (by omega) _ _ _ _ _ _ _ _ _ _ _ _ _ _ _ _ _ _⟩
theorem mkbx48_16 {w W:World} {x0 x1 x2 x3 x4 x5 x6 x7 x8 x9 x10 x11 x12 x13 x14 x15 x16 x17 x18 x19 x20 x21 x22 x23 x24 x25 x26 x27 x28 x29 x30 x31 x32 x33 x34 x35:Value} (h:((w.alloc (Obj.cells #[x0,x1,x2,x3,x4,x5,x6,x7,x8,x9,x10,x11,x12,x13,x14,x15,x16,x17] 74)).alloc (Obj.cells #[x18,x19,x20,x21,x22,x23,x24,x25,x26,x27,x28,x29,x30,x31,x32,x33,x34,x35] 71))=W):Below w.heap.size w W∧B18R W (w.heap.size) x0 x1 x2 x3 x4 x5 x6 x7 x8 x9 x10 x11 x12 x13 x14 x15 x16 x17∧B18 W (w.heap.size+1) x18 x19 x20 x21 x22 x23 x24 x25 x26 x27 x28 x29 x30 x31 x32 x33 x34 x35∧W.heap.size=w.heap.size+2:=by subst h;exact ⟨by exact (((Below.refl _ _).alloc (Nat.le_refl _) _).alloc (by simp) _),by exact (B18R.new' _ _ _ _ _ _ _ _ _ _ _ _ _ _ _ _ _ _ _ _ rfl).alloc _,by exact B18.new' _ _ _ _ _ _ _ _ _ _ _ _ _ _ _ _ _ _ _ _ (by simp),by simp⟩
theorem rout9 {k l K:Nat} {v:AM} {m:MV} (M:RM w m v k l) (hk:k≤100000) (hl:l≤100000) (hK:v.fits K) :
 Calls Tryz.prog 50 #[.agg #[.bool m.a.s,.slice m.a.A m.a.n m.a.c,.slice m.a.B m.a.m m.a.d,.bool m.b.s,.slice m.b.A m.b.n m.b.c,.slice m.b.B m.b.m m.b.d,.bool m.c.s,.slice m.c.A m.c.n m.c.c,.slice m.c.B m.c.m m.c.d,.bool m.d.s,.slice m.d.A m.d.n m.d.c,.slice m.d.B m.d.m m.d.d,.bool m.e.s,.slice m.e.A m.e.n m.e.c,.slice m.e.B m.e.m m.e.d,.bool m.f.s,.slice m.f.A m.f.n m.f.c,.slice m.f.B m.f.m m.f.d]] w (GivesMt w v K K):=by
 have HK:Hid ((v.a.num.natAbs < B64 ^ K∧v.a.den < B64 ^ K)∧(v.b.num.natAbs < B64 ^ K∧v.b.den < B64 ^ K)∧(v.c.num.natAbs < B64 ^ K∧v.c.den < B64 ^ K)∧(v.d.num.natAbs < B64 ^ K∧v.d.den < B64 ^ K)∧(v.e.num.natAbs < B64 ^ K∧v.e.den < B64 ^ K)∧v.f.num.natAbs < B64 ^ K∧v.f.den < B64 ^ K):=hK
 clear hK
 go_enter Tryz.func50,Tryz.ntmps50
 go_upto_region 1 with (fail)
 generalize hW:World.alloc _ _=W
 obtain ⟨hb,XA,Z,hzW⟩:=mkbx48_16 hW;clear hW;replace M:=M.below hb
 replace M:=M.below (Below.refl _ _).drew
 replace XA:=XA.below (Below.refl _ _).drew
 replace Z:=Z.below (Below.refl _ _).drew
 replace hb:=hb.drew
 go_region_held3 (fun w'=>w'.cell? ⟨w.heap.size,0,none⟩=some (.bool m.a.s)∧w'.cell? ⟨w.heap.size,1,none⟩=some (.slice m.a.A m.a.n m.a.c)∧w'.cell? ⟨w.heap.size,2,none⟩=some (.slice m.a.B m.a.m m.a.d)∧w'.cell? ⟨w.heap.size,3,none⟩=some (.bool m.b.s)∧w'.cell? ⟨w.heap.size,4,none⟩=some (.slice m.b.A m.b.n m.b.c)∧w'.cell? ⟨w.heap.size,5,none⟩=some (.slice m.b.B m.b.m m.b.d)∧w'.cell? ⟨w.heap.size,6,none⟩=some (.bool m.c.s)∧w'.cell? ⟨w.heap.size,7,none⟩=some (.slice m.c.A m.c.n m.c.c)∧w'.cell? ⟨w.heap.size,8,none⟩=some (.slice m.c.B m.c.m m.c.d)∧w'.cell? ⟨w.heap.size,9,none⟩=some (.bool m.d.s)∧w'.cell? ⟨w.heap.size,10,none⟩=some (.slice m.d.A m.d.n m.d.c)∧w'.cell? ⟨w.heap.size,11,none⟩=some (.slice m.d.B m.d.m m.d.d)∧w'.cell? ⟨w.heap.size,12,none⟩=some (.bool m.e.s)∧w'.cell? ⟨w.heap.size,13,none⟩=some (.slice m.e.A m.e.n m.e.c)∧w'.cell? ⟨w.heap.size,14,none⟩=some (.slice m.e.B m.e.m m.e.d)∧w'.cell? ⟨w.heap.size,15,none⟩=some (.bool m.f.s)∧w'.cell? ⟨w.heap.size,16,none⟩=some (.slice m.f.A m.f.n m.f.c)∧w'.cell? ⟨w.heap.size,17,none⟩=some (.slice m.f.B m.f.m m.f.d))
  (first | with_reducible exact ⟨XA.c0,XA.c1,XA.c2,XA.c3,XA.c4,XA.c5,XA.c6,XA.c7,XA.c8,XA.c9,XA.c10,XA.c11,XA.c12,XA.c13,XA.c14,XA.c15,XA.c16,XA.c17⟩ | with_reducible exact ⟨(XA.restm (by omega) (only_set18 _ _ _ _ _ _ _ _ _ _ _ _ _ _ _ _ _ _ _ _)).c0,(XA.restm (by omega) (only_set18 _ _ _ _ _ _ _ _ _ _ _ _ _ _ _ _ _ _ _ _)).c1,(XA.restm (by omega) (only_set18 _ _ _ _ _ _ _ _ _ _ _ _ _ _ _ _ _ _ _ _)).c2,(XA.restm (by omega) (only_set18 _ _ _ _ _ _ _ _ _ _ _ _ _ _ _ _ _ _ _ _)).c3,(XA.restm (by omega) (only_set18 _ _ _ _ _ _ _ _ _ _ _ _ _ _ _ _ _ _ _ _)).c4,(XA.restm (by omega) (only_set18 _ _ _ _ _ _ _ _ _ _ _ _ _ _ _ _ _ _ _ _)).c5,(XA.restm (by omega) (only_set18 _ _ _ _ _ _ _ _ _ _ _ _ _ _ _ _ _ _ _ _)).c6,(XA.restm (by omega) (only_set18 _ _ _ _ _ _ _ _ _ _ _ _ _ _ _ _ _ _ _ _)).c7,(XA.restm (by omega) (only_set18 _ _ _ _ _ _ _ _ _ _ _ _ _ _ _ _ _ _ _ _)).c8,(XA.restm (by omega) (only_set18 _ _ _ _ _ _ _ _ _ _ _ _ _ _ _ _ _ _ _ _)).c9,(XA.restm (by omega) (only_set18 _ _ _ _ _ _ _ _ _ _ _ _ _ _ _ _ _ _ _ _)).c10,(XA.restm (by omega) (only_set18 _ _ _ _ _ _ _ _ _ _ _ _ _ _ _ _ _ _ _ _)).c11,(XA.restm (by omega) (only_set18 _ _ _ _ _ _ _ _ _ _ _ _ _ _ _ _ _ _ _ _)).c12,(XA.restm (by omega) (only_set18 _ _ _ _ _ _ _ _ _ _ _ _ _ _ _ _ _ _ _ _)).c13,(XA.restm (by omega) (only_set18 _ _ _ _ _ _ _ _ _ _ _ _ _ _ _ _ _ _ _ _)).c14,(XA.restm (by omega) (only_set18 _ _ _ _ _ _ _ _ _ _ _ _ _ _ _ _ _ _ _ _)).c15,(XA.restm (by omega) (only_set18 _ _ _ _ _ _ _ _ _ _ _ _ _ _ _ _ _ _ _ _)).c16,(XA.restm (by omega) (only_set18 _ _ _ _ _ _ _ _ _ _ _ _ _ _ _ _ _ _ _ _)).c17⟩)
  (first
  | (go_at_call 77;(with_reducible refine (rout3g M.ab.qx hk K HK.out.1.1 HK.out.1.2).mono ?_);rintro e w_r1 ⟨s_r1,A_r1,n_r1,c_r1,B_r1,m_r1,d_r1,rfl,r1,hh⟩
     (try replace M:=M.below hh);(try replace XA:=XA.below hh);(try replace Z:=Z.below hh);replace hb:=bend hb hh)
  | (go_at_call 77;(with_reducible refine (rout3g M.ab.qy hk K HK.out.2.1.1 HK.out.2.1.2).mono ?_);rintro e w_r2 ⟨s_r2,A_r2,n_r2,c_r2,B_r2,m_r2,d_r2,rfl,r2,hh⟩
     (try replace M:=M.below hh);(try replace XA:=XA.below hh);(try replace Z:=Z.below hh);(try replace r1:=r1.below hh);replace hb:=bend hb hh)
  | (go_at_call 77;(with_reducible refine (rout3g M.cd.qx hk K HK.out.2.2.1.1 HK.out.2.2.1.2).mono ?_);rintro e w_r3 ⟨s_r3,A_r3,n_r3,c_r3,B_r3,m_r3,d_r3,rfl,r3,hh⟩
     (try replace M:=M.below hh);(try replace XA:=XA.below hh);(try replace Z:=Z.below hh);(try replace r1:=r1.below hh);(try replace r2:=r2.below hh);replace hb:=bend hb hh)
  | (go_at_call 77;(with_reducible refine (rout3g M.cd.qy hk K HK.out.2.2.2.1.1 HK.out.2.2.2.1.2).mono ?_);rintro e w_r4 ⟨s_r4,A_r4,n_r4,c_r4,B_r4,m_r4,d_r4,rfl,r4,hh⟩
     (try replace M:=M.below hh);(try replace XA:=XA.below hh);(try replace Z:=Z.below hh);(try replace r1:=r1.below hh);(try replace r2:=r2.below hh);(try replace r3:=r3.below hh);replace hb:=bend hb hh)
  | (go_at_call 77;(with_reducible refine (rout3g M.ef.qx hl K HK.out.2.2.2.2.1.1 HK.out.2.2.2.2.1.2).mono ?_);rintro e w_r5 ⟨s_r5,A_r5,n_r5,c_r5,B_r5,m_r5,d_r5,rfl,r5,hh⟩
     (try replace M:=M.below hh);(try replace XA:=XA.below hh);(try replace Z:=Z.below hh);(try replace r1:=r1.below hh);(try replace r2:=r2.below hh);(try replace r3:=r3.below hh);(try replace r4:=r4.below hh);replace hb:=bend hb hh)
  | (go_at_call 77;(with_reducible refine (rout3g M.ef.qy hl K HK.out.2.2.2.2.2.1 HK.out.2.2.2.2.2.2).mono ?_);rintro e w_r6 ⟨s_r6,A_r6,n_r6,c_r6,B_r6,m_r6,d_r6,rfl,r6,hh⟩
     (try replace M:=M.below hh);(try replace XA:=XA.below hh);(try replace Z:=Z.below hh);(try replace r1:=r1.below hh);(try replace r2:=r2.below hh);(try replace r3:=r3.below hh);(try replace r4:=r4.below hh);(try replace r5:=r5.below hh);replace hb:=bend hb hh
     have zst:=Z.st (.bool s_r1) (.slice A_r1 n_r1 c_r1) (.slice B_r1 m_r1 d_r1) (.bool s_r2) (.slice A_r2 n_r2 c_r2) (.slice B_r2 m_r2 d_r2) (.bool s_r3) (.slice A_r3 n_r3 c_r3) (.slice B_r3 m_r3 d_r3) (.bool s_r4) (.slice A_r4 n_r4 c_r4) (.slice B_r4 m_r4 d_r4) (.bool s_r5) (.slice A_r5 n_r5 c_r5) (.slice B_r5 m_r5 d_r5) (.bool s_r6) (.slice A_r6 n_r6 c_r6) (.slice B_r6 m_r6 d_r6) (by simp [Value.oneCell'])))
 go_wp2_with fail
 have Z2:=Z.set18 (.bool s_r1) (.slice A_r1 n_r1 c_r1) (.slice B_r1 m_r1 d_r1) (.bool s_r2) (.slice A_r2 n_r2 c_r2) (.slice B_r2 m_r2 d_r2) (.bool s_r3) (.slice A_r3 n_r3 c_r3) (.slice B_r3 m_r3 d_r3) (.bool s_r4) (.slice A_r4 n_r4 c_r4) (.slice B_r4 m_r4 d_r4) (.bool s_r5) (.slice A_r5 n_r5 c_r5) (.slice B_r5 m_r5 d_r5) (.bool s_r6) (.slice A_r6 n_r6 c_r6) (.slice B_r6 m_r6 d_r6)
 have gl:=Z2.ld
 refine bodyPost_ret (v:=.agg #[.bool s_r1,.slice A_r1 n_r1 c_r1,.slice B_r1 m_r1 d_r1,.bool s_r2,.slice A_r2 n_r2 c_r2,.slice B_r2 m_r2 d_r2,.bool s_r3,.slice A_r3 n_r3 c_r3,.slice B_r3 m_r3 d_r3,.bool s_r4,.slice A_r4 n_r4 c_r4,.slice B_r4 m_r4 d_r4,.bool s_r5,.slice A_r5 n_r5 c_r5,.slice B_r5 m_r5 d_r5,.bool s_r6,.slice A_r6 n_r6 c_r6,.slice B_r6 m_r6 d_r6]) (res_M Tryz.results50 _ _ (by simp) gl) rfl ?_
 exact ⟨⟨⟨s_r1,A_r1,n_r1,c_r1,B_r1,m_r1,d_r1⟩,⟨s_r2,A_r2,n_r2,c_r2,B_r2,m_r2,d_r2⟩,⟨s_r3,A_r3,n_r3,c_r3,B_r3,m_r3,d_r3⟩,⟨s_r4,A_r4,n_r4,c_r4,B_r4,m_r4,d_r4⟩,⟨s_r5,A_r5,n_r5,c_r5,B_r5,m_r5,d_r5⟩,⟨s_r6,A_r6,n_r6,c_r6,B_r6,m_r6,d_r6⟩⟩,rfl,MG.set18 (m:=⟨⟨s_r1,A_r1,n_r1,c_r1,B_r1,m_r1,d_r1⟩,⟨s_r2,A_r2,n_r2,c_r2,B_r2,m_r2,d_r2⟩,⟨s_r3,A_r3,n_r3,c_r3,B_r3,m_r3,d_r3⟩,⟨s_r4,A_r4,n_r4,c_r4,B_r4,m_r4,d_r4⟩,⟨s_r5,A_r5,n_r5,c_r5,B_r5,m_r5,d_r5⟩,⟨s_r6,A_r6,n_r6,c_r6,B_r6,m_r6,d_r6⟩⟩) (v:=v) ⟨⟨r1,r2⟩,⟨r3,r4⟩,⟨r5,r6⟩⟩ Z _ _ _ _ _ _ _ _ _ _ _ _ _ _ _ _ _ _,below_set18 hb (by omega) _ _ _ _ _ _ _ _ _ _ _ _ _ _ _ _ _ _⟩
theorem mkbx49_16 {w W:World} {x0 x1 x2 x3 x4 x5 x6 x7 x8 x9 x10 x11 x12 x13 x14 x15 x16 x17:Value} (h:((((((w.alloc (Obj.cells #[x0,x1,x2] 43)).alloc (Obj.cells #[x3,x4,x5] 43)).alloc (Obj.cells #[x6,x7,x8] 43)).alloc (Obj.cells #[x9,x10,x11] 43)).alloc (Obj.cells #[x12,x13,x14] 43)).alloc (Obj.cells #[x15,x16,x17] 43))=W):Below w.heap.size w W∧B3R W (w.heap.size) x0 x1 x2∧B3R W (w.heap.size+1) x3 x4 x5∧B3R W (w.heap.size+1+1) x6 x7 x8∧B3R W (w.heap.size+1+1+1) x9 x10 x11∧B3R W (w.heap.size+1+1+1+1) x12 x13 x14∧B3R W (w.heap.size+1+1+1+1+1) x15 x16 x17∧W.heap.size=w.heap.size+6:=by subst h;exact ⟨by exact (((((((Below.refl _ _).alloc (Nat.le_refl _) _).alloc (by simp) _).alloc (by simp;omega) _).alloc (by simp;omega) _).alloc (by simp;omega) _).alloc (by simp;omega) _),by exact (((((B3R.new' _ _ _ _ _ rfl).alloc _).alloc _).alloc _).alloc _).alloc _,by exact ((((B3R.new' _ _ _ _ _ (by simp)).alloc _).alloc _).alloc _).alloc _,by exact (((B3R.new' _ _ _ _ _ (by simp)).alloc _).alloc _).alloc _,by exact ((B3R.new' _ _ _ _ _ (by simp)).alloc _).alloc _,by exact (B3R.new' _ _ _ _ _ (by simp)).alloc _,by exact B3R.new' _ _ _ _ _ (by simp),by simp⟩
theorem rtwo9 {k k2 l:Nat} {va vx vc vy ve:Rat} (a:RQ w s_a A_a n_a c_a B_a m_a d_a va k) (x:RQ w s_x A_x n_x c_x B_x m_x d_x vx k2) (c:RQ w s_c A_c n_c c_c B_c m_c d_c vc k) (y:RQ w s_y A_y n_y c_y B_y m_y d_y vy k2) (e:RQ w s_e A_e n_e c_e B_e m_e d_e ve l) (hk:k+k2≤4000) (hl:l≤10000) :
 Calls Tryz.prog 111 #[.agg #[.bool s_a,.slice A_a n_a c_a,.slice B_a m_a d_a],.agg #[.bool s_x,.slice A_x n_x c_x,.slice B_x m_x d_x],.agg #[.bool s_c,.slice A_c n_c c_c,.slice B_c m_c d_c],.agg #[.bool s_y,.slice A_y n_y c_y,.slice B_y m_y d_y],.agg #[.bool s_e,.slice A_e n_e c_e,.slice B_e m_e d_e]] w (GivesRQ w (va*vx+vc*vy+ve) (k+k2+(k+k2)+1+l+1)):=by
 go_enter Tryz.func111,Tryz.ntmps111
 go_upto_region 1 with (fail)
 generalize hW:World.alloc _ _=W
 obtain ⟨hb,XA,XX,XC,XY,XE,Z,hzW⟩:=mkbx49_16 hW;clear hW;replace a:=a.below hb;replace x:=x.below hb;replace c:=c.below hb;replace y:=y.below hb;replace e:=e.below hb
 replace a:=a.below (Below.refl _ _).drew
 replace x:=x.below (Below.refl _ _).drew
 replace c:=c.below (Below.refl _ _).drew
 replace y:=y.below (Below.refl _ _).drew
 replace e:=e.below (Below.refl _ _).drew
 replace XA:=XA.below (Below.refl _ _).drew
 replace XX:=XX.below (Below.refl _ _).drew
 replace XC:=XC.below (Below.refl _ _).drew
 replace XY:=XY.below (Below.refl _ _).drew
 replace XE:=XE.below (Below.refl _ _).drew
 replace Z:=Z.below (Below.refl _ _).drew
 replace hb:=hb.drew
 go_region_held3 (fun w'=>w'.cell? ⟨w.heap.size,0,none⟩=some (.bool s_a)∧w'.cell? ⟨w.heap.size,1,none⟩=some (.slice A_a n_a c_a)∧w'.cell? ⟨w.heap.size,2,none⟩=some (.slice B_a m_a d_a)∧w'.cell? ⟨w.heap.size+1,0,none⟩=some (.bool s_x)∧w'.cell? ⟨w.heap.size+1,1,none⟩=some (.slice A_x n_x c_x)∧w'.cell? ⟨w.heap.size+1,2,none⟩=some (.slice B_x m_x d_x)∧w'.cell? ⟨w.heap.size+1+1,0,none⟩=some (.bool s_c)∧w'.cell? ⟨w.heap.size+1+1,1,none⟩=some (.slice A_c n_c c_c)∧w'.cell? ⟨w.heap.size+1+1,2,none⟩=some (.slice B_c m_c d_c)∧w'.cell? ⟨w.heap.size+1+1+1,0,none⟩=some (.bool s_y)∧w'.cell? ⟨w.heap.size+1+1+1,1,none⟩=some (.slice A_y n_y c_y)∧w'.cell? ⟨w.heap.size+1+1+1,2,none⟩=some (.slice B_y m_y d_y)∧w'.cell? ⟨w.heap.size+1+1+1+1,0,none⟩=some (.bool s_e)∧w'.cell? ⟨w.heap.size+1+1+1+1,1,none⟩=some (.slice A_e n_e c_e)∧w'.cell? ⟨w.heap.size+1+1+1+1,2,none⟩=some (.slice B_e m_e d_e))
  (first | with_reducible exact ⟨XA.c0,XA.c1,XA.c2,XX.c0,XX.c1,XX.c2,XC.c0,XC.c1,XC.c2,XY.c0,XY.c1,XY.c2,XE.c0,XE.c1,XE.c2⟩ | with_reducible exact ⟨(XA.restm (by omega) (only_set3 _ _ _ _ _)).c0,(XA.restm (by omega) (only_set3 _ _ _ _ _)).c1,(XA.restm (by omega) (only_set3 _ _ _ _ _)).c2,(XX.restm (by omega) (only_set3 _ _ _ _ _)).c0,(XX.restm (by omega) (only_set3 _ _ _ _ _)).c1,(XX.restm (by omega) (only_set3 _ _ _ _ _)).c2,(XC.restm (by omega) (only_set3 _ _ _ _ _)).c0,(XC.restm (by omega) (only_set3 _ _ _ _ _)).c1,(XC.restm (by omega) (only_set3 _ _ _ _ _)).c2,(XY.restm (by omega) (only_set3 _ _ _ _ _)).c0,(XY.restm (by omega) (only_set3 _ _ _ _ _)).c1,(XY.restm (by omega) (only_set3 _ _ _ _ _)).c2,(XE.restm (by omega) (only_set3 _ _ _ _ _)).c0,(XE.restm (by omega) (only_set3 _ _ _ _ _)).c1,(XE.restm (by omega) (only_set3 _ _ _ _ _)).c2⟩)
  (first
  | (go_at_call 83;(with_reducible refine (rmul3 a x (by omega) (by omega)).mono ?_);rintro en w_r1 ⟨s_r1,A_r1,n_r1,c_r1,B_r1,m_r1,d_r1,rfl,r1,hh⟩
     (try replace a:=a.below hh);(try replace x:=x.below hh);(try replace c:=c.below hh);(try replace y:=y.below hh);(try replace e:=e.below hh);(try replace XA:=XA.below hh);(try replace XX:=XX.below hh);(try replace XC:=XC.below hh);(try replace XY:=XY.below hh);(try replace XE:=XE.below hh);(try replace Z:=Z.below hh);replace hb:=bend hb hh)
  | (go_at_call 83;(with_reducible refine (rmul3 c y (by omega) (by omega)).mono ?_);rintro en w_r2 ⟨s_r2,A_r2,n_r2,c_r2,B_r2,m_r2,d_r2,rfl,r2,hh⟩
     (try replace a:=a.below hh);(try replace x:=x.below hh);(try replace c:=c.below hh);(try replace y:=y.below hh);(try replace e:=e.below hh);(try replace XA:=XA.below hh);(try replace XX:=XX.below hh);(try replace XC:=XC.below hh);(try replace XY:=XY.below hh);(try replace XE:=XE.below hh);(try replace Z:=Z.below hh);(try replace r1:=r1.below hh);replace hb:=bend hb hh)
  | (go_at_call 81;(with_reducible refine (radd3 r1 r2 (by omega) (by omega)).mono ?_);rintro en w_r3 ⟨s_r3,A_r3,n_r3,c_r3,B_r3,m_r3,d_r3,rfl,r3,hh⟩
     (try replace a:=a.below hh);(try replace x:=x.below hh);(try replace c:=c.below hh);(try replace y:=y.below hh);(try replace e:=e.below hh);(try replace XA:=XA.below hh);(try replace XX:=XX.below hh);(try replace XC:=XC.below hh);(try replace XY:=XY.below hh);(try replace XE:=XE.below hh);(try replace Z:=Z.below hh);(try replace r1:=r1.below hh);(try replace r2:=r2.below hh);replace hb:=bend hb hh)
  | (go_at_call 81;(with_reducible refine (radd3 r3 e (by omega) (by omega)).mono ?_);rintro en w_r4 ⟨s_r4,A_r4,n_r4,c_r4,B_r4,m_r4,d_r4,rfl,r4,hh⟩
     (try replace a:=a.below hh);(try replace x:=x.below hh);(try replace c:=c.below hh);(try replace y:=y.below hh);(try replace e:=e.below hh);(try replace XA:=XA.below hh);(try replace XX:=XX.below hh);(try replace XC:=XC.below hh);(try replace XY:=XY.below hh);(try replace XE:=XE.below hh);(try replace Z:=Z.below hh);(try replace r1:=r1.below hh);(try replace r2:=r2.below hh);(try replace r3:=r3.below hh);replace hb:=bend hb hh;have zf0:=Z.f0;have zf1:=Z.f1;have zf2:=Z.f2;obtain ⟨z0,z1,z2⟩:=Z.all))
 go_wp2_with fail
 have Z2:=Z.set3 (.bool s_r4) (.slice A_r4 n_r4 c_r4) (.slice B_r4 m_r4 d_r4)
 obtain ⟨g0,g1,g2⟩:=Z2.all
 refine bodyPost_ret (v:=.agg #[.bool s_r4,.slice A_r4 n_r4 c_r4,.slice B_r4 m_r4 d_r4]) (by simp [results,Tryz.results111,go_sem,g0,g1,g2]) rfl ?_
 exact ⟨s_r4,A_r4,n_r4,c_r4,B_r4,m_r4,d_r4,rfl,r4.set3 Z _ _ _,below_set3 hb (by omega) _ _ _⟩
theorem mkbx50_16 {w W:World} {x0 x1 x2 x3 x4 x5 x6 x7 x8 x9 x10 x11 x12 x13 x14 x15 x16 x17 x18 x19 x20 x21 x22 x23 x24 x25 x26 x27 x28 x29:Value} (h:(((w.alloc (Obj.cells #[x0,x1,x2,x3,x4,x5,x6,x7,x8,x9,x10,x11,x12,x13,x14,x15,x16,x17] 74)).alloc (Obj.cells #[x18,x19,x20,x21,x22,x23] 45)).alloc (Obj.cells #[x24,x25,x26,x27,x28,x29] 45))=W):Below w.heap.size w W∧B18R W (w.heap.size) x0 x1 x2 x3 x4 x5 x6 x7 x8 x9 x10 x11 x12 x13 x14 x15 x16 x17∧B6R W (w.heap.size+1) x18 x19 x20 x21 x22 x23∧B6R W (w.heap.size+1+1) x24 x25 x26 x27 x28 x29∧W.heap.size=w.heap.size+3:=by subst h;exact ⟨by exact ((((Below.refl _ _).alloc (Nat.le_refl _) _).alloc (by simp) _).alloc (by simp;omega) _),by exact ((B18R.new' _ _ _ _ _ _ _ _ _ _ _ _ _ _ _ _ _ _ _ _ rfl).alloc _).alloc _,by exact (B6R.new' _ _ _ _ _ _ _ _ (by simp)).alloc _,by exact B6R.new' _ _ _ _ _ _ _ _ (by simp),by simp⟩
theorem rapply9 {k l k2:Nat} {v:AM} {m:MV} {x y:Rat} (M:RM w m v k l) (p:RP w s_p A_p n_p c_p B_p m_p d_p t_p E_p i_p e_p F_p j_p f_p x y k2) (hk:k+k2≤4000) (hl:l≤10000) :
 Calls Tryz.prog 44 #[.agg #[.bool m.a.s,.slice m.a.A m.a.n m.a.c,.slice m.a.B m.a.m m.a.d,.bool m.b.s,.slice m.b.A m.b.n m.b.c,.slice m.b.B m.b.m m.b.d,.bool m.c.s,.slice m.c.A m.c.n m.c.c,.slice m.c.B m.c.m m.c.d,.bool m.d.s,.slice m.d.A m.d.n m.d.c,.slice m.d.B m.d.m m.d.d,.bool m.e.s,.slice m.e.A m.e.n m.e.c,.slice m.e.B m.e.m m.e.d,.bool m.f.s,.slice m.f.A m.f.n m.f.c,.slice m.f.B m.f.m m.f.d],.agg #[.bool s_p,.slice A_p n_p c_p,.slice B_p m_p d_p,.bool t_p,.slice E_p i_p e_p,.slice F_p j_p f_p]] w (GivesRP w (v.ax x y) (v.ay x y) (k+k2+(k+k2)+1+l+1)):=by
 go_enter Tryz.func44,Tryz.ntmps44
 go_upto_region 1 with (fail)
 generalize hW:World.alloc _ _=W
 obtain ⟨hb,XA,XB,Z,hzW⟩:=mkbx50_16 hW;clear hW;replace M:=M.below hb;replace p:=p.below hb
 replace M:=M.below (Below.refl _ _).drew
 replace p:=p.below (Below.refl _ _).drew
 replace XA:=XA.below (Below.refl _ _).drew
 replace XB:=XB.below (Below.refl _ _).drew
 replace Z:=Z.below (Below.refl _ _).drew
 replace hb:=hb.drew
 go_region_held3 (fun w'=>w'.cell? ⟨w.heap.size,0,none⟩=some (.bool m.a.s)∧w'.cell? ⟨w.heap.size,1,none⟩=some (.slice m.a.A m.a.n m.a.c)∧w'.cell? ⟨w.heap.size,2,none⟩=some (.slice m.a.B m.a.m m.a.d)∧w'.cell? ⟨w.heap.size,3,none⟩=some (.bool m.b.s)∧w'.cell? ⟨w.heap.size,4,none⟩=some (.slice m.b.A m.b.n m.b.c)∧w'.cell? ⟨w.heap.size,5,none⟩=some (.slice m.b.B m.b.m m.b.d)∧w'.cell? ⟨w.heap.size,6,none⟩=some (.bool m.c.s)∧w'.cell? ⟨w.heap.size,7,none⟩=some (.slice m.c.A m.c.n m.c.c)∧w'.cell? ⟨w.heap.size,8,none⟩=some (.slice m.c.B m.c.m m.c.d)∧w'.cell? ⟨w.heap.size,9,none⟩=some (.bool m.d.s)∧w'.cell? ⟨w.heap.size,10,none⟩=some (.slice m.d.A m.d.n m.d.c)∧w'.cell? ⟨w.heap.size,11,none⟩=some (.slice m.d.B m.d.m m.d.d)∧w'.cell? ⟨w.heap.size,12,none⟩=some (.bool m.e.s)∧w'.cell? ⟨w.heap.size,13,none⟩=some (.slice m.e.A m.e.n m.e.c)∧w'.cell? ⟨w.heap.size,14,none⟩=some (.slice m.e.B m.e.m m.e.d)∧w'.cell? ⟨w.heap.size,15,none⟩=some (.bool m.f.s)∧w'.cell? ⟨w.heap.size,16,none⟩=some (.slice m.f.A m.f.n m.f.c)∧w'.cell? ⟨w.heap.size,17,none⟩=some (.slice m.f.B m.f.m m.f.d)∧w'.cell? ⟨w.heap.size+1,0,none⟩=some (.bool s_p)∧w'.cell? ⟨w.heap.size+1,1,none⟩=some (.slice A_p n_p c_p)∧w'.cell? ⟨w.heap.size+1,2,none⟩=some (.slice B_p m_p d_p)∧w'.cell? ⟨w.heap.size+1,3,none⟩=some (.bool t_p)∧w'.cell? ⟨w.heap.size+1,4,none⟩=some (.slice E_p i_p e_p)∧w'.cell? ⟨w.heap.size+1,5,none⟩=some (.slice F_p j_p f_p))
  (first | with_reducible exact ⟨XA.c0,XA.c1,XA.c2,XA.c3,XA.c4,XA.c5,XA.c6,XA.c7,XA.c8,XA.c9,XA.c10,XA.c11,XA.c12,XA.c13,XA.c14,XA.c15,XA.c16,XA.c17,XB.c0,XB.c1,XB.c2,XB.c3,XB.c4,XB.c5⟩ | with_reducible exact ⟨(XA.restm (by omega) (only_set6 _ _ _ _ _ _ _ _)).c0,(XA.restm (by omega) (only_set6 _ _ _ _ _ _ _ _)).c1,(XA.restm (by omega) (only_set6 _ _ _ _ _ _ _ _)).c2,(XA.restm (by omega) (only_set6 _ _ _ _ _ _ _ _)).c3,(XA.restm (by omega) (only_set6 _ _ _ _ _ _ _ _)).c4,(XA.restm (by omega) (only_set6 _ _ _ _ _ _ _ _)).c5,(XA.restm (by omega) (only_set6 _ _ _ _ _ _ _ _)).c6,(XA.restm (by omega) (only_set6 _ _ _ _ _ _ _ _)).c7,(XA.restm (by omega) (only_set6 _ _ _ _ _ _ _ _)).c8,(XA.restm (by omega) (only_set6 _ _ _ _ _ _ _ _)).c9,(XA.restm (by omega) (only_set6 _ _ _ _ _ _ _ _)).c10,(XA.restm (by omega) (only_set6 _ _ _ _ _ _ _ _)).c11,(XA.restm (by omega) (only_set6 _ _ _ _ _ _ _ _)).c12,(XA.restm (by omega) (only_set6 _ _ _ _ _ _ _ _)).c13,(XA.restm (by omega) (only_set6 _ _ _ _ _ _ _ _)).c14,(XA.restm (by omega) (only_set6 _ _ _ _ _ _ _ _)).c15,(XA.restm (by omega) (only_set6 _ _ _ _ _ _ _ _)).c16,(XA.restm (by omega) (only_set6 _ _ _ _ _ _ _ _)).c17,(XB.restm (by omega) (only_set6 _ _ _ _ _ _ _ _)).c0,(XB.restm (by omega) (only_set6 _ _ _ _ _ _ _ _)).c1,(XB.restm (by omega) (only_set6 _ _ _ _ _ _ _ _)).c2,(XB.restm (by omega) (only_set6 _ _ _ _ _ _ _ _)).c3,(XB.restm (by omega) (only_set6 _ _ _ _ _ _ _ _)).c4,(XB.restm (by omega) (only_set6 _ _ _ _ _ _ _ _)).c5⟩)
  (first
  | (go_at_call 111;(with_reducible refine (rtwo9 M.ab.qx p.qx M.cd.qx p.qy M.ef.qx hk hl).mono ?_);rintro e w_r ⟨s_r,A_r,n_r,c_r,B_r,m_r,d_r,rfl,r,hh⟩
     (try replace M:=M.below hh);(try replace p:=p.below hh);(try replace XA:=XA.below hh);(try replace XB:=XB.below hh);(try replace Z:=Z.below hh);replace hb:=bend hb hh)
  | (go_at_call 111;(with_reducible refine (rtwo9 M.ab.qy p.qx M.cd.qy p.qy M.ef.qy hk hl).mono ?_);rintro e w_u ⟨s_u,A_u,n_u,c_u,B_u,m_u,d_u,rfl,u,hh⟩
     (try replace M:=M.below hh);(try replace p:=p.below hh);(try replace XA:=XA.below hh);(try replace XB:=XB.below hh);(try replace Z:=Z.below hh);(try replace r:=r.below hh);replace hb:=bend hb hh;have zg0:=Z.f0;have zg1:=Z.f1;have zg2:=Z.f2;have zg3:=Z.f3;have zg4:=Z.f4;have zg5:=Z.f5;obtain ⟨zc0,zc1,zc2,zc3,zc4,zc5⟩:=Z.all))
 go_wp2_with fail
 have Z2:=Z.set6 (.bool s_r) (.slice A_r n_r c_r) (.slice B_r m_r d_r) (.bool s_u) (.slice A_u n_u c_u) (.slice B_u m_u d_u)
 obtain ⟨g0,g1,g2,g3,g4,g5⟩:=Z2.all
 refine bodyPost_ret (v:=.agg #[.bool s_r,.slice A_r n_r c_r,.slice B_r m_r d_r,.bool s_u,.slice A_u n_u c_u,.slice B_u m_u d_u]) (by simp [results,Tryz.results44,go_sem,g0,g1,g2,g3,g4,g5]) rfl ?_
 exact ⟨_,_,_,_,_,_,_,_,_,_,_,_,_,_,rfl,(show RP _ _ _ _ _ _ _ _ _ _ _ _ _ _ _ _ _ _ from ⟨r,u⟩).set6 Z _ _ _ _ _ _,below_set6 hb (by omega) _ _ _ _ _ _⟩
theorem mkbx51_16 {w W:World} {x0 x1 x2 x3 x4 x5 x6 x7 x8 x9 x10 x11 x12 x13 x14 x15 x16 x17 x18 x19 x20:Value} (h:((w.alloc (Obj.cells #[x0,x1,x2,x3,x4,x5,x6,x7,x8,x9,x10,x11,x12,x13,x14,x15,x16,x17] 74)).alloc (Obj.cells #[x18,x19,x20] 43))=W):Below w.heap.size w W∧B18R W (w.heap.size) x0 x1 x2 x3 x4 x5 x6 x7 x8 x9 x10 x11 x12 x13 x14 x15 x16 x17∧B3R W (w.heap.size+1) x18 x19 x20∧W.heap.size=w.heap.size+2:=by subst h;exact ⟨by exact (((Below.refl _ _).alloc (Nat.le_refl _) _).alloc (by simp) _),by exact (B18R.new' _ _ _ _ _ _ _ _ _ _ _ _ _ _ _ _ _ _ _ _ rfl).alloc _,by exact B3R.new' _ _ _ _ _ (by simp),by simp⟩
theorem rdet9 {k l:Nat} {v:AM} {m:MV} (M:RM w m v k l) (hk:k≤4000) :
 Calls Tryz.prog 39 #[.agg #[.bool m.a.s,.slice m.a.A m.a.n m.a.c,.slice m.a.B m.a.m m.a.d,.bool m.b.s,.slice m.b.A m.b.n m.b.c,.slice m.b.B m.b.m m.b.d,.bool m.c.s,.slice m.c.A m.c.n m.c.c,.slice m.c.B m.c.m m.c.d,.bool m.d.s,.slice m.d.A m.d.n m.d.c,.slice m.d.B m.d.m m.d.d,.bool m.e.s,.slice m.e.A m.e.n m.e.c,.slice m.e.B m.e.m m.e.d,.bool m.f.s,.slice m.f.A m.f.n m.f.c,.slice m.f.B m.f.m m.f.d]] w (GivesRQ w v.det (k+k+(k+k)+1)):=by
 go_enter Tryz.func39,Tryz.ntmps39
 go_upto_region 1 with (fail)
 generalize hW:World.alloc _ _=W
 obtain ⟨hb,XA,Z,hzW⟩:=mkbx51_16 hW;clear hW;replace M:=M.below hb
 replace M:=M.below (Below.refl _ _).drew
 replace XA:=XA.below (Below.refl _ _).drew
 replace Z:=Z.below (Below.refl _ _).drew
 replace hb:=hb.drew
 go_region_held3 (fun w'=>w'.cell? ⟨w.heap.size,0,none⟩=some (.bool m.a.s)∧w'.cell? ⟨w.heap.size,1,none⟩=some (.slice m.a.A m.a.n m.a.c)∧w'.cell? ⟨w.heap.size,2,none⟩=some (.slice m.a.B m.a.m m.a.d)∧w'.cell? ⟨w.heap.size,3,none⟩=some (.bool m.b.s)∧w'.cell? ⟨w.heap.size,4,none⟩=some (.slice m.b.A m.b.n m.b.c)∧w'.cell? ⟨w.heap.size,5,none⟩=some (.slice m.b.B m.b.m m.b.d)∧w'.cell? ⟨w.heap.size,6,none⟩=some (.bool m.c.s)∧w'.cell? ⟨w.heap.size,7,none⟩=some (.slice m.c.A m.c.n m.c.c)∧w'.cell? ⟨w.heap.size,8,none⟩=some (.slice m.c.B m.c.m m.c.d)∧w'.cell? ⟨w.heap.size,9,none⟩=some (.bool m.d.s)∧w'.cell? ⟨w.heap.size,10,none⟩=some (.slice m.d.A m.d.n m.d.c)∧w'.cell? ⟨w.heap.size,11,none⟩=some (.slice m.d.B m.d.m m.d.d)∧w'.cell? ⟨w.heap.size,12,none⟩=some (.bool m.e.s)∧w'.cell? ⟨w.heap.size,13,none⟩=some (.slice m.e.A m.e.n m.e.c)∧w'.cell? ⟨w.heap.size,14,none⟩=some (.slice m.e.B m.e.m m.e.d)∧w'.cell? ⟨w.heap.size,15,none⟩=some (.bool m.f.s)∧w'.cell? ⟨w.heap.size,16,none⟩=some (.slice m.f.A m.f.n m.f.c)∧w'.cell? ⟨w.heap.size,17,none⟩=some (.slice m.f.B m.f.m m.f.d))
  (first | with_reducible exact ⟨XA.c0,XA.c1,XA.c2,XA.c3,XA.c4,XA.c5,XA.c6,XA.c7,XA.c8,XA.c9,XA.c10,XA.c11,XA.c12,XA.c13,XA.c14,XA.c15,XA.c16,XA.c17⟩ | with_reducible exact ⟨(XA.restm (by omega) (only_set3 _ _ _ _ _)).c0,(XA.restm (by omega) (only_set3 _ _ _ _ _)).c1,(XA.restm (by omega) (only_set3 _ _ _ _ _)).c2,(XA.restm (by omega) (only_set3 _ _ _ _ _)).c3,(XA.restm (by omega) (only_set3 _ _ _ _ _)).c4,(XA.restm (by omega) (only_set3 _ _ _ _ _)).c5,(XA.restm (by omega) (only_set3 _ _ _ _ _)).c6,(XA.restm (by omega) (only_set3 _ _ _ _ _)).c7,(XA.restm (by omega) (only_set3 _ _ _ _ _)).c8,(XA.restm (by omega) (only_set3 _ _ _ _ _)).c9,(XA.restm (by omega) (only_set3 _ _ _ _ _)).c10,(XA.restm (by omega) (only_set3 _ _ _ _ _)).c11,(XA.restm (by omega) (only_set3 _ _ _ _ _)).c12,(XA.restm (by omega) (only_set3 _ _ _ _ _)).c13,(XA.restm (by omega) (only_set3 _ _ _ _ _)).c14,(XA.restm (by omega) (only_set3 _ _ _ _ _)).c15,(XA.restm (by omega) (only_set3 _ _ _ _ _)).c16,(XA.restm (by omega) (only_set3 _ _ _ _ _)).c17⟩)
  (first
  | (go_at_call 83;(with_reducible refine (rmul3 M.ab.qx M.cd.qy (by omega) (by omega)).mono ?_);rintro e w_r1 ⟨s_r1,A_r1,n_r1,c_r1,B_r1,m_r1,d_r1,rfl,r1,hh⟩
     (try replace M:=M.below hh);(try replace XA:=XA.below hh);(try replace Z:=Z.below hh);replace hb:=bend hb hh)
  | (go_at_call 83;(with_reducible refine (rmul3 M.ab.qy M.cd.qx (by omega) (by omega)).mono ?_);rintro e w_r2 ⟨s_r2,A_r2,n_r2,c_r2,B_r2,m_r2,d_r2,rfl,r2,hh⟩
     (try replace M:=M.below hh);(try replace XA:=XA.below hh);(try replace Z:=Z.below hh);(try replace r1:=r1.below hh);replace hb:=bend hb hh)
  | (go_at_call 95;(with_reducible refine (rsub3 r1 r2 (by omega) (by omega)).mono ?_);rintro e w_r3 ⟨s_r3,A_r3,n_r3,c_r3,B_r3,m_r3,d_r3,rfl,r3,hh⟩
     (try replace M:=M.below hh);(try replace XA:=XA.below hh);(try replace Z:=Z.below hh);(try replace r1:=r1.below hh);(try replace r2:=r2.below hh);replace hb:=bend hb hh;have zf0:=Z.f0;have zf1:=Z.f1;have zf2:=Z.f2;obtain ⟨z0,z1,z2⟩:=Z.all))
 go_wp2_with fail
 have Z2:=Z.set3 (.bool s_r3) (.slice A_r3 n_r3 c_r3) (.slice B_r3 m_r3 d_r3)
 obtain ⟨g0,g1,g2⟩:=Z2.all
 refine bodyPost_ret (v:=.agg #[.bool s_r3,.slice A_r3 n_r3 c_r3,.slice B_r3 m_r3 d_r3]) (by simp [results,Tryz.results39,go_sem,g0,g1,g2]) rfl ?_
 exact ⟨s_r3,A_r3,n_r3,c_r3,B_r3,m_r3,d_r3,rfl,r3.set3 Z _ _ _,below_set3 hb (by omega) _ _ _⟩
end
section
open Go Go.RowKit
attribute [local go_sem ↓] open_LVM open_STM open_LVN open_STN
theorem limbs_inj {a b:Nat} (h:limbs B64 a=limbs B64 b):a=b:=by
 have h1:=val_limbs B64_two a;have h2:=val_limbs B64_two b;rw [h] at h1
 exact h1.symm.trans h2
theorem dec_rat (v u:Rat):((decide (v.num < 0) == decide (u.num < 0) && decide (limbs B64 v.num.natAbs=limbs B64 u.num.natAbs)) && decide (limbs B64 v.den=limbs B64 u.den))=decide (v=u):=by
 by_cases h:v=u
 · subst h;simp
 · rw [decide_eq_false h]
   by_cases h1:limbs B64 v.num.natAbs=limbs B64 u.num.natAbs
   · by_cases h2:limbs B64 v.den=limbs B64 u.den
     · have e1:=limbs_inj h1
       have e2:=limbs_inj h2
       by_cases h3:decide (v.num < 0)=decide (u.num < 0)
       · exfalso
         apply h
         have e3:v.num < 0 ↔ u.num < 0:=decide_eq_decide.1 h3
         exact Rat.ext (by omega) e2
       · simp [h3]
     · simp [h2]
   · simp [h1]
theorem rats_dec {s t:Bool} {A A' B B':Option Addr} {n c n' c' m d m' d' k k2:Nat} {v u:Rat} (p:QG w s A n c A' n' c' v k) (q:QG w t B m d B' m' d' u k2) (hn:n≤maxLen) (hn':n'≤maxLen) (R:Bool) (hR:decide (v=u)=R) :
 Calls Tryz.prog 76 #[.agg #[.bool s,.slice A n c,.slice A' n' c'],.agg #[.bool t,.slice B m d,.slice B' m' d']] w fun e w'=>e=.returned (.bool R)∧Below w.heap.size w w':=by
 obtain ⟨⟨h1,h2,h3,h4⟩,⟨g2,g3,g4⟩⟩:=p
 obtain ⟨⟨e1,e2,_,_⟩,⟨f2,_,_⟩⟩:=q
 exact rats_any h2 g2 e2 f2 hn hn' R (by rw [h1,e1,dec_rat];exact hR)
theorem mats_0 {k l k2 l2:Nat} {v u:AM} {m n:MV} (M:MG w m v k l) (N:MG w n u k2 l2) (hn:((m.a.n≤maxLen∧m.a.m≤maxLen)∧(m.b.n≤maxLen∧m.b.m≤maxLen)∧(m.c.n≤maxLen∧m.c.m≤maxLen)∧(m.d.n≤maxLen∧m.d.m≤maxLen)∧(m.e.n≤maxLen∧m.e.m≤maxLen)∧(m.f.n≤maxLen∧m.f.m≤maxLen))) (e0:decide (v.a=u.a)=false) :
 Calls Tryz.prog 49 #[.agg #[.bool m.a.s,.slice m.a.A m.a.n m.a.c,.slice m.a.B m.a.m m.a.d,.bool m.b.s,.slice m.b.A m.b.n m.b.c,.slice m.b.B m.b.m m.b.d,.bool m.c.s,.slice m.c.A m.c.n m.c.c,.slice m.c.B m.c.m m.c.d,.bool m.d.s,.slice m.d.A m.d.n m.d.c,.slice m.d.B m.d.m m.d.d,.bool m.e.s,.slice m.e.A m.e.n m.e.c,.slice m.e.B m.e.m m.e.d,.bool m.f.s,.slice m.f.A m.f.n m.f.c,.slice m.f.B m.f.m m.f.d],.agg #[.bool n.a.s,.slice n.a.A n.a.n n.a.c,.slice n.a.B n.a.m n.a.d,.bool n.b.s,.slice n.b.A n.b.n n.b.c,.slice n.b.B n.b.m n.b.d,.bool n.c.s,.slice n.c.A n.c.n n.c.c,.slice n.c.B n.c.m n.c.d,.bool n.d.s,.slice n.d.A n.d.n n.d.c,.slice n.d.B n.d.m n.d.d,.bool n.e.s,.slice n.e.A n.e.n n.e.c,.slice n.e.B n.e.m n.e.d,.bool n.f.s,.slice n.f.A n.f.n n.f.c,.slice n.f.B n.f.m n.f.d]] w fun e w'=>e=.returned (.bool false)∧Below w.heap.size w w':=by
 have HN:=Lib.hid hn;clear hn;have H0:=Lib.hid e0;clear e0
 go_enter Tryz.func49,Tryz.ntmps49
 go_wp2_with fail
 generalize hW:World.alloc _ _=W
 obtain ⟨hb,XA,XB,hzW⟩:=mkbx45_15 hW;clear hW;replace M:=M.below hb;replace N:=N.below hb;obtain ⟨xa0,xa1,xa2,xa3,xa4,xa5,xa6,xa7,xa8,xa9,xa10,xa11,xa12,xa13,xa14,xa15,xa16,xa17⟩:=XA.all;obtain ⟨xb0,xb1,xb2,xb3,xb4,xb5,xb6,xb7,xb8,xb9,xb10,xb11,xb12,xb13,xb14,xb15,xb16,xb17⟩:=XB.all
 go_wp2_with (first
  | (go_at_call 76;(with_reducible refine (rats_dec M.ab.qx N.ab.qx HN.out.1.1 HN.out.1.2 false H0.out).mono ?_);rintro e w_z ⟨rfl,hh⟩
     (try replace M:=M.below hh);(try replace N:=N.below hh);(try replace XA:=XA.below hh);(try replace XB:=XB.below hh);replace hb:=bend hb hh;obtain ⟨xa0,xa1,xa2,xa3,xa4,xa5,xa6,xa7,xa8,xa9,xa10,xa11,xa12,xa13,xa14,xa15,xa16,xa17⟩:=XA.all;obtain ⟨xb0,xb1,xb2,xb3,xb4,xb5,xb6,xb7,xb8,xb9,xb10,xb11,xb12,xb13,xb14,xb15,xb16,xb17⟩:=XB.all))
 go_ret;exact ⟨rfl,hb⟩
theorem mats_1 {k l k2 l2:Nat} {v u:AM} {m n:MV} (M:MG w m v k l) (N:MG w n u k2 l2) (hn:((m.a.n≤maxLen∧m.a.m≤maxLen)∧(m.b.n≤maxLen∧m.b.m≤maxLen)∧(m.c.n≤maxLen∧m.c.m≤maxLen)∧(m.d.n≤maxLen∧m.d.m≤maxLen)∧(m.e.n≤maxLen∧m.e.m≤maxLen)∧(m.f.n≤maxLen∧m.f.m≤maxLen))) (e0:decide (v.a=u.a)=true) (e1:decide (v.b=u.b)=false) :
 Calls Tryz.prog 49 #[.agg #[.bool m.a.s,.slice m.a.A m.a.n m.a.c,.slice m.a.B m.a.m m.a.d,.bool m.b.s,.slice m.b.A m.b.n m.b.c,.slice m.b.B m.b.m m.b.d,.bool m.c.s,.slice m.c.A m.c.n m.c.c,.slice m.c.B m.c.m m.c.d,.bool m.d.s,.slice m.d.A m.d.n m.d.c,.slice m.d.B m.d.m m.d.d,.bool m.e.s,.slice m.e.A m.e.n m.e.c,.slice m.e.B m.e.m m.e.d,.bool m.f.s,.slice m.f.A m.f.n m.f.c,.slice m.f.B m.f.m m.f.d],.agg #[.bool n.a.s,.slice n.a.A n.a.n n.a.c,.slice n.a.B n.a.m n.a.d,.bool n.b.s,.slice n.b.A n.b.n n.b.c,.slice n.b.B n.b.m n.b.d,.bool n.c.s,.slice n.c.A n.c.n n.c.c,.slice n.c.B n.c.m n.c.d,.bool n.d.s,.slice n.d.A n.d.n n.d.c,.slice n.d.B n.d.m n.d.d,.bool n.e.s,.slice n.e.A n.e.n n.e.c,.slice n.e.B n.e.m n.e.d,.bool n.f.s,.slice n.f.A n.f.n n.f.c,.slice n.f.B n.f.m n.f.d]] w fun e w'=>e=.returned (.bool false)∧Below w.heap.size w w':=by
 have HN:=Lib.hid hn;clear hn;have H0:=Lib.hid e0;clear e0;have H1:=Lib.hid e1;clear e1
 go_enter Tryz.func49,Tryz.ntmps49
 go_wp2_with fail
 generalize hW:World.alloc _ _=W
 obtain ⟨hb,XA,XB,hzW⟩:=mkbx45_15 hW;clear hW;replace M:=M.below hb;replace N:=N.below hb;obtain ⟨xa0,xa1,xa2,xa3,xa4,xa5,xa6,xa7,xa8,xa9,xa10,xa11,xa12,xa13,xa14,xa15,xa16,xa17⟩:=XA.all;obtain ⟨xb0,xb1,xb2,xb3,xb4,xb5,xb6,xb7,xb8,xb9,xb10,xb11,xb12,xb13,xb14,xb15,xb16,xb17⟩:=XB.all
 go_wp2_with (first
  | (go_at_call 76;(with_reducible refine (rats_dec M.ab.qx N.ab.qx HN.out.1.1 HN.out.1.2 true H0.out).mono ?_);rintro e w_z ⟨rfl,hh⟩
     (try replace M:=M.below hh);(try replace N:=N.below hh);(try replace XA:=XA.below hh);(try replace XB:=XB.below hh);replace hb:=bend hb hh;obtain ⟨xa0,xa1,xa2,xa3,xa4,xa5,xa6,xa7,xa8,xa9,xa10,xa11,xa12,xa13,xa14,xa15,xa16,xa17⟩:=XA.all;obtain ⟨xb0,xb1,xb2,xb3,xb4,xb5,xb6,xb7,xb8,xb9,xb10,xb11,xb12,xb13,xb14,xb15,xb16,xb17⟩:=XB.all)
  | (go_at_call 76;(with_reducible refine (rats_dec M.ab.qy N.ab.qy HN.out.2.1.1 HN.out.2.1.2 false H1.out).mono ?_);rintro e w_z ⟨rfl,hh⟩
     (try replace M:=M.below hh);(try replace N:=N.below hh);(try replace XA:=XA.below hh);(try replace XB:=XB.below hh);replace hb:=bend hb hh;obtain ⟨xa0,xa1,xa2,xa3,xa4,xa5,xa6,xa7,xa8,xa9,xa10,xa11,xa12,xa13,xa14,xa15,xa16,xa17⟩:=XA.all;obtain ⟨xb0,xb1,xb2,xb3,xb4,xb5,xb6,xb7,xb8,xb9,xb10,xb11,xb12,xb13,xb14,xb15,xb16,xb17⟩:=XB.all))
 go_ret;exact ⟨rfl,hb⟩
theorem mats_2 {k l k2 l2:Nat} {v u:AM} {m n:MV} (M:MG w m v k l) (N:MG w n u k2 l2) (hn:((m.a.n≤maxLen∧m.a.m≤maxLen)∧(m.b.n≤maxLen∧m.b.m≤maxLen)∧(m.c.n≤maxLen∧m.c.m≤maxLen)∧(m.d.n≤maxLen∧m.d.m≤maxLen)∧(m.e.n≤maxLen∧m.e.m≤maxLen)∧(m.f.n≤maxLen∧m.f.m≤maxLen))) (e0:decide (v.a=u.a)=true) (e1:decide (v.b=u.b)=true) (e2:decide (v.c=u.c)=false) :
 Calls Tryz.prog 49 #[.agg #[.bool m.a.s,.slice m.a.A m.a.n m.a.c,.slice m.a.B m.a.m m.a.d,.bool m.b.s,.slice m.b.A m.b.n m.b.c,.slice m.b.B m.b.m m.b.d,.bool m.c.s,.slice m.c.A m.c.n m.c.c,.slice m.c.B m.c.m m.c.d,.bool m.d.s,.slice m.d.A m.d.n m.d.c,.slice m.d.B m.d.m m.d.d,.bool m.e.s,.slice m.e.A m.e.n m.e.c,.slice m.e.B m.e.m m.e.d,.bool m.f.s,.slice m.f.A m.f.n m.f.c,.slice m.f.B m.f.m m.f.d],.agg #[.bool n.a.s,.slice n.a.A n.a.n n.a.c,.slice n.a.B n.a.m n.a.d,.bool n.b.s,.slice n.b.A n.b.n n.b.c,.slice n.b.B n.b.m n.b.d,.bool n.c.s,.slice n.c.A n.c.n n.c.c,.slice n.c.B n.c.m n.c.d,.bool n.d.s,.slice n.d.A n.d.n n.d.c,.slice n.d.B n.d.m n.d.d,.bool n.e.s,.slice n.e.A n.e.n n.e.c,.slice n.e.B n.e.m n.e.d,.bool n.f.s,.slice n.f.A n.f.n n.f.c,.slice n.f.B n.f.m n.f.d]] w fun e w'=>e=.returned (.bool false)∧Below w.heap.size w w':=by
 have HN:=Lib.hid hn;clear hn;have H0:=Lib.hid e0;clear e0;have H1:=Lib.hid e1;clear e1;have H2:=Lib.hid e2;clear e2
 go_enter Tryz.func49,Tryz.ntmps49
 go_wp2_with fail
 generalize hW:World.alloc _ _=W
 obtain ⟨hb,XA,XB,hzW⟩:=mkbx45_15 hW;clear hW;replace M:=M.below hb;replace N:=N.below hb;obtain ⟨xa0,xa1,xa2,xa3,xa4,xa5,xa6,xa7,xa8,xa9,xa10,xa11,xa12,xa13,xa14,xa15,xa16,xa17⟩:=XA.all;obtain ⟨xb0,xb1,xb2,xb3,xb4,xb5,xb6,xb7,xb8,xb9,xb10,xb11,xb12,xb13,xb14,xb15,xb16,xb17⟩:=XB.all
 go_wp2_with (first
  | (go_at_call 76;(with_reducible refine (rats_dec M.ab.qx N.ab.qx HN.out.1.1 HN.out.1.2 true H0.out).mono ?_);rintro e w_z ⟨rfl,hh⟩
     (try replace M:=M.below hh);(try replace N:=N.below hh);(try replace XA:=XA.below hh);(try replace XB:=XB.below hh);replace hb:=bend hb hh;obtain ⟨xa0,xa1,xa2,xa3,xa4,xa5,xa6,xa7,xa8,xa9,xa10,xa11,xa12,xa13,xa14,xa15,xa16,xa17⟩:=XA.all;obtain ⟨xb0,xb1,xb2,xb3,xb4,xb5,xb6,xb7,xb8,xb9,xb10,xb11,xb12,xb13,xb14,xb15,xb16,xb17⟩:=XB.all)
  | (go_at_call 76;(with_reducible refine (rats_dec M.ab.qy N.ab.qy HN.out.2.1.1 HN.out.2.1.2 true H1.out).mono ?_);rintro e w_z ⟨rfl,hh⟩
     (try replace M:=M.below hh);(try replace N:=N.below hh);(try replace XA:=XA.below hh);(try replace XB:=XB.below hh);replace hb:=bend hb hh;obtain ⟨xa0,xa1,xa2,xa3,xa4,xa5,xa6,xa7,xa8,xa9,xa10,xa11,xa12,xa13,xa14,xa15,xa16,xa17⟩:=XA.all;obtain ⟨xb0,xb1,xb2,xb3,xb4,xb5,xb6,xb7,xb8,xb9,xb10,xb11,xb12,xb13,xb14,xb15,xb16,xb17⟩:=XB.all)
  | (go_at_call 76;(with_reducible refine (rats_dec M.cd.qx N.cd.qx HN.out.2.2.1.1 HN.out.2.2.1.2 false H2.out).mono ?_);rintro e w_z ⟨rfl,hh⟩
     (try replace M:=M.below hh);(try replace N:=N.below hh);(try replace XA:=XA.below hh);(try replace XB:=XB.below hh);replace hb:=bend hb hh;obtain ⟨xa0,xa1,xa2,xa3,xa4,xa5,xa6,xa7,xa8,xa9,xa10,xa11,xa12,xa13,xa14,xa15,xa16,xa17⟩:=XA.all;obtain ⟨xb0,xb1,xb2,xb3,xb4,xb5,xb6,xb7,xb8,xb9,xb10,xb11,xb12,xb13,xb14,xb15,xb16,xb17⟩:=XB.all))
 go_ret;exact ⟨rfl,hb⟩
theorem mats_3 {k l k2 l2:Nat} {v u:AM} {m n:MV} (M:MG w m v k l) (N:MG w n u k2 l2) (hn:((m.a.n≤maxLen∧m.a.m≤maxLen)∧(m.b.n≤maxLen∧m.b.m≤maxLen)∧(m.c.n≤maxLen∧m.c.m≤maxLen)∧(m.d.n≤maxLen∧m.d.m≤maxLen)∧(m.e.n≤maxLen∧m.e.m≤maxLen)∧(m.f.n≤maxLen∧m.f.m≤maxLen))) (e0:decide (v.a=u.a)=true) (e1:decide (v.b=u.b)=true) (e2:decide (v.c=u.c)=true) (e3:decide (v.d=u.d)=false) :
 Calls Tryz.prog 49 #[.agg #[.bool m.a.s,.slice m.a.A m.a.n m.a.c,.slice m.a.B m.a.m m.a.d,.bool m.b.s,.slice m.b.A m.b.n m.b.c,.slice m.b.B m.b.m m.b.d,.bool m.c.s,.slice m.c.A m.c.n m.c.c,.slice m.c.B m.c.m m.c.d,.bool m.d.s,.slice m.d.A m.d.n m.d.c,.slice m.d.B m.d.m m.d.d,.bool m.e.s,.slice m.e.A m.e.n m.e.c,.slice m.e.B m.e.m m.e.d,.bool m.f.s,.slice m.f.A m.f.n m.f.c,.slice m.f.B m.f.m m.f.d],.agg #[.bool n.a.s,.slice n.a.A n.a.n n.a.c,.slice n.a.B n.a.m n.a.d,.bool n.b.s,.slice n.b.A n.b.n n.b.c,.slice n.b.B n.b.m n.b.d,.bool n.c.s,.slice n.c.A n.c.n n.c.c,.slice n.c.B n.c.m n.c.d,.bool n.d.s,.slice n.d.A n.d.n n.d.c,.slice n.d.B n.d.m n.d.d,.bool n.e.s,.slice n.e.A n.e.n n.e.c,.slice n.e.B n.e.m n.e.d,.bool n.f.s,.slice n.f.A n.f.n n.f.c,.slice n.f.B n.f.m n.f.d]] w fun e w'=>e=.returned (.bool false)∧Below w.heap.size w w':=by
 have HN:=Lib.hid hn;clear hn;have H0:=Lib.hid e0;clear e0;have H1:=Lib.hid e1;clear e1;have H2:=Lib.hid e2;clear e2;have H3:=Lib.hid e3;clear e3
 go_enter Tryz.func49,Tryz.ntmps49
 go_wp2_with fail
 generalize hW:World.alloc _ _=W
 obtain ⟨hb,XA,XB,hzW⟩:=mkbx45_15 hW;clear hW;replace M:=M.below hb;replace N:=N.below hb;obtain ⟨xa0,xa1,xa2,xa3,xa4,xa5,xa6,xa7,xa8,xa9,xa10,xa11,xa12,xa13,xa14,xa15,xa16,xa17⟩:=XA.all;obtain ⟨xb0,xb1,xb2,xb3,xb4,xb5,xb6,xb7,xb8,xb9,xb10,xb11,xb12,xb13,xb14,xb15,xb16,xb17⟩:=XB.all
 go_wp2_with (first
  | (go_at_call 76;(with_reducible refine (rats_dec M.ab.qx N.ab.qx HN.out.1.1 HN.out.1.2 true H0.out).mono ?_);rintro e w_z ⟨rfl,hh⟩
     (try replace M:=M.below hh);(try replace N:=N.below hh);(try replace XA:=XA.below hh);(try replace XB:=XB.below hh);replace hb:=bend hb hh;obtain ⟨xa0,xa1,xa2,xa3,xa4,xa5,xa6,xa7,xa8,xa9,xa10,xa11,xa12,xa13,xa14,xa15,xa16,xa17⟩:=XA.all;obtain ⟨xb0,xb1,xb2,xb3,xb4,xb5,xb6,xb7,xb8,xb9,xb10,xb11,xb12,xb13,xb14,xb15,xb16,xb17⟩:=XB.all)
  | (go_at_call 76;(with_reducible refine (rats_dec M.ab.qy N.ab.qy HN.out.2.1.1 HN.out.2.1.2 true H1.out).mono ?_);rintro e w_z ⟨rfl,hh⟩
     (try replace M:=M.below hh);(try replace N:=N.below hh);(try replace XA:=XA.below hh);(try replace XB:=XB.below hh);replace hb:=bend hb hh;obtain ⟨xa0,xa1,xa2,xa3,xa4,xa5,xa6,xa7,xa8,xa9,xa10,xa11,xa12,xa13,xa14,xa15,xa16,xa17⟩:=XA.all;obtain ⟨xb0,xb1,xb2,xb3,xb4,xb5,xb6,xb7,xb8,xb9,xb10,xb11,xb12,xb13,xb14,xb15,xb16,xb17⟩:=XB.all)
  | (go_at_call 76;(with_reducible refine (rats_dec M.cd.qx N.cd.qx HN.out.2.2.1.1 HN.out.2.2.1.2 true H2.out).mono ?_);rintro e w_z ⟨rfl,hh⟩
     (try replace M:=M.below hh);(try replace N:=N.below hh);(try replace XA:=XA.below hh);(try replace XB:=XB.below hh);replace hb:=bend hb hh;obtain ⟨xa0,xa1,xa2,xa3,xa4,xa5,xa6,xa7,xa8,xa9,xa10,xa11,xa12,xa13,xa14,xa15,xa16,xa17⟩:=XA.all;obtain ⟨xb0,xb1,xb2,xb3,xb4,xb5,xb6,xb7,xb8,xb9,xb10,xb11,xb12,xb13,xb14,xb15,xb16,xb17⟩:=XB.all)
  | (go_at_call 76;(with_reducible refine (rats_dec M.cd.qy N.cd.qy HN.out.2.2.2.1.1 HN.out.2.2.2.1.2 false H3.out).mono ?_);rintro e w_z ⟨rfl,hh⟩
     (try replace M:=M.below hh);(try replace N:=N.below hh);(try replace XA:=XA.below hh);(try replace XB:=XB.below hh);replace hb:=bend hb hh;obtain ⟨xa0,xa1,xa2,xa3,xa4,xa5,xa6,xa7,xa8,xa9,xa10,xa11,xa12,xa13,xa14,xa15,xa16,xa17⟩:=XA.all;obtain ⟨xb0,xb1,xb2,xb3,xb4,xb5,xb6,xb7,xb8,xb9,xb10,xb11,xb12,xb13,xb14,xb15,xb16,xb17⟩:=XB.all))
 go_ret;exact ⟨rfl,hb⟩
theorem mats_4 {k l k2 l2:Nat} {v u:AM} {m n:MV} (M:MG w m v k l) (N:MG w n u k2 l2) (hn:((m.a.n≤maxLen∧m.a.m≤maxLen)∧(m.b.n≤maxLen∧m.b.m≤maxLen)∧(m.c.n≤maxLen∧m.c.m≤maxLen)∧(m.d.n≤maxLen∧m.d.m≤maxLen)∧(m.e.n≤maxLen∧m.e.m≤maxLen)∧(m.f.n≤maxLen∧m.f.m≤maxLen))) (e0:decide (v.a=u.a)=true) (e1:decide (v.b=u.b)=true) (e2:decide (v.c=u.c)=true) (e3:decide (v.d=u.d)=true) (e4:decide (v.e=u.e)=false) :
 Calls Tryz.prog 49 #[.agg #[.bool m.a.s,.slice m.a.A m.a.n m.a.c,.slice m.a.B m.a.m m.a.d,.bool m.b.s,.slice m.b.A m.b.n m.b.c,.slice m.b.B m.b.m m.b.d,.bool m.c.s,.slice m.c.A m.c.n m.c.c,.slice m.c.B m.c.m m.c.d,.bool m.d.s,.slice m.d.A m.d.n m.d.c,.slice m.d.B m.d.m m.d.d,.bool m.e.s,.slice m.e.A m.e.n m.e.c,.slice m.e.B m.e.m m.e.d,.bool m.f.s,.slice m.f.A m.f.n m.f.c,.slice m.f.B m.f.m m.f.d],.agg #[.bool n.a.s,.slice n.a.A n.a.n n.a.c,.slice n.a.B n.a.m n.a.d,.bool n.b.s,.slice n.b.A n.b.n n.b.c,.slice n.b.B n.b.m n.b.d,.bool n.c.s,.slice n.c.A n.c.n n.c.c,.slice n.c.B n.c.m n.c.d,.bool n.d.s,.slice n.d.A n.d.n n.d.c,.slice n.d.B n.d.m n.d.d,.bool n.e.s,.slice n.e.A n.e.n n.e.c,.slice n.e.B n.e.m n.e.d,.bool n.f.s,.slice n.f.A n.f.n n.f.c,.slice n.f.B n.f.m n.f.d]] w fun e w'=>e=.returned (.bool false)∧Below w.heap.size w w':=by
 have HN:=Lib.hid hn;clear hn;have H0:=Lib.hid e0;clear e0;have H1:=Lib.hid e1;clear e1;have H2:=Lib.hid e2;clear e2;have H3:=Lib.hid e3;clear e3;have H4:=Lib.hid e4;clear e4
 go_enter Tryz.func49,Tryz.ntmps49
 go_wp2_with fail
 generalize hW:World.alloc _ _=W
 obtain ⟨hb,XA,XB,hzW⟩:=mkbx45_15 hW;clear hW;replace M:=M.below hb;replace N:=N.below hb;obtain ⟨xa0,xa1,xa2,xa3,xa4,xa5,xa6,xa7,xa8,xa9,xa10,xa11,xa12,xa13,xa14,xa15,xa16,xa17⟩:=XA.all;obtain ⟨xb0,xb1,xb2,xb3,xb4,xb5,xb6,xb7,xb8,xb9,xb10,xb11,xb12,xb13,xb14,xb15,xb16,xb17⟩:=XB.all
 go_wp2_with (first
  | (go_at_call 76;(with_reducible refine (rats_dec M.ab.qx N.ab.qx HN.out.1.1 HN.out.1.2 true H0.out).mono ?_);rintro e w_z ⟨rfl,hh⟩
     (try replace M:=M.below hh);(try replace N:=N.below hh);(try replace XA:=XA.below hh);(try replace XB:=XB.below hh);replace hb:=bend hb hh;obtain ⟨xa0,xa1,xa2,xa3,xa4,xa5,xa6,xa7,xa8,xa9,xa10,xa11,xa12,xa13,xa14,xa15,xa16,xa17⟩:=XA.all;obtain ⟨xb0,xb1,xb2,xb3,xb4,xb5,xb6,xb7,xb8,xb9,xb10,xb11,xb12,xb13,xb14,xb15,xb16,xb17⟩:=XB.all)
  | (go_at_call 76;(with_reducible refine (rats_dec M.ab.qy N.ab.qy HN.out.2.1.1 HN.out.2.1.2 true H1.out).mono ?_);rintro e w_z ⟨rfl,hh⟩
     (try replace M:=M.below hh);(try replace N:=N.below hh);(try replace XA:=XA.below hh);(try replace XB:=XB.below hh);replace hb:=bend hb hh;obtain ⟨xa0,xa1,xa2,xa3,xa4,xa5,xa6,xa7,xa8,xa9,xa10,xa11,xa12,xa13,xa14,xa15,xa16,xa17⟩:=XA.all;obtain ⟨xb0,xb1,xb2,xb3,xb4,xb5,xb6,xb7,xb8,xb9,xb10,xb11,xb12,xb13,xb14,xb15,xb16,xb17⟩:=XB.all)
  | (go_at_call 76;(with_reducible refine (rats_dec M.cd.qx N.cd.qx HN.out.2.2.1.1 HN.out.2.2.1.2 true H2.out).mono ?_);rintro e w_z ⟨rfl,hh⟩
     (try replace M:=M.below hh);(try replace N:=N.below hh);(try replace XA:=XA.below hh);(try replace XB:=XB.below hh);replace hb:=bend hb hh;obtain ⟨xa0,xa1,xa2,xa3,xa4,xa5,xa6,xa7,xa8,xa9,xa10,xa11,xa12,xa13,xa14,xa15,xa16,xa17⟩:=XA.all;obtain ⟨xb0,xb1,xb2,xb3,xb4,xb5,xb6,xb7,xb8,xb9,xb10,xb11,xb12,xb13,xb14,xb15,xb16,xb17⟩:=XB.all)
  | (go_at_call 76;(with_reducible refine (rats_dec M.cd.qy N.cd.qy HN.out.2.2.2.1.1 HN.out.2.2.2.1.2 true H3.out).mono ?_);rintro e w_z ⟨rfl,hh⟩
     (try replace M:=M.below hh);(try replace N:=N.below hh);(try replace XA:=XA.below hh);(try replace XB:=XB.below hh);replace hb:=bend hb hh;obtain ⟨xa0,xa1,xa2,xa3,xa4,xa5,xa6,xa7,xa8,xa9,xa10,xa11,xa12,xa13,xa14,xa15,xa16,xa17⟩:=XA.all;obtain ⟨xb0,xb1,xb2,xb3,xb4,xb5,xb6,xb7,xb8,xb9,xb10,xb11,xb12,xb13,xb14,xb15,xb16,xb17⟩:=XB.all)
  | (go_at_call 76;(with_reducible refine (rats_dec M.ef.qx N.ef.qx HN.out.2.2.2.2.1.1 HN.out.2.2.2.2.1.2 false H4.out).mono ?_);rintro e w_z ⟨rfl,hh⟩
     (try replace M:=M.below hh);(try replace N:=N.below hh);(try replace XA:=XA.below hh);(try replace XB:=XB.below hh);replace hb:=bend hb hh;obtain ⟨xa0,xa1,xa2,xa3,xa4,xa5,xa6,xa7,xa8,xa9,xa10,xa11,xa12,xa13,xa14,xa15,xa16,xa17⟩:=XA.all;obtain ⟨xb0,xb1,xb2,xb3,xb4,xb5,xb6,xb7,xb8,xb9,xb10,xb11,xb12,xb13,xb14,xb15,xb16,xb17⟩:=XB.all))
 go_ret;exact ⟨rfl,hb⟩
theorem mats_5 {k l k2 l2:Nat} {v u:AM} {m n:MV} (M:MG w m v k l) (N:MG w n u k2 l2) (hn:((m.a.n≤maxLen∧m.a.m≤maxLen)∧(m.b.n≤maxLen∧m.b.m≤maxLen)∧(m.c.n≤maxLen∧m.c.m≤maxLen)∧(m.d.n≤maxLen∧m.d.m≤maxLen)∧(m.e.n≤maxLen∧m.e.m≤maxLen)∧(m.f.n≤maxLen∧m.f.m≤maxLen))) (e0:decide (v.a=u.a)=true) (e1:decide (v.b=u.b)=true) (e2:decide (v.c=u.c)=true) (e3:decide (v.d=u.d)=true) (e4:decide (v.e=u.e)=true) (e5:decide (v.f=u.f)=false) :
 Calls Tryz.prog 49 #[.agg #[.bool m.a.s,.slice m.a.A m.a.n m.a.c,.slice m.a.B m.a.m m.a.d,.bool m.b.s,.slice m.b.A m.b.n m.b.c,.slice m.b.B m.b.m m.b.d,.bool m.c.s,.slice m.c.A m.c.n m.c.c,.slice m.c.B m.c.m m.c.d,.bool m.d.s,.slice m.d.A m.d.n m.d.c,.slice m.d.B m.d.m m.d.d,.bool m.e.s,.slice m.e.A m.e.n m.e.c,.slice m.e.B m.e.m m.e.d,.bool m.f.s,.slice m.f.A m.f.n m.f.c,.slice m.f.B m.f.m m.f.d],.agg #[.bool n.a.s,.slice n.a.A n.a.n n.a.c,.slice n.a.B n.a.m n.a.d,.bool n.b.s,.slice n.b.A n.b.n n.b.c,.slice n.b.B n.b.m n.b.d,.bool n.c.s,.slice n.c.A n.c.n n.c.c,.slice n.c.B n.c.m n.c.d,.bool n.d.s,.slice n.d.A n.d.n n.d.c,.slice n.d.B n.d.m n.d.d,.bool n.e.s,.slice n.e.A n.e.n n.e.c,.slice n.e.B n.e.m n.e.d,.bool n.f.s,.slice n.f.A n.f.n n.f.c,.slice n.f.B n.f.m n.f.d]] w fun e w'=>e=.returned (.bool false)∧Below w.heap.size w w':=by
 have HN:=Lib.hid hn;clear hn;have H0:=Lib.hid e0;clear e0;have H1:=Lib.hid e1;clear e1;have H2:=Lib.hid e2;clear e2;have H3:=Lib.hid e3;clear e3;have H4:=Lib.hid e4;clear e4;have H5:=Lib.hid e5;clear e5
 go_enter Tryz.func49,Tryz.ntmps49
 go_wp2_with fail
 generalize hW:World.alloc _ _=W
 obtain ⟨hb,XA,XB,hzW⟩:=mkbx45_15 hW;clear hW;replace M:=M.below hb;replace N:=N.below hb;obtain ⟨xa0,xa1,xa2,xa3,xa4,xa5,xa6,xa7,xa8,xa9,xa10,xa11,xa12,xa13,xa14,xa15,xa16,xa17⟩:=XA.all;obtain ⟨xb0,xb1,xb2,xb3,xb4,xb5,xb6,xb7,xb8,xb9,xb10,xb11,xb12,xb13,xb14,xb15,xb16,xb17⟩:=XB.all
 go_wp2_with (first
  | (go_at_call 76;(with_reducible refine (rats_dec M.ab.qx N.ab.qx HN.out.1.1 HN.out.1.2 true H0.out).mono ?_);rintro e w_z ⟨rfl,hh⟩
     (try replace M:=M.below hh);(try replace N:=N.below hh);(try replace XA:=XA.below hh);(try replace XB:=XB.below hh);replace hb:=bend hb hh;obtain ⟨xa0,xa1,xa2,xa3,xa4,xa5,xa6,xa7,xa8,xa9,xa10,xa11,xa12,xa13,xa14,xa15,xa16,xa17⟩:=XA.all;obtain ⟨xb0,xb1,xb2,xb3,xb4,xb5,xb6,xb7,xb8,xb9,xb10,xb11,xb12,xb13,xb14,xb15,xb16,xb17⟩:=XB.all)
  | (go_at_call 76;(with_reducible refine (rats_dec M.ab.qy N.ab.qy HN.out.2.1.1 HN.out.2.1.2 true H1.out).mono ?_);rintro e w_z ⟨rfl,hh⟩
     (try replace M:=M.below hh);(try replace N:=N.below hh);(try replace XA:=XA.below hh);(try replace XB:=XB.below hh);replace hb:=bend hb hh;obtain ⟨xa0,xa1,xa2,xa3,xa4,xa5,xa6,xa7,xa8,xa9,xa10,xa11,xa12,xa13,xa14,xa15,xa16,xa17⟩:=XA.all;obtain ⟨xb0,xb1,xb2,xb3,xb4,xb5,xb6,xb7,xb8,xb9,xb10,xb11,xb12,xb13,xb14,xb15,xb16,xb17⟩:=XB.all)
  | (go_at_call 76;(with_reducible refine (rats_dec M.cd.qx N.cd.qx HN.out.2.2.1.1 HN.out.2.2.1.2 true H2.out).mono ?_);rintro e w_z ⟨rfl,hh⟩
     (try replace M:=M.below hh);(try replace N:=N.below hh);(try replace XA:=XA.below hh);(try replace XB:=XB.below hh);replace hb:=bend hb hh;obtain ⟨xa0,xa1,xa2,xa3,xa4,xa5,xa6,xa7,xa8,xa9,xa10,xa11,xa12,xa13,xa14,xa15,xa16,xa17⟩:=XA.all;obtain ⟨xb0,xb1,xb2,xb3,xb4,xb5,xb6,xb7,xb8,xb9,xb10,xb11,xb12,xb13,xb14,xb15,xb16,xb17⟩:=XB.all)
  | (go_at_call 76;(with_reducible refine (rats_dec M.cd.qy N.cd.qy HN.out.2.2.2.1.1 HN.out.2.2.2.1.2 true H3.out).mono ?_);rintro e w_z ⟨rfl,hh⟩
     (try replace M:=M.below hh);(try replace N:=N.below hh);(try replace XA:=XA.below hh);(try replace XB:=XB.below hh);replace hb:=bend hb hh;obtain ⟨xa0,xa1,xa2,xa3,xa4,xa5,xa6,xa7,xa8,xa9,xa10,xa11,xa12,xa13,xa14,xa15,xa16,xa17⟩:=XA.all;obtain ⟨xb0,xb1,xb2,xb3,xb4,xb5,xb6,xb7,xb8,xb9,xb10,xb11,xb12,xb13,xb14,xb15,xb16,xb17⟩:=XB.all)
  | (go_at_call 76;(with_reducible refine (rats_dec M.ef.qx N.ef.qx HN.out.2.2.2.2.1.1 HN.out.2.2.2.2.1.2 true H4.out).mono ?_);rintro e w_z ⟨rfl,hh⟩
     (try replace M:=M.below hh);(try replace N:=N.below hh);(try replace XA:=XA.below hh);(try replace XB:=XB.below hh);replace hb:=bend hb hh;obtain ⟨xa0,xa1,xa2,xa3,xa4,xa5,xa6,xa7,xa8,xa9,xa10,xa11,xa12,xa13,xa14,xa15,xa16,xa17⟩:=XA.all;obtain ⟨xb0,xb1,xb2,xb3,xb4,xb5,xb6,xb7,xb8,xb9,xb10,xb11,xb12,xb13,xb14,xb15,xb16,xb17⟩:=XB.all)
  | (go_at_call 76;(with_reducible refine (rats_dec M.ef.qy N.ef.qy HN.out.2.2.2.2.2.1 HN.out.2.2.2.2.2.2 false H5.out).mono ?_);rintro e w_z ⟨rfl,hh⟩
     (try replace M:=M.below hh);(try replace N:=N.below hh);(try replace XA:=XA.below hh);(try replace XB:=XB.below hh);replace hb:=bend hb hh;obtain ⟨xa0,xa1,xa2,xa3,xa4,xa5,xa6,xa7,xa8,xa9,xa10,xa11,xa12,xa13,xa14,xa15,xa16,xa17⟩:=XA.all;obtain ⟨xb0,xb1,xb2,xb3,xb4,xb5,xb6,xb7,xb8,xb9,xb10,xb11,xb12,xb13,xb14,xb15,xb16,xb17⟩:=XB.all))
 go_ret;exact ⟨rfl,hb⟩
theorem mats_6 {k l k2 l2:Nat} {v u:AM} {m n:MV} (M:MG w m v k l) (N:MG w n u k2 l2) (hn:((m.a.n≤maxLen∧m.a.m≤maxLen)∧(m.b.n≤maxLen∧m.b.m≤maxLen)∧(m.c.n≤maxLen∧m.c.m≤maxLen)∧(m.d.n≤maxLen∧m.d.m≤maxLen)∧(m.e.n≤maxLen∧m.e.m≤maxLen)∧(m.f.n≤maxLen∧m.f.m≤maxLen))) (e0:decide (v.a=u.a)=true) (e1:decide (v.b=u.b)=true) (e2:decide (v.c=u.c)=true) (e3:decide (v.d=u.d)=true) (e4:decide (v.e=u.e)=true) (e5:decide (v.f=u.f)=true) :
 Calls Tryz.prog 49 #[.agg #[.bool m.a.s,.slice m.a.A m.a.n m.a.c,.slice m.a.B m.a.m m.a.d,.bool m.b.s,.slice m.b.A m.b.n m.b.c,.slice m.b.B m.b.m m.b.d,.bool m.c.s,.slice m.c.A m.c.n m.c.c,.slice m.c.B m.c.m m.c.d,.bool m.d.s,.slice m.d.A m.d.n m.d.c,.slice m.d.B m.d.m m.d.d,.bool m.e.s,.slice m.e.A m.e.n m.e.c,.slice m.e.B m.e.m m.e.d,.bool m.f.s,.slice m.f.A m.f.n m.f.c,.slice m.f.B m.f.m m.f.d],.agg #[.bool n.a.s,.slice n.a.A n.a.n n.a.c,.slice n.a.B n.a.m n.a.d,.bool n.b.s,.slice n.b.A n.b.n n.b.c,.slice n.b.B n.b.m n.b.d,.bool n.c.s,.slice n.c.A n.c.n n.c.c,.slice n.c.B n.c.m n.c.d,.bool n.d.s,.slice n.d.A n.d.n n.d.c,.slice n.d.B n.d.m n.d.d,.bool n.e.s,.slice n.e.A n.e.n n.e.c,.slice n.e.B n.e.m n.e.d,.bool n.f.s,.slice n.f.A n.f.n n.f.c,.slice n.f.B n.f.m n.f.d]] w fun e w'=>e=.returned (.bool true)∧Below w.heap.size w w':=by
 have HN:=Lib.hid hn;clear hn;have H0:=Lib.hid e0;clear e0;have H1:=Lib.hid e1;clear e1;have H2:=Lib.hid e2;clear e2;have H3:=Lib.hid e3;clear e3;have H4:=Lib.hid e4;clear e4;have H5:=Lib.hid e5;clear e5
 go_enter Tryz.func49,Tryz.ntmps49
 go_wp2_with fail
 generalize hW:World.alloc _ _=W
 obtain ⟨hb,XA,XB,hzW⟩:=mkbx45_15 hW;clear hW;replace M:=M.below hb;replace N:=N.below hb;obtain ⟨xa0,xa1,xa2,xa3,xa4,xa5,xa6,xa7,xa8,xa9,xa10,xa11,xa12,xa13,xa14,xa15,xa16,xa17⟩:=XA.all;obtain ⟨xb0,xb1,xb2,xb3,xb4,xb5,xb6,xb7,xb8,xb9,xb10,xb11,xb12,xb13,xb14,xb15,xb16,xb17⟩:=XB.all
 go_wp2_with (first
  | (go_at_call 76;(with_reducible refine (rats_dec M.ab.qx N.ab.qx HN.out.1.1 HN.out.1.2 true H0.out).mono ?_);rintro e w_z ⟨rfl,hh⟩
     (try replace M:=M.below hh);(try replace N:=N.below hh);(try replace XA:=XA.below hh);(try replace XB:=XB.below hh);replace hb:=bend hb hh;obtain ⟨xa0,xa1,xa2,xa3,xa4,xa5,xa6,xa7,xa8,xa9,xa10,xa11,xa12,xa13,xa14,xa15,xa16,xa17⟩:=XA.all;obtain ⟨xb0,xb1,xb2,xb3,xb4,xb5,xb6,xb7,xb8,xb9,xb10,xb11,xb12,xb13,xb14,xb15,xb16,xb17⟩:=XB.all)
  | (go_at_call 76;(with_reducible refine (rats_dec M.ab.qy N.ab.qy HN.out.2.1.1 HN.out.2.1.2 true H1.out).mono ?_);rintro e w_z ⟨rfl,hh⟩
     (try replace M:=M.below hh);(try replace N:=N.below hh);(try replace XA:=XA.below hh);(try replace XB:=XB.below hh);replace hb:=bend hb hh;obtain ⟨xa0,xa1,xa2,xa3,xa4,xa5,xa6,xa7,xa8,xa9,xa10,xa11,xa12,xa13,xa14,xa15,xa16,xa17⟩:=XA.all;obtain ⟨xb0,xb1,xb2,xb3,xb4,xb5,xb6,xb7,xb8,xb9,xb10,xb11,xb12,xb13,xb14,xb15,xb16,xb17⟩:=XB.all)
  | (go_at_call 76;(with_reducible refine (rats_dec M.cd.qx N.cd.qx HN.out.2.2.1.1 HN.out.2.2.1.2 true H2.out).mono ?_);rintro e w_z ⟨rfl,hh⟩
     (try replace M:=M.below hh);(try replace N:=N.below hh);(try replace XA:=XA.below hh);(try replace XB:=XB.below hh);replace hb:=bend hb hh;obtain ⟨xa0,xa1,xa2,xa3,xa4,xa5,xa6,xa7,xa8,xa9,xa10,xa11,xa12,xa13,xa14,xa15,xa16,xa17⟩:=XA.all;obtain ⟨xb0,xb1,xb2,xb3,xb4,xb5,xb6,xb7,xb8,xb9,xb10,xb11,xb12,xb13,xb14,xb15,xb16,xb17⟩:=XB.all)
  | (go_at_call 76;(with_reducible refine (rats_dec M.cd.qy N.cd.qy HN.out.2.2.2.1.1 HN.out.2.2.2.1.2 true H3.out).mono ?_);rintro e w_z ⟨rfl,hh⟩
     (try replace M:=M.below hh);(try replace N:=N.below hh);(try replace XA:=XA.below hh);(try replace XB:=XB.below hh);replace hb:=bend hb hh;obtain ⟨xa0,xa1,xa2,xa3,xa4,xa5,xa6,xa7,xa8,xa9,xa10,xa11,xa12,xa13,xa14,xa15,xa16,xa17⟩:=XA.all;obtain ⟨xb0,xb1,xb2,xb3,xb4,xb5,xb6,xb7,xb8,xb9,xb10,xb11,xb12,xb13,xb14,xb15,xb16,xb17⟩:=XB.all)
  | (go_at_call 76;(with_reducible refine (rats_dec M.ef.qx N.ef.qx HN.out.2.2.2.2.1.1 HN.out.2.2.2.2.1.2 true H4.out).mono ?_);rintro e w_z ⟨rfl,hh⟩
     (try replace M:=M.below hh);(try replace N:=N.below hh);(try replace XA:=XA.below hh);(try replace XB:=XB.below hh);replace hb:=bend hb hh;obtain ⟨xa0,xa1,xa2,xa3,xa4,xa5,xa6,xa7,xa8,xa9,xa10,xa11,xa12,xa13,xa14,xa15,xa16,xa17⟩:=XA.all;obtain ⟨xb0,xb1,xb2,xb3,xb4,xb5,xb6,xb7,xb8,xb9,xb10,xb11,xb12,xb13,xb14,xb15,xb16,xb17⟩:=XB.all)
  | (go_at_call 76;(with_reducible refine (rats_dec M.ef.qy N.ef.qy HN.out.2.2.2.2.2.1 HN.out.2.2.2.2.2.2 true H5.out).mono ?_);rintro e w_z ⟨rfl,hh⟩
     (try replace M:=M.below hh);(try replace N:=N.below hh);(try replace XA:=XA.below hh);(try replace XB:=XB.below hh);replace hb:=bend hb hh;obtain ⟨xa0,xa1,xa2,xa3,xa4,xa5,xa6,xa7,xa8,xa9,xa10,xa11,xa12,xa13,xa14,xa15,xa16,xa17⟩:=XA.all;obtain ⟨xb0,xb1,xb2,xb3,xb4,xb5,xb6,xb7,xb8,xb9,xb10,xb11,xb12,xb13,xb14,xb15,xb16,xb17⟩:=XB.all))
 go_ret;exact ⟨rfl,hb⟩
def AM.eqs (v u:AM):Bool:=decide (v.a=u.a) && (decide (v.b=u.b) && (decide (v.c=u.c) && (decide (v.d=u.d) && (decide (v.e=u.e) && decide (v.f=u.f)))))
theorem mats_p {k l k2 l2:Nat} {v u:AM} {m n:MV} (M:MG w m v k l) (N:MG w n u k2 l2) (hn:((m.a.n≤maxLen∧m.a.m≤maxLen)∧(m.b.n≤maxLen∧m.b.m≤maxLen)∧(m.c.n≤maxLen∧m.c.m≤maxLen)∧(m.d.n≤maxLen∧m.d.m≤maxLen)∧(m.e.n≤maxLen∧m.e.m≤maxLen)∧(m.f.n≤maxLen∧m.f.m≤maxLen))) (R:Bool) (hR:v.eqs u=R) :
 Calls Tryz.prog 49 #[.agg #[.bool m.a.s,.slice m.a.A m.a.n m.a.c,.slice m.a.B m.a.m m.a.d,.bool m.b.s,.slice m.b.A m.b.n m.b.c,.slice m.b.B m.b.m m.b.d,.bool m.c.s,.slice m.c.A m.c.n m.c.c,.slice m.c.B m.c.m m.c.d,.bool m.d.s,.slice m.d.A m.d.n m.d.c,.slice m.d.B m.d.m m.d.d,.bool m.e.s,.slice m.e.A m.e.n m.e.c,.slice m.e.B m.e.m m.e.d,.bool m.f.s,.slice m.f.A m.f.n m.f.c,.slice m.f.B m.f.m m.f.d],.agg #[.bool n.a.s,.slice n.a.A n.a.n n.a.c,.slice n.a.B n.a.m n.a.d,.bool n.b.s,.slice n.b.A n.b.n n.b.c,.slice n.b.B n.b.m n.b.d,.bool n.c.s,.slice n.c.A n.c.n n.c.c,.slice n.c.B n.c.m n.c.d,.bool n.d.s,.slice n.d.A n.d.n n.d.c,.slice n.d.B n.d.m n.d.d,.bool n.e.s,.slice n.e.A n.e.n n.e.c,.slice n.e.B n.e.m n.e.d,.bool n.f.s,.slice n.f.A n.f.n n.f.c,.slice n.f.B n.f.m n.f.d]] w fun e w'=>e=.returned (.bool R)∧Below w.heap.size w w':=by
 subst hR
 unfold AM.eqs
 cases e0:decide (v.a=u.a) with
 | false=>exact mats_0 M N hn e0
 | true =>
   cases e1:decide (v.b=u.b) with
   | false=>exact mats_1 M N hn e0 e1
   | true =>
     cases e2:decide (v.c=u.c) with
     | false=>exact mats_2 M N hn e0 e1 e2
     | true =>
       cases e3:decide (v.d=u.d) with
       | false=>exact mats_3 M N hn e0 e1 e2 e3
       | true =>
         cases e4:decide (v.e=u.e) with
         | false=>exact mats_4 M N hn e0 e1 e2 e3 e4
         | true =>
           cases e5:decide (v.f=u.f) with
           | false=>exact mats_5 M N hn e0 e1 e2 e3 e4 e5
           | true =>
             exact mats_6 M N hn e0 e1 e2 e3 e4 e5
theorem eqs_self (v:AM):v.eqs v=true:=by unfold AM.eqs;simp
theorem eqs_same (v u:AM):v.same u=v.eqs u:=by
 unfold AM.same AM.sab AM.scd AM.sef AM.eqs
 simp only [Bool.decide_and,Bool.and_assoc]
theorem MG.len {k l:Nat} {v:AM} {m:MV} (h:MG w m v k l) (hk:k≤100000) (hl:l≤100000):((m.a.n≤maxLen∧m.a.m≤maxLen)∧(m.b.n≤maxLen∧m.b.m≤maxLen)∧(m.c.n≤maxLen∧m.c.m≤maxLen)∧(m.d.n≤maxLen∧m.d.m≤maxLen)∧(m.e.n≤maxLen∧m.e.m≤maxLen)∧(m.f.n≤maxLen∧m.f.m≤maxLen)):=by
 have a1:=h.1.1.1.2.2.2;have a2:=h.1.1.2.2.2;have b1:=h.1.2.1.2.2.2;have b2:=h.1.2.2.2.2;have c1:=h.2.1.1.1.2.2.2;have c2:=h.2.1.1.2.2.2;have d1:=h.2.1.2.1.2.2.2;have d2:=h.2.1.2.2.2.2;have e1:=h.2.2.1.1.2.2.2;have e2:=h.2.2.1.2.2.2;have f1:=h.2.2.2.1.2.2.2;have f2:=h.2.2.2.2.2.2
 unfold maxLen;omega
theorem lsame9 {k l k2 l2:Nat} {v u:AM} {m n:MV} (M:MG w m v k l) (N:RM w n u k2 l2) (hk:k≤100000) (hl:l≤100000) (hk2:k2≤100000) (hl2:l2≤100000) (hvu:v=u) :
 Calls Tryz.prog 41 #[.agg #[.bool m.a.s,.slice m.a.A m.a.n m.a.c,.slice m.a.B m.a.m m.a.d,.bool m.b.s,.slice m.b.A m.b.n m.b.c,.slice m.b.B m.b.m m.b.d,.bool m.c.s,.slice m.c.A m.c.n m.c.c,.slice m.c.B m.c.m m.c.d,.bool m.d.s,.slice m.d.A m.d.n m.d.c,.slice m.d.B m.d.m m.d.d,.bool m.e.s,.slice m.e.A m.e.n m.e.c,.slice m.e.B m.e.m m.e.d,.bool m.f.s,.slice m.f.A m.f.n m.f.c,.slice m.f.B m.f.m m.f.d],.agg #[.bool n.a.s,.slice n.a.A n.a.n n.a.c,.slice n.a.B n.a.m n.a.d,.bool n.b.s,.slice n.b.A n.b.n n.b.c,.slice n.b.B n.b.m n.b.d,.bool n.c.s,.slice n.c.A n.c.n n.c.c,.slice n.c.B n.c.m n.c.d,.bool n.d.s,.slice n.d.A n.d.n n.d.c,.slice n.d.B n.d.m n.d.d,.bool n.e.s,.slice n.e.A n.e.n n.e.c,.slice n.e.B n.e.m n.e.d,.bool n.f.s,.slice n.f.A n.f.n n.f.c,.slice n.f.B n.f.m n.f.d]] w fun e w'=>e=.returned (.bool true)∧Below w.heap.size w w':=by
 subst hvu
 have HN:=Lib.hid (M.len hk hl)
 obtain ⟨K,hK⟩:=v.fits_ex
 have HK:=Lib.hid hK;clear hK
 go_enter Tryz.func41,Tryz.ntmps41
 go_upto_region 1 with (fail)
 generalize hW:World.alloc _ _=W
 obtain ⟨hb,XA,XB,hzW⟩:=mkbx47_16 hW;clear hW;replace M:=M.below hb;replace N:=N.below hb
 replace M:=M.below (Below.refl _ _).drew
 replace N:=N.below (Below.refl _ _).drew
 replace XA:=XA.below (Below.refl _ _).drew
 replace XB:=XB.below (Below.refl _ _).drew
 replace hb:=hb.drew
 go_region_held3 (fun w'=>(LVM ⟨w.heap.size,0,none⟩).run Tryz.prog w'=.ok (.agg #[.bool m.a.s,.slice m.a.A m.a.n m.a.c,.slice m.a.B m.a.m m.a.d,.bool m.b.s,.slice m.b.A m.b.n m.b.c,.slice m.b.B m.b.m m.b.d,.bool m.c.s,.slice m.c.A m.c.n m.c.c,.slice m.c.B m.c.m m.c.d,.bool m.d.s,.slice m.d.A m.d.n m.d.c,.slice m.d.B m.d.m m.d.d,.bool m.e.s,.slice m.e.A m.e.n m.e.c,.slice m.e.B m.e.m m.e.d,.bool m.f.s,.slice m.f.A m.f.n m.f.c,.slice m.f.B m.f.m m.f.d]) w'∧(LVN ⟨w.heap.size+1,0,none⟩).run Tryz.prog w'=.ok (.agg #[.bool n.a.s,.slice n.a.A n.a.n n.a.c,.slice n.a.B n.a.m n.a.d,.bool n.b.s,.slice n.b.A n.b.n n.b.c,.slice n.b.B n.b.m n.b.d,.bool n.c.s,.slice n.c.A n.c.n n.c.c,.slice n.c.B n.c.m n.c.d,.bool n.d.s,.slice n.d.A n.d.n n.d.c,.slice n.d.B n.d.m n.d.d,.bool n.e.s,.slice n.e.A n.e.n n.e.c,.slice n.e.B n.e.m n.e.d,.bool n.f.s,.slice n.f.A n.f.n n.f.c,.slice n.f.B n.f.m n.f.d]) w')
  (first | with_reducible exact ⟨XA.ld,XB.ld⟩)
  (first
  | (go_at_call 50;(with_reducible refine (rout9 N hk2 hl2 HK.out).mono ?_);rintro e w_o ⟨o,rfl,oh,hh⟩
     (try replace M:=M.below hh);(try replace N:=N.below hh);(try replace XA:=XA.below hh);(try replace XB:=XB.below hh);replace hb:=bend hb hh)
  | (go_at_call 49;(with_reducible refine (mats_p M oh HN.out true (eqs_self _)).mono ?_);rintro e w_z ⟨rfl,hh⟩
     (try replace M:=M.below hh);(try replace N:=N.below hh);(try replace XA:=XA.below hh);(try replace XB:=XB.below hh);(try replace oh:=oh.below hh);replace hb:=bend hb hh))
 go_wp2_with fail
 go_ret;exact ⟨rfl,hb⟩
end
end Go.Proofs.YtgneghgfpkkkdaaGreat
