/- MatDoes: part 14. -/
import Derived.Laws.IdiomRangeMap
import Derived.LoopN
import Derived.Test.YtgneghgfpkkkdaaGreatKMatDoes7
import Derived.Test.YtgneghgfpkkkdaaGreatKMatDoes8
import Derived.Test.YtgneghgfpkkkdaaGreatKMatDoes9
import Derived.Test.YtgneghgfpkkkdaaGreatKMatDoes10
import Derived.Test.YtgneghgfpkkkdaaGreatKMatDoes11
import Derived.Test.YtgneghgfpkkkdaaGreatKMatDoes12
import Derived.Test.YtgneghgfpkkkdaaGreatKMatDoes13
set_option linter.unusedVariables false
set_option maxRecDepth 100000
set_option maxHeartbeats 16000000
variable {w:Go.World}
variable {s_p t_p:Bool} {A_p B_p E_p F_p:Option Go.Addr} {n_p c_p m_p d_p i_p e_p j_p f_p:Nat}
variable {s_q t_q:Bool} {A_q B_q E_q F_q:Option Go.Addr} {n_q c_q m_q d_q i_q e_q j_q f_q:Nat}
variable {s_r t_r:Bool} {A_r B_r E_r F_r:Option Go.Addr} {n_r c_r m_r d_r i_r e_r j_r f_r:Nat}
namespace Go.Proofs.YtgneghgfpkkkdaaGreat
section
open Go Go.RowKit
attribute [local go_sem ↓] open_LVM open_STM open_LVN open_STN
theorem mkbx37_14 {w W:World} {x0 x1 x2 x3 x4 x5 x6 x7 x8 x9 x10 x11 x12 x13 x14 x15 x16 x17 x18 x19 x20 x21 x22 x23:Value} (h:((w.alloc (Obj.cells #[x0,x1,x2,x3,x4,x5,x6,x7,x8,x9,x10,x11,x12,x13,x14,x15,x16,x17] 71)).alloc (Obj.cells #[x18,x19,x20,x21,x22,x23] 29))=W):Below w.heap.size w W∧B18 W (w.heap.size) x0 x1 x2 x3 x4 x5 x6 x7 x8 x9 x10 x11 x12 x13 x14 x15 x16 x17∧B6 W (w.heap.size+1) x18 x19 x20 x21 x22 x23∧W.heap.size=w.heap.size+2:=by subst h;exact ⟨by exact (((Below.refl _ _).alloc (Nat.le_refl _) _).alloc (by simp) _),by exact (B18.new' _ _ _ _ _ _ _ _ _ _ _ _ _ _ _ _ _ _ _ _ rfl).alloc _,by exact B6.new' _ _ _ _ _ _ _ _ (by simp),by simp⟩
theorem mfirst_any {m:MV} :
 Calls Tryz.prog 112 #[.agg #[.bool m.a.s,.slice m.a.A m.a.n m.a.c,.slice m.a.B m.a.m m.a.d,.bool m.b.s,.slice m.b.A m.b.n m.b.c,.slice m.b.B m.b.m m.b.d,.bool m.c.s,.slice m.c.A m.c.n m.c.c,.slice m.c.B m.c.m m.c.d,.bool m.d.s,.slice m.d.A m.d.n m.d.c,.slice m.d.B m.d.m m.d.d,.bool m.e.s,.slice m.e.A m.e.n m.e.c,.slice m.e.B m.e.m m.e.d,.bool m.f.s,.slice m.f.A m.f.n m.f.c,.slice m.f.B m.f.m m.f.d]] w fun e w'=>e=.returned (.agg #[.bool m.a.s,.slice m.a.A m.a.n m.a.c,.slice m.a.B m.a.m m.a.d,.bool m.b.s,.slice m.b.A m.b.n m.b.c,.slice m.b.B m.b.m m.b.d])∧Below w.heap.size w w':=by
 go_enter Tryz.func112,Tryz.ntmps112
 go_upto_region 1 with (fail)
 generalize hW:World.alloc _ _=W
 obtain ⟨hb,XA,Z,hzW⟩:=mkbx37_14 hW;clear hW;obtain ⟨xa0,xa1,xa2,xa3,xa4,xa5,xa6,xa7,xa8,xa9,xa10,xa11,xa12,xa13,xa14,xa15,xa16,xa17⟩:=XA.all;have zg0:=Z.f0;have zg1:=Z.f1;have zg2:=Z.f2;have zg3:=Z.f3;have zg4:=Z.f4;have zg5:=Z.f5;obtain ⟨zc0,zc1,zc2,zc3,zc4,zc5⟩:=Z.all
 go_wp2_with fail
 have Z2:=Z.set6 (.bool m.a.s) (.slice m.a.A m.a.n m.a.c) (.slice m.a.B m.a.m m.a.d) (.bool m.b.s) (.slice m.b.A m.b.n m.b.c) (.slice m.b.B m.b.m m.b.d)
 obtain ⟨g0,g1,g2,g3,g4,g5⟩:=Z2.all
 refine bodyPost_ret (v:=.agg #[.bool m.a.s,.slice m.a.A m.a.n m.a.c,.slice m.a.B m.a.m m.a.d,.bool m.b.s,.slice m.b.A m.b.n m.b.c,.slice m.b.B m.b.m m.b.d]) (by simp [results,Tryz.results112,go_sem,g0,g1,g2,g3,g4,g5]) rfl ?_
 exact ⟨rfl,below_set6 hb (by omega) _ _ _ _ _ _⟩
theorem msecond_any {m:MV} :
 Calls Tryz.prog 113 #[.agg #[.bool m.a.s,.slice m.a.A m.a.n m.a.c,.slice m.a.B m.a.m m.a.d,.bool m.b.s,.slice m.b.A m.b.n m.b.c,.slice m.b.B m.b.m m.b.d,.bool m.c.s,.slice m.c.A m.c.n m.c.c,.slice m.c.B m.c.m m.c.d,.bool m.d.s,.slice m.d.A m.d.n m.d.c,.slice m.d.B m.d.m m.d.d,.bool m.e.s,.slice m.e.A m.e.n m.e.c,.slice m.e.B m.e.m m.e.d,.bool m.f.s,.slice m.f.A m.f.n m.f.c,.slice m.f.B m.f.m m.f.d]] w fun e w'=>e=.returned (.agg #[.bool m.c.s,.slice m.c.A m.c.n m.c.c,.slice m.c.B m.c.m m.c.d,.bool m.d.s,.slice m.d.A m.d.n m.d.c,.slice m.d.B m.d.m m.d.d])∧Below w.heap.size w w':=by
 go_enter Tryz.func113,Tryz.ntmps113
 go_upto_region 1 with (fail)
 generalize hW:World.alloc _ _=W
 obtain ⟨hb,XA,Z,hzW⟩:=mkbx37_14 hW;clear hW;obtain ⟨xa0,xa1,xa2,xa3,xa4,xa5,xa6,xa7,xa8,xa9,xa10,xa11,xa12,xa13,xa14,xa15,xa16,xa17⟩:=XA.all;have zg0:=Z.f0;have zg1:=Z.f1;have zg2:=Z.f2;have zg3:=Z.f3;have zg4:=Z.f4;have zg5:=Z.f5;obtain ⟨zc0,zc1,zc2,zc3,zc4,zc5⟩:=Z.all
 go_wp2_with fail
 have Z2:=Z.set6 (.bool m.c.s) (.slice m.c.A m.c.n m.c.c) (.slice m.c.B m.c.m m.c.d) (.bool m.d.s) (.slice m.d.A m.d.n m.d.c) (.slice m.d.B m.d.m m.d.d)
 obtain ⟨g0,g1,g2,g3,g4,g5⟩:=Z2.all
 refine bodyPost_ret (v:=.agg #[.bool m.c.s,.slice m.c.A m.c.n m.c.c,.slice m.c.B m.c.m m.c.d,.bool m.d.s,.slice m.d.A m.d.n m.d.c,.slice m.d.B m.d.m m.d.d]) (by simp [results,Tryz.results113,go_sem,g0,g1,g2,g3,g4,g5]) rfl ?_
 exact ⟨rfl,below_set6 hb (by omega) _ _ _ _ _ _⟩
theorem mmoved_any {m:MV} :
 Calls Tryz.prog 108 #[.agg #[.bool m.a.s,.slice m.a.A m.a.n m.a.c,.slice m.a.B m.a.m m.a.d,.bool m.b.s,.slice m.b.A m.b.n m.b.c,.slice m.b.B m.b.m m.b.d,.bool m.c.s,.slice m.c.A m.c.n m.c.c,.slice m.c.B m.c.m m.c.d,.bool m.d.s,.slice m.d.A m.d.n m.d.c,.slice m.d.B m.d.m m.d.d,.bool m.e.s,.slice m.e.A m.e.n m.e.c,.slice m.e.B m.e.m m.e.d,.bool m.f.s,.slice m.f.A m.f.n m.f.c,.slice m.f.B m.f.m m.f.d]] w fun e w'=>e=.returned (.agg #[.bool m.e.s,.slice m.e.A m.e.n m.e.c,.slice m.e.B m.e.m m.e.d,.bool m.f.s,.slice m.f.A m.f.n m.f.c,.slice m.f.B m.f.m m.f.d])∧Below w.heap.size w w':=by
 go_enter Tryz.func108,Tryz.ntmps108
 go_upto_region 1 with (fail)
 generalize hW:World.alloc _ _=W
 obtain ⟨hb,XA,Z,hzW⟩:=mkbx37_14 hW;clear hW;obtain ⟨xa0,xa1,xa2,xa3,xa4,xa5,xa6,xa7,xa8,xa9,xa10,xa11,xa12,xa13,xa14,xa15,xa16,xa17⟩:=XA.all;have zg0:=Z.f0;have zg1:=Z.f1;have zg2:=Z.f2;have zg3:=Z.f3;have zg4:=Z.f4;have zg5:=Z.f5;obtain ⟨zc0,zc1,zc2,zc3,zc4,zc5⟩:=Z.all
 go_wp2_with fail
 have Z2:=Z.set6 (.bool m.e.s) (.slice m.e.A m.e.n m.e.c) (.slice m.e.B m.e.m m.e.d) (.bool m.f.s) (.slice m.f.A m.f.n m.f.c) (.slice m.f.B m.f.m m.f.d)
 obtain ⟨g0,g1,g2,g3,g4,g5⟩:=Z2.all
 refine bodyPost_ret (v:=.agg #[.bool m.e.s,.slice m.e.A m.e.n m.e.c,.slice m.e.B m.e.m m.e.d,.bool m.f.s,.slice m.f.A m.f.n m.f.c,.slice m.f.B m.f.m m.f.d]) (by simp [results,Tryz.results108,go_sem,g0,g1,g2,g3,g4,g5]) rfl ?_
 exact ⟨rfl,below_set6 hb (by omega) _ _ _ _ _ _⟩
theorem mkbx38_14 {w W:World} {x0 x1 x2 x3 x4 x5 x6 x7 x8 x9 x10 x11 x12 x13 x14 x15 x16 x17 x18 x19 x20 x21 x22 x23 x24 x25 x26 x27 x28 x29 x30 x31 x32 x33 x34 x35:Value} (h:((((w.alloc (Obj.cells #[x0,x1,x2,x3,x4,x5] 29)).alloc (Obj.cells #[x6,x7,x8,x9,x10,x11] 29)).alloc (Obj.cells #[x12,x13,x14,x15,x16,x17] 29)).alloc (Obj.cells #[x18,x19,x20,x21,x22,x23,x24,x25,x26,x27,x28,x29,x30,x31,x32,x33,x34,x35] 71))=W):Below w.heap.size w W∧B6 W (w.heap.size) x0 x1 x2 x3 x4 x5∧B6 W (w.heap.size+1) x6 x7 x8 x9 x10 x11∧B6 W (w.heap.size+1+1) x12 x13 x14 x15 x16 x17∧B18 W (w.heap.size+1+1+1) x18 x19 x20 x21 x22 x23 x24 x25 x26 x27 x28 x29 x30 x31 x32 x33 x34 x35∧W.heap.size=w.heap.size+4:=by subst h;exact ⟨by exact (((((Below.refl _ _).alloc (Nat.le_refl _) _).alloc (by simp) _).alloc (by simp;omega) _).alloc (by simp;omega) _),by exact (((B6.new' _ _ _ _ _ _ _ _ rfl).alloc _).alloc _).alloc _,by exact ((B6.new' _ _ _ _ _ _ _ _ (by simp)).alloc _).alloc _,by exact (B6.new' _ _ _ _ _ _ _ _ (by simp)).alloc _,by exact B18.new' _ _ _ _ _ _ _ _ _ _ _ _ _ _ _ _ _ _ _ _ (by simp),by simp⟩
theorem mby_p {k l:Nat} {x y x2 y2 x3 y3:Rat} (p:PG w s_p A_p n_p c_p B_p m_p d_p t_p E_p i_p e_p F_p j_p f_p x y k) (q:PG w s_q A_q n_q c_q B_q m_q d_q t_q E_q i_q e_q F_q j_q f_q x2 y2 k) (r:PG w s_r A_r n_r c_r B_r m_r d_r t_r E_r i_r e_r F_r j_r f_r x3 y3 l) :
 Calls Tryz.prog 105 #[.agg #[.bool s_p,.slice A_p n_p c_p,.slice B_p m_p d_p,.bool t_p,.slice E_p i_p e_p,.slice F_p j_p f_p],.agg #[.bool s_q,.slice A_q n_q c_q,.slice B_q m_q d_q,.bool t_q,.slice E_q i_q e_q,.slice F_q j_q f_q],.agg #[.bool s_r,.slice A_r n_r c_r,.slice B_r m_r d_r,.bool t_r,.slice E_r i_r e_r,.slice F_r j_r f_r]] w (GivesMt w ⟨x,y,x2,y2,x3,y3⟩ k l):=by
 go_enter Tryz.func105,Tryz.ntmps105
 go_upto_region 1 with (fail)
 generalize hW:World.alloc _ _=W
 obtain ⟨hb,XA,XB,XC,Z,hzW⟩:=mkbx38_14 hW;clear hW;replace p:=p.below hb;replace q:=q.below hb;replace r:=r.below hb;obtain ⟨xa0,xa1,xa2,xa3,xa4,xa5⟩:=XA.all;obtain ⟨xb0,xb1,xb2,xb3,xb4,xb5⟩:=XB.all;obtain ⟨xc0,xc1,xc2,xc3,xc4,xc5⟩:=XC.all
 have zst:=Z.st (.bool s_p) (.slice A_p n_p c_p) (.slice B_p m_p d_p) (.bool t_p) (.slice E_p i_p e_p) (.slice F_p j_p f_p) (.bool s_q) (.slice A_q n_q c_q) (.slice B_q m_q d_q) (.bool t_q) (.slice E_q i_q e_q) (.slice F_q j_q f_q) (.bool s_r) (.slice A_r n_r c_r) (.slice B_r m_r d_r) (.bool t_r) (.slice E_r i_r e_r) (.slice F_r j_r f_r) (by simp [Value.oneCell'])
 go_wp2_with fail
 have Z2:=Z.set18 (.bool s_p) (.slice A_p n_p c_p) (.slice B_p m_p d_p) (.bool t_p) (.slice E_p i_p e_p) (.slice F_p j_p f_p) (.bool s_q) (.slice A_q n_q c_q) (.slice B_q m_q d_q) (.bool t_q) (.slice E_q i_q e_q) (.slice F_q j_q f_q) (.bool s_r) (.slice A_r n_r c_r) (.slice B_r m_r d_r) (.bool t_r) (.slice E_r i_r e_r) (.slice F_r j_r f_r)
 have gl:=Z2.ld
 refine bodyPost_ret (v:=.agg #[.bool s_p,.slice A_p n_p c_p,.slice B_p m_p d_p,.bool t_p,.slice E_p i_p e_p,.slice F_p j_p f_p,.bool s_q,.slice A_q n_q c_q,.slice B_q m_q d_q,.bool t_q,.slice E_q i_q e_q,.slice F_q j_q f_q,.bool s_r,.slice A_r n_r c_r,.slice B_r m_r d_r,.bool t_r,.slice E_r i_r e_r,.slice F_r j_r f_r]) (res_M Tryz.results105 _ _ (by simp) gl) rfl ?_
 exact ⟨⟨⟨s_p,A_p,n_p,c_p,B_p,m_p,d_p⟩,⟨t_p,E_p,i_p,e_p,F_p,j_p,f_p⟩,⟨s_q,A_q,n_q,c_q,B_q,m_q,d_q⟩,⟨t_q,E_q,i_q,e_q,F_q,j_q,f_q⟩,⟨s_r,A_r,n_r,c_r,B_r,m_r,d_r⟩,⟨t_r,E_r,i_r,e_r,F_r,j_r,f_r⟩⟩,rfl,MG.set18 (m:=⟨⟨s_p,A_p,n_p,c_p,B_p,m_p,d_p⟩,⟨t_p,E_p,i_p,e_p,F_p,j_p,f_p⟩,⟨s_q,A_q,n_q,c_q,B_q,m_q,d_q⟩,⟨t_q,E_q,i_q,e_q,F_q,j_q,f_q⟩,⟨s_r,A_r,n_r,c_r,B_r,m_r,d_r⟩,⟨t_r,E_r,i_r,e_r,F_r,j_r,f_r⟩⟩) (v:=⟨x,y,x2,y2,x3,y3⟩) ⟨p,q,r⟩ Z _ _ _ _ _ _ _ _ _ _ _ _ _ _ _ _ _ _,below_set18 hb (by omega) _ _ _ _ _ _ _ _ _ _ _ _ _ _ _ _ _ _⟩
theorem mkbx39_14 {w W:World} {x0 x1 x2 x3 x4 x5 x6 x7 x8 x9 x10 x11 x12 x13 x14 x15 x16 x17 x18 x19 x20 x21 x22 x23 x24 x25 x26 x27 x28 x29:Value} (h:(((w.alloc (Obj.cells #[x0,x1,x2,x3,x4,x5,x6,x7,x8,x9,x10,x11,x12,x13,x14,x15,x16,x17] 71)).alloc (Obj.cells #[x18,x19,x20,x21,x22,x23] 29)).alloc (Obj.cells #[x24,x25,x26,x27,x28,x29] 29))=W):Below w.heap.size w W∧B18 W (w.heap.size) x0 x1 x2 x3 x4 x5 x6 x7 x8 x9 x10 x11 x12 x13 x14 x15 x16 x17∧B6 W (w.heap.size+1) x18 x19 x20 x21 x22 x23∧B6 W (w.heap.size+1+1) x24 x25 x26 x27 x28 x29∧W.heap.size=w.heap.size+3:=by subst h;exact ⟨by exact ((((Below.refl _ _).alloc (Nat.le_refl _) _).alloc (by simp) _).alloc (by simp;omega) _),by exact ((B18.new' _ _ _ _ _ _ _ _ _ _ _ _ _ _ _ _ _ _ _ _ rfl).alloc _).alloc _,by exact (B6.new' _ _ _ _ _ _ _ _ (by simp)).alloc _,by exact B6.new' _ _ _ _ _ _ _ _ (by simp),by simp⟩
theorem mdir_p {k l k2:Nat} {v:AM} {m:MV} {x y:Rat} (M:MR w m v k l) (p:PR w s_p A_p n_p c_p B_p m_p d_p t_p E_p i_p e_p F_p j_p f_p x y k2) (hk:k+k2≤290) (h1:1≤k) (h2:1≤k2) :
 Calls Tryz.prog 107 #[.agg #[.bool m.a.s,.slice m.a.A m.a.n m.a.c,.slice m.a.B m.a.m m.a.d,.bool m.b.s,.slice m.b.A m.b.n m.b.c,.slice m.b.B m.b.m m.b.d,.bool m.c.s,.slice m.c.A m.c.n m.c.c,.slice m.c.B m.c.m m.c.d,.bool m.d.s,.slice m.d.A m.d.n m.d.c,.slice m.d.B m.d.m m.d.d,.bool m.e.s,.slice m.e.A m.e.n m.e.c,.slice m.e.B m.e.m m.e.d,.bool m.f.s,.slice m.f.A m.f.n m.f.c,.slice m.f.B m.f.m m.f.d],.agg #[.bool s_p,.slice A_p n_p c_p,.slice B_p m_p d_p,.bool t_p,.slice E_p i_p e_p,.slice F_p j_p f_p]] w (GivesPt w (v.dx x y) (v.dy x y) (k+k2+(k+k2)+1)):=by
 go_enter Tryz.func107,Tryz.ntmps107
 go_upto_region 1 with (fail)
 generalize hW:World.alloc _ _=W
 obtain ⟨hb,XA,XB,Z,hzW⟩:=mkbx39_14 hW;clear hW;replace M:=M.below hb;replace p:=p.below hb
 replace M:=M.below (Below.refl _ _).drew
 replace p:=p.below (Below.refl _ _).drew
 replace XA:=XA.below (Below.refl _ _).drew
 replace XB:=XB.below (Below.refl _ _).drew
 replace Z:=Z.below (Below.refl _ _).drew
 replace hb:=hb.drew
 go_region_held3 (fun w'=>(LVM ⟨w.heap.size,0,none⟩).run Tryz.prog w'=.ok (.agg #[.bool m.a.s,.slice m.a.A m.a.n m.a.c,.slice m.a.B m.a.m m.a.d,.bool m.b.s,.slice m.b.A m.b.n m.b.c,.slice m.b.B m.b.m m.b.d,.bool m.c.s,.slice m.c.A m.c.n m.c.c,.slice m.c.B m.c.m m.c.d,.bool m.d.s,.slice m.d.A m.d.n m.d.c,.slice m.d.B m.d.m m.d.d,.bool m.e.s,.slice m.e.A m.e.n m.e.c,.slice m.e.B m.e.m m.e.d,.bool m.f.s,.slice m.f.A m.f.n m.f.c,.slice m.f.B m.f.m m.f.d]) w'∧w'.cell? ⟨w.heap.size+1,0,none⟩=some (.bool s_p)∧w'.cell? ⟨w.heap.size+1,1,none⟩=some (.slice A_p n_p c_p)∧w'.cell? ⟨w.heap.size+1,2,none⟩=some (.slice B_p m_p d_p)∧w'.cell? ⟨w.heap.size+1,3,none⟩=some (.bool t_p)∧w'.cell? ⟨w.heap.size+1,4,none⟩=some (.slice E_p i_p e_p)∧w'.cell? ⟨w.heap.size+1,5,none⟩=some (.slice F_p j_p f_p))
  (first | with_reducible exact ⟨XA.ld,XB.c0,XB.c1,XB.c2,XB.c3,XB.c4,XB.c5⟩ | with_reducible exact ⟨(XA.restm (by omega) (only_set6 _ _ _ _ _ _ _ _)).ld,(XB.restm (by omega) (only_set6 _ _ _ _ _ _ _ _)).c0,(XB.restm (by omega) (only_set6 _ _ _ _ _ _ _ _)).c1,(XB.restm (by omega) (only_set6 _ _ _ _ _ _ _ _)).c2,(XB.restm (by omega) (only_set6 _ _ _ _ _ _ _ _)).c3,(XB.restm (by omega) (only_set6 _ _ _ _ _ _ _ _)).c4,(XB.restm (by omega) (only_set6 _ _ _ _ _ _ _ _)).c5⟩)
  (first
  | (go_at_call 112;(with_reducible refine (mfirst_any).mono ?_);rintro e w_z ⟨rfl,hh⟩
     (try replace M:=M.below hh);(try replace p:=p.below hh);(try replace XA:=XA.below hh);(try replace XB:=XB.below hh);(try replace Z:=Z.below hh);(try replace r1:=r1.below hh);(try replace r2:=r2.below hh);(try replace r3:=r3.below hh);replace hb:=bend hb hh)
  | (go_at_call 113;(with_reducible refine (msecond_any).mono ?_);rintro e w_z ⟨rfl,hh⟩
     (try replace M:=M.below hh);(try replace p:=p.below hh);(try replace XA:=XA.below hh);(try replace XB:=XB.below hh);(try replace Z:=Z.below hh);(try replace r1:=r1.below hh);(try replace r2:=r2.below hh);(try replace r3:=r3.below hh);replace hb:=bend hb hh)
  | (go_at_call 63;(with_reducible refine (pscale_p M.ab p.qx (by omega) (by omega) (.inl (by omega)) (by omega) (by omega)).mono ?_);rintro e w_r1 ⟨s_r1,A_r1,n_r1,c_r1,B_r1,m_r1,d_r1,t_r1,E_r1,i_r1,e_r1,F_r1,j_r1,f_r1,rfl,r1,hh⟩
     (try replace M:=M.below hh);(try replace p:=p.below hh);(try replace XA:=XA.below hh);(try replace XB:=XB.below hh);(try replace Z:=Z.below hh);(try replace r2:=r2.below hh);(try replace r3:=r3.below hh);replace hb:=bend hb hh)
  | (go_at_call 63;(with_reducible refine (pscale_p M.cd p.qy (by omega) (by omega) (.inl (by omega)) (by omega) (by omega)).mono ?_);rintro e w_r2 ⟨s_r2,A_r2,n_r2,c_r2,B_r2,m_r2,d_r2,t_r2,E_r2,i_r2,e_r2,F_r2,j_r2,f_r2,rfl,r2,hh⟩
     (try replace M:=M.below hh);(try replace p:=p.below hh);(try replace XA:=XA.below hh);(try replace XB:=XB.below hh);(try replace Z:=Z.below hh);(try replace r1:=r1.below hh);(try replace r3:=r3.below hh);replace hb:=bend hb hh)
  | (go_at_call 62;(with_reducible refine (padd_p r1.pr r2.pr (by omega) (by omega) (.inl (by omega)) (by omega) (by omega)).mono ?_);rintro e w_r3 ⟨s_r3,A_r3,n_r3,c_r3,B_r3,m_r3,d_r3,t_r3,E_r3,i_r3,e_r3,F_r3,j_r3,f_r3,rfl,r3,hh⟩
     (try replace M:=M.below hh);(try replace p:=p.below hh);(try replace XA:=XA.below hh);(try replace XB:=XB.below hh);(try replace Z:=Z.below hh);(try replace r1:=r1.below hh);(try replace r2:=r2.below hh);replace hb:=bend hb hh;have zg0:=Z.f0;have zg1:=Z.f1;have zg2:=Z.f2;have zg3:=Z.f3;have zg4:=Z.f4;have zg5:=Z.f5;obtain ⟨zc0,zc1,zc2,zc3,zc4,zc5⟩:=Z.all))
 go_wp2_with fail
 have Z2:=Z.set6 (.bool s_r3) (.slice A_r3 n_r3 c_r3) (.slice B_r3 m_r3 d_r3) (.bool t_r3) (.slice E_r3 i_r3 e_r3) (.slice F_r3 j_r3 f_r3)
 obtain ⟨g0,g1,g2,g3,g4,g5⟩:=Z2.all
 refine bodyPost_ret (v:=.agg #[.bool s_r3,.slice A_r3 n_r3 c_r3,.slice B_r3 m_r3 d_r3,.bool t_r3,.slice E_r3 i_r3 e_r3,.slice F_r3 j_r3 f_r3]) (by simp [results,Tryz.results107,go_sem,g0,g1,g2,g3,g4,g5]) rfl ?_
 exact ⟨s_r3,A_r3,n_r3,c_r3,B_r3,m_r3,d_r3,t_r3,E_r3,i_r3,e_r3,F_r3,j_r3,f_r3,rfl,r3.set6 Z _ _ _ _ _ _,below_set6 hb (by omega) _ _ _ _ _ _⟩
theorem mapply_p {k l k2:Nat} {v:AM} {m:MV} {x y:Rat} (M:MR w m v k l) (p:PR w s_p A_p n_p c_p B_p m_p d_p t_p E_p i_p e_p F_p j_p f_p x y k2) (hk:k+k2≤140) (hl:l≤290) (h1:1≤k) (h2:1≤k2) (h3:1≤l) :
 Calls Tryz.prog 43 #[.agg #[.bool m.a.s,.slice m.a.A m.a.n m.a.c,.slice m.a.B m.a.m m.a.d,.bool m.b.s,.slice m.b.A m.b.n m.b.c,.slice m.b.B m.b.m m.b.d,.bool m.c.s,.slice m.c.A m.c.n m.c.c,.slice m.c.B m.c.m m.c.d,.bool m.d.s,.slice m.d.A m.d.n m.d.c,.slice m.d.B m.d.m m.d.d,.bool m.e.s,.slice m.e.A m.e.n m.e.c,.slice m.e.B m.e.m m.e.d,.bool m.f.s,.slice m.f.A m.f.n m.f.c,.slice m.f.B m.f.m m.f.d],.agg #[.bool s_p,.slice A_p n_p c_p,.slice B_p m_p d_p,.bool t_p,.slice E_p i_p e_p,.slice F_p j_p f_p]] w (GivesPt w (v.ax x y) (v.ay x y) ((k+k2+(k+k2)+1)+l+1)):=by
 go_enter Tryz.func43,Tryz.ntmps43
 go_upto_region 1 with (fail)
 generalize hW:World.alloc _ _=W
 obtain ⟨hb,XA,XB,Z,hzW⟩:=mkbx39_14 hW;clear hW;replace M:=M.below hb;replace p:=p.below hb
 replace M:=M.below (Below.refl _ _).drew
 replace p:=p.below (Below.refl _ _).drew
 replace XA:=XA.below (Below.refl _ _).drew
 replace XB:=XB.below (Below.refl _ _).drew
 replace Z:=Z.below (Below.refl _ _).drew
 replace hb:=hb.drew
 go_region_held3 (fun w'=>(LVM ⟨w.heap.size,0,none⟩).run Tryz.prog w'=.ok (.agg #[.bool m.a.s,.slice m.a.A m.a.n m.a.c,.slice m.a.B m.a.m m.a.d,.bool m.b.s,.slice m.b.A m.b.n m.b.c,.slice m.b.B m.b.m m.b.d,.bool m.c.s,.slice m.c.A m.c.n m.c.c,.slice m.c.B m.c.m m.c.d,.bool m.d.s,.slice m.d.A m.d.n m.d.c,.slice m.d.B m.d.m m.d.d,.bool m.e.s,.slice m.e.A m.e.n m.e.c,.slice m.e.B m.e.m m.e.d,.bool m.f.s,.slice m.f.A m.f.n m.f.c,.slice m.f.B m.f.m m.f.d]) w'∧w'.cell? ⟨w.heap.size+1,0,none⟩=some (.bool s_p)∧w'.cell? ⟨w.heap.size+1,1,none⟩=some (.slice A_p n_p c_p)∧w'.cell? ⟨w.heap.size+1,2,none⟩=some (.slice B_p m_p d_p)∧w'.cell? ⟨w.heap.size+1,3,none⟩=some (.bool t_p)∧w'.cell? ⟨w.heap.size+1,4,none⟩=some (.slice E_p i_p e_p)∧w'.cell? ⟨w.heap.size+1,5,none⟩=some (.slice F_p j_p f_p))
  (first | with_reducible exact ⟨XA.ld,XB.c0,XB.c1,XB.c2,XB.c3,XB.c4,XB.c5⟩ | with_reducible exact ⟨(XA.restm (by omega) (only_set6 _ _ _ _ _ _ _ _)).ld,(XB.restm (by omega) (only_set6 _ _ _ _ _ _ _ _)).c0,(XB.restm (by omega) (only_set6 _ _ _ _ _ _ _ _)).c1,(XB.restm (by omega) (only_set6 _ _ _ _ _ _ _ _)).c2,(XB.restm (by omega) (only_set6 _ _ _ _ _ _ _ _)).c3,(XB.restm (by omega) (only_set6 _ _ _ _ _ _ _ _)).c4,(XB.restm (by omega) (only_set6 _ _ _ _ _ _ _ _)).c5⟩)
  (first
  | (go_at_call 107;(with_reducible refine (mdir_p M p (by omega) (by omega) (by omega)).mono ?_);rintro e w_r1 ⟨s_r1,A_r1,n_r1,c_r1,B_r1,m_r1,d_r1,t_r1,E_r1,i_r1,e_r1,F_r1,j_r1,f_r1,rfl,r1,hh⟩
     (try replace M:=M.below hh);(try replace p:=p.below hh);(try replace XA:=XA.below hh);(try replace XB:=XB.below hh);(try replace Z:=Z.below hh);(try replace r3:=r3.below hh);replace hb:=bend hb hh)
  | (go_at_call 108;(with_reducible refine (mmoved_any).mono ?_);rintro e w_z ⟨rfl,hh⟩
     (try replace M:=M.below hh);(try replace p:=p.below hh);(try replace XA:=XA.below hh);(try replace XB:=XB.below hh);(try replace Z:=Z.below hh);(try replace r1:=r1.below hh);(try replace r3:=r3.below hh);replace hb:=bend hb hh)
  | (go_at_call 62;(with_reducible refine (padd_p r1.pr M.ef (by omega) (by omega) (.inl (by omega)) (by omega) (by omega)).mono ?_);rintro e w_r3 ⟨s_r3,A_r3,n_r3,c_r3,B_r3,m_r3,d_r3,t_r3,E_r3,i_r3,e_r3,F_r3,j_r3,f_r3,rfl,r3,hh⟩
     (try replace M:=M.below hh);(try replace p:=p.below hh);(try replace XA:=XA.below hh);(try replace XB:=XB.below hh);(try replace Z:=Z.below hh);(try replace r1:=r1.below hh);replace hb:=bend hb hh;have zg0:=Z.f0;have zg1:=Z.f1;have zg2:=Z.f2;have zg3:=Z.f3;have zg4:=Z.f4;have zg5:=Z.f5;obtain ⟨zc0,zc1,zc2,zc3,zc4,zc5⟩:=Z.all))
 go_wp2_with fail
 have Z2:=Z.set6 (.bool s_r3) (.slice A_r3 n_r3 c_r3) (.slice B_r3 m_r3 d_r3) (.bool t_r3) (.slice E_r3 i_r3 e_r3) (.slice F_r3 j_r3 f_r3)
 obtain ⟨g0,g1,g2,g3,g4,g5⟩:=Z2.all
 refine bodyPost_ret (v:=.agg #[.bool s_r3,.slice A_r3 n_r3 c_r3,.slice B_r3 m_r3 d_r3,.bool t_r3,.slice E_r3 i_r3 e_r3,.slice F_r3 j_r3 f_r3]) (by simp [results,Tryz.results43,go_sem,g0,g1,g2,g3,g4,g5]) rfl ?_
 exact ⟨s_r3,A_r3,n_r3,c_r3,B_r3,m_r3,d_r3,t_r3,E_r3,i_r3,e_r3,F_r3,j_r3,f_r3,rfl,r3.set6 Z _ _ _ _ _ _,below_set6 hb (by omega) _ _ _ _ _ _⟩
theorem mkbx40_14 {w W:World} {x0 x1 x2 x3 x4 x5 x6 x7 x8 x9 x10 x11 x12 x13 x14 x15 x16 x17 x18 x19 x20 x21 x22 x23 x24 x25 x26 x27 x28 x29 x30 x31 x32 x33 x34 x35 x36 x37 x38 x39 x40 x41 x42 x43 x44 x45 x46 x47 x48 x49 x50 x51 x52 x53:Value} (h:(((w.alloc (Obj.cells #[x0,x1,x2,x3,x4,x5,x6,x7,x8,x9,x10,x11,x12,x13,x14,x15,x16,x17] 71)).alloc (Obj.cells #[x18,x19,x20,x21,x22,x23,x24,x25,x26,x27,x28,x29,x30,x31,x32,x33,x34,x35] 71)).alloc (Obj.cells #[x36,x37,x38,x39,x40,x41,x42,x43,x44,x45,x46,x47,x48,x49,x50,x51,x52,x53] 71))=W):Below w.heap.size w W∧B18 W (w.heap.size) x0 x1 x2 x3 x4 x5 x6 x7 x8 x9 x10 x11 x12 x13 x14 x15 x16 x17∧B18 W (w.heap.size+1) x18 x19 x20 x21 x22 x23 x24 x25 x26 x27 x28 x29 x30 x31 x32 x33 x34 x35∧B18 W (w.heap.size+1+1) x36 x37 x38 x39 x40 x41 x42 x43 x44 x45 x46 x47 x48 x49 x50 x51 x52 x53∧W.heap.size=w.heap.size+3:=by subst h;exact ⟨by exact ((((Below.refl _ _).alloc (Nat.le_refl _) _).alloc (by simp) _).alloc (by simp;omega) _),by exact ((B18.new' _ _ _ _ _ _ _ _ _ _ _ _ _ _ _ _ _ _ _ _ rfl).alloc _).alloc _,by exact (B18.new' _ _ _ _ _ _ _ _ _ _ _ _ _ _ _ _ _ _ _ _ (by simp)).alloc _,by exact B18.new' _ _ _ _ _ _ _ _ _ _ _ _ _ _ _ _ _ _ _ _ (by simp),by simp⟩
theorem mmul_p {k l k2 l2:Nat} {v u:AM} {m n:MV} (M:MR w m v k l) (N:MR w n u k2 l2) (hk:k+k2≤140) (hk2:k+l2≤140) (hl:l≤290) (h1:1≤k) (h2:1≤k2) (h3:1≤l) (h4:1≤l2) :
 Calls Tryz.prog 45 #[.agg #[.bool m.a.s,.slice m.a.A m.a.n m.a.c,.slice m.a.B m.a.m m.a.d,.bool m.b.s,.slice m.b.A m.b.n m.b.c,.slice m.b.B m.b.m m.b.d,.bool m.c.s,.slice m.c.A m.c.n m.c.c,.slice m.c.B m.c.m m.c.d,.bool m.d.s,.slice m.d.A m.d.n m.d.c,.slice m.d.B m.d.m m.d.d,.bool m.e.s,.slice m.e.A m.e.n m.e.c,.slice m.e.B m.e.m m.e.d,.bool m.f.s,.slice m.f.A m.f.n m.f.c,.slice m.f.B m.f.m m.f.d],.agg #[.bool n.a.s,.slice n.a.A n.a.n n.a.c,.slice n.a.B n.a.m n.a.d,.bool n.b.s,.slice n.b.A n.b.n n.b.c,.slice n.b.B n.b.m n.b.d,.bool n.c.s,.slice n.c.A n.c.n n.c.c,.slice n.c.B n.c.m n.c.d,.bool n.d.s,.slice n.d.A n.d.n n.d.c,.slice n.d.B n.d.m n.d.d,.bool n.e.s,.slice n.e.A n.e.n n.e.c,.slice n.e.B n.e.m n.e.d,.bool n.f.s,.slice n.f.A n.f.n n.f.c,.slice n.f.B n.f.m n.f.d]] w (GivesMt w (v.mul u) (k+k2+(k+k2)+1) (k+l2+(k+l2)+1+l+1)):=by
 go_enter Tryz.func45,Tryz.ntmps45
 go_upto_region 1 with (fail)
 generalize hW:World.alloc _ _=W
 obtain ⟨hb,XA,XB,Z,hzW⟩:=mkbx40_14 hW;clear hW;replace M:=M.below hb;replace N:=N.below hb
 replace M:=M.below (Below.refl _ _).drew
 replace N:=N.below (Below.refl _ _).drew
 replace XA:=XA.below (Below.refl _ _).drew
 replace XB:=XB.below (Below.refl _ _).drew
 replace Z:=Z.below (Below.refl _ _).drew
 replace hb:=hb.drew
 go_region_held3 (fun w'=>(LVM ⟨w.heap.size,0,none⟩).run Tryz.prog w'=.ok (.agg #[.bool m.a.s,.slice m.a.A m.a.n m.a.c,.slice m.a.B m.a.m m.a.d,.bool m.b.s,.slice m.b.A m.b.n m.b.c,.slice m.b.B m.b.m m.b.d,.bool m.c.s,.slice m.c.A m.c.n m.c.c,.slice m.c.B m.c.m m.c.d,.bool m.d.s,.slice m.d.A m.d.n m.d.c,.slice m.d.B m.d.m m.d.d,.bool m.e.s,.slice m.e.A m.e.n m.e.c,.slice m.e.B m.e.m m.e.d,.bool m.f.s,.slice m.f.A m.f.n m.f.c,.slice m.f.B m.f.m m.f.d]) w'∧(LVM ⟨w.heap.size+1,0,none⟩).run Tryz.prog w'=.ok (.agg #[.bool n.a.s,.slice n.a.A n.a.n n.a.c,.slice n.a.B n.a.m n.a.d,.bool n.b.s,.slice n.b.A n.b.n n.b.c,.slice n.b.B n.b.m n.b.d,.bool n.c.s,.slice n.c.A n.c.n n.c.c,.slice n.c.B n.c.m n.c.d,.bool n.d.s,.slice n.d.A n.d.n n.d.c,.slice n.d.B n.d.m n.d.d,.bool n.e.s,.slice n.e.A n.e.n n.e.c,.slice n.e.B n.e.m n.e.d,.bool n.f.s,.slice n.f.A n.f.n n.f.c,.slice n.f.B n.f.m n.f.d]) w')
  (first | with_reducible exact ⟨XA.ld,XB.ld⟩ | with_reducible exact ⟨(XA.restm (by omega) (only_set18 _ _ _ _ _ _ _ _ _ _ _ _ _ _ _ _ _ _ _ _)).ld,(XB.restm (by omega) (only_set18 _ _ _ _ _ _ _ _ _ _ _ _ _ _ _ _ _ _ _ _)).ld⟩)
  (first
  | (go_at_call 112;(with_reducible refine (mfirst_any).mono ?_);rintro e w_z ⟨rfl,hh⟩
     (try replace M:=M.below hh);(try replace N:=N.below hh);(try replace XA:=XA.below hh);(try replace XB:=XB.below hh);(try replace Z:=Z.below hh);(try replace r1:=r1.below hh);(try replace r2:=r2.below hh);(try replace r3:=r3.below hh);(try replace rh:=rh.below hh);replace hb:=bend hb hh)
  | (go_at_call 113;(with_reducible refine (msecond_any).mono ?_);rintro e w_z ⟨rfl,hh⟩
     (try replace M:=M.below hh);(try replace N:=N.below hh);(try replace XA:=XA.below hh);(try replace XB:=XB.below hh);(try replace Z:=Z.below hh);(try replace r1:=r1.below hh);(try replace r2:=r2.below hh);(try replace r3:=r3.below hh);(try replace rh:=rh.below hh);replace hb:=bend hb hh)
  | (go_at_call 108;(with_reducible refine (mmoved_any).mono ?_);rintro e w_z ⟨rfl,hh⟩
     (try replace M:=M.below hh);(try replace N:=N.below hh);(try replace XA:=XA.below hh);(try replace XB:=XB.below hh);(try replace Z:=Z.below hh);(try replace r1:=r1.below hh);(try replace r2:=r2.below hh);(try replace r3:=r3.below hh);(try replace rh:=rh.below hh);replace hb:=bend hb hh)
  | (go_at_call 107;(with_reducible refine (mdir_p M N.ab (by omega) (by omega) (by omega)).mono ?_);rintro e w_r1 ⟨s_r1,A_r1,n_r1,c_r1,B_r1,m_r1,d_r1,t_r1,E_r1,i_r1,e_r1,F_r1,j_r1,f_r1,rfl,r1,hh⟩
     (try replace M:=M.below hh);(try replace N:=N.below hh);(try replace XA:=XA.below hh);(try replace XB:=XB.below hh);(try replace Z:=Z.below hh);(try replace r2:=r2.below hh);(try replace r3:=r3.below hh);(try replace rh:=rh.below hh);replace hb:=bend hb hh)
  | (go_at_call 107;(with_reducible refine (mdir_p M N.cd (by omega) (by omega) (by omega)).mono ?_);rintro e w_r2 ⟨s_r2,A_r2,n_r2,c_r2,B_r2,m_r2,d_r2,t_r2,E_r2,i_r2,e_r2,F_r2,j_r2,f_r2,rfl,r2,hh⟩
     (try replace M:=M.below hh);(try replace N:=N.below hh);(try replace XA:=XA.below hh);(try replace XB:=XB.below hh);(try replace Z:=Z.below hh);(try replace r1:=r1.below hh);(try replace r3:=r3.below hh);(try replace rh:=rh.below hh);replace hb:=bend hb hh)
  | (go_at_call 43;(with_reducible refine (mapply_p M N.ef (by omega) (by omega) (by omega) (by omega) (by omega)).mono ?_);rintro e w_r3 ⟨s_r3,A_r3,n_r3,c_r3,B_r3,m_r3,d_r3,t_r3,E_r3,i_r3,e_r3,F_r3,j_r3,f_r3,rfl,r3,hh⟩
     (try replace M:=M.below hh);(try replace N:=N.below hh);(try replace XA:=XA.below hh);(try replace XB:=XB.below hh);(try replace Z:=Z.below hh);(try replace r1:=r1.below hh);(try replace r2:=r2.below hh);(try replace rh:=rh.below hh);replace hb:=bend hb hh)
  | (go_at_call 105;(with_reducible refine (mby_p r1 r2 r3).mono ?_);rintro e w_r ⟨r,rfl,rh,hh⟩
     (try replace M:=M.below hh);(try replace N:=N.below hh);(try replace XA:=XA.below hh);(try replace XB:=XB.below hh);(try replace Z:=Z.below hh);(try replace r1:=r1.below hh);(try replace r2:=r2.below hh);(try replace r3:=r3.below hh);replace hb:=bend hb hh
     have zst:=Z.st (.bool r.a.s) (.slice r.a.A r.a.n r.a.c) (.slice r.a.B r.a.m r.a.d) (.bool r.b.s) (.slice r.b.A r.b.n r.b.c) (.slice r.b.B r.b.m r.b.d) (.bool r.c.s) (.slice r.c.A r.c.n r.c.c) (.slice r.c.B r.c.m r.c.d) (.bool r.d.s) (.slice r.d.A r.d.n r.d.c) (.slice r.d.B r.d.m r.d.d) (.bool r.e.s) (.slice r.e.A r.e.n r.e.c) (.slice r.e.B r.e.m r.e.d) (.bool r.f.s) (.slice r.f.A r.f.n r.f.c) (.slice r.f.B r.f.m r.f.d) (by simp [Value.oneCell'])))
 go_wp2_with fail
 have Z2:=Z.set18 (.bool r.a.s) (.slice r.a.A r.a.n r.a.c) (.slice r.a.B r.a.m r.a.d) (.bool r.b.s) (.slice r.b.A r.b.n r.b.c) (.slice r.b.B r.b.m r.b.d) (.bool r.c.s) (.slice r.c.A r.c.n r.c.c) (.slice r.c.B r.c.m r.c.d) (.bool r.d.s) (.slice r.d.A r.d.n r.d.c) (.slice r.d.B r.d.m r.d.d) (.bool r.e.s) (.slice r.e.A r.e.n r.e.c) (.slice r.e.B r.e.m r.e.d) (.bool r.f.s) (.slice r.f.A r.f.n r.f.c) (.slice r.f.B r.f.m r.f.d)
 have gl:=Z2.ld
 refine bodyPost_ret (v:=.agg #[.bool r.a.s,.slice r.a.A r.a.n r.a.c,.slice r.a.B r.a.m r.a.d,.bool r.b.s,.slice r.b.A r.b.n r.b.c,.slice r.b.B r.b.m r.b.d,.bool r.c.s,.slice r.c.A r.c.n r.c.c,.slice r.c.B r.c.m r.c.d,.bool r.d.s,.slice r.d.A r.d.n r.d.c,.slice r.d.B r.d.m r.d.d,.bool r.e.s,.slice r.e.A r.e.n r.e.c,.slice r.e.B r.e.m r.e.d,.bool r.f.s,.slice r.f.A r.f.n r.f.c,.slice r.f.B r.f.m r.f.d]) (res_M Tryz.results45 _ _ (by simp) gl) rfl ?_
 exact ⟨r,rfl,rh.set18 Z _ _ _ _ _ _ _ _ _ _ _ _ _ _ _ _ _ _,below_set18 hb (by omega) _ _ _ _ _ _ _ _ _ _ _ _ _ _ _ _ _ _⟩
theorem mkbx41_14 {w W:World} {x0 x1 x2 x3 x4 x5 x6 x7 x8 x9 x10 x11 x12 x13 x14 x15 x16 x17 x18 x19 x20:Value} (h:((w.alloc (Obj.cells #[x0,x1,x2,x3,x4,x5,x6,x7,x8,x9,x10,x11,x12,x13,x14,x15,x16,x17] 71)).alloc (Obj.cells #[x18,x19,x20] 27))=W):Below w.heap.size w W∧B18 W (w.heap.size) x0 x1 x2 x3 x4 x5 x6 x7 x8 x9 x10 x11 x12 x13 x14 x15 x16 x17∧B3 W (w.heap.size+1) x18 x19 x20∧W.heap.size=w.heap.size+2:=by subst h;exact ⟨by exact (((Below.refl _ _).alloc (Nat.le_refl _) _).alloc (by simp) _),by exact (B18.new' _ _ _ _ _ _ _ _ _ _ _ _ _ _ _ _ _ _ _ _ rfl).alloc _,by exact B3.new' _ _ _ _ _ (by simp),by simp⟩
theorem mdet_p {k l:Nat} {v:AM} {m:MV} (M:MR w m v k l) (hk:k+k≤200) (h1:1≤k) :
 Calls Tryz.prog 47 #[.agg #[.bool m.a.s,.slice m.a.A m.a.n m.a.c,.slice m.a.B m.a.m m.a.d,.bool m.b.s,.slice m.b.A m.b.n m.b.c,.slice m.b.B m.b.m m.b.d,.bool m.c.s,.slice m.c.A m.c.n m.c.c,.slice m.c.B m.c.m m.c.d,.bool m.d.s,.slice m.d.A m.d.n m.d.c,.slice m.d.B m.d.m m.d.d,.bool m.e.s,.slice m.e.A m.e.n m.e.c,.slice m.e.B m.e.m m.e.d,.bool m.f.s,.slice m.f.A m.f.n m.f.c,.slice m.f.B m.f.m m.f.d]] w (GivesQ w v.det (k+k+(k+k)+1)):=by
 go_enter Tryz.func47,Tryz.ntmps47
 go_upto_region 1 with (fail)
 generalize hW:World.alloc _ _=W
 obtain ⟨hb,XA,Z,hzW⟩:=mkbx41_14 hW;clear hW;replace M:=M.below hb
 replace M:=M.below (Below.refl _ _).drew
 replace XA:=XA.below (Below.refl _ _).drew
 replace Z:=Z.below (Below.refl _ _).drew
 replace hb:=hb.drew
 go_region_held3 (fun w'=>(LVM ⟨w.heap.size,0,none⟩).run Tryz.prog w'=.ok (.agg #[.bool m.a.s,.slice m.a.A m.a.n m.a.c,.slice m.a.B m.a.m m.a.d,.bool m.b.s,.slice m.b.A m.b.n m.b.c,.slice m.b.B m.b.m m.b.d,.bool m.c.s,.slice m.c.A m.c.n m.c.c,.slice m.c.B m.c.m m.c.d,.bool m.d.s,.slice m.d.A m.d.n m.d.c,.slice m.d.B m.d.m m.d.d,.bool m.e.s,.slice m.e.A m.e.n m.e.c,.slice m.e.B m.e.m m.e.d,.bool m.f.s,.slice m.f.A m.f.n m.f.c,.slice m.f.B m.f.m m.f.d]) w')
  (first | with_reducible exact XA.ld | with_reducible exact (XA.restm (by omega) (only_set3 _ _ _ _ _)).ld)
  (first
  | (go_at_call 112;(with_reducible refine (mfirst_any).mono ?_);rintro e w_z ⟨rfl,hh⟩
     (try replace M:=M.below hh);(try replace XA:=XA.below hh);(try replace Z:=Z.below hh);(try replace r:=r.below hh);replace hb:=bend hb hh)
  | (go_at_call 113;(with_reducible refine (msecond_any).mono ?_);rintro e w_z ⟨rfl,hh⟩
     (try replace M:=M.below hh);(try replace XA:=XA.below hh);(try replace Z:=Z.below hh);(try replace r:=r.below hh);replace hb:=bend hb hh)
  | (go_at_call 56;(with_reducible refine (pcross_p M.ab M.cd (by omega) (by omega) (by omega)).mono ?_);rintro e w_r ⟨s_r,A_r,n_r,c_r,B_r,m_r,d_r,rfl,r,hh⟩
     (try replace M:=M.below hh);(try replace XA:=XA.below hh);(try replace Z:=Z.below hh);replace hb:=bend hb hh;have zf0:=Z.f0;have zf1:=Z.f1;have zf2:=Z.f2;obtain ⟨z0,z1,z2⟩:=Z.all))
 go_wp2_with fail
 have Z2:=Z.set3 (.bool s_r) (.slice A_r n_r c_r) (.slice B_r m_r d_r)
 obtain ⟨g0,g1,g2⟩:=Z2.all
 refine bodyPost_ret (v:=.agg #[.bool s_r,.slice A_r n_r c_r,.slice B_r m_r d_r]) (by simp [results,Tryz.results47,go_sem,g0,g1,g2]) rfl ?_
 exact ⟨s_r,A_r,n_r,c_r,B_r,m_r,d_r,rfl,r.set3 Z _ _ _,below_set3 hb (by omega) _ _ _⟩
end
section
theorem castN (a:Nat):((a:Int):Rat)=(a:Rat):=rfl
theorem natCast_mul' (a b:Nat):((a*b:Nat):Rat)=(a:Rat)*(b:Rat):=by
 rw [← castN,← castN,← castN,Int.natCast_mul,Rat.intCast_mul]
def upQ (v:Rat) (k:Nat):Rat:=v*((4 ^ k:Nat):Rat)
def inQ (R k:Nat):Rat:=Rat.divInt (R:Int) ((2 ^ k:Nat):Int)
theorem two_pos (k:Nat):(0:Rat) < ((2 ^ k:Nat):Rat):=by
 have h:(0:Int) < ((2 ^ k:Nat):Int):=by have:=Nat.two_pow_pos k;omega
 rw [← castN];exact Rat.intCast_lt_intCast.2 h
theorem two_ne (k:Nat):((2 ^ k:Nat):Rat) ≠ 0:=fun h=>by
 have:=two_pos k;rw [h] at this;exact Rat.lt_irrefl this
theorem inQ_eq (R k:Nat):inQ R k*((2 ^ k:Nat):Rat)=(R:Rat):=by
 unfold inQ
 have h:=two_ne k
 rw [← castN (2 ^ k),← castN R,← int1,← int1,Rat.divInt_mul_divInt,Int.mul_one,Rat.divInt_eq_divInt_iff (by have:=Nat.two_pow_pos k;omega) (by decide)]
 simp
theorem four_two (k:Nat):((4 ^ k:Nat):Rat)=((2 ^ k:Nat):Rat)*((2 ^ k:Nat):Rat):=by
 rw [← natCast_mul',← Nat.mul_pow]
theorem four_pos (k:Nat):(0:Rat) < ((4 ^ k:Nat):Rat):=by rw [four_two];exact Rat.mul_pos (two_pos k) (two_pos k)
theorem inQ_sq (R k:Nat):upQ (inQ R k*inQ R k) k=((R*R:Nat):Rat):=by
 unfold upQ
 rw [four_two,natCast_mul',← inQ_eq R k]
 grind
theorem upQ_le {a b:Rat} (k:Nat):upQ a k≤upQ b k ↔ a≤b:=by
 unfold upQ
 constructor
 · exact fun h=>Rat.le_of_mul_le_mul_right h (four_pos k)
 · exact fun h=>Rat.mul_le_mul_of_nonneg_right h (Rat.le_of_lt (four_pos k))
theorem upQ_nonneg {v:Rat} (hv:0≤v) (k:Nat):0≤upQ v k:=Rat.mul_nonneg hv (Rat.le_of_lt (four_pos k))
theorem floor_nn {v:Rat} (hv:0≤v):0≤v.floor:=Rat.le_floor_iff.2 (by simpa using hv)
theorem ceil_nn {v:Rat} (hv:0≤v):0≤v.ceil:=by
 have h:=Rat.le_trans hv (@Rat.le_ceil v)
 have:((0:Int):Rat)≤(v.ceil:Rat):=h
 exact Rat.intCast_le_intCast.1 this
def IsLow (v:Rat) (k R:Nat):Prop:=IsRoot (upQ v k).floor.natAbs R
def IsHigh (v:Rat) (k H:Nat):Prop:=∃ R,IsRoot (upQ v k).ceil.natAbs R∧H=if R*R=(upQ v k).ceil.natAbs then R else R+1
theorem IsLow.le {v:Rat} {k R:Nat} (hv:0≤v) (h:IsLow v k R):inQ R k*inQ R k≤v:=by
 rw [← upQ_le k,inQ_sq]
 have h1:((R*R:Nat):Int)≤(upQ v k).floor:=by have:=h.1;have:=floor_nn (upQ_nonneg hv k);omega
 rw [← castN];exact Rat.le_floor_iff.1 h1
theorem IsHigh.ge {v:Rat} {k H:Nat} (hv:0≤v) (h:IsHigh v k H):v≤inQ H k*inQ H k:=by
 rw [← upQ_le k,inQ_sq]
 obtain ⟨R,h1,h2⟩:=h
 have h0:=ceil_nn (upQ_nonneg hv k)
 have h3:(upQ v k).ceil≤((H*H:Nat):Int):=by
  split at h2
  · rename_i e;subst h2;omega
  · subst h2;have:=h1.2;omega
 rw [← castN];exact Rat.le_trans Rat.le_ceil (Rat.intCast_le_intCast.2 h3)
end
section
open Go Go.RowKit
theorem QG.tight {s:Bool} {A A':Option Addr} {n c n' c' k k1:Nat} {v:Rat} (h:QG w s A n c A' n' c' v k) (h1:v.num.natAbs < B64 ^ k1) (h2:v.den < B64 ^ k1):QG w s A n c A' n' c' v k1 :=
 ⟨⟨h.1.1,h.1.2.1,h.1.2.2.1,by rw [← h.1.2.1.1];exact length_limbs_le B64_two h1⟩,NG.tight h.2 h2⟩
end
section
open Go Go.RowKit
abbrev oneEs (u v:Int):Array MapEntry:=#[{key:=.int .i64 u,val:=.int .i64 v,born:=0}]
theorem setObj_it (W:World) (it:Nat) (o:Obj) {a:Option Nat} {b c:Nat} {z:Array Nat} (h:W.heap[it]?=some (.mapIter a b z c)):(setObj it o).run Tryz.prog W=.ok () {W with heap:=W.heap.setIfInBounds it o}:=by
 simp only [setObj,Sem.run,h]
theorem next_one1 (W:World) (it r:Nat) (ty:TypeId) (u v:Int) (h1:W.heap[it]?=some (.mapIter (some r) 1 #[] 1)) (h2:W.heap[r]?=some (.map (oneEs u v) 1)) :
 (Instr.next (.pointer (some ⟨it,0,none⟩)) false ty).run Tryz.prog W=.ok (.tuple #[.bool true,.int .i64 u,.int .i64 v]) {W with heap:=W.heap.setIfInBounds it (.mapIter (some r) 1 #[0] 1)}:=by
 have hset:=setObj_it W it (.mapIter (some r) 1 #[0] 1) h1
 simp [Instr.next,getObj,Sem.run,h1,h2,Result.andThen,choose,Question.forced,hset]
theorem next_one2 (W:World) (it r:Nat) (ty:TypeId) (u v:Int) (h1:W.heap[it]?=some (.mapIter (some r) 1 #[0] 1)) (h2:W.heap[r]?=some (.map (oneEs u v) 1)) :
 (Instr.next (.pointer (some ⟨it,0,none⟩)) false ty).run Tryz.prog W=.ok (.tuple #[.bool false]) W:=by
 simp [Instr.next,getObj,Sem.run,h1,h2,Result.andThen,choose,Question.forced]
theorem entry_one (W:World) (it r:Nat) (u v:Int) (h1:W.heap[it]?=some (.mapIter (some r) 1 #[0] 1)) (h2:W.heap[r]?=some (.map (oneEs u v) 1)) :
 (Instr.entry (.pointer (some ⟨it,0,none⟩))).run Tryz.prog W=.ok (.tuple #[.int .i64 u,.int .i64 v]) W:=by
 simp [Instr.entry,getObj,Sem.run,h1,h2,Result.andThen]
theorem mkbx42_14 {w W:World} {x0 x1 x2:Value} (h:(w.alloc (Obj.cells #[x0,x1,x2] 27))=W):Below w.heap.size w W∧B3 W (w.heap.size) x0 x1 x2:=by subst h;exact ⟨by exact (Below.refl _ _).alloc (Nat.le_refl _) _,by exact B3.new' _ _ _ _ _ rfl⟩
theorem sum_one {r:Nat} (u v:Int) (hm:w.heap[r]?=some (.map (oneEs u v) 1)) (hu1:1≤u) (hu2:u < 9223372036854775808) (hv1:-9223372036854775808≤v) (hv2:v < 9223372036854775808) :
 Calls Tryz.prog 186 #[.map (some r)] w (GivesQ w (Rat.divInt v u) 3):=by
 have hu0:((u:Int) == 0)=false:=by simp;omega
 have h1:-9223372036854775808≤u:=by omega
 have H1:=Lib.hid h1;have H2:=Lib.hid hu2;have H3:=Lib.hid hv1;have H4:=Lib.hid hv2;have H0:=Lib.hid hu0;have HM:=Lib.hid hm
 have HS:Hid (Rat.divInt 0 1+Rat.divInt v u=Rat.divInt v u):=by
  show _=_
  rw [show Rat.divInt 0 1=0 by decide +kernel,Rat.zero_add]
 have hrlt:r < w.heap.size:=by
  rcases Nat.lt_or_ge r w.heap.size with h | h
  · exact h
  · simp [Array.getElem?_eq_none h] at hm
 clear h1 hu2 hv1 hv2 hu0 hm
 go_enter Tryz.func186,Tryz.ntmps186
 go_upto_region 1 with (fail)
 generalize hW:World.alloc _ _=W
 obtain ⟨hb,Z⟩:=mkbx42_14 hW;clear hW
 go_upto_region 2 with (first
  | (go_at_call 60;(with_reducible refine (rof_q 0 1 (by decide) (by decide) (by decide) (by decide) (by decide) _).mono ?_);rintro e w_o ⟨s_o,A_o,n_o,c_o,B_o,m_o,d_o,rfl,o,hh⟩
     replace Z:=Z.below hh;have HBS:=Lib.hid Z.lt;replace hb:=bend hb hh))
 generalize hW:World.alloc _ _=W2
 obtain ⟨hh,T⟩:=mkbx42_14 hW;clear hW;replace o:=o.below hh;replace Z:=Z.below hh;replace hb:=bend hb hh
 have hm2:W2.heap[r]?=some (.map (oneEs u v) 1):=(hb.block r hrlt).trans HM.out
 have hrg:=run_range_map (P:=Tryz.prog) W2 208 2 2 r (oneEs u v) 1 (by kernel_rfl) hm2
 go_wp2_with fail
 refine wp_loop_rounds 2 ?_
 rw [rounds_succ]
 generalize hW:W2.alloc (Obj.mapIter (some r) 1 #[] 1)=W3
 obtain ⟨it,hit⟩:∃ it,it=W2.heap.size:=⟨_,rfl⟩
 have hi1:W3.heap[it]?=some (.mapIter (some r) 1 #[] 1):=by subst hW hit;exact heap_alloc_new _ _
 have hh:Below W2.heap.size W2 W3:=by subst hW;exact (Below.refl _ _).alloc (Nat.le_refl _) _
 have hm3:W3.heap[r]?=some (.map (oneEs u v) 1):=(hh.block r (Nat.lt_of_lt_of_le hrlt hb.size)).trans hm2
 have hitl:it < W3.heap.size:=by subst hW hit;simp
 rw [← hit]
 have hn1:∀ ty,_:=fun ty=>next_one1 W3 it r ty u v hi1 hm3
 have HI:=Lib.hid hit;have HW3:=Lib.hid hW;clear hrg hit hW
 go_upto_region 4 with (fail)
 generalize hW4:({heap:=W3.heap.setIfInBounds it (Obj.mapIter (some r) 1 #[0] 1),tape:=W3.tape,drawn:=W3.drawn,os:=W3.os,output:=W3.output}:World)=W4
 have hit:=HI.out
 have hi4:W4.heap[it]?=some (.mapIter (some r) 1 #[0] 1):=by subst hW4;simp [hitl]
 have hh4:Below W2.heap.size W2 W4:=by
  subst hW4
  exact ⟨hh.os,hh.tape,hh.output,by simpa using hh.size,fun k hk=>by
   show (W3.heap.setIfInBounds it _)[k]?=_
   rw [Array.getElem?_setIfInBounds_ne (by omega)];exact hh.block k hk⟩
 have hm4:W4.heap[r]?=some (.map (oneEs u v) 1):=(hh4.block r (Nat.lt_of_lt_of_le hrlt hb.size)).trans hm2
 have hW:=HW3.out;have hT0:=T.lt
 have hTit:w_o.heap.size < it:=by rw [hit];exact hT0
 have hitw:w.heap.size≤w_o.heap.size:=Nat.le_of_lt HBS.out
 have hi4l:it < W4.heap.size:=by subst hW4;simpa using hitl
 have hw4:W4.heap.size=it+1:=by subst hW4;rw [hit,← hW];simp
 clear hn1 hW4 hi1 hW hm3 hitl hm2 hh hT0;clear hit HW3;replace o:=o.below hh4;replace Z:=Z.below hh4;replace T:=T.below hh4;replace hb:=bend hb hh4;clear hh4;have hen:=entry_one W4 it r u v hi4 hm4
 go_upto_region 6 with (fail)
 clear hen
 have Hi4:Hid (W4.drew.heap[it]?=some (.mapIter (some r) 1 #[0] 1)):=hi4
 have Hm4:Hid (W4.drew.heap[r]?=some (.map (oneEs u v) 1)):=hm4
 clear hi4 hm4
 have hw4d:W4.drew.heap.size=it+1:=hw4
 replace o:=o.below (Below.refl _ _).drew
 replace Z:=Z.below (Below.refl _ _).drew
 replace T:=T.below (Below.refl _ _).drew
 replace hb:=hb.drew;obtain ⟨t0,t1,t2⟩:=T.all;have zf0:=T.f0;have zf1:=T.f1;have zf2:=T.f2;obtain ⟨z0,z1,z2⟩:=T.all
 go_region_with (first
  | (go_at_call 60;(with_reducible refine (rof_q v u H3.out H4.out H1.out H2.out H0.out _).mono ?_);rintro e w_q ⟨s_q,A_q,n_q,c_q,B_q,m_q,d_q,rfl,q,hh⟩
     (try replace o:=o.below hh);(try replace t:=t.below hh);(try replace T:=T.below hh);(try replace Z:=Z.below hh);replace hb:=bend hb hh;obtain ⟨t0,t1,t2⟩:=T.all;have hh1:=hh;have zf0:=T.f0;have zf1:=T.f1;have zf2:=T.f2;obtain ⟨t0,t1,t2⟩:=T.all)
  | (go_at_call 32;(with_reducible refine (radd_q o.qr q.qr (by decide) (by decide) (.inl (by decide)) (by decide) (by decide)).mono ?_);rintro e w_t ⟨s_t,A_t,n_t,c_t,B_t,m_t,d_t,rfl,t,hh⟩
     (try replace o:=o.below hh);(try replace q:=q.below hh);(try replace T:=T.below hh);(try replace Z:=Z.below hh);replace hb:=bend hb hh;obtain ⟨t0,t1,t2⟩:=T.all;have zf0:=T.f0;have zf1:=T.f1;have zf2:=T.f2;obtain ⟨z0,z1,z2⟩:=T.all))
 all_goals
  have hh5:=hh1.trans (hh.mono hh1.size)
  have hi5:w_t.heap[it]?=some (.mapIter (some r) 1 #[0] 1):=(hh5.block it (by omega)).trans Hi4.out
  have hm5:w_t.heap[r]?=some (.map (oneEs u v) 1):=(hh5.block r (by omega)).trans Hm4.out
  generalize hW5:(((w_t.setCell ⟨w_o.heap.size,0,none⟩ (Value.bool s_t)).setCell ⟨w_o.heap.size,1,none⟩ (Value.slice A_t n_t c_t)).setCell ⟨w_o.heap.size,2,none⟩ (Value.slice B_t m_t d_t))=W5
  have hz3:∀ k,k ≠ w_o.heap.size→W5.heap[k]?=w_t.heap[k]?:=by
   intro k hk
   subst hW5
   rw [Below.heap_setCell _ _ _ _ hk,Below.heap_setCell _ _ _ _ hk,Below.heap_setCell _ _ _ _ hk]
  have T5:B3 W5 w_o.heap.size (Value.bool s_t) (Value.slice A_t n_t c_t) (Value.slice B_t m_t d_t):=by subst hW5;exact T.set3 _ _ _
  have t5:QG W5 s_t A_t n_t c_t B_t m_t d_t (Rat.divInt v u) 3:=by
   subst hW5
   rw [HS.out] at t
   exact t.set3 T _ _ _
  have hb5:Below w.heap.size w W5:=by subst hW5;exact below_set3 hb hitw _ _ _
  have hwlt:w.heap.size < w_o.heap.size:=by have:=HBS.out;omega
  have Z5:B3 W5 w.heap.size (Value.bool false) (Value.slice none 0 0) (Value.slice none 0 0):=(hz3 _ (by omega)).trans Z
  have hi6:W5.heap[it]?=_:=(hz3 it (by omega)).trans hi5
  have hm6:W5.heap[r]?=_:=(hz3 r (by omega)).trans hm5
  clear hz3 hW5 hh5 hi5 hm5 hh hh1 o q T Z hb t
  have hn2:∀ ty,_:=fun ty=>next_one2 W5 it r ty u v hi6 hm6
  clear hi6 hm6;have zf0:=Z5.f0;have zf1:=Z5.f1;have zf2:=Z5.f2;obtain ⟨z0,z1,z2⟩:=Z5.all;obtain ⟨t0,t1,t2⟩:=T5.all
  go_wp2_with fail
  rw [rounds_succ]
  go_wp2_with fail
  have Z2:=Z5.set3 (.bool s_t) (.slice A_t n_t c_t) (.slice B_t m_t d_t)
  obtain ⟨g0,g1,g2⟩:=Z2.all
  refine bodyPost_ret (v:=.agg #[.bool s_t,.slice A_t n_t c_t,.slice B_t m_t d_t]) (by simp [results,Tryz.results186,go_sem,g0,g1,g2]) rfl ?_
  exact ⟨s_t,A_t,n_t,c_t,B_t,m_t,d_t,rfl,t5.set3 Z5 _ _ _,below_set3 hb5 (Nat.le_refl _) _ _ _⟩
theorem und_parts:Tryz.prog.underlying 208=some (.map 2 2):=by kernel_rfl
theorem und_i64:Tryz.prog.underlying 2=some (.int .i64):=by kernel_rfl
theorem run_updF {r:Nat} (u v:Int) (hb:w.heap[r]?=some (.map #[] 0)) :
 (Instr.mapUpdate 208 (.map (some r)) (.int .i64 u) (.int .i64 v)).run Tryz.prog w=.ok () (setMap w r (oneEs u v) 1):=by
 have hk:Go.MapKept.IsKey (.int .i64) (.int .i64 u):=rfl
 have h1:Instr.findNow (.int .i64) (.int .i64 u) (#[]:Array MapEntry).toList 0=some none:=rfl
 simp [Instr.mapUpdate,run_underlying und_parts,Go.MapKept.run_getObj_map hb,Go.MapKept.run_checkKey und_i64 hk,Go.MapKept.run_findKey und_i64 h1,Go.MapKept.run_setObj_map _ hb,Result.andThen,setMap]
theorem small1 {v u:Int} (hu1:1≤u) (hu2:u < 9223372036854775808) (hv1:-9223372036854775808≤v) (hv2:v < 9223372036854775808):(Rat.divInt v u).num.natAbs < B64 ^ 1∧(Rat.divInt v u).den < B64 ^ 1:=by
 have h0:u ≠ 0:=by omega
 rw [div_num h0,div_den h0,Nat.pow_one]
 have h1:=Nat.div_le_self v.natAbs (Nat.gcd v.natAbs u.natAbs)
 have h2:=Nat.div_le_self u.natAbs (Nat.gcd v.natAbs u.natAbs)
 have:B64=18446744073709551616:=rfl
 omega
theorem from_q (v u:Int) (hu1:1≤u) (hu2:u < 9223372036854775808) (hv1:-9223372036854775808≤v) (hv2:v < 9223372036854775808) (w:World) :
 Calls Tryz.prog 158 #[.int .i64 v,.int .i64 u] w (GivesQ w (Rat.divInt v u) 1):=by
 have hs:=small1 hu1 hu2 hv1 hv2;have HS:=Lib.hid hs;have H1:=Lib.hid hu1;have H2:=Lib.hid hu2;have H3:=Lib.hid hv1;have H4:=Lib.hid hv2;clear hs hu1 hu2 hv1 hv2
 have hmm:=@run_makeMap Tryz.prog
 go_enter Tryz.func158,Tryz.ntmps158
 go_upto_region 1 with (fail)
 generalize hW:World.alloc _ _=W
 obtain ⟨hb,Z⟩:=mkbx42_14 hW;clear hW
 have h0:(W.alloc (.map #[] 0)).heap[W.heap.size]?=some (.map #[] 0):=heap_alloc_new W _
 have hi0:=run_updF u v h0
 have h2:Below W.heap.size W (setMap (W.alloc (.map #[] 0)) W.heap.size (oneEs u v) 1):=below_setMap ((Below.refl _ _).alloc (Nat.le_refl _) _) (Nat.le_refl _) _ _
 have hm:(setMap (W.alloc (.map #[] 0)) W.heap.size (oneEs u v) 1).heap[W.heap.size]?=some (.map (oneEs u v) 1):=setMap_at (by simp)
 have HM:=Lib.hid hm;clear h0 hm
 go_wp2_with (first
  | (go_at_call 186;(with_reducible refine (sum_one u v HM.out H1.out H2.out H3.out H4.out).mono ?_);rintro e w_t ⟨s_t,A_t,n_t,c_t,B_t,m_t,d_t,rfl,t,hh⟩
     replace Z:=Z.below h2;replace hb:=bend hb h2;(try replace Z:=Z.below hh);replace hb:=bend hb hh;have zf0:=Z.f0;have zf1:=Z.f1;have zf2:=Z.f2;obtain ⟨z0,z1,z2⟩:=Z.all))
 replace t:=t.tight HS.out.1 HS.out.2
 have Z2:=Z.set3 (.bool s_t) (.slice A_t n_t c_t) (.slice B_t m_t d_t)
 obtain ⟨g0,g1,g2⟩:=Z2.all
 refine bodyPost_ret (v:=.agg #[.bool s_t,.slice A_t n_t c_t,.slice B_t m_t d_t]) (by simp [results,Tryz.results158,go_sem,g0,g1,g2]) rfl ?_
 exact ⟨s_t,A_t,n_t,c_t,B_t,m_t,d_t,rfl,t.set3 Z _ _ _,below_set3 hb (by omega) _ _ _⟩
end
section
open Go Go.RowKit
def fromQ (v u:Int):Rat:=if u < 1 then Rat.divInt 0 1 else Rat.divInt v u
end
section
open Go Go.RowKit
theorem sum_zero {r:Nat} (u v:Int) (hm:w.heap[r]?=some (.map (oneEs u v) 1)) (hu1:¬ 1≤u) :
 Calls Tryz.prog 186 #[.map (some r)] w (GivesQ w (Rat.divInt 0 1) 1):=by
 have HM:=Lib.hid hm
 have hrlt:r < w.heap.size:=by
  rcases Nat.lt_or_ge r w.heap.size with h | h
  · exact h
  · simp [Array.getElem?_eq_none h] at hm
 clear hm
 go_enter Tryz.func186,Tryz.ntmps186
 go_upto_region 1 with (fail)
 generalize hW:World.alloc _ _=W
 obtain ⟨hb,Z⟩:=mkbx42_14 hW;clear hW
 go_upto_region 2 with (first
  | (go_at_call 60;(with_reducible refine (rof_q 0 1 (by decide) (by decide) (by decide) (by decide) (by decide) _).mono ?_);rintro e w_o ⟨s_o,A_o,n_o,c_o,B_o,m_o,d_o,rfl,o,hh⟩
     replace Z:=Z.below hh;have HBS:=Lib.hid Z.lt;replace hb:=bend hb hh))
 generalize hW:World.alloc _ _=W2
 obtain ⟨hh,T⟩:=mkbx42_14 hW;clear hW;replace o:=o.below hh;replace Z:=Z.below hh;replace hb:=bend hb hh
 have hm2:W2.heap[r]?=some (.map (oneEs u v) 1):=(hb.block r hrlt).trans HM.out
 have hrg:=run_range_map (P:=Tryz.prog) W2 208 2 2 r (oneEs u v) 1 (by kernel_rfl) hm2
 go_wp2_with fail
 refine wp_loop_rounds 2 ?_
 rw [rounds_succ]
 generalize hW:W2.alloc (Obj.mapIter (some r) 1 #[] 1)=W3
 obtain ⟨it,hit⟩:∃ it,it=W2.heap.size:=⟨_,rfl⟩
 have hi1:W3.heap[it]?=some (.mapIter (some r) 1 #[] 1):=by subst hW hit;exact heap_alloc_new _ _
 have hh:Below W2.heap.size W2 W3:=by subst hW;exact (Below.refl _ _).alloc (Nat.le_refl _) _
 have hm3:W3.heap[r]?=some (.map (oneEs u v) 1):=(hh.block r (Nat.lt_of_lt_of_le hrlt hb.size)).trans hm2
 have hitl:it < W3.heap.size:=by subst hW hit;simp
 rw [← hit]
 have hn1:∀ ty,_:=fun ty=>next_one1 W3 it r ty u v hi1 hm3
 have HI:=Lib.hid hit;have HW3:=Lib.hid hW;clear hrg hit hW
 go_upto_region 4 with (fail)
 generalize hW4:({heap:=W3.heap.setIfInBounds it (Obj.mapIter (some r) 1 #[0] 1),tape:=W3.tape,drawn:=W3.drawn,os:=W3.os,output:=W3.output}:World)=W4
 have hit:=HI.out
 have hi4:W4.heap[it]?=some (.mapIter (some r) 1 #[0] 1):=by subst hW4;simp [hitl]
 have hh4:Below W2.heap.size W2 W4:=by
  subst hW4
  exact ⟨hh.os,hh.tape,hh.output,by simpa using hh.size,fun k hk=>by
   show (W3.heap.setIfInBounds it _)[k]?=_
   rw [Array.getElem?_setIfInBounds_ne (by omega)];exact hh.block k hk⟩
 have hm4:W4.heap[r]?=some (.map (oneEs u v) 1):=(hh4.block r (Nat.lt_of_lt_of_le hrlt hb.size)).trans hm2
 have hW:=HW3.out;have hT0:=T.lt
 have hTit:w_o.heap.size < it:=by rw [hit];exact hT0
 have hitw:w.heap.size≤w_o.heap.size:=Nat.le_of_lt HBS.out
 have hi4l:it < W4.heap.size:=by subst hW4;simpa using hitl
 have hw4:W4.heap.size=it+1:=by subst hW4;rw [hit,← hW];simp
 clear hn1 hW4 hi1 hW hm3 hitl hm2 hh hT0;clear hit HW3;replace o:=o.below hh4;replace Z:=Z.below hh4;replace T:=T.below hh4;replace hb:=bend hb hh4;clear hh4;have hen:=entry_one W4 it r u v hi4 hm4
 have hn2:∀ ty,_:=fun ty=>next_one2 W4 it r ty u v hi4 hm4
 have zf0:=Z.f0;have zf1:=Z.f1;have zf2:=Z.f2;obtain ⟨z0,z1,z2⟩:=Z.all;obtain ⟨t0,t1,t2⟩:=T.all
 go_wp2_with fail
 rw [rounds_succ];clear hen
 go_wp2_with fail
 have Z2:=Z.set3 (.bool s_o) (.slice A_o n_o c_o) (.slice B_o m_o d_o)
 obtain ⟨g0,g1,g2⟩:=Z2.all
 refine bodyPost_ret (v:=.agg #[.bool s_o,.slice A_o n_o c_o,.slice B_o m_o d_o]) (by simp [results,Tryz.results186,go_sem,g0,g1,g2]) rfl ?_
 exact ⟨s_o,A_o,n_o,c_o,B_o,m_o,d_o,rfl,o.set3 Z _ _ _,below_set3 hb (Nat.le_refl _) _ _ _⟩
theorem from_zero (v u:Int) (hu1:¬ 1≤u) (w:World) :
 Calls Tryz.prog 158 #[.int .i64 v,.int .i64 u] w (GivesQ w (Rat.divInt 0 1) 1):=by
 have H1:=Lib.hid hu1;clear hu1
 have hmm:=@run_makeMap Tryz.prog
 go_enter Tryz.func158,Tryz.ntmps158
 go_upto_region 1 with (fail)
 generalize hW:World.alloc _ _=W
 obtain ⟨hb,Z⟩:=mkbx42_14 hW;clear hW
 have h0:(W.alloc (.map #[] 0)).heap[W.heap.size]?=some (.map #[] 0):=heap_alloc_new W _
 have hi0:=run_updF u v h0
 have h2:Below W.heap.size W (setMap (W.alloc (.map #[] 0)) W.heap.size (oneEs u v) 1):=below_setMap ((Below.refl _ _).alloc (Nat.le_refl _) _) (Nat.le_refl _) _ _
 have hm:(setMap (W.alloc (.map #[] 0)) W.heap.size (oneEs u v) 1).heap[W.heap.size]?=some (.map (oneEs u v) 1):=setMap_at (by simp)
 have HM:=Lib.hid hm;clear h0 hm
 go_wp2_with (first
  | (go_at_call 186;(with_reducible refine (sum_zero u v HM.out H1.out).mono ?_);rintro e w_t ⟨s_t,A_t,n_t,c_t,B_t,m_t,d_t,rfl,t,hh⟩
     replace Z:=Z.below h2;replace hb:=bend hb h2;(try replace Z:=Z.below hh);replace hb:=bend hb hh;have zf0:=Z.f0;have zf1:=Z.f1;have zf2:=Z.f2;obtain ⟨z0,z1,z2⟩:=Z.all))
 have Z2:=Z.set3 (.bool s_t) (.slice A_t n_t c_t) (.slice B_t m_t d_t)
 obtain ⟨g0,g1,g2⟩:=Z2.all
 refine bodyPost_ret (v:=.agg #[.bool s_t,.slice A_t n_t c_t,.slice B_t m_t d_t]) (by simp [results,Tryz.results158,go_sem,g0,g1,g2]) rfl ?_
 exact ⟨s_t,A_t,n_t,c_t,B_t,m_t,d_t,rfl,t.set3 Z _ _ _,below_set3 hb (by omega) _ _ _⟩
theorem from_all (v u:Int) (hv1:-9223372036854775808≤v) (hv2:v < 9223372036854775808) (hu1:-9223372036854775808≤u) (hu2:u < 9223372036854775808) (w:World) :
 Calls Tryz.prog 158 #[.int .i64 v,.int .i64 u] w (GivesQ w (fromQ v u) 1):=by
 unfold fromQ
 split
 · exact from_zero v u (by omega) w
 · exact from_q v u (by omega) hu2 hv1 hv2 w
end
end Go.Proofs.YtgneghgfpkkkdaaGreat
