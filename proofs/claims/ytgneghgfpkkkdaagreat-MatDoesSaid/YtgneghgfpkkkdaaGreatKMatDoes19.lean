/- MatDoes: part 19. -/
import Derived.Deep.WholeRow
import Derived.Lib.SmallJoins
import Derived.OpenShut
import Derived.Test.YtgneghgfpkkkdaaGreatKMatDoes0
import Derived.Test.YtgneghgfpkkkdaaGreatKMatDoes12
import Derived.Test.YtgneghgfpkkkdaaGreatKMatDoes13
import Derived.Test.YtgneghgfpkkkdaaGreatKMatDoes17
import Derived.Test.YtgneghgfpkkkdaaGreatKMatDoes18
set_option linter.unusedVariables false
set_option maxRecDepth 100000
set_option maxHeartbeats 16000000
variable {w:Go.World}
variable {s_p t_p:Bool} {A_p B_p E_p F_p:Option Go.Addr} {n_p c_p m_p d_p i_p e_p j_p f_p:Nat}
namespace Go.Proofs.YtgneghgfpkkkdaaGreat
section
open Go Go.RowKit
attribute [local go_sem ↓] open_LVM open_STM open_LVN open_STN
theorem RQ.on18 {w w':World} {u:Rat} {g k:Nat} {s:Bool} {A B:Option Addr} {n c m d:Nat} {s0:Bool} {s1:Bool} {s2:Bool} {s3:Bool} {s4:Bool} {s5:Bool} {A1:Option Addr} {n1 c1:Nat} {A2:Option Addr} {n2 c2:Nat} {A4:Option Addr} {n4 c4:Nat} {A5:Option Addr} {n5 c5:Nat} {A7:Option Addr} {n7 c7:Nat} {A8:Option Addr} {n8 c8:Nat} {A10:Option Addr} {n10 c10:Nat} {A11:Option Addr} {n11 c11:Nat} {A13:Option Addr} {n13 c13:Nat} {A14:Option Addr} {n14 c14:Nat} {A16:Option Addr} {n16 c16:Nat} {A17:Option Addr} {n17 c17:Nat} (h:RQ w s A n c B m d u k) (Z:B18R w g (.bool s0) (.slice A1 n1 c1) (.slice A2 n2 c2) (.bool s1) (.slice A4 n4 c4) (.slice A5 n5 c5) (.bool s2) (.slice A7 n7 c7) (.slice A8 n8 c8) (.bool s3) (.slice A10 n10 c10) (.slice A11 n11 c11) (.bool s4) (.slice A13 n13 c13) (.slice A14 n14 c14) (.bool s5) (.slice A16 n16 c16) (.slice A17 n17 c17)) (ho:Only g w w'):RQ w' s A n c B m d u k :=
 h.onl (h.1.2.1.offB18R Z) (h.2.1.offB18R Z) ho
theorem RM.fits {m:MV} {v:AM} {k l:Nat} (h:RM w m v k l) (hk:k≤12) (hl:l≤12):v.fits 12:=by
 have e:∀ x i:Nat,i≤12→x < B32 ^ i→x < B64 ^ 12:=fun x i hi hx =>
  Nat.lt_of_lt_of_le hx (Nat.le_trans (Nat.pow_le_pow_right (by decide) hi) (Nat.pow_le_pow_left (by decide) 12))
 exact ⟨⟨e _ _ hk h.1.1.1.rn.lt,e _ _ hk h.1.1.2.lt⟩,⟨e _ _ hk h.1.2.1.rn.lt,e _ _ hk h.1.2.2.lt⟩,⟨e _ _ hk h.2.1.1.1.rn.lt,e _ _ hk h.2.1.1.2.lt⟩,⟨e _ _ hk h.2.1.2.1.rn.lt,e _ _ hk h.2.1.2.2.lt⟩,⟨e _ _ hl h.2.2.1.1.rn.lt,e _ _ hl h.2.2.1.2.lt⟩,e _ _ hl h.2.2.2.1.rn.lt,e _ _ hl h.2.2.2.2.lt⟩
theorem mkbx52_19 {w W:World} {x0 x1 x2 x3 x4 x5 x6 x7 x8 x9 x10 x11 x12 x13 x14 x15 x16 x17 x18 x19 x20 x21 x22 x23 x24 x25 x26 x27 x28 x29 x30 x31 x32 x33 x34 x35 x36 x37 x38 x39 x40 x41 x42 x43 x44 x45 x46 x47 x48 x49 x50 x51 x52 x53:Value} (h:(((w.alloc (Obj.cells #[x0,x1,x2,x3,x4,x5,x6,x7,x8,x9,x10,x11,x12,x13,x14,x15,x16,x17] 74)).alloc (Obj.cells #[x18,x19,x20,x21,x22,x23,x24,x25,x26,x27,x28,x29,x30,x31,x32,x33,x34,x35] 74)).alloc (Obj.cells #[x36,x37,x38,x39,x40,x41,x42,x43,x44,x45,x46,x47,x48,x49,x50,x51,x52,x53] 74))=W):Below w.heap.size w W∧B18R W (w.heap.size) x0 x1 x2 x3 x4 x5 x6 x7 x8 x9 x10 x11 x12 x13 x14 x15 x16 x17∧B18R W (w.heap.size+1) x18 x19 x20 x21 x22 x23 x24 x25 x26 x27 x28 x29 x30 x31 x32 x33 x34 x35∧B18R W (w.heap.size+1+1) x36 x37 x38 x39 x40 x41 x42 x43 x44 x45 x46 x47 x48 x49 x50 x51 x52 x53∧W.heap.size=w.heap.size+3:=by subst h;exact ⟨by exact ((((Below.refl _ _).alloc (Nat.le_refl _) _).alloc (by simp) _).alloc (by simp;omega) _),by exact ((B18R.new' _ _ _ _ _ _ _ _ _ _ _ _ _ _ _ _ _ _ _ _ rfl).alloc _).alloc _,by exact (B18R.new' _ _ _ _ _ _ _ _ _ _ _ _ _ _ _ _ _ _ _ _ (by simp)).alloc _,by exact B18R.new' _ _ _ _ _ _ _ _ _ _ _ _ _ _ _ _ _ _ _ _ (by simp),by simp⟩
theorem rmul9 {k l k2 l2:Nat} {v u:AM} {m n:MV} (M:RM w m v k l) (N:RM w n u k2 l2) (hk:k≤100) (hl:l≤100) (hk2:k2≤100) (hl2:l2≤100) :
 Calls Tryz.prog 46 #[.agg #[.bool m.a.s,.slice m.a.A m.a.n m.a.c,.slice m.a.B m.a.m m.a.d,.bool m.b.s,.slice m.b.A m.b.n m.b.c,.slice m.b.B m.b.m m.b.d,.bool m.c.s,.slice m.c.A m.c.n m.c.c,.slice m.c.B m.c.m m.c.d,.bool m.d.s,.slice m.d.A m.d.n m.d.c,.slice m.d.B m.d.m m.d.d,.bool m.e.s,.slice m.e.A m.e.n m.e.c,.slice m.e.B m.e.m m.e.d,.bool m.f.s,.slice m.f.A m.f.n m.f.c,.slice m.f.B m.f.m m.f.d],.agg #[.bool n.a.s,.slice n.a.A n.a.n n.a.c,.slice n.a.B n.a.m n.a.d,.bool n.b.s,.slice n.b.A n.b.n n.b.c,.slice n.b.B n.b.m n.b.d,.bool n.c.s,.slice n.c.A n.c.n n.c.c,.slice n.c.B n.c.m n.c.d,.bool n.d.s,.slice n.d.A n.d.n n.d.c,.slice n.d.B n.d.m n.d.d,.bool n.e.s,.slice n.e.A n.e.n n.e.c,.slice n.e.B n.e.m n.e.d,.bool n.f.s,.slice n.f.A n.f.n n.f.c,.slice n.f.B n.f.m n.f.d]] w (GivesRM w (v.mul u) ((k+(k2+2+(k2+2)+1+l2+1)+(k+(k2+2+(k2+2)+1+l2+1))+1+l+1)+(k+(k2+2+(k2+2)+1+l2+1)+(k+(k2+2+(k2+2)+1+l2+1))+1+l+1)+1) (k+(k2+2+(k2+2)+1+l2+1)+(k+(k2+2+(k2+2)+1+l2+1))+1+l+1)):=by
 rw [rmul_eq]
 go_enter Tryz.func46,Tryz.ntmps46
 go_upto_region 1 with (fail)
 generalize hW:World.alloc _ _=W
 obtain ⟨hb,XA,XB,Z,hzW⟩:=mkbx52_19 hW;clear hW;replace M:=M.below hb;replace N:=N.below hb
 refine rmo_region (by simp) rfl rfl XA XB M N hk hl hk2 hl2 ?_
 intro V1 w_o g_o s_o A_o n_o c_o B_o m_o d_o t_o E_o i_o e_o F_o j_o f_o o0 XO hg_o hvo hh
 simp only [putAll,Act.put,List.setIfInBounds_toArray,List.set_cons_zero,List.set_cons_succ,hvo]
 clear hvo;replace M:=M.below hh;replace N:=N.below hh;replace XA:=XA.below hh;replace XB:=XB.below hh;replace Z:=Z.below hh;replace hb:=bend hb hh
 go_upto_region 2 with (fail)
 refine rmx_region (by simp) rfl rfl rfl XA XB M N hk hl hk2 hl2 XO o0 ?_
 intro V2 w_x g_x s_x A_x n_x c_x B_x m_x d_x t_x E_x i_x e_x F_x j_x f_x x0 XX hg_x hvx hh
 simp only [putAll,Act.put,List.setIfInBounds_toArray,List.set_cons_zero,List.set_cons_succ,hvx]
 clear hvx;replace M:=M.below hh;replace N:=N.below hh;replace XA:=XA.below hh;replace XB:=XB.below hh;replace Z:=Z.below hh;replace o0:=o0.below hh;replace XO:=XO.below hh;replace hb:=bend hb hh
 go_upto_region 3 with (fail)
 refine rmy_region (by simp) rfl rfl rfl XA XB M N hk hl hk2 hl2 XO o0 ?_
 intro V3 w_y g_y s_y A_y n_y c_y B_y m_y d_y t_y E_y i_y e_y F_y j_y f_y y0 XY hg_y hvy hh
 simp only [putAll,Act.put,List.setIfInBounds_toArray,List.set_cons_zero,List.set_cons_succ,hvy]
 clear hvy;replace M:=M.below hh;replace N:=N.below hh;replace XA:=XA.below hh;replace XB:=XB.below hh;replace Z:=Z.below hh;replace o0:=o0.below hh;replace XO:=XO.below hh;replace x0:=x0.below hh;replace XX:=XX.below hh;replace hb:=bend hb hh
 go_upto_region 4 with (fail)
 obtain ⟨xx0,xx1,xx2,xx3,xx4,xx5⟩:=XX.all;obtain ⟨xy0,xy1,xy2,xy3,xy4,xy5⟩:=XY.all;obtain ⟨xo0,xo1,xo2,xo3,xo4,xo5⟩:=XO.all
 have zst:=Z.st (.bool s_x) (.slice A_x n_x c_x) (.slice B_x m_x d_x) (.bool t_x) (.slice E_x i_x e_x) (.slice F_x j_x f_x) (.bool s_y) (.slice A_y n_y c_y) (.slice B_y m_y d_y) (.bool t_y) (.slice E_y i_y e_y) (.slice F_y j_y f_y) (.bool s_o) (.slice A_o n_o c_o) (.slice B_o m_o d_o) (.bool t_o) (.slice E_o i_o e_o) (.slice F_o j_o f_o) (by simp [Value.oneCell'])
 go_wp2_with fail
 have Z2:=Z.set18 (.bool s_x) (.slice A_x n_x c_x) (.slice B_x m_x d_x) (.bool t_x) (.slice E_x i_x e_x) (.slice F_x j_x f_x) (.bool s_y) (.slice A_y n_y c_y) (.slice B_y m_y d_y) (.bool t_y) (.slice E_y i_y e_y) (.slice F_y j_y f_y) (.bool s_o) (.slice A_o n_o c_o) (.slice B_o m_o d_o) (.bool t_o) (.slice E_o i_o e_o) (.slice F_o j_o f_o)
 have gl:=Z2.ld
 refine bodyPost_ret (v:=.agg #[.bool s_x,.slice A_x n_x c_x,.slice B_x m_x d_x,.bool t_x,.slice E_x i_x e_x,.slice F_x j_x f_x,.bool s_y,.slice A_y n_y c_y,.slice B_y m_y d_y,.bool t_y,.slice E_y i_y e_y,.slice F_y j_y f_y,.bool s_o,.slice A_o n_o c_o,.slice B_o m_o d_o,.bool t_o,.slice E_o i_o e_o,.slice F_o j_o f_o]) (res_N Tryz.results46 _ _ (by simp) gl) rfl ?_
 exact ⟨⟨⟨s_x,A_x,n_x,c_x,B_x,m_x,d_x⟩,⟨t_x,E_x,i_x,e_x,F_x,j_x,f_x⟩,⟨s_y,A_y,n_y,c_y,B_y,m_y,d_y⟩,⟨t_y,E_y,i_y,e_y,F_y,j_y,f_y⟩,⟨s_o,A_o,n_o,c_o,B_o,m_o,d_o⟩,⟨t_o,E_o,i_o,e_o,F_o,j_o,f_o⟩⟩,rfl,RM.set18 (m:=⟨⟨s_x,A_x,n_x,c_x,B_x,m_x,d_x⟩,⟨t_x,E_x,i_x,e_x,F_x,j_x,f_x⟩,⟨s_y,A_y,n_y,c_y,B_y,m_y,d_y⟩,⟨t_y,E_y,i_y,e_y,F_y,j_y,f_y⟩,⟨s_o,A_o,n_o,c_o,B_o,m_o,d_o⟩,⟨t_o,E_o,i_o,e_o,F_o,j_o,f_o⟩⟩) (v:=v.rmul u) ⟨x0,y0,o0⟩ Z _ _ _ _ _ _ _ _ _ _ _ _ _ _ _ _ _ _,below_set18 hb (by omega) _ _ _ _ _ _ _ _ _ _ _ _ _ _ _ _ _ _⟩
theorem mkbx53_19 {w W:World} {x0 x1 x2 x3 x4 x5 x6 x7 x8 x9 x10 x11 x12 x13 x14 x15 x16 x17 x18 x19 x20 x21 x22 x23 x24 x25 x26 x27 x28 x29 x30 x31 x32 x33 x34 x35:Value} (h:((w.alloc (Obj.cells #[x0,x1,x2,x3,x4,x5,x6,x7,x8,x9,x10,x11,x12,x13,x14,x15,x16,x17] 74)).alloc (Obj.cells #[x18,x19,x20,x21,x22,x23,x24,x25,x26,x27,x28,x29,x30,x31,x32,x33,x34,x35] 74))=W):Below w.heap.size w W∧B18R W (w.heap.size) x0 x1 x2 x3 x4 x5 x6 x7 x8 x9 x10 x11 x12 x13 x14 x15 x16 x17∧B18R W (w.heap.size+1) x18 x19 x20 x21 x22 x23 x24 x25 x26 x27 x28 x29 x30 x31 x32 x33 x34 x35∧W.heap.size=w.heap.size+2:=by subst h;exact ⟨by exact (((Below.refl _ _).alloc (Nat.le_refl _) _).alloc (by simp) _),by exact (B18R.new' _ _ _ _ _ _ _ _ _ _ _ _ _ _ _ _ _ _ _ _ rfl).alloc _,by exact B18R.new' _ _ _ _ _ _ _ _ _ _ _ _ _ _ _ _ _ _ _ _ (by simp),by simp⟩
theorem rinv9 {k l:Nat} {v:AM} {m:MV} (M:RM w m v k l) (hk:k≤100) (h1:1≤k) (hl:l≤100) (h0:v.det ≠ 0) :
 Calls Tryz.prog 42 #[.agg #[.bool m.a.s,.slice m.a.A m.a.n m.a.c,.slice m.a.B m.a.m m.a.d,.bool m.b.s,.slice m.b.A m.b.n m.b.c,.slice m.b.B m.b.m m.b.d,.bool m.c.s,.slice m.c.A m.c.n m.c.c,.slice m.c.B m.c.m m.c.d,.bool m.d.s,.slice m.d.A m.d.n m.d.c,.slice m.d.B m.d.m m.d.d,.bool m.e.s,.slice m.e.A m.e.n m.e.c,.slice m.e.B m.e.m m.e.d,.bool m.f.s,.slice m.f.A m.f.n m.f.c,.slice m.f.B m.f.m m.f.d]] w (GivesRM w v.inv (k+(k+k+(k+k)+1)) ((k+(k+k+(k+k)+1))+l+((k+(k+k+(k+k)+1))+l)+1+(k+(k+k+(k+k)+1))+1)):=by
 rw [rinv_eq]
 go_enter Tryz.func42,Tryz.ntmps42
 go_upto_region 1 with (fail)
 generalize hW:World.alloc _ _=W
 obtain ⟨hb,XA,Z,hzW⟩:=mkbx53_19 hW;clear hW;replace M:=M.below hb;have xal:=XA.ld
 go_upto_region 2 with (first
  | (go_at_call 39;(with_reducible refine (rdet9 M (by omega)).mono ?_);rintro e w_t ⟨s_t,A_t,n_t,c_t,B_t,m_t,d_t,rfl,t,hh⟩
     (try replace M:=M.below hh);(try replace XA:=XA.below hh);(try replace Z:=Z.below hh);replace hb:=bend hb hh))
 clear xal
 have hzt:w.heap.size+2≤w_t.heap.size:=by have:=hh.size;omega
 generalize hW:World.alloc _ _=W1
 obtain ⟨hh1,XT,hzW1⟩:=mkbx29_11 hW;clear hW;(try replace M:=M.below hh1);(try replace XA:=XA.below hh1);(try replace Z:=Z.below hh1);(try replace t:=t.below hh1);replace hb:=bend hb hh1
 refine rvu_region (by simp) rfl rfl XA XT M t (by omega) (by omega) (by omega) h0 ?_
 intro V2 w_u g_u u U XU hg_u hvu hh
 simp only [putAll,Act.put,List.setIfInBounds_toArray,List.set_cons_zero,List.set_cons_succ,hvu]
 clear hvu;replace M:=M.below hh;replace XA:=XA.below hh;replace Z:=Z.below hh;replace t:=t.below hh;replace XT:=XT.below hh;replace hb:=bend hb hh;have hlu:=XU.lt;have xul:=XU.ld;have xa12:=XA.c12;have xa13:=XA.c13;have xa14:=XA.c14;have xa15:=XA.c15;have xa16:=XA.c16;have xa17:=XA.c17
 go_upto_region 4 with (first
  | (go_at_call 44;(with_reducible refine (rapply9 U M.ef (by omega) (by omega)).mono ?_);rintro e w_p ⟨s_p,A_p,n_p,c_p,B_p,m_p,d_p,t_p,E_p,i_p,e_p,F_p,j_p,f_p,rfl,p,hh⟩
     (try replace M:=M.below hh);(try replace XA:=XA.below hh);(try replace Z:=Z.below hh);(try replace t:=t.below hh);(try replace XT:=XT.below hh);(try replace U:=U.below hh);(try replace XU:=XU.below hh);replace hb:=bend hb hh))
 clear xul xa12 xa13 xa14 xa15 xa16 xa17
 have hup:w_u.heap.size≤w_p.heap.size:=hh.size
 generalize hW:World.alloc _ _=W2
 obtain ⟨hh,XP,hzW2⟩:=mkbx33_12 hW;clear hW;(try replace M:=M.below hh);(try replace XA:=XA.below hh);(try replace Z:=Z.below hh);(try replace t:=t.below hh);(try replace XT:=XT.below hh);(try replace U:=U.below hh);(try replace XU:=XU.below hh);(try replace p:=p.below hh);replace hb:=bend hb hh;clear t XT M XA
 have hne:w_p.heap.size ≠ g_u:=by omega
 have hnz:w.heap.size+1 ≠ g_u:=by omega
 replace Z:=Z.below (Below.refl _ _).drew
 replace U:=U.below (Below.refl _ _).drew
 replace XU:=XU.below (Below.refl _ _).drew
 replace p:=p.below (Below.refl _ _).drew
 replace XP:=XP.below (Below.refl _ _).drew
 replace hb:=hb.drew
 go_region_held3 (fun w'=>w'.cell? ⟨w_p.heap.size,0,none⟩=some (.bool s_p)∧w'.cell? ⟨w_p.heap.size,1,none⟩=some (.slice A_p n_p c_p)∧w'.cell? ⟨w_p.heap.size,2,none⟩=some (.slice B_p m_p d_p)∧w'.cell? ⟨w_p.heap.size,3,none⟩=some (.bool t_p)∧w'.cell? ⟨w_p.heap.size,4,none⟩=some (.slice E_p i_p e_p)∧w'.cell? ⟨w_p.heap.size,5,none⟩=some (.slice F_p j_p f_p))
  (first | with_reducible exact ⟨XP.c0,XP.c1,XP.c2,XP.c3,XP.c4,XP.c5⟩ | with_reducible exact ⟨(set3o_cell _ _ _ _ _ _ _ _ _ _ hne).trans XP.c0,(set3o_cell _ _ _ _ _ _ _ _ _ _ hne).trans XP.c1,(set3o_cell _ _ _ _ _ _ _ _ _ _ hne).trans XP.c2,(set3o_cell _ _ _ _ _ _ _ _ _ _ hne).trans XP.c3,(set3o_cell _ _ _ _ _ _ _ _ _ _ hne).trans XP.c4,(set3o_cell _ _ _ _ _ _ _ _ _ _ hne).trans XP.c5⟩ | with_reducible exact ⟨(set3o_cell _ _ _ _ _ _ _ _ _ _ hne).trans ((set3o_cell _ _ _ _ _ _ _ _ _ _ hne).trans XP.c0),(set3o_cell _ _ _ _ _ _ _ _ _ _ hne).trans ((set3o_cell _ _ _ _ _ _ _ _ _ _ hne).trans XP.c1),(set3o_cell _ _ _ _ _ _ _ _ _ _ hne).trans ((set3o_cell _ _ _ _ _ _ _ _ _ _ hne).trans XP.c2),(set3o_cell _ _ _ _ _ _ _ _ _ _ hne).trans ((set3o_cell _ _ _ _ _ _ _ _ _ _ hne).trans XP.c3),(set3o_cell _ _ _ _ _ _ _ _ _ _ hne).trans ((set3o_cell _ _ _ _ _ _ _ _ _ _ hne).trans XP.c4),(set3o_cell _ _ _ _ _ _ _ _ _ _ hne).trans ((set3o_cell _ _ _ _ _ _ _ _ _ _ hne).trans XP.c5)⟩)
  (first
  | (go_at_call 110;(with_reducible refine (rminus3 p.qx).mono ?_);rintro e w_r1 ⟨s_r1,A_r1,n_r1,c_r1,B_r1,m_r1,d_r1,rfl,r1,hh⟩
     (try replace Z:=Z.below hh);(try replace U:=U.below hh);(try replace XU:=XU.below hh);(try replace p:=p.below hh);(try replace XP:=XP.below hh);replace hb:=bend hb hh;have zu12:=XU.c12;have zv12:=XU.f12;have zu13:=XU.c13;have zv13:=XU.f13;have zu14:=XU.c14;have zv14:=XU.f14;have zu15:=XU.c15;have zv15:=XU.f15;have zu16:=XU.c16;have zv16:=XU.f16;have zu17:=XU.c17;have zv17:=XU.f17)
  | (go_at_call 110;(with_reducible refine (rminus3 p.qy).mono ?_);rintro e w_r2 ⟨s_r2,A_r2,n_r2,c_r2,B_r2,m_r2,d_r2,rfl,r2,hh⟩
     (try replace Z:=Z.below hh);(try replace U:=U.below hh);(try replace XU:=XU.below hh);(try replace p:=p.below hh);(try replace XP:=XP.below hh);(try replace r1:=r1.below hh);replace hb:=bend hb hh;have zu12:=XU.c12;have zv12:=XU.f12;have zu13:=XU.c13;have zv13:=XU.f13;have zu14:=XU.c14;have zv14:=XU.f14;have zu15:=XU.c15;have zv15:=XU.f15;have zu16:=XU.c16;have zv16:=XU.f16;have zu17:=XU.c17;have zv17:=XU.f17))
 have ho:=only_setef w_r2 g_u (.bool s_r1) (.slice A_r1 n_r1 c_r1) (.slice B_r1 m_r1 d_r1) (.bool s_r2) (.slice A_r2 n_r2 c_r2) (.slice B_r2 m_r2 d_r2)
 have XU2:=XU.setef (.bool s_r1) (.slice A_r1 n_r1 c_r1) (.slice B_r1 m_r1 d_r1) (.bool s_r2) (.slice A_r2 n_r2 c_r2) (.slice B_r2 m_r2 d_r2)
 have hb2:=below_setef hb (show w.heap.size≤g_u by omega) (.bool s_r1) (.slice A_r1 n_r1 c_r1) (.slice B_r1 m_r1 d_r1) (.bool s_r2) (.slice A_r2 n_r2 c_r2) (.slice B_r2 m_r2 d_r2)
 have Z2:=Z.restm hnz ho;have a1:=U.1.1.on18 XU ho;have a2:=U.1.2.on18 XU ho;have a3:=U.2.1.1.on18 XU ho;have a4:=U.2.1.2.on18 XU ho;have a5:=r1.on18 XU ho;have a6:=r2.on18 XU ho;clear U XU Z p XP ho hb r1 r2
 generalize hW2:((((((w_r2.setCell ⟨g_u,12,none⟩ (.bool s_r1)).setCell ⟨g_u,13,none⟩ (.slice A_r1 n_r1 c_r1)).setCell ⟨g_u,14,none⟩ (.slice B_r1 m_r1 d_r1)).setCell ⟨g_u,15,none⟩ (.bool s_r2)).setCell ⟨g_u,16,none⟩ (.slice A_r2 n_r2 c_r2)).setCell ⟨g_u,17,none⟩ (.slice B_r2 m_r2 d_r2))=W3 at *
 clear hW2;have xul:=XU2.ld
 have zst:=Z2.st (.bool u.a.s) (.slice u.a.A u.a.n u.a.c) (.slice u.a.B u.a.m u.a.d) (.bool u.b.s) (.slice u.b.A u.b.n u.b.c) (.slice u.b.B u.b.m u.b.d) (.bool u.c.s) (.slice u.c.A u.c.n u.c.c) (.slice u.c.B u.c.m u.c.d) (.bool u.d.s) (.slice u.d.A u.d.n u.d.c) (.slice u.d.B u.d.m u.d.d) (.bool s_r1) (.slice A_r1 n_r1 c_r1) (.slice B_r1 m_r1 d_r1) (.bool s_r2) (.slice A_r2 n_r2 c_r2) (.slice B_r2 m_r2 d_r2) (by simp [Value.oneCell'])
 go_wp2_with fail
 have Z3:=Z2.set18 (.bool u.a.s) (.slice u.a.A u.a.n u.a.c) (.slice u.a.B u.a.m u.a.d) (.bool u.b.s) (.slice u.b.A u.b.n u.b.c) (.slice u.b.B u.b.m u.b.d) (.bool u.c.s) (.slice u.c.A u.c.n u.c.c) (.slice u.c.B u.c.m u.c.d) (.bool u.d.s) (.slice u.d.A u.d.n u.d.c) (.slice u.d.B u.d.m u.d.d) (.bool s_r1) (.slice A_r1 n_r1 c_r1) (.slice B_r1 m_r1 d_r1) (.bool s_r2) (.slice A_r2 n_r2 c_r2) (.slice B_r2 m_r2 d_r2)
 have gl:=Z3.ld
 refine bodyPost_ret (v:=.agg #[.bool u.a.s,.slice u.a.A u.a.n u.a.c,.slice u.a.B u.a.m u.a.d,.bool u.b.s,.slice u.b.A u.b.n u.b.c,.slice u.b.B u.b.m u.b.d,.bool u.c.s,.slice u.c.A u.c.n u.c.c,.slice u.c.B u.c.m u.c.d,.bool u.d.s,.slice u.d.A u.d.n u.d.c,.slice u.d.B u.d.m u.d.d,.bool s_r1,.slice A_r1 n_r1 c_r1,.slice B_r1 m_r1 d_r1,.bool s_r2,.slice A_r2 n_r2 c_r2,.slice B_r2 m_r2 d_r2]) (res_N Tryz.results42 _ _ rfl gl) rfl ?_
 have hm:RM W3 ⟨u.a,u.b,u.c,u.d,⟨s_r1,A_r1,n_r1,c_r1,B_r1,m_r1,d_r1⟩,⟨s_r2,A_r2,n_r2,c_r2,B_r2,m_r2,d_r2⟩⟩ v.rinv (k+(k+k+(k+k)+1)) ((k+(k+k+(k+k)+1))+l+((k+(k+k+(k+k)+1))+l)+1+(k+(k+k+(k+k)+1))+1):=⟨⟨a1,a2⟩,⟨a3,a4⟩,⟨a5,a6⟩⟩
 have hm2:=hm.set18 Z2 (.bool u.a.s) (.slice u.a.A u.a.n u.a.c) (.slice u.a.B u.a.m u.a.d) (.bool u.b.s) (.slice u.b.A u.b.n u.b.c) (.slice u.b.B u.b.m u.b.d) (.bool u.c.s) (.slice u.c.A u.c.n u.c.c) (.slice u.c.B u.c.m u.c.d) (.bool u.d.s) (.slice u.d.A u.d.n u.d.c) (.slice u.d.B u.d.m u.d.d) (.bool s_r1) (.slice A_r1 n_r1 c_r1) (.slice B_r1 m_r1 d_r1) (.bool s_r2) (.slice A_r2 n_r2 c_r2) (.slice B_r2 m_r2 d_r2)
 have hb3:=below_set18 hb2 (show w.heap.size≤w.heap.size+1 by omega) (.bool u.a.s) (.slice u.a.A u.a.n u.a.c) (.slice u.a.B u.a.m u.a.d) (.bool u.b.s) (.slice u.b.A u.b.n u.b.c) (.slice u.b.B u.b.m u.b.d) (.bool u.c.s) (.slice u.c.A u.c.n u.c.c) (.slice u.c.B u.c.m u.c.d) (.bool u.d.s) (.slice u.d.A u.d.n u.d.c) (.slice u.d.B u.d.m u.d.d) (.bool s_r1) (.slice A_r1 n_r1 c_r1) (.slice B_r1 m_r1 d_r1) (.bool s_r2) (.slice A_r2 n_r2 c_r2) (.slice B_r2 m_r2 d_r2)
 exact ⟨⟨u.a,u.b,u.c,u.d,⟨s_r1,A_r1,n_r1,c_r1,B_r1,m_r1,d_r1⟩,⟨s_r2,A_r2,n_r2,c_r2,B_r2,m_r2,d_r2⟩⟩,rfl,hm2,hb3⟩
abbrev L_mdi:List Nat:=[26,27,28,29,7,8]
def o0_mdi:Oper:=⟨some 26,.load 71 (.tmp 3),71, "law.go:35",#[],none⟩
def o1_mdi:Oper:=⟨some 27,.call ⟨.value (.func 37),#[.tmp 26],#[71]⟩,74, "law.go:35",#[⟨0,.data⟩],none⟩
def o2_mdi:Oper:=⟨some 28,.load 71 (.tmp 4),71, "law.go:35",#[],none⟩
def o3_mdi:Oper:=⟨some 29,.call ⟨.value (.func 37),#[.tmp 28],#[71]⟩,74, "law.go:35",#[⟨2,.data⟩,⟨1,.chain⟩],none⟩
def o4_mdi:Oper:=⟨some 7,.alloc 74,0, "law.go:35",#[],none⟩
def o5_mdi:Oper:=⟨some 8,.alloc 74,0, "law.go:35",#[],none⟩
def o6_mdi:Oper:=⟨none,.store 74 (.tmp 7) (.tmp 27),0, "law.go:35",#[⟨4,.data⟩,⟨1,.data⟩,⟨3,.chain⟩,⟨0,.phase⟩,⟨1,.phase⟩,⟨2,.textOnly .lateStores⟩,⟨3,.textOnly .lateStoresUnsure⟩,⟨4,.phase⟩,⟨5,.phase⟩],none⟩
def o7_mdi:Oper:=⟨none,.store 74 (.tmp 8) (.tmp 29),0, "law.go:35",#[⟨5,.data⟩,⟨3,.data⟩,⟨6,.chain⟩,⟨0,.phase⟩,⟨1,.phase⟩,⟨2,.phase⟩,⟨3,.phase⟩,⟨4,.phase⟩,⟨5,.phase⟩,⟨6,.phase⟩],none⟩
theorem rc_gesso_gessoref09_In {e:Operand→Value} {x0:Operand} {d:Option Tmp} {y:Nat} {pos:String} {af:Array Edge} {u0:Value} (h0:e x0=u0) (hf:e (.func 37)=.func (.func 37) #[] #[]) :
 (execOp e ⟨d,.call ⟨.value (.func 37),#[x0],#[71]⟩,y,pos,af,none⟩).run Tryz.prog w=.ok (.enter 37 #[u0]) w:=by
 go_simp
def F_mdi (m:MV) (n:MV) (v:AM) (vv:AM) (sl:Nat):Value→World→Prop :=
 match sl with
 | 26=>fun x _=>x=Value.agg #[.bool m.a.s,.slice m.a.A m.a.n m.a.c,.slice m.a.B m.a.m m.a.d,.bool m.b.s,.slice m.b.A m.b.n m.b.c,.slice m.b.B m.b.m m.b.d,.bool m.c.s,.slice m.c.A m.c.n m.c.c,.slice m.c.B m.c.m m.c.d,.bool m.d.s,.slice m.d.A m.d.n m.d.c,.slice m.d.B m.d.m m.d.d,.bool m.e.s,.slice m.e.A m.e.n m.e.c,.slice m.e.B m.e.m m.e.d,.bool m.f.s,.slice m.f.A m.f.n m.f.c,.slice m.f.B m.f.m m.f.d]
 | 27=>VRM (v) (2*6) (2*6)
 | 28=>fun x _=>x=Value.agg #[.bool n.a.s,.slice n.a.A n.a.n n.a.c,.slice n.a.B n.a.m n.a.d,.bool n.b.s,.slice n.b.A n.b.n n.b.c,.slice n.b.B n.b.m n.b.d,.bool n.c.s,.slice n.c.A n.c.n n.c.c,.slice n.c.B n.c.m n.c.d,.bool n.d.s,.slice n.d.A n.d.n n.d.c,.slice n.d.B n.d.m n.d.d,.bool n.e.s,.slice n.e.A n.e.n n.e.c,.slice n.e.B n.e.m n.e.d,.bool n.f.s,.slice n.f.A n.f.n n.f.c,.slice n.f.B n.f.m n.f.d]
 | 29=>VRM (vv) (2*6) (2*6)
 | _=>fun _ _=>True
def B0_mdi (v:AM):BoxOp :=
 ⟨4,6,7,74,#[.bool false,.slice none 0 0,.slice none 0 0,.bool false,.slice none 0 0,.slice none 0 0,.bool false,.slice none 0 0,.slice none 0 0,.bool false,.slice none 0 0,.slice none 0 0,.bool false,.slice none 0 0,.slice none 0 0,.bool false,.slice none 0 0,.slice none 0 0],fun cs w=>∃ u,cs=#[.bool u.a.s,.slice u.a.A u.a.n u.a.c,.slice u.a.B u.a.m u.a.d,.bool u.b.s,.slice u.b.A u.b.n u.b.c,.slice u.b.B u.b.m u.b.d,.bool u.c.s,.slice u.c.A u.c.n u.c.c,.slice u.c.B u.c.m u.c.d,.bool u.d.s,.slice u.d.A u.d.n u.d.c,.slice u.d.B u.d.m u.d.d,.bool u.e.s,.slice u.e.A u.e.n u.e.c,.slice u.e.B u.e.m u.e.d,.bool u.f.s,.slice u.f.A u.f.n u.f.c,.slice u.f.B u.f.m u.f.d]∧RM w u (v) (2*6) (2*6)⟩
def B1_mdi (vv:AM):BoxOp :=
 ⟨5,7,8,74,#[.bool false,.slice none 0 0,.slice none 0 0,.bool false,.slice none 0 0,.slice none 0 0,.bool false,.slice none 0 0,.slice none 0 0,.bool false,.slice none 0 0,.slice none 0 0,.bool false,.slice none 0 0,.slice none 0 0,.bool false,.slice none 0 0,.slice none 0 0],fun cs w=>∃ u,cs=#[.bool u.a.s,.slice u.a.A u.a.n u.a.c,.slice u.a.B u.a.m u.a.d,.bool u.b.s,.slice u.b.A u.b.n u.b.c,.slice u.b.B u.b.m u.b.d,.bool u.c.s,.slice u.c.A u.c.n u.c.c,.slice u.c.B u.c.m u.c.d,.bool u.d.s,.slice u.d.A u.d.n u.d.c,.slice u.d.B u.d.m u.d.d,.bool u.e.s,.slice u.e.A u.e.n u.e.c,.slice u.e.B u.e.m u.e.d,.bool u.f.s,.slice u.f.A u.f.n u.f.c,.slice u.f.B u.f.m u.f.d]∧RM w u (vv) (2*6) (2*6)⟩
theorem mdi_region {id:Nat} {ac:Act} {Q:Exit→Act→World→Prop} {m n:MV} {v vv:AM} {gm gn:Nat}
 (hsz:29 < ac.tmps.size) (e3:ac.eval (.tmp 3)=Value.pointer (some ⟨gm,0,none⟩)) (e4:ac.eval (.tmp 4)=Value.pointer (some ⟨gn,0,none⟩)) (XA:B18 w gm (.bool m.a.s) (.slice m.a.A m.a.n m.a.c) (.slice m.a.B m.a.m m.a.d) (.bool m.b.s) (.slice m.b.A m.b.n m.b.c) (.slice m.b.B m.b.m m.b.d) (.bool m.c.s) (.slice m.c.A m.c.n m.c.c) (.slice m.c.B m.c.m m.c.d) (.bool m.d.s) (.slice m.d.A m.d.n m.d.c) (.slice m.d.B m.d.m m.d.d) (.bool m.e.s) (.slice m.e.A m.e.n m.e.c) (.slice m.e.B m.e.m m.e.d) (.bool m.f.s) (.slice m.f.A m.f.n m.f.c) (.slice m.f.B m.f.m m.f.d)) (XB:B18 w gn (.bool n.a.s) (.slice n.a.A n.a.n n.a.c) (.slice n.a.B n.a.m n.a.d) (.bool n.b.s) (.slice n.b.A n.b.n n.b.c) (.slice n.b.B n.b.m n.b.d) (.bool n.c.s) (.slice n.c.A n.c.n n.c.c) (.slice n.c.B n.c.m n.c.d) (.bool n.d.s) (.slice n.d.A n.d.n n.d.c) (.slice n.d.B n.d.m n.d.d) (.bool n.e.s) (.slice n.e.A n.e.n n.e.c) (.slice n.e.B n.e.m n.e.d) (.bool n.f.s) (.slice n.f.A n.f.n n.f.c) (.slice n.f.B n.f.m n.f.d)) (M:MR w m v 6 6) (Nn:MR w n vv 6 6)
 (hend:∀ (V:Nat→Value) (w':World) (g0:Nat) (u0:MV) (g1:Nat) (u1:MV),RM w' u0 (v) (2*6) (2*6)→B18R w' g0 (.bool u0.a.s) (.slice u0.a.A u0.a.n u0.a.c) (.slice u0.a.B u0.a.m u0.a.d) (.bool u0.b.s) (.slice u0.b.A u0.b.n u0.b.c) (.slice u0.b.B u0.b.m u0.b.d) (.bool u0.c.s) (.slice u0.c.A u0.c.n u0.c.c) (.slice u0.c.B u0.c.m u0.c.d) (.bool u0.d.s) (.slice u0.d.A u0.d.n u0.d.c) (.slice u0.d.B u0.d.m u0.d.d) (.bool u0.e.s) (.slice u0.e.A u0.e.n u0.e.c) (.slice u0.e.B u0.e.m u0.e.d) (.bool u0.f.s) (.slice u0.f.A u0.f.n u0.f.c) (.slice u0.f.B u0.f.m u0.f.d)→w.heap.size≤g0→V 7=.pointer (some ⟨g0,0,none⟩)→RM w' u1 (vv) (2*6) (2*6)→B18R w' g1 (.bool u1.a.s) (.slice u1.a.A u1.a.n u1.a.c) (.slice u1.a.B u1.a.m u1.a.d) (.bool u1.b.s) (.slice u1.b.A u1.b.n u1.b.c) (.slice u1.b.B u1.b.m u1.b.d) (.bool u1.c.s) (.slice u1.c.A u1.c.n u1.c.c) (.slice u1.c.B u1.c.m u1.c.d) (.bool u1.d.s) (.slice u1.d.A u1.d.n u1.d.c) (.slice u1.d.B u1.d.m u1.d.d) (.bool u1.e.s) (.slice u1.e.A u1.e.n u1.e.c) (.slice u1.e.B u1.e.m u1.e.d) (.bool u1.f.s) (.slice u1.f.A u1.f.n u1.f.c) (.slice u1.f.B u1.f.m u1.f.d)→w.heap.size≤g1→V 8=.pointer (some ⟨g1,0,none⟩)→g1 ≠ g0→Below w.heap.size w w'→Q .normal (putAll ac [26,27,28,29,7,8] V) w') :
 (Code.region id #[o0_mdi,o1_mdi,o2_mdi,o3_mdi,o4_mdi,o5_mdi,o6_mdi,o7_mdi] true).wp Tryz.prog Q ac w:=by
 have hnd:L_mdi.Nodup:=by decide
 have G:∀ (sv:Nat→Value) (t:Nat),t ∈ L_mdi→t≤29→(putAll ac L_mdi sv).eval (.tmp t)=sv t:=fun sv t ht h=>eval_putAll_mem (t:=t) L_mdi ac hnd ht (Nat.lt_of_le_of_lt h hsz)
 have E3:∀ sv:Nat→Value,(putAll ac L_mdi sv).eval (.tmp 3)=Value.pointer (some ⟨gm,0,none⟩):=fun sv=>(eval_putAll_not (v:=sv) L_mdi ac (show 3 ∉ _ by decide)).trans e3
 have E4:∀ sv:Nat→Value,(putAll ac L_mdi sv).eval (.tmp 4)=Value.pointer (some ⟨gn,0,none⟩):=fun sv=>(eval_putAll_not (v:=sv) L_mdi ac (show 4 ∉ _ by decide)).trans e4
 have NE:∀ t:Nat,(t ≠ 7∧t ≠ 8)→∀ p ∈ [B0_mdi v,B1_mdi vv],t ≠ p.tA:=by
  intro t ht p hp
  simp only [List.mem_cons,List.not_mem_nil,or_false] at hp
  rcases hp with rfl | rfl
  · exact ht.1
  · exact ht.2
 refine wp_region_flowsT L_mdi [B0_mdi v,B1_mdi vv] (F_mdi m n v vv) (by kernel_rfl) (by kernel_rfl) rfl hnd ?_ ?_ ?_ ?_ ?_ ?_ ?_ ?_
 · intro p hp
   simp only [List.mem_cons,List.not_mem_nil,or_false] at hp
   rcases hp with rfl | rfl
   · refine ⟨⟨o4_mdi,rfl,rfl,rfl,fun e w'=>run_allocN⟩,⟨o6_mdi,rfl,rfl,rfl,⟨4,.data⟩,by simp [o6_mdi],rfl,rfl⟩,free18z,?_,?_⟩
     · rintro cs w1 w2 ⟨u_,rfl,h⟩ hb;exact ⟨u_,rfl,h.below hb⟩
     · rintro T cs w1 w2 g c0 ⟨u_,rfl,h⟩ hB ho;exact ⟨u_,rfl,h.box hB ho⟩
   · refine ⟨⟨o5_mdi,rfl,rfl,rfl,fun e w'=>run_allocN⟩,⟨o7_mdi,rfl,rfl,rfl,⟨5,.data⟩,by simp [o7_mdi],rfl,rfl⟩,free18z,?_,?_⟩
     · rintro cs w1 w2 ⟨u_,rfl,h⟩ hb;exact ⟨u_,rfl,h.below hb⟩
     · rintro T cs w1 w2 g c0 ⟨u_,rfl,h⟩ hB ho;exact ⟨u_,rfl,h.box hB ho⟩
 · intro p hp q hq h
   simp only [List.mem_cons,List.not_mem_nil,or_false] at hp hq
   rcases hp with rfl | rfl <;> rcases hq with rfl | rfl
   · rfl
   · exact absurd (show (7:Nat)=8 from h) (by decide)
   · exact absurd (show (8:Nat)=7 from h) (by decide)
   · rfl
 · intro p hp q hq h
   simp only [List.mem_cons,List.not_mem_nil,or_false] at hp hq
   rcases hp with rfl | rfl <;> rcases hq with rfl | rfl
   · rfl
   · exact absurd (show (6:Nat)=7 from h) (by decide)
   · exact absurd (show (7:Nat)=6 from h) (by decide)
   · rfl
 · intro i o h1 h2
   match i,h1 with
   | 0,h1=>cases h1;cases h2
   | 1,h1=>cases h1;cases h2
   | 2,h1=>cases h1;cases h2
   | 3,h1=>cases h1;cases h2
   | 4,h1=>cases h1;cases h2
   | 5,h1=>cases h1;cases h2
   | 6,h1=>exact ⟨B0_mdi v,List.Mem.head _,rfl⟩
   | 7,h1=>exact ⟨B1_mdi vv,List.Mem.tail _ (List.Mem.head _),rfl⟩
   | i+8,h1=>cases h1
 · intro t
   unfold F_mdi
   split <;> first | exact (stays_eq _).inn _ | exact (stays_q _ _).inn _ | exact (stays_z _ _).inn _ | exact (stays_r _ _).inn _ | exact (stays_rq _ _).inn _ | exact (stays_pg _ _ _).inn _ | exact (stays_true).inn _ | exact (stays_rm _ _ _).inn _
 · intro i o t sv w' ho hia hd J0 hf
   have XA:=XA.below J0;have XB:=XB.below J0;have M:=M.below J0;have Nn:=Nn.below J0
   match i,ho with
   | 0,ho =>
     obtain rfl:o0_mdi=o:=Option.some.inj ho
     cases hd
     refine wpOp_plain' (o:=o0_mdi) rfl rfl ?_
     unfold Oper.wp o0_mdi
     rw [run_loadM (E3 sv) XA,Oper.upon_value]
     exact ⟨_,rfl,Below.refl _ _,rfl⟩
   | 1,ho =>
     obtain rfl:o1_mdi=o:=Option.some.inj ho
     cases hd
     have f26:sv 26=Value.agg #[.bool m.a.s,.slice m.a.A m.a.n m.a.c,.slice m.a.B m.a.m m.a.d,.bool m.b.s,.slice m.b.A m.b.n m.b.c,.slice m.b.B m.b.m m.b.d,.bool m.c.s,.slice m.c.A m.c.n m.c.c,.slice m.c.B m.c.m m.c.d,.bool m.d.s,.slice m.d.A m.d.n m.d.c,.slice m.d.B m.d.m m.d.d,.bool m.e.s,.slice m.e.A m.e.n m.e.c,.slice m.e.B m.e.m m.e.d,.bool m.f.s,.slice m.f.A m.f.n m.f.c,.slice m.f.B m.f.m m.f.d]:=hf ⟨0,.data⟩ (by simp [o1_mdi]) rfl _ 26 rfl rfl (NE _ (by decide))
     refine wpOp_plain' (o:=o1_mdi) rfl rfl ?_
     unfold Oper.wp o1_mdi
     rw [rc_gesso_gessoref09_In ((G sv 26 (by decide) (by decide)).trans f26) rfl,Oper.upon_enter]
     refine (rin9 M (by decide) (by decide) (by decide) (by decide)).mono ?_
     rintro e w1 ⟨u_,rfl,hq,hh⟩
     exact ⟨_,rfl,hh,u_,rfl,hq⟩
   | 2,ho =>
     obtain rfl:o2_mdi=o:=Option.some.inj ho
     cases hd
     refine wpOp_plain' (o:=o2_mdi) rfl rfl ?_
     unfold Oper.wp o2_mdi
     rw [run_loadM (E4 sv) XB,Oper.upon_value]
     exact ⟨_,rfl,Below.refl _ _,rfl⟩
   | 3,ho =>
     obtain rfl:o3_mdi=o:=Option.some.inj ho
     cases hd
     have f28:sv 28=Value.agg #[.bool n.a.s,.slice n.a.A n.a.n n.a.c,.slice n.a.B n.a.m n.a.d,.bool n.b.s,.slice n.b.A n.b.n n.b.c,.slice n.b.B n.b.m n.b.d,.bool n.c.s,.slice n.c.A n.c.n n.c.c,.slice n.c.B n.c.m n.c.d,.bool n.d.s,.slice n.d.A n.d.n n.d.c,.slice n.d.B n.d.m n.d.d,.bool n.e.s,.slice n.e.A n.e.n n.e.c,.slice n.e.B n.e.m n.e.d,.bool n.f.s,.slice n.f.A n.f.n n.f.c,.slice n.f.B n.f.m n.f.d]:=hf ⟨2,.data⟩ (by simp [o3_mdi]) rfl _ 28 rfl rfl (NE _ (by decide))
     refine wpOp_plain' (o:=o3_mdi) rfl rfl ?_
     unfold Oper.wp o3_mdi
     rw [rc_gesso_gessoref09_In ((G sv 28 (by decide) (by decide)).trans f28) rfl,Oper.upon_enter]
     refine (rin9 Nn (by decide) (by decide) (by decide) (by decide)).mono ?_
     rintro e w1 ⟨u_,rfl,hq,hh⟩
     exact ⟨_,rfl,hh,u_,rfl,hq⟩
   | 4,ho=>cases ho;cases hd;exact absurd rfl (hia (B0_mdi v) (List.Mem.head _))
   | 5,ho=>cases ho;cases hd;exact absurd rfl (hia (B1_mdi vv) (List.Mem.tail _ (List.Mem.head _)))
   | 6,ho=>cases ho;cases hd
   | 7,ho=>cases ho;cases hd
   | i+8,ho=>cases ho
 · intro p hp os sv w' g hos J0 p1 p3 hf
   simp only [List.mem_cons,List.not_mem_nil,or_false] at hp
   rcases hp with rfl | rfl
   · obtain rfl:o6_mdi=os:=Option.some.inj hos
     have h1:VRM (v) (2*6) (2*6) (sv 27) w':=hf ⟨1,.data⟩ (by simp [o6_mdi]) rfl _ 27 rfl rfl (NE _ (by decide))
     rw [← G sv 27 (by decide) (by decide)] at h1
     refine store_rm (v:=v) (k:=2*6) (l:=2*6) (ac:=putAll ac L_mdi sv) (z:=.tmp 27) ?_ ?_ ?_
     · exact (G sv 7 (by decide) (by decide)).trans p1
     · exact h1
     · exact p3
   · obtain rfl:o7_mdi=os:=Option.some.inj hos
     have h1:VRM (vv) (2*6) (2*6) (sv 29) w':=hf ⟨3,.data⟩ (by simp [o7_mdi]) rfl _ 29 rfl rfl (NE _ (by decide))
     rw [← G sv 29 (by decide) (by decide)] at h1
     refine store_rm (v:=vv) (k:=2*6) (l:=2*6) (ac:=putAll ac L_mdi sv) (z:=.tmp 29) ?_ ?_ ?_
     · exact (G sv 8 (by decide) (by decide)).trans p1
     · exact h1
     · exact p3
 · intro sv w' J0 hF hB hap
   obtain ⟨g0,cs0,p0,r0,b0,⟨u0,rfl,h0⟩⟩:=hB (B0_mdi v) (List.Mem.head _)
   obtain ⟨g1,cs1,p1,r1,b1,⟨u1,rfl,h1⟩⟩:=hB (B1_mdi vv) (List.Mem.tail _ (List.Mem.head _))
   have p0':sv 7=.pointer (some ⟨g0,0,none⟩):=p0
   have p1':sv 8=.pointer (some ⟨g1,0,none⟩):=p1
   exact hend sv w' g0 _ g1 _ h0 b0.at_ r0 p0' h1 b1.at_ r1 p1' (fun q=>hap (B1_mdi vv) (List.Mem.tail _ (List.Mem.head _)) (B0_mdi v) (List.Mem.head _) (show (8:Nat) ≠ 7 by decide) (by rw [show (B1_mdi vv).tA=8 from rfl,show (B0_mdi v).tA=7 from rfl,p1',p0',q]))   J0
end
section
open Go Go.RowKit
attribute [local go_sem ↓] open_LVM open_STM open_LVN open_STN
theorem st_newM (w:World) (a0 a1 a2 a3 a4 a5 a6 a7 a8 a9 a10 a11 a12 a13 a14 a15 a16 a17:Value) (h1:(#[a0,a1,a2,a3,a4,a5,a6,a7,a8,a9,a10,a11,a12,a13,a14,a15,a16,a17]:Array Value).all (·.oneCell')=true):(STM ⟨w.heap.size,0,none⟩ (.agg #[a0,a1,a2,a3,a4,a5,a6,a7,a8,a9,a10,a11,a12,a13,a14,a15,a16,a17])).run Tryz.prog (w.alloc (.cells #[.bool false,.slice none 0 0,.slice none 0 0,.bool false,.slice none 0 0,.slice none 0 0,.bool false,.slice none 0 0,.slice none 0 0,.bool false,.slice none 0 0,.slice none 0 0,.bool false,.slice none 0 0,.slice none 0 0,.bool false,.slice none 0 0,.slice none 0 0] 71))=.ok () (w.alloc (.cells #[a0,a1,a2,a3,a4,a5,a6,a7,a8,a9,a10,a11,a12,a13,a14,a15,a16,a17] 71)) :=
 run_storeVar_new w _ _ _ (by kernel_rfl) rfl h1
abbrev wkV:AM:=AM.of 65536 0 0 131072 64 0
theorem wk9_det:wkV.det ≠ 0:=by decide +kernel
theorem wk9_zero:(AM.of 0 0 0 0 0 0).det=0:=by decide +kernel
theorem wk9_at:decide (wkV.ax (Rat.divInt 1 1) (Rat.divInt 1 1)=Rat.divInt 2 1∧wkV.ay (Rat.divInt 1 1) (Rat.divInt 1 1)=Rat.divInt 2 1)=true:=by decide +kernel
theorem wk9_same:(wkV.mul wkV.inv).same AM.one=true:=by decide +kernel
theorem wk9_txt:(⟨(qtxt wkV.det).toArray⟩:ByteArray)=⟨#[50]⟩:=by
 rw [qtxt_i (a:=2) (by decide +kernel) (by decide +kernel) (txt_one (d:=2) (by decide) (by decide) rfl)];rfl
theorem wakes9_any (w:World):Calls Tryz.prog 36 #[] w fun e w'=>e=.returned (.bool true)∧Below w.heap.size w w':=by
 have hb:Below w.heap.size w w:=Below.refl _ _
 go_enter Tryz.func36,Tryz.ntmps36
 go_upto_region 2 with (first
  | (go_at_call 51;(with_reducible refine (mof_p 65536 0 0 131072 64 0 (by decide) (by decide) (by decide) (by decide) (by decide) (by decide) (by decide) (by decide) (by decide) (by decide) (by decide) (by decide) _).mono ?_);rintro e w_m ⟨m,rfl,mh,hh⟩
     replace hb:=bend hb hh
     have zs:=st_newM w_m (.bool m.a.s) (.slice m.a.A m.a.n m.a.c) (.slice m.a.B m.a.m m.a.d) (.bool m.b.s) (.slice m.b.A m.b.n m.b.c) (.slice m.b.B m.b.m m.b.d) (.bool m.c.s) (.slice m.c.A m.c.n m.c.c) (.slice m.c.B m.c.m m.c.d) (.bool m.d.s) (.slice m.d.A m.d.n m.d.c) (.slice m.d.B m.d.m m.d.d) (.bool m.e.s) (.slice m.e.A m.e.n m.e.c) (.slice m.e.B m.e.m m.e.d) (.bool m.f.s) (.slice m.f.A m.f.n m.f.c) (.slice m.f.B m.f.m m.f.d) (by simp [Value.oneCell'])))
 clear zs
 generalize hW:World.alloc _ _=W1
 obtain ⟨hh,XM,hzW1⟩:=mkbx43_15 hW;clear hW;(try replace mh:=mh.below hh);replace hb:=bend hb hh;have xml:=XM.ld
 go_upto_region 3 with (first
  | (go_at_call 38;(with_reducible refine (minv_p mh.mr (by decide) (by decide) (by decide) (by decide) wk9_det).mono ?_);rintro e w_i ⟨i,rfl,ih,hh⟩
     (try replace mh:=mh.below hh);(try replace XM:=XM.below hh);replace hb:=bend hb hh
     have zs:=st_newM w_i (.bool i.a.s) (.slice i.a.A i.a.n i.a.c) (.slice i.a.B i.a.m i.a.d) (.bool i.b.s) (.slice i.b.A i.b.n i.b.c) (.slice i.b.B i.b.m i.b.d) (.bool i.c.s) (.slice i.c.A i.c.n i.c.c) (.slice i.c.B i.c.m i.c.d) (.bool i.d.s) (.slice i.d.A i.d.n i.d.c) (.slice i.d.B i.d.m i.d.d) (.bool i.e.s) (.slice i.e.A i.e.n i.e.c) (.slice i.e.B i.e.m i.e.d) (.bool i.f.s) (.slice i.f.A i.f.n i.f.c) (.slice i.f.B i.f.m i.f.d) (by simp [Value.oneCell'])))
 clear zs xml
 generalize hW:World.alloc _ _=W2
 obtain ⟨hh,XI,hzW2⟩:=mkbx43_15 hW;clear hW;(try replace mh:=mh.below hh);(try replace ih:=ih.below hh);(try replace XM:=XM.below hh);replace hb:=bend hb hh
 go_upto_region 4 with (first
  | (go_at_call 51;(with_reducible refine (mof_p 0 0 0 0 0 0 (by decide) (by decide) (by decide) (by decide) (by decide) (by decide) (by decide) (by decide) (by decide) (by decide) (by decide) (by decide) _).mono ?_);rintro e w_n ⟨n,rfl,nh,hh⟩
     (try replace mh:=mh.below hh);(try replace ih:=ih.below hh);(try replace XM:=XM.below hh);(try replace XI:=XI.below hh);replace hb:=bend hb hh)
  | (go_at_call 38;(with_reducible refine (minv_z nh.mr (by decide) (by decide) wk9_zero).mono ?_);rintro e w_z ⟨rfl,hh⟩
     (try replace mh:=mh.below hh);(try replace ih:=ih.below hh);(try replace XM:=XM.below hh);(try replace XI:=XI.below hh);replace hb:=bend hb hh
     have zs:=st_newM w_z (.bool false) (.slice none 0 0) (.slice none 0 0) (.bool false) (.slice none 0 0) (.slice none 0 0) (.bool false) (.slice none 0 0) (.slice none 0 0) (.bool false) (.slice none 0 0) (.slice none 0 0) (.bool false) (.slice none 0 0) (.slice none 0 0) (.bool false) (.slice none 0 0) (.slice none 0 0) (by simp [Value.oneCell'])))
 clear zs nh
 generalize hW:World.alloc _ _=W3
 obtain ⟨hh,XN,hzW3⟩:=mkbx43_15 hW;clear hW;(try replace mh:=mh.below hh);(try replace ih:=ih.below hh);(try replace XM:=XM.below hh);(try replace XI:=XI.below hh);replace hb:=bend hb hh
 replace mh:=mh.below (Below.refl _ _).drew
 replace ih:=ih.below (Below.refl _ _).drew
 replace XM:=XM.below (Below.refl _ _).drew
 replace XI:=XI.below (Below.refl _ _).drew
 replace hb:=hb.drew
 go_region_held3 (fun w'=>(LVM ⟨w_m.heap.size,0,none⟩).run Tryz.prog w'=.ok (.agg #[.bool m.a.s,.slice m.a.A m.a.n m.a.c,.slice m.a.B m.a.m m.a.d,.bool m.b.s,.slice m.b.A m.b.n m.b.c,.slice m.b.B m.b.m m.b.d,.bool m.c.s,.slice m.c.A m.c.n m.c.c,.slice m.c.B m.c.m m.c.d,.bool m.d.s,.slice m.d.A m.d.n m.d.c,.slice m.d.B m.d.m m.d.d,.bool m.e.s,.slice m.e.A m.e.n m.e.c,.slice m.e.B m.e.m m.e.d,.bool m.f.s,.slice m.f.A m.f.n m.f.c,.slice m.f.B m.f.m m.f.d]) w'∧(LVM ⟨w_i.heap.size,0,none⟩).run Tryz.prog w'=.ok (.agg #[.bool i.a.s,.slice i.a.A i.a.n i.a.c,.slice i.a.B i.a.m i.a.d,.bool i.b.s,.slice i.b.A i.b.n i.b.c,.slice i.b.B i.b.m i.b.d,.bool i.c.s,.slice i.c.A i.c.n i.c.c,.slice i.c.B i.c.m i.c.d,.bool i.d.s,.slice i.d.A i.d.n i.d.c,.slice i.d.B i.d.m i.d.d,.bool i.e.s,.slice i.e.A i.e.n i.e.c,.slice i.e.B i.e.m i.e.d,.bool i.f.s,.slice i.f.A i.f.n i.f.c,.slice i.f.B i.f.m i.f.d]) w')
  (first | with_reducible exact ⟨XM.ld,XI.ld⟩)
  (first
  | (go_at_call 61;(with_reducible refine (lawP 1 1 (by decide) (by decide) (by decide) (by decide) _).mono ?_);rintro e w_p1 ⟨s_p1,A_p1,n_p1,c_p1,B_p1,m_p1,d_p1,t_p1,E_p1,i_p1,e_p1,F_p1,j_p1,f_p1,rfl,p1,hh⟩
     (try replace mh:=mh.below hh);(try replace ih:=ih.below hh);(try replace XM:=XM.below hh);(try replace XI:=XI.below hh);replace hb:=bend hb hh)
  | (go_at_call 43;(with_reducible refine (mapply_p mh.mr p1.pr (by decide) (by decide) (by decide) (by decide) (by decide)).mono ?_);rintro e w_q1 ⟨s_q1,A_q1,n_q1,c_q1,B_q1,m_q1,d_q1,t_q1,E_q1,i_q1,e_q1,F_q1,j_q1,f_q1,rfl,q1,hh⟩
     (try replace mh:=mh.below hh);(try replace ih:=ih.below hh);(try replace XM:=XM.below hh);(try replace XI:=XI.below hh);replace hb:=bend hb hh;clear p1)
  | (go_at_call 61;(with_reducible refine (lawP 2 2 (by decide) (by decide) (by decide) (by decide) _).mono ?_);rintro e w_p2 ⟨s_p2,A_p2,n_p2,c_p2,B_p2,m_p2,d_p2,t_p2,E_p2,i_p2,e_p2,F_p2,j_p2,f_p2,rfl,p2,hh⟩
     (try replace mh:=mh.below hh);(try replace ih:=ih.below hh);(try replace XM:=XM.below hh);(try replace XI:=XI.below hh);(try replace q1:=q1.below hh);replace hb:=bend hb hh)
  | (go_at_call 55;(with_reducible refine (psame_p q1.pr p2.pr (by decide) (by decide) (by decide) (by decide) true wk9_at).mono ?_);rintro e w_z ⟨rfl,hh⟩
     (try replace mh:=mh.below hh);(try replace ih:=ih.below hh);(try replace XM:=XM.below hh);(try replace XI:=XI.below hh);replace hb:=bend hb hh;clear q1 p2)
  | (go_at_call 45;(with_reducible refine (mmul_p mh.mr ih.mr (by decide) (by decide) (by decide) (by decide) (by decide) (by decide) (by decide)).mono ?_);rintro e w_u ⟨u,rfl,uh,hh⟩
     (try replace mh:=mh.below hh);(try replace ih:=ih.below hh);(try replace XM:=XM.below hh);(try replace XI:=XI.below hh);replace hb:=bend hb hh)
  | (go_at_call 53;(with_reducible refine (mone_p _).mono ?_);rintro e w_o ⟨o,rfl,oh,hh⟩
     (try replace mh:=mh.below hh);(try replace ih:=ih.below hh);(try replace XM:=XM.below hh);(try replace XI:=XI.below hh);(try replace uh:=uh.below hh);replace hb:=bend hb hh)
  | (go_at_call 48;(with_reducible refine (msame_p uh.mr oh.mr (by decide) (by decide) (by decide) (by decide) (by decide) (by decide) (by decide) (by decide) true wk9_same).mono ?_);rintro e w_z ⟨rfl,hh⟩
     (try replace mh:=mh.below hh);(try replace ih:=ih.below hh);(try replace XM:=XM.below hh);(try replace XI:=XI.below hh);replace hb:=bend hb hh;clear uh oh)
  | (go_at_call 47;(with_reducible refine (mdet_p mh.mr (by decide) (by decide)).mono ?_);rintro e w_d ⟨s_d,A_d,n_d,c_d,B_d,m_d,d_d,rfl,d,hh⟩
     (try replace mh:=mh.below hh);(try replace ih:=ih.below hh);(try replace XM:=XM.below hh);(try replace XI:=XI.below hh);replace hb:=bend hb hh)
  | (go_at_call 65;(with_reducible refine (rtext_q d.qr (by decide) (by decide)).mono ?_);rintro e w_z ⟨rfl,hh⟩
     rw [wk9_txt];clear d
     (try replace mh:=mh.below hh);(try replace ih:=ih.below hh);(try replace XM:=XM.below hh);(try replace XI:=XI.below hh);replace hb:=bend hb hh))
 go_wp2_with fail
 go_ret;exact ⟨rfl,hb⟩
end
section
open Go Go.RowKit
def BL1 (W:World) (g:Nat) (v0:Value) (v1:Value) (v2:Value) (v3:Value) (v4:Value) (v5:Value):Prop:=W.heap[g]?=some (.cells #[v0,v1,v2,v3,v4,v5] 29 (0,0))
section
variable {W W':World} {g:Nat} {v0 v1 v2 v3 v4 v5:Value}
theorem BL1.c0 (h:BL1 W g v0 v1 v2 v3 v4 v5):W.cell? ⟨g,0,none⟩=some v0:=by rw [cell_of_row W g 0 _ _ (0,0) h];rfl
theorem BL1.c1 (h:BL1 W g v0 v1 v2 v3 v4 v5):W.cell? ⟨g,1,none⟩=some v1:=by rw [cell_of_row W g 1 _ _ (0,0) h];rfl
theorem BL1.c2 (h:BL1 W g v0 v1 v2 v3 v4 v5):W.cell? ⟨g,2,none⟩=some v2:=by rw [cell_of_row W g 2 _ _ (0,0) h];rfl
theorem BL1.c3 (h:BL1 W g v0 v1 v2 v3 v4 v5):W.cell? ⟨g,3,none⟩=some v3:=by rw [cell_of_row W g 3 _ _ (0,0) h];rfl
theorem BL1.c4 (h:BL1 W g v0 v1 v2 v3 v4 v5):W.cell? ⟨g,4,none⟩=some v4:=by rw [cell_of_row W g 4 _ _ (0,0) h];rfl
theorem BL1.c5 (h:BL1 W g v0 v1 v2 v3 v4 v5):W.cell? ⟨g,5,none⟩=some v5:=by rw [cell_of_row W g 5 _ _ (0,0) h];rfl
theorem BL1.all (h:BL1 W g v0 v1 v2 v3 v4 v5):W.cell? ⟨g,0,none⟩=some v0∧W.cell? ⟨g,1,none⟩=some v1∧W.cell? ⟨g,2,none⟩=some v2∧W.cell? ⟨g,3,none⟩=some v3∧W.cell? ⟨g,4,none⟩=some v4∧W.cell? ⟨g,5,none⟩=some v5:=⟨h.c0,h.c1,h.c2,h.c3,h.c4,h.c5⟩
theorem BL1.lt (h:BL1 W g v0 v1 v2 v3 v4 v5):g < W.heap.size:=World.block_lt_of_cell? W _ h.c0
theorem BL1.below (h:BL1 W g v0 v1 v2 v3 v4 v5) (hb:Below W.heap.size W W'):BL1 W' g v0 v1 v2 v3 v4 v5:=(hb.block g h.lt).trans h
theorem BL1.alloc (h:BL1 W g v0 v1 v2 v3 v4 v5) (o:Obj):BL1 (W.alloc o) g v0 v1 v2 v3 v4 v5:=(Below.heap_alloc W o g h.lt).trans h
end
theorem BL1.new' (W:World) (v0 v1 v2 v3 v4 v5:Value) (g:Nat) (hg:g=W.heap.size):BL1 (W.alloc (.cells #[v0,v1,v2,v3,v4,v5] 29)) g v0 v1 v2 v3 v4 v5:=by subst hg;exact heap_alloc_new W _
theorem line1_0 {g:Nat} (L:BL1 w g (.bool s_p) (.slice A_p n_p c_p) (.slice B_p m_p d_p) (.bool t_p) (.slice E_p i_p e_p) (.slice F_p j_p f_p)) (h0:decide ((n_p≤6∧m_p≤6)∧i_p≤6∧j_p≤6)=false) :
 Calls Tryz.prog 64 #[.slice (some ⟨g,0,none⟩) 1 1,.int .i64 6] w fun e w'=>e=.returned (.bool false)∧Below w.heap.size w w':=by
 have H0:=Lib.hid h0;clear h0
 have hb:Below w.heap.size w w:=Below.refl _ _
 obtain ⟨l0,l1,l2,l3,l4,l5⟩:=L.all
 go_enter Tryz.func64,Tryz.ntmps64
 go_wp2_with fail
 refine wp_loop_rounds 2 ?_
 rw [rounds_succ]
 go_wp2_with (first
  | (go_at_call 125;(with_reducible refine (smallpt_6 (s_p:=s_p) (A_p:=A_p) (n_p:=n_p) (c_p:=c_p) (B_p:=B_p) (m_p:=m_p) (d_p:=d_p) (t_p:=t_p) (E_p:=E_p) (i_p:=i_p) (e_p:=e_p) (F_p:=F_p) (j_p:=j_p) (f_p:=f_p) false H0.out).mono ?_);rintro e w_z ⟨rfl,hh⟩
     (try replace L:=L.below hh);replace hb:=bend hb hh;obtain ⟨l0,l1,l2,l3,l4,l5⟩:=L.all))
 go_ret;exact ⟨rfl,hb⟩
theorem line1_1 {g:Nat} (L:BL1 w g (.bool s_p) (.slice A_p n_p c_p) (.slice B_p m_p d_p) (.bool t_p) (.slice E_p i_p e_p) (.slice F_p j_p f_p)) (h0:decide ((n_p≤6∧m_p≤6)∧i_p≤6∧j_p≤6)=true) :
 Calls Tryz.prog 64 #[.slice (some ⟨g,0,none⟩) 1 1,.int .i64 6] w fun e w'=>e=.returned (.bool true)∧Below w.heap.size w w':=by
 have H0:=Lib.hid h0;clear h0
 have hb:Below w.heap.size w w:=Below.refl _ _
 obtain ⟨l0,l1,l2,l3,l4,l5⟩:=L.all
 go_enter Tryz.func64,Tryz.ntmps64
 go_wp2_with fail
 refine wp_loop_rounds 2 ?_
 rw [rounds_succ]
 go_wp2_with (first
  | (go_at_call 125;(with_reducible refine (smallpt_6 (s_p:=s_p) (A_p:=A_p) (n_p:=n_p) (c_p:=c_p) (B_p:=B_p) (m_p:=m_p) (d_p:=d_p) (t_p:=t_p) (E_p:=E_p) (i_p:=i_p) (e_p:=e_p) (F_p:=F_p) (j_p:=j_p) (f_p:=f_p) true H0.out).mono ?_);rintro e w_z ⟨rfl,hh⟩
     (try replace L:=L.below hh);replace hb:=bend hb hh;obtain ⟨l0,l1,l2,l3,l4,l5⟩:=L.all))
 rw [rounds_succ]
 go_wp2_with fail
 go_ret;exact ⟨rfl,hb⟩
theorem line1 {g:Nat} (L:BL1 w g (.bool s_p) (.slice A_p n_p c_p) (.slice B_p m_p d_p) (.bool t_p) (.slice E_p i_p e_p) (.slice F_p j_p f_p)) (R:Bool) (hR:decide (((n_p≤6∧m_p≤6)∧i_p≤6∧j_p≤6))=R) :
 Calls Tryz.prog 64 #[.slice (some ⟨g,0,none⟩) 1 1,.int .i64 6] w fun e w'=>e=.returned (.bool R)∧Below w.heap.size w w':=by
 subst hR
 by_cases h0:(n_p≤6∧m_p≤6)∧i_p≤6∧j_p≤6
 case neg=>rw [decide_eq_false (fun q=>h0 q)];exact line1_0 L  (decide_eq_false h0)
 rw [decide_eq_true h0];exact line1_1 L (decide_eq_true h0)
theorem fair1 {g:Nat} (L:BL1 w g (.bool s_p) (.slice A_p n_p c_p) (.slice B_p m_p d_p) (.bool t_p) (.slice E_p i_p e_p) (.slice F_p j_p f_p)) (R:Bool) (hR:decide (((n_p≤6∧m_p≤6)∧i_p≤6∧j_p≤6))=R) :
 Calls Tryz.prog 11 #[.slice (some ⟨g,0,none⟩) 1 1] w fun e w'=>e=.returned (.bool R)∧Below w.heap.size w w':=by
 have HR:=Lib.hid hR;clear hR
 have hb:Below w.heap.size w w:=Below.refl _ _
 go_enter Tryz.func11,Tryz.ntmps11
 go_wp2_with (first
  | (go_at_call 64;(with_reducible refine (line1 L R HR.out).mono ?_);rintro e w_z ⟨rfl,hh⟩
     replace hb:=bend hb hh))
 go_ret;exact ⟨rfl,hb⟩
end
section
open Go Go.ChangeShapes Go.WideShapes Go.ChangeAt Go.RowKit
theorem open_rat3 {H:Type} {enc:TypeId × Value→H} {base fuel:Nat} {held:Bool} {x0 x1 x2:Value} {y:DataW H × List MemPlace}
 (h:DataW.trod enc Tryz.prog w base (fun _=>true) held fuel 27 [x0,x1,x2]=some y) :
 ∃ (q:QV) (zs ys:List Int),x0=.bool q.s∧x1=.slice q.A q.n q.c∧x2=.slice q.B q.m q.d∧IsRow64 w q.A q.n q.c zs∧IsRow64 w q.B q.m q.d ys:=by
 have e0:Tryz.prog.cellsOf 25=2:=by kernel_rfl
 have e1:Tryz.prog.cellsOf 23=1:=by kernel_rfl
 have e2:Tryz.prog.cellsOf 4=1:=by kernel_rfl
 obtain ⟨z0,z1,m,hx2,_,h2,h3⟩:=trod_struct2 Tryz.underlying27 h
 simp [e0] at h2
 simp [e1] at h3
 obtain ⟨u0,u1,k,hx4,_,h6,h7⟩:=trod_struct2 Tryz.underlying25 h2
 simp [e2] at h6
 simp [e1] at h7
 obtain ⟨b,hb,_⟩:=DataW.trod_bool Tryz.underlying4 h6
 cases hb
 obtain ⟨A1,n1,c1,zs1,rfl,r1⟩:∃ A n c zs,x1=.slice A n c∧IsRow64 w A n c zs:=by
  rcases open_ints Tryz.underlying23 Tryz.underlying161 (by kernel_rfl) h7 with ⟨hcs,_⟩ | ⟨x,l,c,zs,hcs,_,hl,hm,hz,_,hcell,hwz⟩
  · exact ⟨none,0,0,[],by cases hcs;rfl,.inl ⟨rfl,rfl,rfl,rfl⟩⟩
  · exact ⟨some x,l,c,zs,by cases hcs;rfl,.inr ⟨x,rfl,hl,hm,by simpa using hz,hcell,hwz⟩⟩
 obtain ⟨A2,n2,c2,zs2,rfl,r2⟩:∃ A n c zs,x2=.slice A n c∧IsRow64 w A n c zs:=by
  rcases open_ints Tryz.underlying23 Tryz.underlying161 (by kernel_rfl) h3 with ⟨hcs,_⟩ | ⟨x,l,c,zs,hcs,_,hl,hm,hz,_,hcell,hwz⟩
  · exact ⟨none,0,0,[],by cases hcs;rfl,.inl ⟨rfl,rfl,rfl,rfl⟩⟩
  · exact ⟨some x,l,c,zs,by cases hcs;rfl,.inr ⟨x,rfl,hl,hm,by simpa using hz,hcell,hwz⟩⟩
 exact ⟨⟨_,A1,n1,c1,A2,n2,c2⟩,zs1,zs2,rfl,rfl,rfl,r1,r2⟩
def MRows (w:World) (m:MV):Prop:=(∃ zs,IsRow64 w m.a.A m.a.n m.a.c zs)∧(∃ zs,IsRow64 w m.a.B m.a.m m.a.d zs)∧(∃ zs,IsRow64 w m.b.A m.b.n m.b.c zs)∧(∃ zs,IsRow64 w m.b.B m.b.m m.b.d zs)∧(∃ zs,IsRow64 w m.c.A m.c.n m.c.c zs)∧(∃ zs,IsRow64 w m.c.B m.c.m m.c.d zs)∧(∃ zs,IsRow64 w m.d.A m.d.n m.d.c zs)∧(∃ zs,IsRow64 w m.d.B m.d.m m.d.d zs)∧(∃ zs,IsRow64 w m.e.A m.e.n m.e.c zs)∧(∃ zs,IsRow64 w m.e.B m.e.m m.e.d zs)∧(∃ zs,IsRow64 w m.f.A m.f.n m.f.c zs)∧(∃ zs,IsRow64 w m.f.B m.f.m m.f.d zs)
theorem open_zmat {H:Type} {enc:TypeId × Value→H} {base:Nat} {held:Bool} {r:Reach} {b0:Nat} {v:Value} {d:DataW H} {p:List MemPlace}
 (hv:Value.okWide Tryz.prog w r b0 71 v) (h:DataW.Trod enc Tryz.prog w base (fun _=>true) held 71 v d p) :
 ∃ m:MV,v=.agg #[.bool m.a.s,.slice m.a.A m.a.n m.a.c,.slice m.a.B m.a.m m.a.d,.bool m.b.s,.slice m.b.A m.b.n m.b.c,.slice m.b.B m.b.m m.b.d,.bool m.c.s,.slice m.c.A m.c.n m.c.c,.slice m.c.B m.c.m m.c.d,.bool m.d.s,.slice m.d.A m.d.n m.d.c,.slice m.d.B m.d.m m.d.d,.bool m.e.s,.slice m.e.A m.e.n m.e.c,.slice m.e.B m.e.m m.e.d,.bool m.f.s,.slice m.f.A m.f.n m.f.c,.slice m.f.B m.f.m m.f.d]∧MRows w m:=by
 have e3:Tryz.prog.cellsOf 27=3:=by kernel_rfl
 obtain ⟨cs,rfl,hsz⟩:=okWide_struct Tryz.underlying71 hv
 have hsz18:cs.size=18:=hsz.trans (by kernel_rfl)
 obtain ⟨x0,x1,x2,x3,x4,x5,x6,x7,x8,x9,x10,x11,x12,x13,x14,x15,x16,x17,rfl⟩:∃ x0 x1 x2 x3 x4 x5 x6 x7 x8 x9 x10 x11 x12 x13 x14 x15 x16 x17,cs=#[x0,x1,x2,x3,x4,x5,x6,x7,x8,x9,x10,x11,x12,x13,x14,x15,x16,x17]:=by
  obtain ⟨l⟩:=cs
  match l,hsz18 with
  | [x0,x1,x2,x3,x4,x5,x6,x7,x8,x9,x10,x11,x12,x13,x14,x15,x16,x17],_=>exact ⟨x0,x1,x2,x3,x4,x5,x6,x7,x8,x9,x10,x11,x12,x13,x14,x15,x16,x17,rfl⟩
 obtain ⟨fuel,hf⟩:=h
 obtain ⟨xs,n,_,_,_,hlen,hi⟩:=DataW.trod_struct Tryz.underlying71 hf
 match xs,hlen with
 | [y0,y1,y2,y3,y4,y5],_ =>
   have h0:=hi 0 _ rfl
   simp [Value.cells,e3] at h0
   have h1:=hi 1 _ rfl
   simp [Value.cells,e3] at h1
   have h2:=hi 2 _ rfl
   simp [Value.cells,e3] at h2
   have h3:=hi 3 _ rfl
   simp [Value.cells,e3] at h3
   have h4:=hi 4 _ rfl
   simp [Value.cells,e3] at h4
   have h5:=hi 5 _ rfl
   simp [Value.cells,e3] at h5
   obtain ⟨q0,z0,s0,rfl,rfl,rfl,r0,t0⟩:=open_rat3 h0
   obtain ⟨q1,z1,s1,rfl,rfl,rfl,r1,t1⟩:=open_rat3 h1
   obtain ⟨q2,z2,s2,rfl,rfl,rfl,r2,t2⟩:=open_rat3 h2
   obtain ⟨q3,z3,s3,rfl,rfl,rfl,r3,t3⟩:=open_rat3 h3
   obtain ⟨q4,z4,s4,rfl,rfl,rfl,r4,t4⟩:=open_rat3 h4
   obtain ⟨q5,z5,s5,rfl,rfl,rfl,r5,t5⟩:=open_rat3 h5
   exact ⟨⟨q0,q1,q2,q3,q4,q5⟩,rfl,⟨z0,r0⟩,⟨s0,t0⟩,⟨z1,r1⟩,⟨s1,t1⟩,⟨z2,r2⟩,⟨s2,t2⟩,⟨z3,r3⟩,⟨s3,t3⟩,⟨z4,r4⟩,⟨s4,t4⟩,⟨z5,r5⟩,⟨s5,t5⟩⟩
theorem MRows.mr {m:MV} (h:MRows w m):∃ v:AM,((((m.a.n≤6∧m.a.m≤6)∧m.b.n≤6∧m.b.m≤6)∧(((m.c.n≤6∧m.c.m≤6)∧m.d.n≤6∧m.d.m≤6))∧(((m.e.n≤6∧m.e.m≤6)∧m.f.n≤6∧m.f.m≤6)))→MR w m v 6 6):=by
 obtain ⟨⟨_,ra⟩,⟨_,ta⟩,⟨_,rb⟩,⟨_,tb⟩,⟨_,rc⟩,⟨_,tc⟩,⟨_,rd⟩,⟨_,td⟩,⟨_,re⟩,⟨_,te⟩,⟨_,rf⟩,⟨_,tf⟩⟩:=h
 obtain ⟨lia,pa,sa,ea,_⟩:=ra.rd
 obtain ⟨lja,qa,ua,ga,_⟩:=ta.rd
 obtain ⟨lib,pb,sb,eb,_⟩:=rb.rd
 obtain ⟨ljb,qb,ub,gb,_⟩:=tb.rd
 obtain ⟨lic,pc,sc,ec,_⟩:=rc.rd
 obtain ⟨ljc,qc,uc,gc,_⟩:=tc.rd
 obtain ⟨lid,pd,sd,ed,_⟩:=rd.rd
 obtain ⟨ljd,qd,ud,gd,_⟩:=td.rd
 obtain ⟨lie,pe,se,ee,_⟩:=re.rd
 obtain ⟨lje,qe,ue,ge,_⟩:=te.rd
 obtain ⟨lif,pf,sf,ef,_⟩:=rf.rd
 obtain ⟨ljf,qf,uf,gf,_⟩:=tf.rd
 exact ⟨⟨_,_,_,_,_,_⟩,fun k=>⟨⟨QR.of_rd pa sa ea qa ua ga k.1.1.1 k.1.1.2,QR.of_rd pb sb eb qb ub gb k.1.2.1 k.1.2.2⟩,⟨QR.of_rd pc sc ec qc uc gc k.2.1.1.1 k.2.1.1.2,QR.of_rd pd sd ed qd ud gd k.2.1.2.1 k.2.1.2.2⟩,⟨QR.of_rd pe se ee qe ue ge k.2.2.1.1 k.2.2.1.2,QR.of_rd pf sf ef qf uf gf k.2.2.2.1 k.2.2.2.2⟩⟩⟩
end
end Go.Proofs.YtgneghgfpkkkdaaGreat
