/- MatParts: part 16. -/
import Derived.Test.YtgneghgfpkkkdaaGreatKMatParts15
set_option linter.unusedVariables false
set_option maxRecDepth 100000
set_option maxHeartbeats 16000000
variable {w:Go.World}
variable {s_p t_p:Bool} {A_p B_p E_p F_p:Option Go.Addr} {n_p c_p m_p d_p i_p e_p j_p f_p:Nat}
variable {s_q t_q:Bool} {A_q B_q E_q F_q:Option Go.Addr} {n_q c_q m_q d_q i_q e_q j_q f_q:Nat}
namespace Go.Proofs.YtgneghgfpkkkdaaGreat
open Go Go.RowKit
attribute [local go_sem ↓] open_LVM open_STM open_LVN open_STN
theorem parts_l1 {m:MV} (h:¬ ((((m.a.n≤6∧m.a.m≤6)∧m.b.n≤6∧m.b.m≤6))∧(((m.c.n≤6∧m.c.m≤6)∧m.d.n≤6∧m.d.m≤6))∧(((m.e.n≤6∧m.e.m≤6)∧m.f.n≤6∧m.f.m≤6)))) :
 Calls Tryz.prog 9 #[.agg #[.bool m.a.s,.slice m.a.A m.a.n m.a.c,.slice m.a.B m.a.m m.a.d,.bool m.b.s,.slice m.b.A m.b.n m.b.c,.slice m.b.B m.b.m m.b.d,.bool m.c.s,.slice m.c.A m.c.n m.c.c,.slice m.c.B m.c.m m.c.d,.bool m.d.s,.slice m.d.A m.d.n m.d.c,.slice m.d.B m.d.m m.d.d,.bool m.e.s,.slice m.e.A m.e.n m.e.c,.slice m.e.B m.e.m m.e.d,.bool m.f.s,.slice m.f.A m.f.n m.f.c,.slice m.f.B m.f.m m.f.d],.agg #[.bool s_p,.slice A_p n_p c_p,.slice B_p m_p d_p,.bool t_p,.slice E_p i_p e_p,.slice F_p j_p f_p],.agg #[.bool s_q,.slice A_q n_q c_q,.slice B_q m_q d_q,.bool t_q,.slice E_q i_q e_q,.slice F_q j_q f_q]] w fun e w'=>e=.returned (.bool true)∧Below w.heap.size w w':=by
 have HM:Hid (decide ((((m.a.n≤6∧m.a.m≤6)∧m.b.n≤6∧m.b.m≤6))∧(((m.c.n≤6∧m.c.m≤6)∧m.d.n≤6∧m.d.m≤6))∧(((m.e.n≤6∧m.e.m≤6)∧m.f.n≤6∧m.f.m≤6)))=false):=decide_eq_false h
 clear h
 go_enter Tryz.func9,Tryz.ntmps9
 go_upto_region 1 with (fail)
 generalize hW:World.alloc _ _=W
 obtain ⟨hb,XA,XP,XQ,hzW⟩:=mkbx31_12 hW;clear hW;have xal:=XA.ld
 go_wp2_with (first
  | (go_at_call 35;(with_reducible refine (fairM false HM.out).mono ?_);rintro e w_z ⟨rfl,hh⟩
     replace hb:=bend hb hh)
  | (go_at_call 36;(with_reducible refine (wakes9_any _).mono ?_);rintro e w_z ⟨rfl,hh⟩
     replace hb:=bend hb hh))
 go_ret;exact ⟨rfl,hb⟩
theorem parts_l2 {m:MV} (h:((((m.a.n≤6∧m.a.m≤6)∧m.b.n≤6∧m.b.m≤6))∧(((m.c.n≤6∧m.c.m≤6)∧m.d.n≤6∧m.d.m≤6))∧(((m.e.n≤6∧m.e.m≤6)∧m.f.n≤6∧m.f.m≤6)))) (h2:¬ (((n_p≤6∧m_p≤6)∧i_p≤6∧j_p≤6)∧((n_q≤6∧m_q≤6)∧i_q≤6∧j_q≤6))) :
 Calls Tryz.prog 9 #[.agg #[.bool m.a.s,.slice m.a.A m.a.n m.a.c,.slice m.a.B m.a.m m.a.d,.bool m.b.s,.slice m.b.A m.b.n m.b.c,.slice m.b.B m.b.m m.b.d,.bool m.c.s,.slice m.c.A m.c.n m.c.c,.slice m.c.B m.c.m m.c.d,.bool m.d.s,.slice m.d.A m.d.n m.d.c,.slice m.d.B m.d.m m.d.d,.bool m.e.s,.slice m.e.A m.e.n m.e.c,.slice m.e.B m.e.m m.e.d,.bool m.f.s,.slice m.f.A m.f.n m.f.c,.slice m.f.B m.f.m m.f.d],.agg #[.bool s_p,.slice A_p n_p c_p,.slice B_p m_p d_p,.bool t_p,.slice E_p i_p e_p,.slice F_p j_p f_p],.agg #[.bool s_q,.slice A_q n_q c_q,.slice B_q m_q d_q,.bool t_q,.slice E_q i_q e_q,.slice F_q j_q f_q]] w fun e w'=>e=.returned (.bool true)∧Below w.heap.size w w':=by
 have HM:Hid (decide ((((m.a.n≤6∧m.a.m≤6)∧m.b.n≤6∧m.b.m≤6))∧(((m.c.n≤6∧m.c.m≤6)∧m.d.n≤6∧m.d.m≤6))∧(((m.e.n≤6∧m.e.m≤6)∧m.f.n≤6∧m.f.m≤6)))=true):=decide_eq_true h
 have HL:Hid (decide (((n_p≤6∧m_p≤6)∧i_p≤6∧j_p≤6)∧((n_q≤6∧m_q≤6)∧i_q≤6∧j_q≤6))=false):=decide_eq_false h2
 clear h h2
 go_enter Tryz.func9,Tryz.ntmps9
 go_upto_region 1 with (fail)
 generalize hW:World.alloc _ _=W
 obtain ⟨hb,XA,XP,XQ,hzW⟩:=mkbx31_12 hW;clear hW;have xal:=XA.ld
 go_wp2_with (first
  | (go_at_call 35;(with_reducible refine (fairM true HM.out).mono ?_);rintro e w_z ⟨rfl,hh⟩
     (try replace XA:=XA.below hh);(try replace XP:=XP.below hh);(try replace XQ:=XQ.below hh);replace hb:=bend hb hh;obtain ⟨xp0,xp1,xp2,xp3,xp4,xp5⟩:=XP.all;obtain ⟨xq0,xq1,xq2,xq3,xq4,xq5⟩:=XQ.all
     have ha:Below w_z.heap.size w_z (w_z.alloc (.cells #[.bool s_p,.slice A_p n_p c_p,.slice B_p m_p d_p,.bool t_p,.slice E_p i_p e_p,.slice F_p j_p f_p,.bool s_q,.slice A_q n_q c_q,.slice B_q m_q d_q,.bool t_q,.slice E_q i_q e_q,.slice F_q j_q f_q] 29)):=(Below.refl _ _).alloc (Nat.le_refl _) _
     have XL:=BL2.new' w_z (.bool s_p) (.slice A_p n_p c_p) (.slice B_p m_p d_p) (.bool t_p) (.slice E_p i_p e_p) (.slice F_p j_p f_p) (.bool s_q) (.slice A_q n_q c_q) (.slice B_q m_q d_q) (.bool t_q) (.slice E_q i_q e_q) (.slice F_q j_q f_q) _ rfl
     replace XA:=XA.below ha;replace XP:=XP.below ha;replace XQ:=XQ.below ha;replace hb:=bend hb ha;clear ha)
  | (go_at_call 11;(with_reducible refine (fair2 XL false HL.out).mono ?_);rintro e w_y ⟨rfl,hh⟩
     (try replace XA:=XA.below hh);(try replace XP:=XP.below hh);(try replace XQ:=XQ.below hh);replace hb:=bend hb hh;clear XL)
  | (go_at_call 36;(with_reducible refine (wakes9_any _).mono ?_);rintro e w_z ⟨rfl,hh⟩
     replace hb:=bend hb hh))
 go_ret;exact ⟨rfl,hb⟩
theorem parts_s {m:MV} {v:AM} {px py qx qy:Rat} (M:MR w m v 6 6) (p:PR w s_p A_p n_p c_p B_p m_p d_p t_p E_p i_p e_p F_p j_p f_p px py 6) (q:PR w s_q A_q n_q c_q B_q m_q d_q t_q E_q i_q e_q F_q j_q f_q qx qy 6) (h:((((m.a.n≤6∧m.a.m≤6)∧m.b.n≤6∧m.b.m≤6))∧(((m.c.n≤6∧m.c.m≤6)∧m.d.n≤6∧m.d.m≤6))∧(((m.e.n≤6∧m.e.m≤6)∧m.f.n≤6∧m.f.m≤6)))) (h2:(((n_p≤6∧m_p≤6)∧i_p≤6∧j_p≤6)∧((n_q≤6∧m_q≤6)∧i_q≤6∧j_q≤6))) :
 Calls Tryz.prog 9 #[.agg #[.bool m.a.s,.slice m.a.A m.a.n m.a.c,.slice m.a.B m.a.m m.a.d,.bool m.b.s,.slice m.b.A m.b.n m.b.c,.slice m.b.B m.b.m m.b.d,.bool m.c.s,.slice m.c.A m.c.n m.c.c,.slice m.c.B m.c.m m.c.d,.bool m.d.s,.slice m.d.A m.d.n m.d.c,.slice m.d.B m.d.m m.d.d,.bool m.e.s,.slice m.e.A m.e.n m.e.c,.slice m.e.B m.e.m m.e.d,.bool m.f.s,.slice m.f.A m.f.n m.f.c,.slice m.f.B m.f.m m.f.d],.agg #[.bool s_p,.slice A_p n_p c_p,.slice B_p m_p d_p,.bool t_p,.slice E_p i_p e_p,.slice F_p j_p f_p],.agg #[.bool s_q,.slice A_q n_q c_q,.slice B_q m_q d_q,.bool t_q,.slice E_q i_q e_q,.slice F_q j_q f_q]] w fun e w'=>e=.returned (.bool true)∧Below w.heap.size w w':=by
 have HM:Hid (decide ((((m.a.n≤6∧m.a.m≤6)∧m.b.n≤6∧m.b.m≤6))∧(((m.c.n≤6∧m.c.m≤6)∧m.d.n≤6∧m.d.m≤6))∧(((m.e.n≤6∧m.e.m≤6)∧m.f.n≤6∧m.f.m≤6)))=true):=decide_eq_true h
 have HL:Hid (decide (((n_p≤6∧m_p≤6)∧i_p≤6∧j_p≤6)∧((n_q≤6∧m_q≤6)∧i_q≤6∧j_q≤6))=true):=decide_eq_true h2
 have H1:Hid (decide (v.ax (px+qx) (py+qy)=v.ax px py+v.ax qx qy - (v.ax (Rat.divInt 0 1) (Rat.divInt 0 1))∧v.ay (px+qx) (py+qy)=v.ay px py+v.ay qx qy - (v.ay (Rat.divInt 0 1) (Rat.divInt 0 1)))=true):=decide_eq_true ⟨by simp only [AM.ax,zero1];grind,by simp only [AM.ay,zero1];grind⟩
 have H2:Hid (decide ((v.ax (Rat.divInt 0 1) (Rat.divInt 0 1))+((v.ax (Rat.divInt 1 1) (Rat.divInt 0 1) - (v.ax (Rat.divInt 0 1) (Rat.divInt 0 1)))*px+(v.ax (Rat.divInt 0 1) (Rat.divInt 1 1) - (v.ax (Rat.divInt 0 1) (Rat.divInt 0 1)))*py)=v.ax px py∧(v.ay (Rat.divInt 0 1) (Rat.divInt 0 1))+((v.ay (Rat.divInt 1 1) (Rat.divInt 0 1) - (v.ay (Rat.divInt 0 1) (Rat.divInt 0 1)))*px+(v.ay (Rat.divInt 0 1) (Rat.divInt 1 1) - (v.ay (Rat.divInt 0 1) (Rat.divInt 0 1)))*py)=v.ay px py)=true):=decide_eq_true ⟨by simp only [AM.ax,zero1,unit1];grind,by simp only [AM.ay,zero1,unit1];grind⟩
 have H3:Hid (cmpQ ((v.ax (Rat.divInt 1 1) (Rat.divInt 0 1) - (v.ax (Rat.divInt 0 1) (Rat.divInt 0 1)))*(v.ay (Rat.divInt 0 1) (Rat.divInt 1 1) - (v.ay (Rat.divInt 0 1) (Rat.divInt 0 1))) - (v.ay (Rat.divInt 1 1) (Rat.divInt 0 1) - (v.ay (Rat.divInt 0 1) (Rat.divInt 0 1)))*(v.ax (Rat.divInt 0 1) (Rat.divInt 1 1) - (v.ax (Rat.divInt 0 1) (Rat.divInt 0 1)))) v.det=0):=cmpQ_nul.2 (by simp only [AM.ax,AM.ay,AM.det,zero1,unit1];grind)
 have m1:(AM.of 65536 0 0 65536 96 (-32)).a=1:=by decide +kernel
 have m2:(AM.of 65536 0 0 65536 96 (-32)).b=0:=by decide +kernel
 have m3:(AM.of 65536 0 0 65536 96 (-32)).c=0:=by decide +kernel
 have m4:(AM.of 65536 0 0 65536 96 (-32)).d=1:=by decide +kernel
 have m5:(AM.of 65536 0 0 65536 96 (-32)).e=Rat.divInt 3 2:=by decide +kernel
 have m6:(AM.of 65536 0 0 65536 96 (-32)).f=Rat.divInt (-1) 2:=by decide +kernel
 have H4:Hid (cmpQ ((AM.of 65536 0 0 65536 96 (-32)).ax px py - px) (Rat.divInt 3 2)=0):=cmpQ_nul.2 (by unfold AM.ax;rw [m1,m3,m5];grind)
 have H5:Hid (cmpQ ((AM.of 65536 0 0 65536 96 (-32)).ay px py - py) (Rat.divInt (-1) 2)=0):=cmpQ_nul.2 (by unfold AM.ay;rw [m2,m4,m6];grind)
 clear h h2 m1 m2 m3 m4 m5 m6
 go_enter Tryz.func9,Tryz.ntmps9
 go_upto_region 1 with (fail)
 generalize hW:World.alloc _ _=W
 obtain ⟨hb,XA,XP,XQ,hzW⟩:=mkbx31_12 hW;clear hW;replace M:=M.below hb;replace p:=p.below hb;replace q:=q.below hb;have xal:=XA.ld
 go_upto_region 3 with (first
  | (go_at_call 35;(with_reducible refine (fairM true HM.out).mono ?_);rintro e w_z ⟨rfl,hh⟩
     (try replace M:=M.below hh);(try replace p:=p.below hh);(try replace q:=q.below hh);(try replace XA:=XA.below hh);(try replace XP:=XP.below hh);(try replace XQ:=XQ.below hh);replace hb:=bend hb hh;obtain ⟨xp0,xp1,xp2,xp3,xp4,xp5⟩:=XP.all;obtain ⟨xq0,xq1,xq2,xq3,xq4,xq5⟩:=XQ.all
     have ha:Below w_z.heap.size w_z (w_z.alloc (.cells #[.bool s_p,.slice A_p n_p c_p,.slice B_p m_p d_p,.bool t_p,.slice E_p i_p e_p,.slice F_p j_p f_p,.bool s_q,.slice A_q n_q c_q,.slice B_q m_q d_q,.bool t_q,.slice E_q i_q e_q,.slice F_q j_q f_q] 29)):=(Below.refl _ _).alloc (Nat.le_refl _) _
     have XL:=BL2.new' w_z (.bool s_p) (.slice A_p n_p c_p) (.slice B_p m_p d_p) (.bool t_p) (.slice E_p i_p e_p) (.slice F_p j_p f_p) (.bool s_q) (.slice A_q n_q c_q) (.slice B_q m_q d_q) (.bool t_q) (.slice E_q i_q e_q) (.slice F_q j_q f_q) _ rfl
     replace M:=M.below ha;replace p:=p.below ha;replace q:=q.below ha;replace XA:=XA.below ha;replace XP:=XP.below ha;replace XQ:=XQ.below ha;replace hb:=bend hb ha;clear ha)
  | (go_at_call 11;(with_reducible refine (fair2 XL true HL.out).mono ?_);rintro e w_y ⟨rfl,hh⟩
     (try replace M:=M.below hh);(try replace p:=p.below hh);(try replace q:=q.below hh);(try replace XA:=XA.below hh);(try replace XP:=XP.below hh);(try replace XQ:=XQ.below hh);replace hb:=bend hb hh;clear XL))
 clear xal
 refine mpo_region (by simp) rfl XA M ?_
 intro V1 w_o g_o s_o A_o n_o c_o B_o m_o d_o t_o E_o i_o e_o F_o j_o f_o o0 XO hg_o hvo hh
 simp only [putAll,Act.put,List.setIfInBounds_toArray,List.set_cons_zero,List.set_cons_succ,hvo]
 clear hvo;replace M:=M.below hh;replace p:=p.below hh;replace q:=q.below hh;replace XA:=XA.below hh;replace XP:=XP.below hh;replace XQ:=XQ.below hh;replace hb:=bend hb hh
 go_upto_region 4 with (fail)
 refine mps_region (by simp) rfl rfl rfl rfl XA XP XQ XO M p q o0 ?_
 intro V2 w_s g_s s_s A_s n_s c_s B_s m_s d_s t_s E_s i_s e_s F_s j_s f_s s0 XS hg_s hvs hh
 simp only [putAll,Act.put,List.setIfInBounds_toArray,List.set_cons_zero,List.set_cons_succ,hvs]
 clear hvs;replace M:=M.below hh;replace p:=p.below hh;replace q:=q.below hh;replace XA:=XA.below hh;replace XP:=XP.below hh;replace XQ:=XQ.below hh;replace o0:=o0.below hh;replace XO:=XO.below hh;replace hb:=bend hb hh
 go_upto_region 5 with (fail)
 refine mpx_region (by simp) rfl rfl XA XO M o0 ?_
 intro V3 w_x g_x s_x A_x n_x c_x B_x m_x d_x t_x E_x i_x e_x F_x j_x f_x x0 XX hg_x hvx hh
 simp only [putAll,Act.put,List.setIfInBounds_toArray,List.set_cons_zero,List.set_cons_succ,hvx]
 clear hvx;replace M:=M.below hh;replace p:=p.below hh;replace q:=q.below hh;replace XA:=XA.below hh;replace XP:=XP.below hh;replace XQ:=XQ.below hh;replace o0:=o0.below hh;replace XO:=XO.below hh;replace s0:=s0.below hh;replace XS:=XS.below hh;replace hb:=bend hb hh
 go_upto_region 6 with (fail)
 refine mpy_region (by simp) rfl rfl XA XO M o0 ?_
 intro V4 w_y g_y s_y A_y n_y c_y B_y m_y d_y t_y E_y i_y e_y F_y j_y f_y y0 XY hg_y hvy hh
 simp only [putAll,Act.put,List.setIfInBounds_toArray,List.set_cons_zero,List.set_cons_succ,hvy]
 clear hvy;replace M:=M.below hh;replace p:=p.below hh;replace q:=q.below hh;replace XA:=XA.below hh;replace XP:=XP.below hh;replace XQ:=XQ.below hh;replace o0:=o0.below hh;replace XO:=XO.below hh;replace s0:=s0.below hh;replace XS:=XS.below hh;replace x0:=x0.below hh;replace XX:=XX.below hh;replace hb:=bend hb hh
 go_upto_region 7 with (fail)
 refine mpt_region (by simp) rfl rfl rfl rfl XP XO XX XY p o0 x0 y0 ?_
 intro V5 w_t g_t s_t A_t n_t c_t B_t m_t d_t t_t E_t i_t e_t F_t j_t f_t t0 XT hg_t hvt hh
 simp only [putAll,Act.put,List.setIfInBounds_toArray,List.set_cons_zero,List.set_cons_succ,hvt]
 clear hvt;replace M:=M.below hh;replace p:=p.below hh;replace q:=q.below hh;replace XA:=XA.below hh;replace XP:=XP.below hh;replace XQ:=XQ.below hh;replace o0:=o0.below hh;replace XO:=XO.below hh;replace s0:=s0.below hh;replace XS:=XS.below hh;replace x0:=x0.below hh;replace XX:=XX.below hh;replace y0:=y0.below hh;replace XY:=XY.below hh;replace hb:=bend hb hh
 go_upto_region 8 with (fail)
 refine mpm_region (by simp) rfl XP p ?_
 intro V6 w_u g_u s_u A_u n_u c_u B_u m_u d_u t_u E_u i_u e_u F_u j_u f_u u0 XU hg_u hvu hh
 simp only [putAll,Act.put,List.setIfInBounds_toArray,List.set_cons_zero,List.set_cons_succ,hvu]
 clear hvu;replace M:=M.below hh;replace p:=p.below hh;replace q:=q.below hh;replace XA:=XA.below hh;replace XP:=XP.below hh;replace XQ:=XQ.below hh;replace o0:=o0.below hh;replace XO:=XO.below hh;replace s0:=s0.below hh;replace XS:=XS.below hh;replace x0:=x0.below hh;replace XX:=XX.below hh;replace y0:=y0.below hh;replace XY:=XY.below hh;replace t0:=t0.below hh;replace XT:=XT.below hh;replace hb:=bend hb hh
 go_upto_region 9 with (fail)
 clear o0 XO;obtain ⟨xp0,xp1,xp2,xp3,xp4,xp5⟩:=XP.all;obtain ⟨xu0,xu1,xu2,xu3,xu4,xu5⟩:=XU.all
 go_upto_region 10 with (first
  | (go_at_call 57;(with_reducible refine (psub_p u0.pr p (by decide) (by decide) (.inl (by decide)) (by decide) (by decide)).mono ?_);rintro e w_d ⟨s_d,A_d,n_d,c_d,B_d,m_d,d_d,t_d,E_d,i_d,e_d,F_d,j_d,f_d,rfl,d,hh⟩
     (try replace M:=M.below hh);(try replace p:=p.below hh);(try replace q:=q.below hh);(try replace XA:=XA.below hh);(try replace XP:=XP.below hh);(try replace XQ:=XQ.below hh);(try replace s0:=s0.below hh);(try replace XS:=XS.below hh);(try replace x0:=x0.below hh);(try replace XX:=XX.below hh);(try replace y0:=y0.below hh);(try replace XY:=XY.below hh);(try replace t0:=t0.below hh);(try replace XT:=XT.below hh);(try replace u0:=u0.below hh);(try replace XU:=XU.below hh);replace hb:=bend hb hh))
 generalize hW:World.alloc _ _=W2
 obtain ⟨hh,XD,hzW2⟩:=mkbx16_9 hW;clear hW;(try replace M:=M.below hh);(try replace p:=p.below hh);(try replace q:=q.below hh);(try replace XA:=XA.below hh);(try replace XP:=XP.below hh);(try replace XQ:=XQ.below hh);(try replace s0:=s0.below hh);(try replace XS:=XS.below hh);(try replace x0:=x0.below hh);(try replace XX:=XX.below hh);(try replace y0:=y0.below hh);(try replace XY:=XY.below hh);(try replace t0:=t0.below hh);(try replace XT:=XT.below hh);(try replace u0:=u0.below hh);(try replace XU:=XU.below hh);(try replace d:=d.below hh);replace hb:=bend hb hh;clear u0 XU
 replace M:=M.below (Below.refl _ _).drew
 replace p:=p.below (Below.refl _ _).drew
 replace q:=q.below (Below.refl _ _).drew
 replace XA:=XA.below (Below.refl _ _).drew
 replace XP:=XP.below (Below.refl _ _).drew
 replace XQ:=XQ.below (Below.refl _ _).drew
 replace s0:=s0.below (Below.refl _ _).drew
 replace XS:=XS.below (Below.refl _ _).drew
 replace x0:=x0.below (Below.refl _ _).drew
 replace XX:=XX.below (Below.refl _ _).drew
 replace y0:=y0.below (Below.refl _ _).drew
 replace XY:=XY.below (Below.refl _ _).drew
 replace t0:=t0.below (Below.refl _ _).drew
 replace XT:=XT.below (Below.refl _ _).drew
 replace d:=d.below (Below.refl _ _).drew
 replace XD:=XD.below (Below.refl _ _).drew
 replace hb:=hb.drew
 go_region_held3 (fun w'=>(LVM ⟨w.heap.size,0,none⟩).run Tryz.prog w'=.ok (.agg #[.bool m.a.s,.slice m.a.A m.a.n m.a.c,.slice m.a.B m.a.m m.a.d,.bool m.b.s,.slice m.b.A m.b.n m.b.c,.slice m.b.B m.b.m m.b.d,.bool m.c.s,.slice m.c.A m.c.n m.c.c,.slice m.c.B m.c.m m.c.d,.bool m.d.s,.slice m.d.A m.d.n m.d.c,.slice m.d.B m.d.m m.d.d,.bool m.e.s,.slice m.e.A m.e.n m.e.c,.slice m.e.B m.e.m m.e.d,.bool m.f.s,.slice m.f.A m.f.n m.f.c,.slice m.f.B m.f.m m.f.d]) w'∧w'.cell? ⟨w.heap.size+1,0,none⟩=some (.bool s_p)∧w'.cell? ⟨w.heap.size+1,1,none⟩=some (.slice A_p n_p c_p)∧w'.cell? ⟨w.heap.size+1,2,none⟩=some (.slice B_p m_p d_p)∧w'.cell? ⟨w.heap.size+1,3,none⟩=some (.bool t_p)∧w'.cell? ⟨w.heap.size+1,4,none⟩=some (.slice E_p i_p e_p)∧w'.cell? ⟨w.heap.size+1,5,none⟩=some (.slice F_p j_p f_p)∧w'.cell? ⟨w.heap.size+1+1,0,none⟩=some (.bool s_q)∧w'.cell? ⟨w.heap.size+1+1,1,none⟩=some (.slice A_q n_q c_q)∧w'.cell? ⟨w.heap.size+1+1,2,none⟩=some (.slice B_q m_q d_q)∧w'.cell? ⟨w.heap.size+1+1,3,none⟩=some (.bool t_q)∧w'.cell? ⟨w.heap.size+1+1,4,none⟩=some (.slice E_q i_q e_q)∧w'.cell? ⟨w.heap.size+1+1,5,none⟩=some (.slice F_q j_q f_q)∧w'.cell? ⟨g_s,0,none⟩=some (.bool s_s)∧w'.cell? ⟨g_s,1,none⟩=some (.slice A_s n_s c_s)∧w'.cell? ⟨g_s,2,none⟩=some (.slice B_s m_s d_s)∧w'.cell? ⟨g_s,3,none⟩=some (.bool t_s)∧w'.cell? ⟨g_s,4,none⟩=some (.slice E_s i_s e_s)∧w'.cell? ⟨g_s,5,none⟩=some (.slice F_s j_s f_s)∧w'.cell? ⟨g_t,0,none⟩=some (.bool s_t)∧w'.cell? ⟨g_t,1,none⟩=some (.slice A_t n_t c_t)∧w'.cell? ⟨g_t,2,none⟩=some (.slice B_t m_t d_t)∧w'.cell? ⟨g_t,3,none⟩=some (.bool t_t)∧w'.cell? ⟨g_t,4,none⟩=some (.slice E_t i_t e_t)∧w'.cell? ⟨g_t,5,none⟩=some (.slice F_t j_t f_t)∧w'.cell? ⟨g_x,0,none⟩=some (.bool s_x)∧w'.cell? ⟨g_x,1,none⟩=some (.slice A_x n_x c_x)∧w'.cell? ⟨g_x,2,none⟩=some (.slice B_x m_x d_x)∧w'.cell? ⟨g_x,3,none⟩=some (.bool t_x)∧w'.cell? ⟨g_x,4,none⟩=some (.slice E_x i_x e_x)∧w'.cell? ⟨g_x,5,none⟩=some (.slice F_x j_x f_x)∧w'.cell? ⟨g_y,0,none⟩=some (.bool s_y)∧w'.cell? ⟨g_y,1,none⟩=some (.slice A_y n_y c_y)∧w'.cell? ⟨g_y,2,none⟩=some (.slice B_y m_y d_y)∧w'.cell? ⟨g_y,3,none⟩=some (.bool t_y)∧w'.cell? ⟨g_y,4,none⟩=some (.slice E_y i_y e_y)∧w'.cell? ⟨g_y,5,none⟩=some (.slice F_y j_y f_y)∧w'.cell? ⟨w_d.heap.size,0,none⟩=some (.bool s_d)∧w'.cell? ⟨w_d.heap.size,1,none⟩=some (.slice A_d n_d c_d)∧w'.cell? ⟨w_d.heap.size,2,none⟩=some (.slice B_d m_d d_d)∧w'.cell? ⟨w_d.heap.size,3,none⟩=some (.bool t_d)∧w'.cell? ⟨w_d.heap.size,4,none⟩=some (.slice E_d i_d e_d)∧w'.cell? ⟨w_d.heap.size,5,none⟩=some (.slice F_d j_d f_d))
  (first | with_reducible exact ⟨XA.ld,XP.c0,XP.c1,XP.c2,XP.c3,XP.c4,XP.c5,XQ.c0,XQ.c1,XQ.c2,XQ.c3,XQ.c4,XQ.c5,XS.c0,XS.c1,XS.c2,XS.c3,XS.c4,XS.c5,XT.c0,XT.c1,XT.c2,XT.c3,XT.c4,XT.c5,XX.c0,XX.c1,XX.c2,XX.c3,XX.c4,XX.c5,XY.c0,XY.c1,XY.c2,XY.c3,XY.c4,XY.c5,XD.c0,XD.c1,XD.c2,XD.c3,XD.c4,XD.c5⟩)
  (first
  | (go_at_call 62;(with_reducible refine (padd_p p q (by decide) (by decide) (.inl (by decide)) (by decide) (by decide)).mono ?_);rintro e w_b1 ⟨s_b1,A_b1,n_b1,c_b1,B_b1,m_b1,d_b1,t_b1,E_b1,i_b1,e_b1,F_b1,j_b1,f_b1,rfl,b1,hh⟩
     (try replace M:=M.below hh);(try replace p:=p.below hh);(try replace q:=q.below hh);(try replace XA:=XA.below hh);(try replace XP:=XP.below hh);(try replace XQ:=XQ.below hh);(try replace s0:=s0.below hh);(try replace XS:=XS.below hh);(try replace x0:=x0.below hh);(try replace XX:=XX.below hh);(try replace y0:=y0.below hh);(try replace XY:=XY.below hh);(try replace t0:=t0.below hh);(try replace XT:=XT.below hh);(try replace d:=d.below hh);(try replace XD:=XD.below hh);replace hb:=bend hb hh)
  | (go_at_call 43;(with_reducible refine (mapply_p M b1.pr (by decide) (by decide) (by decide) (by decide) (by decide)).mono ?_);rintro e w_b2 ⟨s_b2,A_b2,n_b2,c_b2,B_b2,m_b2,d_b2,t_b2,E_b2,i_b2,e_b2,F_b2,j_b2,f_b2,rfl,b2,hh⟩
     (try replace M:=M.below hh);(try replace p:=p.below hh);(try replace q:=q.below hh);(try replace XA:=XA.below hh);(try replace XP:=XP.below hh);(try replace XQ:=XQ.below hh);(try replace s0:=s0.below hh);(try replace XS:=XS.below hh);(try replace x0:=x0.below hh);(try replace XX:=XX.below hh);(try replace y0:=y0.below hh);(try replace XY:=XY.below hh);(try replace t0:=t0.below hh);(try replace XT:=XT.below hh);(try replace d:=d.below hh);(try replace XD:=XD.below hh);replace hb:=bend hb hh;clear b1)
  | (go_at_call 55;(with_reducible refine (psame_p b2.pr s0.pr (by decide) (by decide) (by decide) (by decide) true H1.out).mono ?_);rintro e w_z ⟨rfl,hh⟩
     (try replace M:=M.below hh);(try replace p:=p.below hh);(try replace q:=q.below hh);(try replace XA:=XA.below hh);(try replace XP:=XP.below hh);(try replace XQ:=XQ.below hh);(try replace s0:=s0.below hh);(try replace XS:=XS.below hh);(try replace x0:=x0.below hh);(try replace XX:=XX.below hh);(try replace y0:=y0.below hh);(try replace XY:=XY.below hh);(try replace t0:=t0.below hh);(try replace XT:=XT.below hh);(try replace d:=d.below hh);(try replace XD:=XD.below hh);replace hb:=bend hb hh;clear b2)
  | (go_at_call 43;(with_reducible refine (mapply_p M p (by decide) (by decide) (by decide) (by decide) (by decide)).mono ?_);rintro e w_b3 ⟨s_b3,A_b3,n_b3,c_b3,B_b3,m_b3,d_b3,t_b3,E_b3,i_b3,e_b3,F_b3,j_b3,f_b3,rfl,b3,hh⟩
     (try replace M:=M.below hh);(try replace p:=p.below hh);(try replace q:=q.below hh);(try replace XA:=XA.below hh);(try replace XP:=XP.below hh);(try replace XQ:=XQ.below hh);(try replace s0:=s0.below hh);(try replace XS:=XS.below hh);(try replace x0:=x0.below hh);(try replace XX:=XX.below hh);(try replace y0:=y0.below hh);(try replace XY:=XY.below hh);(try replace t0:=t0.below hh);(try replace XT:=XT.below hh);(try replace d:=d.below hh);(try replace XD:=XD.below hh);replace hb:=bend hb hh)
  | (go_at_call 55;(with_reducible refine (psame_p t0.pr b3.pr (by decide) (by decide) (by decide) (by decide) true H2.out).mono ?_);rintro e w_z ⟨rfl,hh⟩
     (try replace M:=M.below hh);(try replace p:=p.below hh);(try replace q:=q.below hh);(try replace XA:=XA.below hh);(try replace XP:=XP.below hh);(try replace XQ:=XQ.below hh);(try replace s0:=s0.below hh);(try replace XS:=XS.below hh);(try replace x0:=x0.below hh);(try replace XX:=XX.below hh);(try replace y0:=y0.below hh);(try replace XY:=XY.below hh);(try replace t0:=t0.below hh);(try replace XT:=XT.below hh);(try replace d:=d.below hh);(try replace XD:=XD.below hh);replace hb:=bend hb hh;clear b3)
  | (go_at_call 56;(with_reducible refine (pcross_p x0.pr y0.pr (by decide) (by decide) (by decide)).mono ?_);rintro e w_b4 ⟨s_b4,A_b4,n_b4,c_b4,B_b4,m_b4,d_b4,rfl,b4,hh⟩
     (try replace M:=M.below hh);(try replace p:=p.below hh);(try replace q:=q.below hh);(try replace XA:=XA.below hh);(try replace XP:=XP.below hh);(try replace XQ:=XQ.below hh);(try replace s0:=s0.below hh);(try replace XS:=XS.below hh);(try replace x0:=x0.below hh);(try replace XX:=XX.below hh);(try replace y0:=y0.below hh);(try replace XY:=XY.below hh);(try replace t0:=t0.below hh);(try replace XT:=XT.below hh);(try replace d:=d.below hh);(try replace XD:=XD.below hh);replace hb:=bend hb hh)
  | (go_at_call 47;(with_reducible refine (mdet_p M (by decide) (by decide)).mono ?_);rintro e w_b5 ⟨s_b5,A_b5,n_b5,c_b5,B_b5,m_b5,d_b5,rfl,b5,hh⟩
     (try replace M:=M.below hh);(try replace p:=p.below hh);(try replace q:=q.below hh);(try replace XA:=XA.below hh);(try replace XP:=XP.below hh);(try replace XQ:=XQ.below hh);(try replace s0:=s0.below hh);(try replace XS:=XS.below hh);(try replace x0:=x0.below hh);(try replace XX:=XX.below hh);(try replace y0:=y0.below hh);(try replace XY:=XY.below hh);(try replace t0:=t0.below hh);(try replace XT:=XT.below hh);(try replace d:=d.below hh);(try replace XD:=XD.below hh);(try replace b4:=b4.below hh);replace hb:=bend hb hh)
  | (go_at_call 31;(with_reducible refine (rcmp_q b4.qr b5.qr (by decide) (by decide) (.inl (by decide)) (by decide) (by decide)).mono ?_);rintro e w_z ⟨rfl,hh⟩
     rw [H3.out];clear b4 b5
     (try replace M:=M.below hh);(try replace p:=p.below hh);(try replace q:=q.below hh);(try replace XA:=XA.below hh);(try replace XP:=XP.below hh);(try replace XQ:=XQ.below hh);(try replace s0:=s0.below hh);(try replace XS:=XS.below hh);(try replace x0:=x0.below hh);(try replace XX:=XX.below hh);(try replace y0:=y0.below hh);(try replace XY:=XY.below hh);(try replace t0:=t0.below hh);(try replace XT:=XT.below hh);(try replace d:=d.below hh);(try replace XD:=XD.below hh);replace hb:=bend hb hh)
  | (go_at_call 60;(with_reducible refine (rof_q 3 2 (by decide) (by decide) (by decide) (by decide) (by decide) _).mono ?_);rintro e w_b6 ⟨s_b6,A_b6,n_b6,c_b6,B_b6,m_b6,d_b6,rfl,b6,hh⟩
     (try replace M:=M.below hh);(try replace p:=p.below hh);(try replace q:=q.below hh);(try replace XA:=XA.below hh);(try replace XP:=XP.below hh);(try replace XQ:=XQ.below hh);(try replace s0:=s0.below hh);(try replace XS:=XS.below hh);(try replace x0:=x0.below hh);(try replace XX:=XX.below hh);(try replace y0:=y0.below hh);(try replace XY:=XY.below hh);(try replace t0:=t0.below hh);(try replace XT:=XT.below hh);(try replace d:=d.below hh);(try replace XD:=XD.below hh);replace hb:=bend hb hh)
  | (go_at_call 31;(with_reducible refine (rcmp_q d.qx.qr b6.qr (by decide) (by decide) (.inl (by decide)) (by decide) (by decide)).mono ?_);rintro e w_z ⟨rfl,hh⟩
     rw [H4.out];clear b6
     (try replace M:=M.below hh);(try replace p:=p.below hh);(try replace q:=q.below hh);(try replace XA:=XA.below hh);(try replace XP:=XP.below hh);(try replace XQ:=XQ.below hh);(try replace s0:=s0.below hh);(try replace XS:=XS.below hh);(try replace x0:=x0.below hh);(try replace XX:=XX.below hh);(try replace y0:=y0.below hh);(try replace XY:=XY.below hh);(try replace t0:=t0.below hh);(try replace XT:=XT.below hh);(try replace d:=d.below hh);(try replace XD:=XD.below hh);replace hb:=bend hb hh)
  | (go_at_call 60;(with_reducible refine (rof_q (-1) 2 (by decide) (by decide) (by decide) (by decide) (by decide) _).mono ?_);rintro e w_b7 ⟨s_b7,A_b7,n_b7,c_b7,B_b7,m_b7,d_b7,rfl,b7,hh⟩
     (try replace M:=M.below hh);(try replace p:=p.below hh);(try replace q:=q.below hh);(try replace XA:=XA.below hh);(try replace XP:=XP.below hh);(try replace XQ:=XQ.below hh);(try replace s0:=s0.below hh);(try replace XS:=XS.below hh);(try replace x0:=x0.below hh);(try replace XX:=XX.below hh);(try replace y0:=y0.below hh);(try replace XY:=XY.below hh);(try replace t0:=t0.below hh);(try replace XT:=XT.below hh);(try replace d:=d.below hh);(try replace XD:=XD.below hh);replace hb:=bend hb hh)
  | (go_at_call 31;(with_reducible refine (rcmp_q d.qy.qr b7.qr (by decide) (by decide) (.inl (by decide)) (by decide) (by decide)).mono ?_);rintro e w_z ⟨rfl,hh⟩
     rw [H5.out];clear b7
     (try replace M:=M.below hh);(try replace p:=p.below hh);(try replace q:=q.below hh);(try replace XA:=XA.below hh);(try replace XP:=XP.below hh);(try replace XQ:=XQ.below hh);(try replace s0:=s0.below hh);(try replace XS:=XS.below hh);(try replace x0:=x0.below hh);(try replace XX:=XX.below hh);(try replace y0:=y0.below hh);(try replace XY:=XY.below hh);(try replace t0:=t0.below hh);(try replace XT:=XT.below hh);(try replace d:=d.below hh);(try replace XD:=XD.below hh);replace hb:=bend hb hh)
  | (go_at_call 36;(with_reducible refine (wakes9_any _).mono ?_);rintro e w_z ⟨rfl,hh⟩
     (try replace XA:=XA.below hh);(try replace XP:=XP.below hh);(try replace XQ:=XQ.below hh);(try replace XS:=XS.below hh);(try replace XT:=XT.below hh);(try replace XX:=XX.below hh);(try replace XY:=XY.below hh);(try replace XD:=XD.below hh);replace hb:=bend hb hh))
 go_wp2_with fail
 go_ret;exact ⟨rfl,hb⟩
theorem law_parts9 {m:MV} {lap lbp lcp ldp:List Nat} {laq lbq lcq ldq:List Nat} (hm:MRows w m) (ap:Rd .u64 w A_p n_p lap) (bp:Rd .u64 w B_p m_p lbp) (up:Rd .u64 w E_p i_p lcp) (vp:Rd .u64 w F_p j_p ldp) (tap:Lim B64 lap) (tbp:Lim B64 lbp) (tcp:Lim B64 lcp) (tdp:Lim B64 ldp) (cap:n_p≤c_p) (cbp:m_p≤d_p) (ccp:i_p≤e_p) (cdp:j_p≤f_p) (aq:Rd .u64 w A_q n_q laq) (bq:Rd .u64 w B_q m_q lbq) (uq:Rd .u64 w E_q i_q lcq) (vq:Rd .u64 w F_q j_q ldq) (taq:Lim B64 laq) (tbq:Lim B64 lbq) (tcq:Lim B64 lcq) (tdq:Lim B64 ldq) (caq:n_q≤c_q) (cbq:m_q≤d_q) (ccq:i_q≤e_q) (cdq:j_q≤f_q) :
 Calls Tryz.prog 9 #[.agg #[.bool m.a.s,.slice m.a.A m.a.n m.a.c,.slice m.a.B m.a.m m.a.d,.bool m.b.s,.slice m.b.A m.b.n m.b.c,.slice m.b.B m.b.m m.b.d,.bool m.c.s,.slice m.c.A m.c.n m.c.c,.slice m.c.B m.c.m m.c.d,.bool m.d.s,.slice m.d.A m.d.n m.d.c,.slice m.d.B m.d.m m.d.d,.bool m.e.s,.slice m.e.A m.e.n m.e.c,.slice m.e.B m.e.m m.e.d,.bool m.f.s,.slice m.f.A m.f.n m.f.c,.slice m.f.B m.f.m m.f.d],.agg #[.bool s_p,.slice A_p n_p c_p,.slice B_p m_p d_p,.bool t_p,.slice E_p i_p e_p,.slice F_p j_p f_p],.agg #[.bool s_q,.slice A_q n_q c_q,.slice B_q m_q d_q,.bool t_q,.slice E_q i_q e_q,.slice F_q j_q f_q]] w fun e w'=>e=.returned (.bool true)∧Below w.heap.size w w':=by
 obtain ⟨v,hv⟩:=hm.mr
 by_cases h:((((m.a.n≤6∧m.a.m≤6)∧m.b.n≤6∧m.b.m≤6))∧(((m.c.n≤6∧m.c.m≤6)∧m.d.n≤6∧m.d.m≤6))∧(((m.e.n≤6∧m.e.m≤6)∧m.f.n≤6∧m.f.m≤6)))
 · by_cases h2:(((n_p≤6∧m_p≤6)∧i_p≤6∧j_p≤6)∧((n_q≤6∧m_q≤6)∧i_q≤6∧j_q≤6))
   · have p:PR w s_p A_p n_p c_p B_p m_p d_p t_p E_p i_p e_p F_p j_p f_p (mkRat (iv s_p (val B64 lap)) (den1 (val B64 lbp))) (mkRat (iv t_p (val B64 lcp)) (den1 (val B64 ldp))) 6:=⟨QR.of_rd ap tap cap bp tbp cbp h2.1.1.1 h2.1.1.2,QR.of_rd up tcp ccp vp tdp cdp h2.1.2.1 h2.1.2.2⟩
     have q:PR w s_q A_q n_q c_q B_q m_q d_q t_q E_q i_q e_q F_q j_q f_q (mkRat (iv s_q (val B64 laq)) (den1 (val B64 lbq))) (mkRat (iv t_q (val B64 lcq)) (den1 (val B64 ldq))) 6:=⟨QR.of_rd aq taq caq bq tbq cbq h2.2.1.1 h2.2.1.2,QR.of_rd uq tcq ccq vq tdq cdq h2.2.2.1 h2.2.2.2⟩
     exact parts_s (hv h) p q h h2
   · exact parts_l2 h h2
 · exact parts_l1 h
end Go.Proofs.YtgneghgfpkkkdaaGreat
