/- MatLaws: part 16. -/
import Derived.Test.YtgneghgfpkkkdaaGreatKMatLaws15
set_option linter.unusedVariables false
set_option maxRecDepth 100000
set_option maxHeartbeats 16000000
variable {w:Go.World}
variable {s_p t_p:Bool} {A_p B_p E_p F_p:Option Go.Addr} {n_p c_p m_p d_p i_p e_p j_p f_p:Nat}
variable {s_q t_q:Bool} {A_q B_q E_q F_q:Option Go.Addr} {n_q c_q m_q d_q i_q e_q j_q f_q:Nat}
variable {s_r t_r:Bool} {A_r B_r E_r F_r:Option Go.Addr} {n_r c_r m_r d_r i_r e_r j_r f_r:Nat}
namespace Go.Proofs.YtgneghgfpkkkdaaGreat
open Go Go.RowKit
attribute [local go_sem ↓] open_LVM open_STM open_LVN open_STN
theorem mkbx40_16 {w W:World} {x0 x1 x2 x3 x4 x5 x6 x7 x8 x9 x10 x11 x12 x13 x14 x15 x16 x17 x18 x19 x20 x21 x22 x23 x24 x25 x26 x27 x28 x29 x30 x31 x32 x33 x34 x35 x36 x37 x38 x39 x40 x41 x42 x43 x44 x45 x46 x47 x48 x49 x50 x51 x52 x53:Value} (h:(((w.alloc (Obj.cells #[x0,x1,x2,x3,x4,x5,x6,x7,x8,x9,x10,x11,x12,x13,x14,x15,x16,x17] 71)).alloc (Obj.cells #[x18,x19,x20,x21,x22,x23,x24,x25,x26,x27,x28,x29,x30,x31,x32,x33,x34,x35] 71)).alloc (Obj.cells #[x36,x37,x38,x39,x40,x41,x42,x43,x44,x45,x46,x47,x48,x49,x50,x51,x52,x53] 63))=W):Below w.heap.size w W∧B18 W (w.heap.size) x0 x1 x2 x3 x4 x5 x6 x7 x8 x9 x10 x11 x12 x13 x14 x15 x16 x17∧B18 W (w.heap.size+1) x18 x19 x20 x21 x22 x23 x24 x25 x26 x27 x28 x29 x30 x31 x32 x33 x34 x35∧BA3 W (w.heap.size+1+1) x36 x37 x38 x39 x40 x41 x42 x43 x44 x45 x46 x47 x48 x49 x50 x51 x52 x53∧W.heap.size=w.heap.size+3:=by subst h;exact ⟨by exact ((((Below.refl _ _).alloc (Nat.le_refl _) _).alloc (by simp) _).alloc (by simp;omega) _),by exact ((B18.new' _ _ _ _ _ _ _ _ _ _ _ _ _ _ _ _ _ _ _ _ rfl).alloc _).alloc _,by exact (B18.new' _ _ _ _ _ _ _ _ _ _ _ _ _ _ _ _ _ _ _ _ (by simp)).alloc _,by exact BA3.new' _ _ _ _ _ _ _ _ _ _ _ _ _ _ _ _ _ _ _ _ (by simp),by simp⟩
theorem mlaws_l0 {m n:MV} (h1:¬ ((((m.a.n≤6∧m.a.m≤6)∧m.b.n≤6∧m.b.m≤6))∧(((m.c.n≤6∧m.c.m≤6)∧m.d.n≤6∧m.d.m≤6))∧(((m.e.n≤6∧m.e.m≤6)∧m.f.n≤6∧m.f.m≤6)))) :
 Calls Tryz.prog 8 #[.agg #[.bool m.a.s,.slice m.a.A m.a.n m.a.c,.slice m.a.B m.a.m m.a.d,.bool m.b.s,.slice m.b.A m.b.n m.b.c,.slice m.b.B m.b.m m.b.d,.bool m.c.s,.slice m.c.A m.c.n m.c.c,.slice m.c.B m.c.m m.c.d,.bool m.d.s,.slice m.d.A m.d.n m.d.c,.slice m.d.B m.d.m m.d.d,.bool m.e.s,.slice m.e.A m.e.n m.e.c,.slice m.e.B m.e.m m.e.d,.bool m.f.s,.slice m.f.A m.f.n m.f.c,.slice m.f.B m.f.m m.f.d],.agg #[.bool n.a.s,.slice n.a.A n.a.n n.a.c,.slice n.a.B n.a.m n.a.d,.bool n.b.s,.slice n.b.A n.b.n n.b.c,.slice n.b.B n.b.m n.b.d,.bool n.c.s,.slice n.c.A n.c.n n.c.c,.slice n.c.B n.c.m n.c.d,.bool n.d.s,.slice n.d.A n.d.n n.d.c,.slice n.d.B n.d.m n.d.d,.bool n.e.s,.slice n.e.A n.e.n n.e.c,.slice n.e.B n.e.m n.e.d,.bool n.f.s,.slice n.f.A n.f.n n.f.c,.slice n.f.B n.f.m n.f.d],.agg #[.bool s_p,.slice A_p n_p c_p,.slice B_p m_p d_p,.bool t_p,.slice E_p i_p e_p,.slice F_p j_p f_p,.bool s_q,.slice A_q n_q c_q,.slice B_q m_q d_q,.bool t_q,.slice E_q i_q e_q,.slice F_q j_q f_q,.bool s_r,.slice A_r n_r c_r,.slice B_r m_r d_r,.bool t_r,.slice E_r i_r e_r,.slice F_r j_r f_r]] w fun e w'=>e=.returned (.bool true)∧Below w.heap.size w w':=by
 have HM:Hid (decide ((((m.a.n≤6∧m.a.m≤6)∧m.b.n≤6∧m.b.m≤6))∧(((m.c.n≤6∧m.c.m≤6)∧m.d.n≤6∧m.d.m≤6))∧(((m.e.n≤6∧m.e.m≤6)∧m.f.n≤6∧m.f.m≤6)))=false):=decide_eq_false h1
 clear h1
 go_enter Tryz.func8,Tryz.ntmps8
 go_upto_region 1 with (fail)
 generalize hW:World.alloc _ _=W
 obtain ⟨hb,XA,XB,XL,hzW⟩:=mkbx40_16 hW;clear hW
 have hat0:=at_0 (w.heap.size+1+1)
 have hat1:=at_1 (w.heap.size+1+1)
 have hat2:=at_2 (w.heap.size+1+1)
 have xal:=XA.ld
 go_wp2_with (first
  | (go_at_call 35;(with_reducible refine (fairM false HM.out).mono ?_);rintro e w_z ⟨rfl,hh⟩
     (try replace XA:=XA.below hh);(try replace XB:=XB.below hh);(try replace XL:=XL.below hh);replace hb:=bend hb hh)
  | (go_at_call 36;(with_reducible refine (wakes9_any _).mono ?_);rintro e w_z ⟨rfl,hh⟩
     replace hb:=bend hb hh))
 go_ret;exact ⟨rfl,hb⟩
theorem mlaws_l1 {m n:MV} (h1:((((m.a.n≤6∧m.a.m≤6)∧m.b.n≤6∧m.b.m≤6))∧(((m.c.n≤6∧m.c.m≤6)∧m.d.n≤6∧m.d.m≤6))∧(((m.e.n≤6∧m.e.m≤6)∧m.f.n≤6∧m.f.m≤6)))) (h2:¬ ((((n.a.n≤6∧n.a.m≤6)∧n.b.n≤6∧n.b.m≤6))∧(((n.c.n≤6∧n.c.m≤6)∧n.d.n≤6∧n.d.m≤6))∧(((n.e.n≤6∧n.e.m≤6)∧n.f.n≤6∧n.f.m≤6)))) :
 Calls Tryz.prog 8 #[.agg #[.bool m.a.s,.slice m.a.A m.a.n m.a.c,.slice m.a.B m.a.m m.a.d,.bool m.b.s,.slice m.b.A m.b.n m.b.c,.slice m.b.B m.b.m m.b.d,.bool m.c.s,.slice m.c.A m.c.n m.c.c,.slice m.c.B m.c.m m.c.d,.bool m.d.s,.slice m.d.A m.d.n m.d.c,.slice m.d.B m.d.m m.d.d,.bool m.e.s,.slice m.e.A m.e.n m.e.c,.slice m.e.B m.e.m m.e.d,.bool m.f.s,.slice m.f.A m.f.n m.f.c,.slice m.f.B m.f.m m.f.d],.agg #[.bool n.a.s,.slice n.a.A n.a.n n.a.c,.slice n.a.B n.a.m n.a.d,.bool n.b.s,.slice n.b.A n.b.n n.b.c,.slice n.b.B n.b.m n.b.d,.bool n.c.s,.slice n.c.A n.c.n n.c.c,.slice n.c.B n.c.m n.c.d,.bool n.d.s,.slice n.d.A n.d.n n.d.c,.slice n.d.B n.d.m n.d.d,.bool n.e.s,.slice n.e.A n.e.n n.e.c,.slice n.e.B n.e.m n.e.d,.bool n.f.s,.slice n.f.A n.f.n n.f.c,.slice n.f.B n.f.m n.f.d],.agg #[.bool s_p,.slice A_p n_p c_p,.slice B_p m_p d_p,.bool t_p,.slice E_p i_p e_p,.slice F_p j_p f_p,.bool s_q,.slice A_q n_q c_q,.slice B_q m_q d_q,.bool t_q,.slice E_q i_q e_q,.slice F_q j_q f_q,.bool s_r,.slice A_r n_r c_r,.slice B_r m_r d_r,.bool t_r,.slice E_r i_r e_r,.slice F_r j_r f_r]] w fun e w'=>e=.returned (.bool true)∧Below w.heap.size w w':=by
 have HM:Hid (decide ((((m.a.n≤6∧m.a.m≤6)∧m.b.n≤6∧m.b.m≤6))∧(((m.c.n≤6∧m.c.m≤6)∧m.d.n≤6∧m.d.m≤6))∧(((m.e.n≤6∧m.e.m≤6)∧m.f.n≤6∧m.f.m≤6)))=true):=decide_eq_true h1
 have HN:Hid (decide ((((n.a.n≤6∧n.a.m≤6)∧n.b.n≤6∧n.b.m≤6))∧(((n.c.n≤6∧n.c.m≤6)∧n.d.n≤6∧n.d.m≤6))∧(((n.e.n≤6∧n.e.m≤6)∧n.f.n≤6∧n.f.m≤6)))=false):=decide_eq_false h2
 clear h1 h2
 go_enter Tryz.func8,Tryz.ntmps8
 go_upto_region 1 with (fail)
 generalize hW:World.alloc _ _=W
 obtain ⟨hb,XA,XB,XL,hzW⟩:=mkbx40_16 hW;clear hW
 have hat0:=at_0 (w.heap.size+1+1)
 have hat1:=at_1 (w.heap.size+1+1)
 have hat2:=at_2 (w.heap.size+1+1)
 have xal:=XA.ld
 go_wp2_with (first
  | (go_at_call 35;(with_reducible refine (fairM true HM.out).mono ?_);rintro e w_z ⟨rfl,hh⟩
     (try replace XA:=XA.below hh);(try replace XB:=XB.below hh);(try replace XL:=XL.below hh);replace hb:=bend hb hh;have xbl:=XB.ld)
  | (go_at_call 35;(with_reducible refine (fairM false HN.out).mono ?_);rintro e w_y ⟨rfl,hh⟩
     (try replace XA:=XA.below hh);(try replace XB:=XB.below hh);(try replace XL:=XL.below hh);replace hb:=bend hb hh)
  | (go_at_call 36;(with_reducible refine (wakes9_any _).mono ?_);rintro e w_z ⟨rfl,hh⟩
     replace hb:=bend hb hh))
 go_ret;exact ⟨rfl,hb⟩
theorem mlaws_l2 {m n:MV} (h1:((((m.a.n≤6∧m.a.m≤6)∧m.b.n≤6∧m.b.m≤6))∧(((m.c.n≤6∧m.c.m≤6)∧m.d.n≤6∧m.d.m≤6))∧(((m.e.n≤6∧m.e.m≤6)∧m.f.n≤6∧m.f.m≤6)))) (h2:((((n.a.n≤6∧n.a.m≤6)∧n.b.n≤6∧n.b.m≤6))∧(((n.c.n≤6∧n.c.m≤6)∧n.d.n≤6∧n.d.m≤6))∧(((n.e.n≤6∧n.e.m≤6)∧n.f.n≤6∧n.f.m≤6)))) (h3:¬ (((n_p≤6∧m_p≤6)∧i_p≤6∧j_p≤6)∧((n_q≤6∧m_q≤6)∧i_q≤6∧j_q≤6)∧((n_r≤6∧m_r≤6)∧i_r≤6∧j_r≤6))) :
 Calls Tryz.prog 8 #[.agg #[.bool m.a.s,.slice m.a.A m.a.n m.a.c,.slice m.a.B m.a.m m.a.d,.bool m.b.s,.slice m.b.A m.b.n m.b.c,.slice m.b.B m.b.m m.b.d,.bool m.c.s,.slice m.c.A m.c.n m.c.c,.slice m.c.B m.c.m m.c.d,.bool m.d.s,.slice m.d.A m.d.n m.d.c,.slice m.d.B m.d.m m.d.d,.bool m.e.s,.slice m.e.A m.e.n m.e.c,.slice m.e.B m.e.m m.e.d,.bool m.f.s,.slice m.f.A m.f.n m.f.c,.slice m.f.B m.f.m m.f.d],.agg #[.bool n.a.s,.slice n.a.A n.a.n n.a.c,.slice n.a.B n.a.m n.a.d,.bool n.b.s,.slice n.b.A n.b.n n.b.c,.slice n.b.B n.b.m n.b.d,.bool n.c.s,.slice n.c.A n.c.n n.c.c,.slice n.c.B n.c.m n.c.d,.bool n.d.s,.slice n.d.A n.d.n n.d.c,.slice n.d.B n.d.m n.d.d,.bool n.e.s,.slice n.e.A n.e.n n.e.c,.slice n.e.B n.e.m n.e.d,.bool n.f.s,.slice n.f.A n.f.n n.f.c,.slice n.f.B n.f.m n.f.d],.agg #[.bool s_p,.slice A_p n_p c_p,.slice B_p m_p d_p,.bool t_p,.slice E_p i_p e_p,.slice F_p j_p f_p,.bool s_q,.slice A_q n_q c_q,.slice B_q m_q d_q,.bool t_q,.slice E_q i_q e_q,.slice F_q j_q f_q,.bool s_r,.slice A_r n_r c_r,.slice B_r m_r d_r,.bool t_r,.slice E_r i_r e_r,.slice F_r j_r f_r]] w fun e w'=>e=.returned (.bool true)∧Below w.heap.size w w':=by
 have HM:Hid (decide ((((m.a.n≤6∧m.a.m≤6)∧m.b.n≤6∧m.b.m≤6))∧(((m.c.n≤6∧m.c.m≤6)∧m.d.n≤6∧m.d.m≤6))∧(((m.e.n≤6∧m.e.m≤6)∧m.f.n≤6∧m.f.m≤6)))=true):=decide_eq_true h1
 have HN:Hid (decide ((((n.a.n≤6∧n.a.m≤6)∧n.b.n≤6∧n.b.m≤6))∧(((n.c.n≤6∧n.c.m≤6)∧n.d.n≤6∧n.d.m≤6))∧(((n.e.n≤6∧n.e.m≤6)∧n.f.n≤6∧n.f.m≤6)))=true):=decide_eq_true h2
 have HL:Hid (decide (((n_p≤6∧m_p≤6)∧i_p≤6∧j_p≤6)∧((n_q≤6∧m_q≤6)∧i_q≤6∧j_q≤6)∧((n_r≤6∧m_r≤6)∧i_r≤6∧j_r≤6))=false):=decide_eq_false h3
 clear h1 h2 h3
 go_enter Tryz.func8,Tryz.ntmps8
 go_upto_region 1 with (fail)
 generalize hW:World.alloc _ _=W
 obtain ⟨hb,XA,XB,XL,hzW⟩:=mkbx40_16 hW;clear hW
 have hat0:=at_0 (w.heap.size+1+1)
 have hat1:=at_1 (w.heap.size+1+1)
 have hat2:=at_2 (w.heap.size+1+1)
 have xal:=XA.ld
 go_wp2_with (first
  | (go_at_call 35;(with_reducible refine (fairM true HM.out).mono ?_);rintro e w_z ⟨rfl,hh⟩
     (try replace XA:=XA.below hh);(try replace XB:=XB.below hh);(try replace XL:=XL.below hh);replace hb:=bend hb hh;have xbl:=XB.ld)
  | (go_at_call 35;(with_reducible refine (fairM true HN.out).mono ?_);rintro e w_y ⟨rfl,hh⟩
     (try replace XA:=XA.below hh);(try replace XB:=XB.below hh);(try replace XL:=XL.below hh);replace hb:=bend hb hh;obtain ⟨xl0,xl1,xl2,xl3,xl4,xl5,xl6,xl7,xl8,xl9,xl10,xl11,xl12,xl13,xl14,xl15,xl16,xl17⟩:=XL.all
     have ha:Below w_y.heap.size w_y (w_y.alloc (.cells #[.bool s_p,.slice A_p n_p c_p,.slice B_p m_p d_p,.bool t_p,.slice E_p i_p e_p,.slice F_p j_p f_p,.bool s_q,.slice A_q n_q c_q,.slice B_q m_q d_q,.bool t_q,.slice E_q i_q e_q,.slice F_q j_q f_q,.bool s_r,.slice A_r n_r c_r,.slice B_r m_r d_r,.bool t_r,.slice E_r i_r e_r,.slice F_r j_r f_r] 29)):=(Below.refl _ _).alloc (Nat.le_refl _) _
     have XS:=BL3.new' w_y (.bool s_p) (.slice A_p n_p c_p) (.slice B_p m_p d_p) (.bool t_p) (.slice E_p i_p e_p) (.slice F_p j_p f_p) (.bool s_q) (.slice A_q n_q c_q) (.slice B_q m_q d_q) (.bool t_q) (.slice E_q i_q e_q) (.slice F_q j_q f_q) (.bool s_r) (.slice A_r n_r c_r) (.slice B_r m_r d_r) (.bool t_r) (.slice E_r i_r e_r) (.slice F_r j_r f_r) _ rfl
     replace XA:=XA.below ha;replace XB:=XB.below ha;replace XL:=XL.below ha;replace hb:=bend hb ha;clear ha)
  | (go_at_call 11;(with_reducible refine (fair3 XS false HL.out).mono ?_);rintro e w_x ⟨rfl,hh⟩
     (try replace XA:=XA.below hh);(try replace XB:=XB.below hh);(try replace XL:=XL.below hh);replace hb:=bend hb hh;clear XS xl0 xl1 xl2 xl3 xl4 xl5 xl6 xl7 xl8 xl9 xl10 xl11 xl12 xl13 xl14 xl15 xl16 xl17)
  | (go_at_call 36;(with_reducible refine (wakes9_any _).mono ?_);rintro e w_z ⟨rfl,hh⟩
     replace hb:=bend hb hh))
 go_ret;exact ⟨rfl,hb⟩
theorem mlaws_z {m n:MV} {v u:AM} {px py qx qy rx ry:Rat} (M:MR w m v 6 6) (Nn:MR w n u 6 6) (p:PR w s_p A_p n_p c_p B_p m_p d_p t_p E_p i_p e_p F_p j_p f_p px py 6) (q:PR w s_q A_q n_q c_q B_q m_q d_q t_q E_q i_q e_q F_q j_q f_q qx qy 6) (r:PR w s_r A_r n_r c_r B_r m_r d_r t_r E_r i_r e_r F_r j_r f_r rx ry 6) (h1:((((m.a.n≤6∧m.a.m≤6)∧m.b.n≤6∧m.b.m≤6))∧(((m.c.n≤6∧m.c.m≤6)∧m.d.n≤6∧m.d.m≤6))∧(((m.e.n≤6∧m.e.m≤6)∧m.f.n≤6∧m.f.m≤6)))) (h2:((((n.a.n≤6∧n.a.m≤6)∧n.b.n≤6∧n.b.m≤6))∧(((n.c.n≤6∧n.c.m≤6)∧n.d.n≤6∧n.d.m≤6))∧(((n.e.n≤6∧n.e.m≤6)∧n.f.n≤6∧n.f.m≤6)))) (h3:(((n_p≤6∧m_p≤6)∧i_p≤6∧j_p≤6)∧((n_q≤6∧m_q≤6)∧i_q≤6∧j_q≤6)∧((n_r≤6∧m_r≤6)∧i_r≤6∧j_r≤6))) (h0:v.det=0) :
 Calls Tryz.prog 8 #[.agg #[.bool m.a.s,.slice m.a.A m.a.n m.a.c,.slice m.a.B m.a.m m.a.d,.bool m.b.s,.slice m.b.A m.b.n m.b.c,.slice m.b.B m.b.m m.b.d,.bool m.c.s,.slice m.c.A m.c.n m.c.c,.slice m.c.B m.c.m m.c.d,.bool m.d.s,.slice m.d.A m.d.n m.d.c,.slice m.d.B m.d.m m.d.d,.bool m.e.s,.slice m.e.A m.e.n m.e.c,.slice m.e.B m.e.m m.e.d,.bool m.f.s,.slice m.f.A m.f.n m.f.c,.slice m.f.B m.f.m m.f.d],.agg #[.bool n.a.s,.slice n.a.A n.a.n n.a.c,.slice n.a.B n.a.m n.a.d,.bool n.b.s,.slice n.b.A n.b.n n.b.c,.slice n.b.B n.b.m n.b.d,.bool n.c.s,.slice n.c.A n.c.n n.c.c,.slice n.c.B n.c.m n.c.d,.bool n.d.s,.slice n.d.A n.d.n n.d.c,.slice n.d.B n.d.m n.d.d,.bool n.e.s,.slice n.e.A n.e.n n.e.c,.slice n.e.B n.e.m n.e.d,.bool n.f.s,.slice n.f.A n.f.n n.f.c,.slice n.f.B n.f.m n.f.d],.agg #[.bool s_p,.slice A_p n_p c_p,.slice B_p m_p d_p,.bool t_p,.slice E_p i_p e_p,.slice F_p j_p f_p,.bool s_q,.slice A_q n_q c_q,.slice B_q m_q d_q,.bool t_q,.slice E_q i_q e_q,.slice F_q j_q f_q,.bool s_r,.slice A_r n_r c_r,.slice B_r m_r d_r,.bool t_r,.slice E_r i_r e_r,.slice F_r j_r f_r]] w fun e w'=>e=.returned (.bool true)∧Below w.heap.size w w':=by
 have HM:Hid (decide ((((m.a.n≤6∧m.a.m≤6)∧m.b.n≤6∧m.b.m≤6))∧(((m.c.n≤6∧m.c.m≤6)∧m.d.n≤6∧m.d.m≤6))∧(((m.e.n≤6∧m.e.m≤6)∧m.f.n≤6∧m.f.m≤6)))=true):=decide_eq_true h1
 have HN:Hid (decide ((((n.a.n≤6∧n.a.m≤6)∧n.b.n≤6∧n.b.m≤6))∧(((n.c.n≤6∧n.c.m≤6)∧n.d.n≤6∧n.d.m≤6))∧(((n.e.n≤6∧n.e.m≤6)∧n.f.n≤6∧n.f.m≤6)))=true):=decide_eq_true h2
 have HL:Hid (decide (((n_p≤6∧m_p≤6)∧i_p≤6∧j_p≤6)∧((n_q≤6∧m_q≤6)∧i_q≤6∧j_q≤6)∧((n_r≤6∧m_r≤6)∧i_r≤6∧j_r≤6))=true):=decide_eq_true h3
 have H1:Hid (decide ((v.mul u).ax px py=v.ax (u.ax px py) (u.ay px py)∧(v.mul u).ay px py=v.ay (u.ax px py) (u.ay px py))=true):=decide_eq_true ⟨by simp only [AM.mul,AM.ax,AM.ay,AM.dx,AM.dy];grind,by simp only [AM.mul,AM.ax,AM.ay,AM.dx,AM.dy];grind⟩
 have H5:Hid (cmpQ (((v.ax qx qy) - (v.ax px py))*((v.ay rx ry) - (v.ay px py)) - ((v.ay qx qy) - (v.ay px py))*((v.ax rx ry) - (v.ax px py))) (((qx - px)*(ry - py) - (qy - py)*(rx - px))*v.det)=0):=cmpQ_nul.2 (by simp only [AM.ax,AM.ay,AM.det];grind)
 have H6:Hid (cmpQ (v.mul u).det (v.det*u.det)=0):=cmpQ_nul.2 (by simp only [AM.mul,AM.det,AM.dx,AM.dy];grind)
 have H7:Hid (decide (v.ax (px+(qx - px)*Rat.divInt 1 3) (py+(qy - py)*Rat.divInt 1 3)=(v.ax px py)+((v.ax qx qy) - (v.ax px py))*Rat.divInt 1 3∧v.ay (px+(qx - px)*Rat.divInt 1 3) (py+(qy - py)*Rat.divInt 1 3)=(v.ay px py)+((v.ay qx qy) - (v.ay px py))*Rat.divInt 1 3)=true):=decide_eq_true ⟨by simp only [AM.ax];grind,by simp only [AM.ay];grind⟩
 have H0:=Lib.hid h0;clear h0 h1 h2 h3
 go_enter Tryz.func8,Tryz.ntmps8
 go_upto_region 1 with (fail)
 generalize hW:World.alloc _ _=W
 obtain ⟨hb,XA,XB,XL,hzW⟩:=mkbx40_16 hW;clear hW;replace M:=M.below hb;replace Nn:=Nn.below hb;replace p:=p.below hb;replace q:=q.below hb;replace r:=r.below hb
 have hat0:=at_0 (w.heap.size+1+1)
 have hat1:=at_1 (w.heap.size+1+1)
 have hat2:=at_2 (w.heap.size+1+1)
 have xal:=XA.ld
 go_upto_region 3 with (first
  | (go_at_call 35;(with_reducible refine (fairM true HM.out).mono ?_);rintro e w_z ⟨rfl,hh⟩
     (try replace M:=M.below hh);(try replace Nn:=Nn.below hh);(try replace p:=p.below hh);(try replace q:=q.below hh);(try replace r:=r.below hh);(try replace XA:=XA.below hh);(try replace XB:=XB.below hh);(try replace XL:=XL.below hh);replace hb:=bend hb hh;have xbl:=XB.ld)
  | (go_at_call 35;(with_reducible refine (fairM true HN.out).mono ?_);rintro e w_y ⟨rfl,hh⟩
     (try replace M:=M.below hh);(try replace Nn:=Nn.below hh);(try replace p:=p.below hh);(try replace q:=q.below hh);(try replace r:=r.below hh);(try replace XA:=XA.below hh);(try replace XB:=XB.below hh);(try replace XL:=XL.below hh);replace hb:=bend hb hh;obtain ⟨xl0,xl1,xl2,xl3,xl4,xl5,xl6,xl7,xl8,xl9,xl10,xl11,xl12,xl13,xl14,xl15,xl16,xl17⟩:=XL.all
     have ha:Below w_y.heap.size w_y (w_y.alloc (.cells #[.bool s_p,.slice A_p n_p c_p,.slice B_p m_p d_p,.bool t_p,.slice E_p i_p e_p,.slice F_p j_p f_p,.bool s_q,.slice A_q n_q c_q,.slice B_q m_q d_q,.bool t_q,.slice E_q i_q e_q,.slice F_q j_q f_q,.bool s_r,.slice A_r n_r c_r,.slice B_r m_r d_r,.bool t_r,.slice E_r i_r e_r,.slice F_r j_r f_r] 29)):=(Below.refl _ _).alloc (Nat.le_refl _) _
     have XS:=BL3.new' w_y (.bool s_p) (.slice A_p n_p c_p) (.slice B_p m_p d_p) (.bool t_p) (.slice E_p i_p e_p) (.slice F_p j_p f_p) (.bool s_q) (.slice A_q n_q c_q) (.slice B_q m_q d_q) (.bool t_q) (.slice E_q i_q e_q) (.slice F_q j_q f_q) (.bool s_r) (.slice A_r n_r c_r) (.slice B_r m_r d_r) (.bool t_r) (.slice E_r i_r e_r) (.slice F_r j_r f_r) _ rfl
     replace M:=M.below ha;replace Nn:=Nn.below ha;replace p:=p.below ha;replace q:=q.below ha;replace r:=r.below ha;replace XA:=XA.below ha;replace XB:=XB.below ha;replace XL:=XL.below ha;replace hb:=bend hb ha;clear ha)
  | (go_at_call 11;(with_reducible refine (fair3 XS true HL.out).mono ?_);rintro e w_x ⟨rfl,hh⟩
     (try replace M:=M.below hh);(try replace Nn:=Nn.below hh);(try replace p:=p.below hh);(try replace q:=q.below hh);(try replace r:=r.below hh);(try replace XA:=XA.below hh);(try replace XB:=XB.below hh);(try replace XL:=XL.below hh);replace hb:=bend hb hh;clear XS xl0 xl1 xl2 xl3 xl4 xl5 xl6 xl7 xl8 xl9 xl10 xl11 xl12 xl13 xl14 xl15 xl16 xl17))
 clear xal xbl
 replace M:=M.below (Below.refl _ _).drew
 replace Nn:=Nn.below (Below.refl _ _).drew
 replace p:=p.below (Below.refl _ _).drew
 replace q:=q.below (Below.refl _ _).drew
 replace r:=r.below (Below.refl _ _).drew
 replace XA:=XA.below (Below.refl _ _).drew
 replace XB:=XB.below (Below.refl _ _).drew
 replace XL:=XL.below (Below.refl _ _).drew
 replace hb:=hb.drew
 go_region_held3 (fun w'=>(LVM ⟨w.heap.size,0,none⟩).run Tryz.prog w'=.ok (.agg #[.bool m.a.s,.slice m.a.A m.a.n m.a.c,.slice m.a.B m.a.m m.a.d,.bool m.b.s,.slice m.b.A m.b.n m.b.c,.slice m.b.B m.b.m m.b.d,.bool m.c.s,.slice m.c.A m.c.n m.c.c,.slice m.c.B m.c.m m.c.d,.bool m.d.s,.slice m.d.A m.d.n m.d.c,.slice m.d.B m.d.m m.d.d,.bool m.e.s,.slice m.e.A m.e.n m.e.c,.slice m.e.B m.e.m m.e.d,.bool m.f.s,.slice m.f.A m.f.n m.f.c,.slice m.f.B m.f.m m.f.d]) w'∧(LVM ⟨w.heap.size+1,0,none⟩).run Tryz.prog w'=.ok (.agg #[.bool n.a.s,.slice n.a.A n.a.n n.a.c,.slice n.a.B n.a.m n.a.d,.bool n.b.s,.slice n.b.A n.b.n n.b.c,.slice n.b.B n.b.m n.b.d,.bool n.c.s,.slice n.c.A n.c.n n.c.c,.slice n.c.B n.c.m n.c.d,.bool n.d.s,.slice n.d.A n.d.n n.d.c,.slice n.d.B n.d.m n.d.d,.bool n.e.s,.slice n.e.A n.e.n n.e.c,.slice n.e.B n.e.m n.e.d,.bool n.f.s,.slice n.f.A n.f.n n.f.c,.slice n.f.B n.f.m n.f.d]) w'∧w'.cell? ⟨w.heap.size+1+1,0,none⟩=some (.bool s_p)∧w'.cell? ⟨w.heap.size+1+1,1,none⟩=some (.slice A_p n_p c_p)∧w'.cell? ⟨w.heap.size+1+1,2,none⟩=some (.slice B_p m_p d_p)∧w'.cell? ⟨w.heap.size+1+1,3,none⟩=some (.bool t_p)∧w'.cell? ⟨w.heap.size+1+1,4,none⟩=some (.slice E_p i_p e_p)∧w'.cell? ⟨w.heap.size+1+1,5,none⟩=some (.slice F_p j_p f_p))
  (first | with_reducible exact ⟨XA.ld,XB.ld,XL.c0,XL.c1,XL.c2,XL.c3,XL.c4,XL.c5⟩)
  (first
  | (go_at_call 45;(with_reducible refine (mmul_p M Nn (by decide) (by decide) (by decide) (by decide) (by decide) (by decide) (by decide) ).mono ?_);rintro e w_g ⟨g,rfl,gh,hh⟩
     (try replace M:=M.below hh);(try replace Nn:=Nn.below hh);(try replace p:=p.below hh);(try replace q:=q.below hh);(try replace r:=r.below hh);(try replace XA:=XA.below hh);(try replace XB:=XB.below hh);(try replace XL:=XL.below hh);replace hb:=bend hb hh)
  | (go_at_call 43;(with_reducible refine (mapply_p gh.mr p (by decide) (by decide) (by decide) (by decide) (by decide)).mono ?_);rintro e w_b1 ⟨s_b1,A_b1,n_b1,c_b1,B_b1,m_b1,d_b1,t_b1,E_b1,i_b1,e_b1,F_b1,j_b1,f_b1,rfl,b1,hh⟩
     (try replace M:=M.below hh);(try replace Nn:=Nn.below hh);(try replace p:=p.below hh);(try replace q:=q.below hh);(try replace r:=r.below hh);(try replace XA:=XA.below hh);(try replace XB:=XB.below hh);(try replace XL:=XL.below hh);replace hb:=bend hb hh;clear gh)
  | (go_at_call 43;(with_reducible refine (mapply_p Nn p (by decide) (by decide) (by decide) (by decide) (by decide)).mono ?_);rintro e w_b2 ⟨s_b2,A_b2,n_b2,c_b2,B_b2,m_b2,d_b2,t_b2,E_b2,i_b2,e_b2,F_b2,j_b2,f_b2,rfl,b2,hh⟩
     (try replace M:=M.below hh);(try replace Nn:=Nn.below hh);(try replace p:=p.below hh);(try replace q:=q.below hh);(try replace r:=r.below hh);(try replace XA:=XA.below hh);(try replace XB:=XB.below hh);(try replace XL:=XL.below hh);(try replace b1:=b1.below hh);replace hb:=bend hb hh)
  | (go_at_call 43;(with_reducible refine (mapply_p M b2.pr (by decide) (by decide) (by decide) (by decide) (by decide)).mono ?_);rintro e w_b3 ⟨s_b3,A_b3,n_b3,c_b3,B_b3,m_b3,d_b3,t_b3,E_b3,i_b3,e_b3,F_b3,j_b3,f_b3,rfl,b3,hh⟩
     (try replace M:=M.below hh);(try replace Nn:=Nn.below hh);(try replace p:=p.below hh);(try replace q:=q.below hh);(try replace r:=r.below hh);(try replace XA:=XA.below hh);(try replace XB:=XB.below hh);(try replace XL:=XL.below hh);(try replace b1:=b1.below hh);replace hb:=bend hb hh;clear b2)
  | (go_at_call 55;(with_reducible refine (psame_p b1.pr b3.pr (by decide) (by decide) (by decide) (by decide) true H1.out).mono ?_);rintro e w_z ⟨rfl,hh⟩
     (try replace M:=M.below hh);(try replace Nn:=Nn.below hh);(try replace p:=p.below hh);(try replace q:=q.below hh);(try replace r:=r.below hh);(try replace XA:=XA.below hh);(try replace XB:=XB.below hh);(try replace XL:=XL.below hh);replace hb:=bend hb hh;clear b1 b3))
 have xal:=XA.ld
 go_upto_region 9 with (first
  | (go_at_call 38;(with_reducible refine (minv_z M (by decide) (by decide) H0.out).mono ?_);rintro e w_z ⟨rfl,hh⟩
     (try replace M:=M.below hh);(try replace Nn:=Nn.below hh);(try replace p:=p.below hh);(try replace q:=q.below hh);(try replace r:=r.below hh);(try replace XA:=XA.below hh);(try replace XB:=XB.below hh);(try replace XL:=XL.below hh);replace hb:=bend hb hh
     have zs:=st_newM w_z (.bool false) (.slice none 0 0) (.slice none 0 0) (.bool false) (.slice none 0 0) (.slice none 0 0) (.bool false) (.slice none 0 0) (.slice none 0 0) (.bool false) (.slice none 0 0) (.slice none 0 0) (.bool false) (.slice none 0 0) (.slice none 0 0) (.bool false) (.slice none 0 0) (.slice none 0 0) (by simp [Value.oneCell'])))
 clear zs xal
 generalize hW:World.alloc _ _=W1
 obtain ⟨hh,XI,hzW1⟩:=mkbx36_13 hW;clear hW;(try replace M:=M.below hh);(try replace Nn:=Nn.below hh);(try replace p:=p.below hh);(try replace q:=q.below hh);(try replace r:=r.below hh);(try replace XA:=XA.below hh);(try replace XB:=XB.below hh);(try replace XL:=XL.below hh);replace hb:=bend hb hh;clear XI
 refine mla_region (by simp) rfl rfl XA XL M p q r ?_
 intro V1 w_a g_a s_a A_a n_a c_a B_a m_a d_a t_a E_a i_a e_a F_a j_a f_a g_b s_b A_b n_b c_b B_b m_b d_b t_b E_b i_b e_b F_b j_b f_b g_c s_c A_c n_c c_c B_c m_c d_c t_c E_c i_c e_c F_c j_c f_c a0 YA hg_a hva b0 YB hg_b hvb c0 YC hg_c hvc hn1 hn2 hn3 hh
 simp only [putAll,Act.put,List.setIfInBounds_toArray,List.set_cons_zero,List.set_cons_succ,hva,hvb,hvc]
 clear hva hvb hvc;replace M:=M.below hh;replace Nn:=Nn.below hh;replace p:=p.below hh;replace q:=q.below hh;replace r:=r.below hh;replace XA:=XA.below hh;replace XB:=XB.below hh;replace XL:=XL.below hh;replace hb:=bend hb hh
 go_upto_region 10 with (fail)
 refine mlx_region (by simp) rfl rfl rfl YA YB YC a0 b0 c0 (by decide) (by decide) ?_
 intro V2 w_d g_d s_d A_d n_d c_d B_d m_d d_d d0 YD hg_d hvd hh
 simp only [putAll,Act.put,List.setIfInBounds_toArray,List.set_cons_zero,List.set_cons_succ,hvd]
 clear hvd;replace M:=M.below hh;replace Nn:=Nn.below hh;replace p:=p.below hh;replace q:=q.below hh;replace r:=r.below hh;replace XA:=XA.below hh;replace XB:=XB.below hh;replace XL:=XL.below hh;replace a0:=a0.below hh;replace YA:=YA.below hh;replace b0:=b0.below hh;replace YB:=YB.below hh;replace c0:=c0.below hh;replace YC:=YC.below hh;replace hb:=bend hb hh;clear c0 YC
 go_upto_region 11 with (fail)
 refine mly_region (by simp) rfl XL p q r ?_
 intro V3 w_e g_e s_e A_e n_e c_e B_e m_e d_e e0 YE hg_e hve hh
 simp only [putAll,Act.put,List.setIfInBounds_toArray,List.set_cons_zero,List.set_cons_succ,hve]
 clear hve;replace M:=M.below hh;replace Nn:=Nn.below hh;replace p:=p.below hh;replace q:=q.below hh;replace r:=r.below hh;replace XA:=XA.below hh;replace XB:=XB.below hh;replace XL:=XL.below hh;replace a0:=a0.below hh;replace YA:=YA.below hh;replace b0:=b0.below hh;replace YB:=YB.below hh;replace d0:=d0.below hh;replace YD:=YD.below hh;replace hb:=bend hb hh
 go_upto_region 12 with (fail)
 replace M:=M.below (Below.refl _ _).drew
 replace Nn:=Nn.below (Below.refl _ _).drew
 replace p:=p.below (Below.refl _ _).drew
 replace q:=q.below (Below.refl _ _).drew
 replace r:=r.below (Below.refl _ _).drew
 replace XA:=XA.below (Below.refl _ _).drew
 replace XB:=XB.below (Below.refl _ _).drew
 replace XL:=XL.below (Below.refl _ _).drew
 replace a0:=a0.below (Below.refl _ _).drew
 replace YA:=YA.below (Below.refl _ _).drew
 replace b0:=b0.below (Below.refl _ _).drew
 replace YB:=YB.below (Below.refl _ _).drew
 replace d0:=d0.below (Below.refl _ _).drew
 replace YD:=YD.below (Below.refl _ _).drew
 replace e0:=e0.below (Below.refl _ _).drew
 replace YE:=YE.below (Below.refl _ _).drew
 replace hb:=hb.drew
 go_region_held3 (fun w'=>(LVM ⟨w.heap.size,0,none⟩).run Tryz.prog w'=.ok (.agg #[.bool m.a.s,.slice m.a.A m.a.n m.a.c,.slice m.a.B m.a.m m.a.d,.bool m.b.s,.slice m.b.A m.b.n m.b.c,.slice m.b.B m.b.m m.b.d,.bool m.c.s,.slice m.c.A m.c.n m.c.c,.slice m.c.B m.c.m m.c.d,.bool m.d.s,.slice m.d.A m.d.n m.d.c,.slice m.d.B m.d.m m.d.d,.bool m.e.s,.slice m.e.A m.e.n m.e.c,.slice m.e.B m.e.m m.e.d,.bool m.f.s,.slice m.f.A m.f.n m.f.c,.slice m.f.B m.f.m m.f.d]) w'∧(LVM ⟨w.heap.size+1,0,none⟩).run Tryz.prog w'=.ok (.agg #[.bool n.a.s,.slice n.a.A n.a.n n.a.c,.slice n.a.B n.a.m n.a.d,.bool n.b.s,.slice n.b.A n.b.n n.b.c,.slice n.b.B n.b.m n.b.d,.bool n.c.s,.slice n.c.A n.c.n n.c.c,.slice n.c.B n.c.m n.c.d,.bool n.d.s,.slice n.d.A n.d.n n.d.c,.slice n.d.B n.d.m n.d.d,.bool n.e.s,.slice n.e.A n.e.n n.e.c,.slice n.e.B n.e.m n.e.d,.bool n.f.s,.slice n.f.A n.f.n n.f.c,.slice n.f.B n.f.m n.f.d]) w'∧w'.cell? ⟨w.heap.size+1+1,0,none⟩=some (.bool s_p)∧w'.cell? ⟨w.heap.size+1+1,1,none⟩=some (.slice A_p n_p c_p)∧w'.cell? ⟨w.heap.size+1+1,2,none⟩=some (.slice B_p m_p d_p)∧w'.cell? ⟨w.heap.size+1+1,3,none⟩=some (.bool t_p)∧w'.cell? ⟨w.heap.size+1+1,4,none⟩=some (.slice E_p i_p e_p)∧w'.cell? ⟨w.heap.size+1+1,5,none⟩=some (.slice F_p j_p f_p)∧w'.cell? ⟨w.heap.size+1+1,6,none⟩=some (.bool s_q)∧w'.cell? ⟨w.heap.size+1+1,7,none⟩=some (.slice A_q n_q c_q)∧w'.cell? ⟨w.heap.size+1+1,8,none⟩=some (.slice B_q m_q d_q)∧w'.cell? ⟨w.heap.size+1+1,9,none⟩=some (.bool t_q)∧w'.cell? ⟨w.heap.size+1+1,10,none⟩=some (.slice E_q i_q e_q)∧w'.cell? ⟨w.heap.size+1+1,11,none⟩=some (.slice F_q j_q f_q)∧w'.cell? ⟨g_a,0,none⟩=some (.bool s_a)∧w'.cell? ⟨g_a,1,none⟩=some (.slice A_a n_a c_a)∧w'.cell? ⟨g_a,2,none⟩=some (.slice B_a m_a d_a)∧w'.cell? ⟨g_a,3,none⟩=some (.bool t_a)∧w'.cell? ⟨g_a,4,none⟩=some (.slice E_a i_a e_a)∧w'.cell? ⟨g_a,5,none⟩=some (.slice F_a j_a f_a)∧w'.cell? ⟨g_b,0,none⟩=some (.bool s_b)∧w'.cell? ⟨g_b,1,none⟩=some (.slice A_b n_b c_b)∧w'.cell? ⟨g_b,2,none⟩=some (.slice B_b m_b d_b)∧w'.cell? ⟨g_b,3,none⟩=some (.bool t_b)∧w'.cell? ⟨g_b,4,none⟩=some (.slice E_b i_b e_b)∧w'.cell? ⟨g_b,5,none⟩=some (.slice F_b j_b f_b)∧w'.cell? ⟨g_d,0,none⟩=some (.bool s_d)∧w'.cell? ⟨g_d,1,none⟩=some (.slice A_d n_d c_d)∧w'.cell? ⟨g_d,2,none⟩=some (.slice B_d m_d d_d)∧w'.cell? ⟨g_e,0,none⟩=some (.bool s_e)∧w'.cell? ⟨g_e,1,none⟩=some (.slice A_e n_e c_e)∧w'.cell? ⟨g_e,2,none⟩=some (.slice B_e m_e d_e))
  (first | with_reducible exact ⟨XA.ld,XB.ld,XL.c0,XL.c1,XL.c2,XL.c3,XL.c4,XL.c5,XL.c6,XL.c7,XL.c8,XL.c9,XL.c10,XL.c11,YA.c0,YA.c1,YA.c2,YA.c3,YA.c4,YA.c5,YB.c0,YB.c1,YB.c2,YB.c3,YB.c4,YB.c5,YD.c0,YD.c1,YD.c2,YE.c0,YE.c1,YE.c2⟩)
  (first
  | (go_at_call 47;(with_reducible refine (mdet_p M (by decide) (by decide)).mono ?_);rintro e w_f ⟨s_f,A_f,n_f,c_f,B_f,m_f,d_f,rfl,f,hh⟩
     (try replace M:=M.below hh);(try replace Nn:=Nn.below hh);(try replace p:=p.below hh);(try replace q:=q.below hh);(try replace r:=r.below hh);(try replace XA:=XA.below hh);(try replace XB:=XB.below hh);(try replace XL:=XL.below hh);(try replace a0:=a0.below hh);(try replace YA:=YA.below hh);(try replace b0:=b0.below hh);(try replace YB:=YB.below hh);(try replace d0:=d0.below hh);(try replace YD:=YD.below hh);(try replace e0:=e0.below hh);(try replace YE:=YE.below hh);(try replace s9:=s9.below hh);replace hb:=bend hb hh)
  | (go_at_call 58;(with_reducible refine (rmul_q e0.qr f.qr (by decide) (by decide) (.inl (by decide)) (by decide) (by decide)).mono ?_);rintro e w_g ⟨s_g,A_g,n_g,c_g,B_g,m_g,d_g,rfl,g,hh⟩
     (try replace M:=M.below hh);(try replace Nn:=Nn.below hh);(try replace p:=p.below hh);(try replace q:=q.below hh);(try replace r:=r.below hh);(try replace XA:=XA.below hh);(try replace XB:=XB.below hh);(try replace XL:=XL.below hh);(try replace a0:=a0.below hh);(try replace YA:=YA.below hh);(try replace b0:=b0.below hh);(try replace YB:=YB.below hh);(try replace d0:=d0.below hh);(try replace YD:=YD.below hh);(try replace e0:=e0.below hh);(try replace YE:=YE.below hh);replace hb:=bend hb hh;clear f)
  | (go_at_call 31;(with_reducible refine (rcmp_q d0.qr g.qr (by decide) (by decide) (.inl (by decide)) (by decide) (by decide)).mono ?_);rintro e w_z ⟨rfl,hh⟩
     rw [H5.out];clear g
     (try replace M:=M.below hh);(try replace Nn:=Nn.below hh);(try replace p:=p.below hh);(try replace q:=q.below hh);(try replace r:=r.below hh);(try replace XA:=XA.below hh);(try replace XB:=XB.below hh);(try replace XL:=XL.below hh);(try replace a0:=a0.below hh);(try replace YA:=YA.below hh);(try replace b0:=b0.below hh);(try replace YB:=YB.below hh);(try replace d0:=d0.below hh);(try replace YD:=YD.below hh);(try replace e0:=e0.below hh);(try replace YE:=YE.below hh);replace hb:=bend hb hh)
  | (go_at_call 45;(with_reducible refine (mmul_p M Nn (by decide) (by decide) (by decide) (by decide) (by decide) (by decide) (by decide) ).mono ?_);rintro e w_k ⟨k,rfl,kh,hh⟩
     (try replace M:=M.below hh);(try replace Nn:=Nn.below hh);(try replace p:=p.below hh);(try replace q:=q.below hh);(try replace r:=r.below hh);(try replace XA:=XA.below hh);(try replace XB:=XB.below hh);(try replace XL:=XL.below hh);(try replace a0:=a0.below hh);(try replace YA:=YA.below hh);(try replace b0:=b0.below hh);(try replace YB:=YB.below hh);(try replace d0:=d0.below hh);(try replace YD:=YD.below hh);(try replace e0:=e0.below hh);(try replace YE:=YE.below hh);replace hb:=bend hb hh)
  | (go_at_call 47;(with_reducible refine (mdet_p kh.mr (by decide) (by decide)).mono ?_);rintro e w_s9 ⟨s_s9,A_s9,n_s9,c_s9,B_s9,m_s9,d_s9,rfl,s9,hh⟩
     (try replace M:=M.below hh);(try replace Nn:=Nn.below hh);(try replace p:=p.below hh);(try replace q:=q.below hh);(try replace r:=r.below hh);(try replace XA:=XA.below hh);(try replace XB:=XB.below hh);(try replace XL:=XL.below hh);(try replace a0:=a0.below hh);(try replace YA:=YA.below hh);(try replace b0:=b0.below hh);(try replace YB:=YB.below hh);(try replace d0:=d0.below hh);(try replace YD:=YD.below hh);(try replace e0:=e0.below hh);(try replace YE:=YE.below hh);replace hb:=bend hb hh;clear kh)
  | (go_at_call 47;(with_reducible refine (mdet_p Nn (by decide) (by decide)).mono ?_);rintro e w_u9 ⟨s_u9,A_u9,n_u9,c_u9,B_u9,m_u9,d_u9,rfl,u9,hh⟩
     (try replace M:=M.below hh);(try replace Nn:=Nn.below hh);(try replace p:=p.below hh);(try replace q:=q.below hh);(try replace r:=r.below hh);(try replace XA:=XA.below hh);(try replace XB:=XB.below hh);(try replace XL:=XL.below hh);(try replace a0:=a0.below hh);(try replace YA:=YA.below hh);(try replace b0:=b0.below hh);(try replace YB:=YB.below hh);(try replace d0:=d0.below hh);(try replace YD:=YD.below hh);(try replace e0:=e0.below hh);(try replace YE:=YE.below hh);(try replace s9:=s9.below hh);(try replace f:=f.below hh);replace hb:=bend hb hh)
  | (go_at_call 58;(with_reducible refine (rmul_q f.qr u9.qr (by decide) (by decide) (.inl (by decide)) (by decide) (by decide)).mono ?_);rintro e w_x9 ⟨s_x9,A_x9,n_x9,c_x9,B_x9,m_x9,d_x9,rfl,x9,hh⟩
     (try replace M:=M.below hh);(try replace Nn:=Nn.below hh);(try replace p:=p.below hh);(try replace q:=q.below hh);(try replace r:=r.below hh);(try replace XA:=XA.below hh);(try replace XB:=XB.below hh);(try replace XL:=XL.below hh);(try replace a0:=a0.below hh);(try replace YA:=YA.below hh);(try replace b0:=b0.below hh);(try replace YB:=YB.below hh);(try replace d0:=d0.below hh);(try replace YD:=YD.below hh);(try replace e0:=e0.below hh);(try replace YE:=YE.below hh);(try replace s9:=s9.below hh);replace hb:=bend hb hh;clear f u9)
  | (go_at_call 31;(with_reducible refine (rcmp_q s9.qr x9.qr (by decide) (by decide) (.inl (by decide)) (by decide) (by decide)).mono ?_);rintro e w_z ⟨rfl,hh⟩
     rw [H6.out];clear s9 x9
     (try replace M:=M.below hh);(try replace Nn:=Nn.below hh);(try replace p:=p.below hh);(try replace q:=q.below hh);(try replace r:=r.below hh);(try replace XA:=XA.below hh);(try replace XB:=XB.below hh);(try replace XL:=XL.below hh);(try replace a0:=a0.below hh);(try replace YA:=YA.below hh);(try replace b0:=b0.below hh);(try replace YB:=YB.below hh);(try replace d0:=d0.below hh);(try replace YD:=YD.below hh);(try replace e0:=e0.below hh);(try replace YE:=YE.below hh);replace hb:=bend hb hh)
  | (go_at_call 60;(with_reducible refine (rof_q 1 3 (by decide) (by decide) (by decide) (by decide) (by decide) _).mono ?_);rintro e w_y9 ⟨s_y9,A_y9,n_y9,c_y9,B_y9,m_y9,d_y9,rfl,y9,hh⟩
     (try replace M:=M.below hh);(try replace Nn:=Nn.below hh);(try replace p:=p.below hh);(try replace q:=q.below hh);(try replace r:=r.below hh);(try replace XA:=XA.below hh);(try replace XB:=XB.below hh);(try replace XL:=XL.below hh);(try replace a0:=a0.below hh);(try replace YA:=YA.below hh);(try replace b0:=b0.below hh);(try replace YB:=YB.below hh);(try replace d0:=d0.below hh);(try replace YD:=YD.below hh);(try replace e0:=e0.below hh);(try replace YE:=YE.below hh);(try replace b7:=b7.below hh);replace hb:=bend hb hh)
  | (go_at_call 59;(with_reducible refine (pmix_p p q y9.qr (by decide) (by decide) (by decide) (by decide) (by decide) (by decide) ).mono ?_);rintro e w_b6 ⟨s_b6,A_b6,n_b6,c_b6,B_b6,m_b6,d_b6,t_b6,E_b6,i_b6,e_b6,F_b6,j_b6,f_b6,rfl,b6,hh⟩
     (try replace M:=M.below hh);(try replace Nn:=Nn.below hh);(try replace p:=p.below hh);(try replace q:=q.below hh);(try replace r:=r.below hh);(try replace XA:=XA.below hh);(try replace XB:=XB.below hh);(try replace XL:=XL.below hh);(try replace a0:=a0.below hh);(try replace YA:=YA.below hh);(try replace b0:=b0.below hh);(try replace YB:=YB.below hh);(try replace d0:=d0.below hh);(try replace YD:=YD.below hh);(try replace e0:=e0.below hh);(try replace YE:=YE.below hh);replace hb:=bend hb hh;clear y9)
  | (go_at_call 43;(with_reducible refine (mapply_p M b6.pr (by decide) (by decide) (by decide) (by decide) (by decide)).mono ?_);rintro e w_b7 ⟨s_b7,A_b7,n_b7,c_b7,B_b7,m_b7,d_b7,t_b7,E_b7,i_b7,e_b7,F_b7,j_b7,f_b7,rfl,b7,hh⟩
     (try replace M:=M.below hh);(try replace Nn:=Nn.below hh);(try replace p:=p.below hh);(try replace q:=q.below hh);(try replace r:=r.below hh);(try replace XA:=XA.below hh);(try replace XB:=XB.below hh);(try replace XL:=XL.below hh);(try replace a0:=a0.below hh);(try replace YA:=YA.below hh);(try replace b0:=b0.below hh);(try replace YB:=YB.below hh);(try replace d0:=d0.below hh);(try replace YD:=YD.below hh);(try replace e0:=e0.below hh);(try replace YE:=YE.below hh);replace hb:=bend hb hh;clear b6)
  | (go_at_call 59;(with_reducible refine (pmix_p a0.pr b0.pr y9.qr (by decide) (by decide) (by decide) (by decide) (by decide) (by decide) ).mono ?_);rintro e w_b8 ⟨s_b8,A_b8,n_b8,c_b8,B_b8,m_b8,d_b8,t_b8,E_b8,i_b8,e_b8,F_b8,j_b8,f_b8,rfl,b8,hh⟩
     (try replace M:=M.below hh);(try replace Nn:=Nn.below hh);(try replace p:=p.below hh);(try replace q:=q.below hh);(try replace r:=r.below hh);(try replace XA:=XA.below hh);(try replace XB:=XB.below hh);(try replace XL:=XL.below hh);(try replace a0:=a0.below hh);(try replace YA:=YA.below hh);(try replace b0:=b0.below hh);(try replace YB:=YB.below hh);(try replace d0:=d0.below hh);(try replace YD:=YD.below hh);(try replace e0:=e0.below hh);(try replace YE:=YE.below hh);(try replace b7:=b7.below hh);replace hb:=bend hb hh;clear y9)
  | (go_at_call 55;(with_reducible refine (psame_p b7.pr b8.pr (by decide) (by decide) (by decide) (by decide) true H7.out).mono ?_);rintro e w_z ⟨rfl,hh⟩
     (try replace M:=M.below hh);(try replace Nn:=Nn.below hh);(try replace p:=p.below hh);(try replace q:=q.below hh);(try replace r:=r.below hh);(try replace XA:=XA.below hh);(try replace XB:=XB.below hh);(try replace XL:=XL.below hh);(try replace a0:=a0.below hh);(try replace YA:=YA.below hh);(try replace b0:=b0.below hh);(try replace YB:=YB.below hh);(try replace d0:=d0.below hh);(try replace YD:=YD.below hh);(try replace e0:=e0.below hh);(try replace YE:=YE.below hh);replace hb:=bend hb hh;clear b7 b8)
  | (go_at_call 36;(with_reducible refine (wakes9_any _).mono ?_);rintro e w_z ⟨rfl,hh⟩
     (try replace XA:=XA.below hh);(try replace XB:=XB.below hh);(try replace XL:=XL.below hh);(try replace YA:=YA.below hh);(try replace YB:=YB.below hh);(try replace YD:=YD.below hh);(try replace YE:=YE.below hh);replace hb:=bend hb hh))
 go_wp2_with fail
 go_ret;exact ⟨rfl,hb⟩
theorem mlaws_p {m n:MV} {v u:AM} {px py qx qy rx ry:Rat} (M:MR w m v 6 6) (Nn:MR w n u 6 6) (p:PR w s_p A_p n_p c_p B_p m_p d_p t_p E_p i_p e_p F_p j_p f_p px py 6) (q:PR w s_q A_q n_q c_q B_q m_q d_q t_q E_q i_q e_q F_q j_q f_q qx qy 6) (r:PR w s_r A_r n_r c_r B_r m_r d_r t_r E_r i_r e_r F_r j_r f_r rx ry 6) (h1:((((m.a.n≤6∧m.a.m≤6)∧m.b.n≤6∧m.b.m≤6))∧(((m.c.n≤6∧m.c.m≤6)∧m.d.n≤6∧m.d.m≤6))∧(((m.e.n≤6∧m.e.m≤6)∧m.f.n≤6∧m.f.m≤6)))) (h2:((((n.a.n≤6∧n.a.m≤6)∧n.b.n≤6∧n.b.m≤6))∧(((n.c.n≤6∧n.c.m≤6)∧n.d.n≤6∧n.d.m≤6))∧(((n.e.n≤6∧n.e.m≤6)∧n.f.n≤6∧n.f.m≤6)))) (h3:(((n_p≤6∧m_p≤6)∧i_p≤6∧j_p≤6)∧((n_q≤6∧m_q≤6)∧i_q≤6∧j_q≤6)∧((n_r≤6∧m_r≤6)∧i_r≤6∧j_r≤6))) (h0:v.det ≠ 0) :
 Calls Tryz.prog 8 #[.agg #[.bool m.a.s,.slice m.a.A m.a.n m.a.c,.slice m.a.B m.a.m m.a.d,.bool m.b.s,.slice m.b.A m.b.n m.b.c,.slice m.b.B m.b.m m.b.d,.bool m.c.s,.slice m.c.A m.c.n m.c.c,.slice m.c.B m.c.m m.c.d,.bool m.d.s,.slice m.d.A m.d.n m.d.c,.slice m.d.B m.d.m m.d.d,.bool m.e.s,.slice m.e.A m.e.n m.e.c,.slice m.e.B m.e.m m.e.d,.bool m.f.s,.slice m.f.A m.f.n m.f.c,.slice m.f.B m.f.m m.f.d],.agg #[.bool n.a.s,.slice n.a.A n.a.n n.a.c,.slice n.a.B n.a.m n.a.d,.bool n.b.s,.slice n.b.A n.b.n n.b.c,.slice n.b.B n.b.m n.b.d,.bool n.c.s,.slice n.c.A n.c.n n.c.c,.slice n.c.B n.c.m n.c.d,.bool n.d.s,.slice n.d.A n.d.n n.d.c,.slice n.d.B n.d.m n.d.d,.bool n.e.s,.slice n.e.A n.e.n n.e.c,.slice n.e.B n.e.m n.e.d,.bool n.f.s,.slice n.f.A n.f.n n.f.c,.slice n.f.B n.f.m n.f.d],.agg #[.bool s_p,.slice A_p n_p c_p,.slice B_p m_p d_p,.bool t_p,.slice E_p i_p e_p,.slice F_p j_p f_p,.bool s_q,.slice A_q n_q c_q,.slice B_q m_q d_q,.bool t_q,.slice E_q i_q e_q,.slice F_q j_q f_q,.bool s_r,.slice A_r n_r c_r,.slice B_r m_r d_r,.bool t_r,.slice E_r i_r e_r,.slice F_r j_r f_r]] w fun e w'=>e=.returned (.bool true)∧Below w.heap.size w w':=by
 have HM:Hid (decide ((((m.a.n≤6∧m.a.m≤6)∧m.b.n≤6∧m.b.m≤6))∧(((m.c.n≤6∧m.c.m≤6)∧m.d.n≤6∧m.d.m≤6))∧(((m.e.n≤6∧m.e.m≤6)∧m.f.n≤6∧m.f.m≤6)))=true):=decide_eq_true h1
 have HN:Hid (decide ((((n.a.n≤6∧n.a.m≤6)∧n.b.n≤6∧n.b.m≤6))∧(((n.c.n≤6∧n.c.m≤6)∧n.d.n≤6∧n.d.m≤6))∧(((n.e.n≤6∧n.e.m≤6)∧n.f.n≤6∧n.f.m≤6)))=true):=decide_eq_true h2
 have HL:Hid (decide (((n_p≤6∧m_p≤6)∧i_p≤6∧j_p≤6)∧((n_q≤6∧m_q≤6)∧i_q≤6∧j_q≤6)∧((n_r≤6∧m_r≤6)∧i_r≤6∧j_r≤6))=true):=decide_eq_true h3
 have H1:Hid (decide ((v.mul u).ax px py=v.ax (u.ax px py) (u.ay px py)∧(v.mul u).ay px py=v.ay (u.ax px py) (u.ay px py))=true):=decide_eq_true ⟨by simp only [AM.mul,AM.ax,AM.ay,AM.dx,AM.dy];grind,by simp only [AM.mul,AM.ax,AM.ay,AM.dx,AM.dy];grind⟩
 have H5:Hid (cmpQ (((v.ax qx qy) - (v.ax px py))*((v.ay rx ry) - (v.ay px py)) - ((v.ay qx qy) - (v.ay px py))*((v.ax rx ry) - (v.ax px py))) (((qx - px)*(ry - py) - (qy - py)*(rx - px))*v.det)=0):=cmpQ_nul.2 (by simp only [AM.ax,AM.ay,AM.det];grind)
 have H6:Hid (cmpQ (v.mul u).det (v.det*u.det)=0):=cmpQ_nul.2 (by simp only [AM.mul,AM.det,AM.dx,AM.dy];grind)
 have H7:Hid (decide (v.ax (px+(qx - px)*Rat.divInt 1 3) (py+(qy - py)*Rat.divInt 1 3)=(v.ax px py)+((v.ax qx qy) - (v.ax px py))*Rat.divInt 1 3∧v.ay (px+(qx - px)*Rat.divInt 1 3) (py+(qy - py)*Rat.divInt 1 3)=(v.ay px py)+((v.ay qx qy) - (v.ay px py))*Rat.divInt 1 3)=true):=decide_eq_true ⟨by simp only [AM.ax];grind,by simp only [AM.ay];grind⟩
 have H2:=Lib.hid (inv_right h0)
 have H3:=Lib.hid (inv_left h0)
 have H4:Hid (decide (v.inv.ax (v.ax qx qy) (v.ay qx qy)=qx∧v.inv.ay (v.ax qx qy) (v.ay qx qy)=qy)=true):=decide_eq_true (inv_back h0 qx qy)
 have H0:=Lib.hid h0;clear h0 h1 h2 h3
 go_enter Tryz.func8,Tryz.ntmps8
 go_upto_region 1 with (fail)
 generalize hW:World.alloc _ _=W
 obtain ⟨hb,XA,XB,XL,hzW⟩:=mkbx40_16 hW;clear hW;replace M:=M.below hb;replace Nn:=Nn.below hb;replace p:=p.below hb;replace q:=q.below hb;replace r:=r.below hb
 have hat0:=at_0 (w.heap.size+1+1)
 have hat1:=at_1 (w.heap.size+1+1)
 have hat2:=at_2 (w.heap.size+1+1)
 have xal:=XA.ld
 go_upto_region 3 with (first
  | (go_at_call 35;(with_reducible refine (fairM true HM.out).mono ?_);rintro e w_z ⟨rfl,hh⟩
     (try replace M:=M.below hh);(try replace Nn:=Nn.below hh);(try replace p:=p.below hh);(try replace q:=q.below hh);(try replace r:=r.below hh);(try replace XA:=XA.below hh);(try replace XB:=XB.below hh);(try replace XL:=XL.below hh);replace hb:=bend hb hh;have xbl:=XB.ld)
  | (go_at_call 35;(with_reducible refine (fairM true HN.out).mono ?_);rintro e w_y ⟨rfl,hh⟩
     (try replace M:=M.below hh);(try replace Nn:=Nn.below hh);(try replace p:=p.below hh);(try replace q:=q.below hh);(try replace r:=r.below hh);(try replace XA:=XA.below hh);(try replace XB:=XB.below hh);(try replace XL:=XL.below hh);replace hb:=bend hb hh;obtain ⟨xl0,xl1,xl2,xl3,xl4,xl5,xl6,xl7,xl8,xl9,xl10,xl11,xl12,xl13,xl14,xl15,xl16,xl17⟩:=XL.all
     have ha:Below w_y.heap.size w_y (w_y.alloc (.cells #[.bool s_p,.slice A_p n_p c_p,.slice B_p m_p d_p,.bool t_p,.slice E_p i_p e_p,.slice F_p j_p f_p,.bool s_q,.slice A_q n_q c_q,.slice B_q m_q d_q,.bool t_q,.slice E_q i_q e_q,.slice F_q j_q f_q,.bool s_r,.slice A_r n_r c_r,.slice B_r m_r d_r,.bool t_r,.slice E_r i_r e_r,.slice F_r j_r f_r] 29)):=(Below.refl _ _).alloc (Nat.le_refl _) _
     have XS:=BL3.new' w_y (.bool s_p) (.slice A_p n_p c_p) (.slice B_p m_p d_p) (.bool t_p) (.slice E_p i_p e_p) (.slice F_p j_p f_p) (.bool s_q) (.slice A_q n_q c_q) (.slice B_q m_q d_q) (.bool t_q) (.slice E_q i_q e_q) (.slice F_q j_q f_q) (.bool s_r) (.slice A_r n_r c_r) (.slice B_r m_r d_r) (.bool t_r) (.slice E_r i_r e_r) (.slice F_r j_r f_r) _ rfl
     replace M:=M.below ha;replace Nn:=Nn.below ha;replace p:=p.below ha;replace q:=q.below ha;replace r:=r.below ha;replace XA:=XA.below ha;replace XB:=XB.below ha;replace XL:=XL.below ha;replace hb:=bend hb ha;clear ha)
  | (go_at_call 11;(with_reducible refine (fair3 XS true HL.out).mono ?_);rintro e w_x ⟨rfl,hh⟩
     (try replace M:=M.below hh);(try replace Nn:=Nn.below hh);(try replace p:=p.below hh);(try replace q:=q.below hh);(try replace r:=r.below hh);(try replace XA:=XA.below hh);(try replace XB:=XB.below hh);(try replace XL:=XL.below hh);replace hb:=bend hb hh;clear XS xl0 xl1 xl2 xl3 xl4 xl5 xl6 xl7 xl8 xl9 xl10 xl11 xl12 xl13 xl14 xl15 xl16 xl17))
 clear xal xbl
 replace M:=M.below (Below.refl _ _).drew
 replace Nn:=Nn.below (Below.refl _ _).drew
 replace p:=p.below (Below.refl _ _).drew
 replace q:=q.below (Below.refl _ _).drew
 replace r:=r.below (Below.refl _ _).drew
 replace XA:=XA.below (Below.refl _ _).drew
 replace XB:=XB.below (Below.refl _ _).drew
 replace XL:=XL.below (Below.refl _ _).drew
 replace hb:=hb.drew
 go_region_held3 (fun w'=>(LVM ⟨w.heap.size,0,none⟩).run Tryz.prog w'=.ok (.agg #[.bool m.a.s,.slice m.a.A m.a.n m.a.c,.slice m.a.B m.a.m m.a.d,.bool m.b.s,.slice m.b.A m.b.n m.b.c,.slice m.b.B m.b.m m.b.d,.bool m.c.s,.slice m.c.A m.c.n m.c.c,.slice m.c.B m.c.m m.c.d,.bool m.d.s,.slice m.d.A m.d.n m.d.c,.slice m.d.B m.d.m m.d.d,.bool m.e.s,.slice m.e.A m.e.n m.e.c,.slice m.e.B m.e.m m.e.d,.bool m.f.s,.slice m.f.A m.f.n m.f.c,.slice m.f.B m.f.m m.f.d]) w'∧(LVM ⟨w.heap.size+1,0,none⟩).run Tryz.prog w'=.ok (.agg #[.bool n.a.s,.slice n.a.A n.a.n n.a.c,.slice n.a.B n.a.m n.a.d,.bool n.b.s,.slice n.b.A n.b.n n.b.c,.slice n.b.B n.b.m n.b.d,.bool n.c.s,.slice n.c.A n.c.n n.c.c,.slice n.c.B n.c.m n.c.d,.bool n.d.s,.slice n.d.A n.d.n n.d.c,.slice n.d.B n.d.m n.d.d,.bool n.e.s,.slice n.e.A n.e.n n.e.c,.slice n.e.B n.e.m n.e.d,.bool n.f.s,.slice n.f.A n.f.n n.f.c,.slice n.f.B n.f.m n.f.d]) w'∧w'.cell? ⟨w.heap.size+1+1,0,none⟩=some (.bool s_p)∧w'.cell? ⟨w.heap.size+1+1,1,none⟩=some (.slice A_p n_p c_p)∧w'.cell? ⟨w.heap.size+1+1,2,none⟩=some (.slice B_p m_p d_p)∧w'.cell? ⟨w.heap.size+1+1,3,none⟩=some (.bool t_p)∧w'.cell? ⟨w.heap.size+1+1,4,none⟩=some (.slice E_p i_p e_p)∧w'.cell? ⟨w.heap.size+1+1,5,none⟩=some (.slice F_p j_p f_p))
  (first | with_reducible exact ⟨XA.ld,XB.ld,XL.c0,XL.c1,XL.c2,XL.c3,XL.c4,XL.c5⟩)
  (first
  | (go_at_call 45;(with_reducible refine (mmul_p M Nn (by decide) (by decide) (by decide) (by decide) (by decide) (by decide) (by decide) ).mono ?_);rintro e w_g ⟨g,rfl,gh,hh⟩
     (try replace M:=M.below hh);(try replace Nn:=Nn.below hh);(try replace p:=p.below hh);(try replace q:=q.below hh);(try replace r:=r.below hh);(try replace XA:=XA.below hh);(try replace XB:=XB.below hh);(try replace XL:=XL.below hh);replace hb:=bend hb hh)
  | (go_at_call 43;(with_reducible refine (mapply_p gh.mr p (by decide) (by decide) (by decide) (by decide) (by decide)).mono ?_);rintro e w_b1 ⟨s_b1,A_b1,n_b1,c_b1,B_b1,m_b1,d_b1,t_b1,E_b1,i_b1,e_b1,F_b1,j_b1,f_b1,rfl,b1,hh⟩
     (try replace M:=M.below hh);(try replace Nn:=Nn.below hh);(try replace p:=p.below hh);(try replace q:=q.below hh);(try replace r:=r.below hh);(try replace XA:=XA.below hh);(try replace XB:=XB.below hh);(try replace XL:=XL.below hh);replace hb:=bend hb hh;clear gh)
  | (go_at_call 43;(with_reducible refine (mapply_p Nn p (by decide) (by decide) (by decide) (by decide) (by decide)).mono ?_);rintro e w_b2 ⟨s_b2,A_b2,n_b2,c_b2,B_b2,m_b2,d_b2,t_b2,E_b2,i_b2,e_b2,F_b2,j_b2,f_b2,rfl,b2,hh⟩
     (try replace M:=M.below hh);(try replace Nn:=Nn.below hh);(try replace p:=p.below hh);(try replace q:=q.below hh);(try replace r:=r.below hh);(try replace XA:=XA.below hh);(try replace XB:=XB.below hh);(try replace XL:=XL.below hh);(try replace b1:=b1.below hh);replace hb:=bend hb hh)
  | (go_at_call 43;(with_reducible refine (mapply_p M b2.pr (by decide) (by decide) (by decide) (by decide) (by decide)).mono ?_);rintro e w_b3 ⟨s_b3,A_b3,n_b3,c_b3,B_b3,m_b3,d_b3,t_b3,E_b3,i_b3,e_b3,F_b3,j_b3,f_b3,rfl,b3,hh⟩
     (try replace M:=M.below hh);(try replace Nn:=Nn.below hh);(try replace p:=p.below hh);(try replace q:=q.below hh);(try replace r:=r.below hh);(try replace XA:=XA.below hh);(try replace XB:=XB.below hh);(try replace XL:=XL.below hh);(try replace b1:=b1.below hh);replace hb:=bend hb hh;clear b2)
  | (go_at_call 55;(with_reducible refine (psame_p b1.pr b3.pr (by decide) (by decide) (by decide) (by decide) true H1.out).mono ?_);rintro e w_z ⟨rfl,hh⟩
     (try replace M:=M.below hh);(try replace Nn:=Nn.below hh);(try replace p:=p.below hh);(try replace q:=q.below hh);(try replace r:=r.below hh);(try replace XA:=XA.below hh);(try replace XB:=XB.below hh);(try replace XL:=XL.below hh);replace hb:=bend hb hh;clear b1 b3))
 have xal:=XA.ld
 go_upto_region 7 with (first
  | (go_at_call 38;(with_reducible refine (minv_p M (by decide) (by decide) (by decide) (by decide) H0.out).mono ?_);rintro e w_i ⟨i,rfl,ih,hh⟩
     (try replace M:=M.below hh);(try replace Nn:=Nn.below hh);(try replace p:=p.below hh);(try replace q:=q.below hh);(try replace r:=r.below hh);(try replace XA:=XA.below hh);(try replace XB:=XB.below hh);(try replace XL:=XL.below hh);replace hb:=bend hb hh
     have zs:=st_newM w_i (.bool i.a.s) (.slice i.a.A i.a.n i.a.c) (.slice i.a.B i.a.m i.a.d) (.bool i.b.s) (.slice i.b.A i.b.n i.b.c) (.slice i.b.B i.b.m i.b.d) (.bool i.c.s) (.slice i.c.A i.c.n i.c.c) (.slice i.c.B i.c.m i.c.d) (.bool i.d.s) (.slice i.d.A i.d.n i.d.c) (.slice i.d.B i.d.m i.d.d) (.bool i.e.s) (.slice i.e.A i.e.n i.e.c) (.slice i.e.B i.e.m i.e.d) (.bool i.f.s) (.slice i.f.A i.f.n i.f.c) (.slice i.f.B i.f.m i.f.d) (by simp [Value.oneCell'])))
 clear zs xal
 generalize hW:World.alloc _ _=W1
 obtain ⟨hh,XI,hzW1⟩:=mkbx36_13 hW;clear hW;(try replace M:=M.below hh);(try replace Nn:=Nn.below hh);(try replace p:=p.below hh);(try replace q:=q.below hh);(try replace r:=r.below hh);(try replace XA:=XA.below hh);(try replace XB:=XB.below hh);(try replace XL:=XL.below hh);(try replace ih:=ih.below hh);replace hb:=bend hb hh
 replace M:=M.below (Below.refl _ _).drew
 replace Nn:=Nn.below (Below.refl _ _).drew
 replace p:=p.below (Below.refl _ _).drew
 replace q:=q.below (Below.refl _ _).drew
 replace r:=r.below (Below.refl _ _).drew
 replace XA:=XA.below (Below.refl _ _).drew
 replace XB:=XB.below (Below.refl _ _).drew
 replace XL:=XL.below (Below.refl _ _).drew
 replace ih:=ih.below (Below.refl _ _).drew
 replace XI:=XI.below (Below.refl _ _).drew
 replace hb:=hb.drew
 go_region_held3 (fun w'=>(LVM ⟨w.heap.size,0,none⟩).run Tryz.prog w'=.ok (.agg #[.bool m.a.s,.slice m.a.A m.a.n m.a.c,.slice m.a.B m.a.m m.a.d,.bool m.b.s,.slice m.b.A m.b.n m.b.c,.slice m.b.B m.b.m m.b.d,.bool m.c.s,.slice m.c.A m.c.n m.c.c,.slice m.c.B m.c.m m.c.d,.bool m.d.s,.slice m.d.A m.d.n m.d.c,.slice m.d.B m.d.m m.d.d,.bool m.e.s,.slice m.e.A m.e.n m.e.c,.slice m.e.B m.e.m m.e.d,.bool m.f.s,.slice m.f.A m.f.n m.f.c,.slice m.f.B m.f.m m.f.d]) w'∧(LVM ⟨w_i.heap.size,0,none⟩).run Tryz.prog w'=.ok (.agg #[.bool i.a.s,.slice i.a.A i.a.n i.a.c,.slice i.a.B i.a.m i.a.d,.bool i.b.s,.slice i.b.A i.b.n i.b.c,.slice i.b.B i.b.m i.b.d,.bool i.c.s,.slice i.c.A i.c.n i.c.c,.slice i.c.B i.c.m i.c.d,.bool i.d.s,.slice i.d.A i.d.n i.d.c,.slice i.d.B i.d.m i.d.d,.bool i.e.s,.slice i.e.A i.e.n i.e.c,.slice i.e.B i.e.m i.e.d,.bool i.f.s,.slice i.f.A i.f.n i.f.c,.slice i.f.B i.f.m i.f.d]) w'∧w'.cell? ⟨w.heap.size+1+1,6,none⟩=some (.bool s_q)∧w'.cell? ⟨w.heap.size+1+1,7,none⟩=some (.slice A_q n_q c_q)∧w'.cell? ⟨w.heap.size+1+1,8,none⟩=some (.slice B_q m_q d_q)∧w'.cell? ⟨w.heap.size+1+1,9,none⟩=some (.bool t_q)∧w'.cell? ⟨w.heap.size+1+1,10,none⟩=some (.slice E_q i_q e_q)∧w'.cell? ⟨w.heap.size+1+1,11,none⟩=some (.slice F_q j_q f_q))
  (first | with_reducible exact ⟨XA.ld,XI.ld,XL.c6,XL.c7,XL.c8,XL.c9,XL.c10,XL.c11⟩)
  (first
  | (go_at_call 45;(with_reducible refine (mmul_p M ih.mr (by decide) (by decide) (by decide) (by decide) (by decide) (by decide) (by decide) ).mono ?_);rintro e w_g ⟨g,rfl,gh,hh⟩
     (try replace M:=M.below hh);(try replace Nn:=Nn.below hh);(try replace p:=p.below hh);(try replace q:=q.below hh);(try replace r:=r.below hh);(try replace XA:=XA.below hh);(try replace XB:=XB.below hh);(try replace XL:=XL.below hh);(try replace ih:=ih.below hh);(try replace XI:=XI.below hh);replace hb:=bend hb hh)
  | (go_at_call 53;(with_reducible refine (mone_p _).mono ?_);rintro e w_o ⟨o,rfl,oh,hh⟩
     (try replace M:=M.below hh);(try replace Nn:=Nn.below hh);(try replace p:=p.below hh);(try replace q:=q.below hh);(try replace r:=r.below hh);(try replace XA:=XA.below hh);(try replace XB:=XB.below hh);(try replace XL:=XL.below hh);(try replace ih:=ih.below hh);(try replace XI:=XI.below hh);(try replace gh:=gh.below hh);(try replace jh:=jh.below hh);replace hb:=bend hb hh)
  | (go_at_call 48;(with_reducible refine (msame_p gh.mr oh.mr (by decide) (by decide) (by decide) (by decide) (by decide) (by decide) (by decide) (by decide) true H2.out).mono ?_);rintro e w_z ⟨rfl,hh⟩
     (try replace M:=M.below hh);(try replace Nn:=Nn.below hh);(try replace p:=p.below hh);(try replace q:=q.below hh);(try replace r:=r.below hh);(try replace XA:=XA.below hh);(try replace XB:=XB.below hh);(try replace XL:=XL.below hh);(try replace ih:=ih.below hh);(try replace XI:=XI.below hh);replace hb:=bend hb hh;clear gh oh)
  | (go_at_call 45;(with_reducible refine (mmul_p ih.mr M (by decide) (by decide) (by decide) (by decide) (by decide) (by decide) (by decide) ).mono ?_);rintro e w_j ⟨j,rfl,jh,hh⟩
     (try replace M:=M.below hh);(try replace Nn:=Nn.below hh);(try replace p:=p.below hh);(try replace q:=q.below hh);(try replace r:=r.below hh);(try replace XA:=XA.below hh);(try replace XB:=XB.below hh);(try replace XL:=XL.below hh);(try replace ih:=ih.below hh);(try replace XI:=XI.below hh);replace hb:=bend hb hh)
  | (go_at_call 48;(with_reducible refine (msame_p jh.mr oh.mr (by decide) (by decide) (by decide) (by decide) (by decide) (by decide) (by decide) (by decide) true H3.out).mono ?_);rintro e w_z ⟨rfl,hh⟩
     (try replace M:=M.below hh);(try replace Nn:=Nn.below hh);(try replace p:=p.below hh);(try replace q:=q.below hh);(try replace r:=r.below hh);(try replace XA:=XA.below hh);(try replace XB:=XB.below hh);(try replace XL:=XL.below hh);(try replace ih:=ih.below hh);(try replace XI:=XI.below hh);replace hb:=bend hb hh;clear jh oh)
  | (go_at_call 43;(with_reducible refine (mapply_p M q (by decide) (by decide) (by decide) (by decide) (by decide)).mono ?_);rintro e w_b4 ⟨s_b4,A_b4,n_b4,c_b4,B_b4,m_b4,d_b4,t_b4,E_b4,i_b4,e_b4,F_b4,j_b4,f_b4,rfl,b4,hh⟩
     (try replace M:=M.below hh);(try replace Nn:=Nn.below hh);(try replace p:=p.below hh);(try replace q:=q.below hh);(try replace r:=r.below hh);(try replace XA:=XA.below hh);(try replace XB:=XB.below hh);(try replace XL:=XL.below hh);(try replace ih:=ih.below hh);(try replace XI:=XI.below hh);replace hb:=bend hb hh)
  | (go_at_call 43;(with_reducible refine (mapply_p ih.mr b4.pr (by decide) (by decide) (by decide) (by decide) (by decide)).mono ?_);rintro e w_b5 ⟨s_b5,A_b5,n_b5,c_b5,B_b5,m_b5,d_b5,t_b5,E_b5,i_b5,e_b5,F_b5,j_b5,f_b5,rfl,b5,hh⟩
     (try replace M:=M.below hh);(try replace Nn:=Nn.below hh);(try replace p:=p.below hh);(try replace q:=q.below hh);(try replace r:=r.below hh);(try replace XA:=XA.below hh);(try replace XB:=XB.below hh);(try replace XL:=XL.below hh);(try replace ih:=ih.below hh);(try replace XI:=XI.below hh);replace hb:=bend hb hh;clear b4)
  | (go_at_call 55;(with_reducible refine (psame_p b5.pr q (by decide) (by decide) (by decide) (by decide) true H4.out).mono ?_);rintro e w_z ⟨rfl,hh⟩
     (try replace M:=M.below hh);(try replace Nn:=Nn.below hh);(try replace p:=p.below hh);(try replace q:=q.below hh);(try replace r:=r.below hh);(try replace XA:=XA.below hh);(try replace XB:=XB.below hh);(try replace XL:=XL.below hh);(try replace ih:=ih.below hh);(try replace XI:=XI.below hh);replace hb:=bend hb hh;clear b5))
 clear ih XI
 go_upto_region 9 with (fail)
 refine mla_region (by simp) rfl rfl XA XL M p q r ?_
 intro V1 w_a g_a s_a A_a n_a c_a B_a m_a d_a t_a E_a i_a e_a F_a j_a f_a g_b s_b A_b n_b c_b B_b m_b d_b t_b E_b i_b e_b F_b j_b f_b g_c s_c A_c n_c c_c B_c m_c d_c t_c E_c i_c e_c F_c j_c f_c a0 YA hg_a hva b0 YB hg_b hvb c0 YC hg_c hvc hn1 hn2 hn3 hh
 simp only [putAll,Act.put,List.setIfInBounds_toArray,List.set_cons_zero,List.set_cons_succ,hva,hvb,hvc]
 clear hva hvb hvc;replace M:=M.below hh;replace Nn:=Nn.below hh;replace p:=p.below hh;replace q:=q.below hh;replace r:=r.below hh;replace XA:=XA.below hh;replace XB:=XB.below hh;replace XL:=XL.below hh;replace hb:=bend hb hh
 go_upto_region 10 with (fail)
 refine mlx_region (by simp) rfl rfl rfl YA YB YC a0 b0 c0 (by decide) (by decide) ?_
 intro V2 w_d g_d s_d A_d n_d c_d B_d m_d d_d d0 YD hg_d hvd hh
 simp only [putAll,Act.put,List.setIfInBounds_toArray,List.set_cons_zero,List.set_cons_succ,hvd]
 clear hvd;replace M:=M.below hh;replace Nn:=Nn.below hh;replace p:=p.below hh;replace q:=q.below hh;replace r:=r.below hh;replace XA:=XA.below hh;replace XB:=XB.below hh;replace XL:=XL.below hh;replace a0:=a0.below hh;replace YA:=YA.below hh;replace b0:=b0.below hh;replace YB:=YB.below hh;replace c0:=c0.below hh;replace YC:=YC.below hh;replace hb:=bend hb hh;clear c0 YC
 go_upto_region 11 with (fail)
 refine mly_region (by simp) rfl XL p q r ?_
 intro V3 w_e g_e s_e A_e n_e c_e B_e m_e d_e e0 YE hg_e hve hh
 simp only [putAll,Act.put,List.setIfInBounds_toArray,List.set_cons_zero,List.set_cons_succ,hve]
 clear hve;replace M:=M.below hh;replace Nn:=Nn.below hh;replace p:=p.below hh;replace q:=q.below hh;replace r:=r.below hh;replace XA:=XA.below hh;replace XB:=XB.below hh;replace XL:=XL.below hh;replace a0:=a0.below hh;replace YA:=YA.below hh;replace b0:=b0.below hh;replace YB:=YB.below hh;replace d0:=d0.below hh;replace YD:=YD.below hh;replace hb:=bend hb hh
 go_upto_region 12 with (fail)
 replace M:=M.below (Below.refl _ _).drew
 replace Nn:=Nn.below (Below.refl _ _).drew
 replace p:=p.below (Below.refl _ _).drew
 replace q:=q.below (Below.refl _ _).drew
 replace r:=r.below (Below.refl _ _).drew
 replace XA:=XA.below (Below.refl _ _).drew
 replace XB:=XB.below (Below.refl _ _).drew
 replace XL:=XL.below (Below.refl _ _).drew
 replace a0:=a0.below (Below.refl _ _).drew
 replace YA:=YA.below (Below.refl _ _).drew
 replace b0:=b0.below (Below.refl _ _).drew
 replace YB:=YB.below (Below.refl _ _).drew
 replace d0:=d0.below (Below.refl _ _).drew
 replace YD:=YD.below (Below.refl _ _).drew
 replace e0:=e0.below (Below.refl _ _).drew
 replace YE:=YE.below (Below.refl _ _).drew
 replace hb:=hb.drew
 go_region_held3 (fun w'=>(LVM ⟨w.heap.size,0,none⟩).run Tryz.prog w'=.ok (.agg #[.bool m.a.s,.slice m.a.A m.a.n m.a.c,.slice m.a.B m.a.m m.a.d,.bool m.b.s,.slice m.b.A m.b.n m.b.c,.slice m.b.B m.b.m m.b.d,.bool m.c.s,.slice m.c.A m.c.n m.c.c,.slice m.c.B m.c.m m.c.d,.bool m.d.s,.slice m.d.A m.d.n m.d.c,.slice m.d.B m.d.m m.d.d,.bool m.e.s,.slice m.e.A m.e.n m.e.c,.slice m.e.B m.e.m m.e.d,.bool m.f.s,.slice m.f.A m.f.n m.f.c,.slice m.f.B m.f.m m.f.d]) w'∧(LVM ⟨w.heap.size+1,0,none⟩).run Tryz.prog w'=.ok (.agg #[.bool n.a.s,.slice n.a.A n.a.n n.a.c,.slice n.a.B n.a.m n.a.d,.bool n.b.s,.slice n.b.A n.b.n n.b.c,.slice n.b.B n.b.m n.b.d,.bool n.c.s,.slice n.c.A n.c.n n.c.c,.slice n.c.B n.c.m n.c.d,.bool n.d.s,.slice n.d.A n.d.n n.d.c,.slice n.d.B n.d.m n.d.d,.bool n.e.s,.slice n.e.A n.e.n n.e.c,.slice n.e.B n.e.m n.e.d,.bool n.f.s,.slice n.f.A n.f.n n.f.c,.slice n.f.B n.f.m n.f.d]) w'∧w'.cell? ⟨w.heap.size+1+1,0,none⟩=some (.bool s_p)∧w'.cell? ⟨w.heap.size+1+1,1,none⟩=some (.slice A_p n_p c_p)∧w'.cell? ⟨w.heap.size+1+1,2,none⟩=some (.slice B_p m_p d_p)∧w'.cell? ⟨w.heap.size+1+1,3,none⟩=some (.bool t_p)∧w'.cell? ⟨w.heap.size+1+1,4,none⟩=some (.slice E_p i_p e_p)∧w'.cell? ⟨w.heap.size+1+1,5,none⟩=some (.slice F_p j_p f_p)∧w'.cell? ⟨w.heap.size+1+1,6,none⟩=some (.bool s_q)∧w'.cell? ⟨w.heap.size+1+1,7,none⟩=some (.slice A_q n_q c_q)∧w'.cell? ⟨w.heap.size+1+1,8,none⟩=some (.slice B_q m_q d_q)∧w'.cell? ⟨w.heap.size+1+1,9,none⟩=some (.bool t_q)∧w'.cell? ⟨w.heap.size+1+1,10,none⟩=some (.slice E_q i_q e_q)∧w'.cell? ⟨w.heap.size+1+1,11,none⟩=some (.slice F_q j_q f_q)∧w'.cell? ⟨g_a,0,none⟩=some (.bool s_a)∧w'.cell? ⟨g_a,1,none⟩=some (.slice A_a n_a c_a)∧w'.cell? ⟨g_a,2,none⟩=some (.slice B_a m_a d_a)∧w'.cell? ⟨g_a,3,none⟩=some (.bool t_a)∧w'.cell? ⟨g_a,4,none⟩=some (.slice E_a i_a e_a)∧w'.cell? ⟨g_a,5,none⟩=some (.slice F_a j_a f_a)∧w'.cell? ⟨g_b,0,none⟩=some (.bool s_b)∧w'.cell? ⟨g_b,1,none⟩=some (.slice A_b n_b c_b)∧w'.cell? ⟨g_b,2,none⟩=some (.slice B_b m_b d_b)∧w'.cell? ⟨g_b,3,none⟩=some (.bool t_b)∧w'.cell? ⟨g_b,4,none⟩=some (.slice E_b i_b e_b)∧w'.cell? ⟨g_b,5,none⟩=some (.slice F_b j_b f_b)∧w'.cell? ⟨g_d,0,none⟩=some (.bool s_d)∧w'.cell? ⟨g_d,1,none⟩=some (.slice A_d n_d c_d)∧w'.cell? ⟨g_d,2,none⟩=some (.slice B_d m_d d_d)∧w'.cell? ⟨g_e,0,none⟩=some (.bool s_e)∧w'.cell? ⟨g_e,1,none⟩=some (.slice A_e n_e c_e)∧w'.cell? ⟨g_e,2,none⟩=some (.slice B_e m_e d_e))
  (first | with_reducible exact ⟨XA.ld,XB.ld,XL.c0,XL.c1,XL.c2,XL.c3,XL.c4,XL.c5,XL.c6,XL.c7,XL.c8,XL.c9,XL.c10,XL.c11,YA.c0,YA.c1,YA.c2,YA.c3,YA.c4,YA.c5,YB.c0,YB.c1,YB.c2,YB.c3,YB.c4,YB.c5,YD.c0,YD.c1,YD.c2,YE.c0,YE.c1,YE.c2⟩)
  (first
  | (go_at_call 47;(with_reducible refine (mdet_p M (by decide) (by decide)).mono ?_);rintro e w_f ⟨s_f,A_f,n_f,c_f,B_f,m_f,d_f,rfl,f,hh⟩
     (try replace M:=M.below hh);(try replace Nn:=Nn.below hh);(try replace p:=p.below hh);(try replace q:=q.below hh);(try replace r:=r.below hh);(try replace XA:=XA.below hh);(try replace XB:=XB.below hh);(try replace XL:=XL.below hh);(try replace a0:=a0.below hh);(try replace YA:=YA.below hh);(try replace b0:=b0.below hh);(try replace YB:=YB.below hh);(try replace d0:=d0.below hh);(try replace YD:=YD.below hh);(try replace e0:=e0.below hh);(try replace YE:=YE.below hh);(try replace s9:=s9.below hh);replace hb:=bend hb hh)
  | (go_at_call 58;(with_reducible refine (rmul_q e0.qr f.qr (by decide) (by decide) (.inl (by decide)) (by decide) (by decide)).mono ?_);rintro e w_g ⟨s_g,A_g,n_g,c_g,B_g,m_g,d_g,rfl,g,hh⟩
     (try replace M:=M.below hh);(try replace Nn:=Nn.below hh);(try replace p:=p.below hh);(try replace q:=q.below hh);(try replace r:=r.below hh);(try replace XA:=XA.below hh);(try replace XB:=XB.below hh);(try replace XL:=XL.below hh);(try replace a0:=a0.below hh);(try replace YA:=YA.below hh);(try replace b0:=b0.below hh);(try replace YB:=YB.below hh);(try replace d0:=d0.below hh);(try replace YD:=YD.below hh);(try replace e0:=e0.below hh);(try replace YE:=YE.below hh);replace hb:=bend hb hh;clear f)
  | (go_at_call 31;(with_reducible refine (rcmp_q d0.qr g.qr (by decide) (by decide) (.inl (by decide)) (by decide) (by decide)).mono ?_);rintro e w_z ⟨rfl,hh⟩
     rw [H5.out];clear g
     (try replace M:=M.below hh);(try replace Nn:=Nn.below hh);(try replace p:=p.below hh);(try replace q:=q.below hh);(try replace r:=r.below hh);(try replace XA:=XA.below hh);(try replace XB:=XB.below hh);(try replace XL:=XL.below hh);(try replace a0:=a0.below hh);(try replace YA:=YA.below hh);(try replace b0:=b0.below hh);(try replace YB:=YB.below hh);(try replace d0:=d0.below hh);(try replace YD:=YD.below hh);(try replace e0:=e0.below hh);(try replace YE:=YE.below hh);replace hb:=bend hb hh)
  | (go_at_call 45;(with_reducible refine (mmul_p M Nn (by decide) (by decide) (by decide) (by decide) (by decide) (by decide) (by decide) ).mono ?_);rintro e w_k ⟨k,rfl,kh,hh⟩
     (try replace M:=M.below hh);(try replace Nn:=Nn.below hh);(try replace p:=p.below hh);(try replace q:=q.below hh);(try replace r:=r.below hh);(try replace XA:=XA.below hh);(try replace XB:=XB.below hh);(try replace XL:=XL.below hh);(try replace a0:=a0.below hh);(try replace YA:=YA.below hh);(try replace b0:=b0.below hh);(try replace YB:=YB.below hh);(try replace d0:=d0.below hh);(try replace YD:=YD.below hh);(try replace e0:=e0.below hh);(try replace YE:=YE.below hh);replace hb:=bend hb hh)
  | (go_at_call 47;(with_reducible refine (mdet_p kh.mr (by decide) (by decide)).mono ?_);rintro e w_s9 ⟨s_s9,A_s9,n_s9,c_s9,B_s9,m_s9,d_s9,rfl,s9,hh⟩
     (try replace M:=M.below hh);(try replace Nn:=Nn.below hh);(try replace p:=p.below hh);(try replace q:=q.below hh);(try replace r:=r.below hh);(try replace XA:=XA.below hh);(try replace XB:=XB.below hh);(try replace XL:=XL.below hh);(try replace a0:=a0.below hh);(try replace YA:=YA.below hh);(try replace b0:=b0.below hh);(try replace YB:=YB.below hh);(try replace d0:=d0.below hh);(try replace YD:=YD.below hh);(try replace e0:=e0.below hh);(try replace YE:=YE.below hh);replace hb:=bend hb hh;clear kh)
  | (go_at_call 47;(with_reducible refine (mdet_p Nn (by decide) (by decide)).mono ?_);rintro e w_u9 ⟨s_u9,A_u9,n_u9,c_u9,B_u9,m_u9,d_u9,rfl,u9,hh⟩
     (try replace M:=M.below hh);(try replace Nn:=Nn.below hh);(try replace p:=p.below hh);(try replace q:=q.below hh);(try replace r:=r.below hh);(try replace XA:=XA.below hh);(try replace XB:=XB.below hh);(try replace XL:=XL.below hh);(try replace a0:=a0.below hh);(try replace YA:=YA.below hh);(try replace b0:=b0.below hh);(try replace YB:=YB.below hh);(try replace d0:=d0.below hh);(try replace YD:=YD.below hh);(try replace e0:=e0.below hh);(try replace YE:=YE.below hh);(try replace s9:=s9.below hh);(try replace f:=f.below hh);replace hb:=bend hb hh)
  | (go_at_call 58;(with_reducible refine (rmul_q f.qr u9.qr (by decide) (by decide) (.inl (by decide)) (by decide) (by decide)).mono ?_);rintro e w_x9 ⟨s_x9,A_x9,n_x9,c_x9,B_x9,m_x9,d_x9,rfl,x9,hh⟩
     (try replace M:=M.below hh);(try replace Nn:=Nn.below hh);(try replace p:=p.below hh);(try replace q:=q.below hh);(try replace r:=r.below hh);(try replace XA:=XA.below hh);(try replace XB:=XB.below hh);(try replace XL:=XL.below hh);(try replace a0:=a0.below hh);(try replace YA:=YA.below hh);(try replace b0:=b0.below hh);(try replace YB:=YB.below hh);(try replace d0:=d0.below hh);(try replace YD:=YD.below hh);(try replace e0:=e0.below hh);(try replace YE:=YE.below hh);(try replace s9:=s9.below hh);replace hb:=bend hb hh;clear f u9)
  | (go_at_call 31;(with_reducible refine (rcmp_q s9.qr x9.qr (by decide) (by decide) (.inl (by decide)) (by decide) (by decide)).mono ?_);rintro e w_z ⟨rfl,hh⟩
     rw [H6.out];clear s9 x9
     (try replace M:=M.below hh);(try replace Nn:=Nn.below hh);(try replace p:=p.below hh);(try replace q:=q.below hh);(try replace r:=r.below hh);(try replace XA:=XA.below hh);(try replace XB:=XB.below hh);(try replace XL:=XL.below hh);(try replace a0:=a0.below hh);(try replace YA:=YA.below hh);(try replace b0:=b0.below hh);(try replace YB:=YB.below hh);(try replace d0:=d0.below hh);(try replace YD:=YD.below hh);(try replace e0:=e0.below hh);(try replace YE:=YE.below hh);replace hb:=bend hb hh)
  | (go_at_call 60;(with_reducible refine (rof_q 1 3 (by decide) (by decide) (by decide) (by decide) (by decide) _).mono ?_);rintro e w_y9 ⟨s_y9,A_y9,n_y9,c_y9,B_y9,m_y9,d_y9,rfl,y9,hh⟩
     (try replace M:=M.below hh);(try replace Nn:=Nn.below hh);(try replace p:=p.below hh);(try replace q:=q.below hh);(try replace r:=r.below hh);(try replace XA:=XA.below hh);(try replace XB:=XB.below hh);(try replace XL:=XL.below hh);(try replace a0:=a0.below hh);(try replace YA:=YA.below hh);(try replace b0:=b0.below hh);(try replace YB:=YB.below hh);(try replace d0:=d0.below hh);(try replace YD:=YD.below hh);(try replace e0:=e0.below hh);(try replace YE:=YE.below hh);(try replace b7:=b7.below hh);replace hb:=bend hb hh)
  | (go_at_call 59;(with_reducible refine (pmix_p p q y9.qr (by decide) (by decide) (by decide) (by decide) (by decide) (by decide) ).mono ?_);rintro e w_b6 ⟨s_b6,A_b6,n_b6,c_b6,B_b6,m_b6,d_b6,t_b6,E_b6,i_b6,e_b6,F_b6,j_b6,f_b6,rfl,b6,hh⟩
     (try replace M:=M.below hh);(try replace Nn:=Nn.below hh);(try replace p:=p.below hh);(try replace q:=q.below hh);(try replace r:=r.below hh);(try replace XA:=XA.below hh);(try replace XB:=XB.below hh);(try replace XL:=XL.below hh);(try replace a0:=a0.below hh);(try replace YA:=YA.below hh);(try replace b0:=b0.below hh);(try replace YB:=YB.below hh);(try replace d0:=d0.below hh);(try replace YD:=YD.below hh);(try replace e0:=e0.below hh);(try replace YE:=YE.below hh);replace hb:=bend hb hh;clear y9)
  | (go_at_call 43;(with_reducible refine (mapply_p M b6.pr (by decide) (by decide) (by decide) (by decide) (by decide)).mono ?_);rintro e w_b7 ⟨s_b7,A_b7,n_b7,c_b7,B_b7,m_b7,d_b7,t_b7,E_b7,i_b7,e_b7,F_b7,j_b7,f_b7,rfl,b7,hh⟩
     (try replace M:=M.below hh);(try replace Nn:=Nn.below hh);(try replace p:=p.below hh);(try replace q:=q.below hh);(try replace r:=r.below hh);(try replace XA:=XA.below hh);(try replace XB:=XB.below hh);(try replace XL:=XL.below hh);(try replace a0:=a0.below hh);(try replace YA:=YA.below hh);(try replace b0:=b0.below hh);(try replace YB:=YB.below hh);(try replace d0:=d0.below hh);(try replace YD:=YD.below hh);(try replace e0:=e0.below hh);(try replace YE:=YE.below hh);replace hb:=bend hb hh;clear b6)
  | (go_at_call 59;(with_reducible refine (pmix_p a0.pr b0.pr y9.qr (by decide) (by decide) (by decide) (by decide) (by decide) (by decide) ).mono ?_);rintro e w_b8 ⟨s_b8,A_b8,n_b8,c_b8,B_b8,m_b8,d_b8,t_b8,E_b8,i_b8,e_b8,F_b8,j_b8,f_b8,rfl,b8,hh⟩
     (try replace M:=M.below hh);(try replace Nn:=Nn.below hh);(try replace p:=p.below hh);(try replace q:=q.below hh);(try replace r:=r.below hh);(try replace XA:=XA.below hh);(try replace XB:=XB.below hh);(try replace XL:=XL.below hh);(try replace a0:=a0.below hh);(try replace YA:=YA.below hh);(try replace b0:=b0.below hh);(try replace YB:=YB.below hh);(try replace d0:=d0.below hh);(try replace YD:=YD.below hh);(try replace e0:=e0.below hh);(try replace YE:=YE.below hh);(try replace b7:=b7.below hh);replace hb:=bend hb hh;clear y9)
  | (go_at_call 55;(with_reducible refine (psame_p b7.pr b8.pr (by decide) (by decide) (by decide) (by decide) true H7.out).mono ?_);rintro e w_z ⟨rfl,hh⟩
     (try replace M:=M.below hh);(try replace Nn:=Nn.below hh);(try replace p:=p.below hh);(try replace q:=q.below hh);(try replace r:=r.below hh);(try replace XA:=XA.below hh);(try replace XB:=XB.below hh);(try replace XL:=XL.below hh);(try replace a0:=a0.below hh);(try replace YA:=YA.below hh);(try replace b0:=b0.below hh);(try replace YB:=YB.below hh);(try replace d0:=d0.below hh);(try replace YD:=YD.below hh);(try replace e0:=e0.below hh);(try replace YE:=YE.below hh);replace hb:=bend hb hh;clear b7 b8)
  | (go_at_call 36;(with_reducible refine (wakes9_any _).mono ?_);rintro e w_z ⟨rfl,hh⟩
     (try replace XA:=XA.below hh);(try replace XB:=XB.below hh);(try replace XL:=XL.below hh);(try replace YA:=YA.below hh);(try replace YB:=YB.below hh);(try replace YD:=YD.below hh);(try replace YE:=YE.below hh);replace hb:=bend hb hh))
 go_wp2_with fail
 go_ret;exact ⟨rfl,hb⟩
theorem law_laws9 {m n:MV} {lap lbp lcp ldp:List Nat} {laq lbq lcq ldq:List Nat} {lar lbr lcr ldr:List Nat} (hm:MRows w m) (hn:MRows w n) (ap:Rd .u64 w A_p n_p lap) (bp:Rd .u64 w B_p m_p lbp) (up:Rd .u64 w E_p i_p lcp) (vp:Rd .u64 w F_p j_p ldp) (tap:Lim B64 lap) (tbp:Lim B64 lbp) (tcp:Lim B64 lcp) (tdp:Lim B64 ldp) (cap:n_p≤c_p) (cbp:m_p≤d_p) (ccp:i_p≤e_p) (cdp:j_p≤f_p) (aq:Rd .u64 w A_q n_q laq) (bq:Rd .u64 w B_q m_q lbq) (uq:Rd .u64 w E_q i_q lcq) (vq:Rd .u64 w F_q j_q ldq) (taq:Lim B64 laq) (tbq:Lim B64 lbq) (tcq:Lim B64 lcq) (tdq:Lim B64 ldq) (caq:n_q≤c_q) (cbq:m_q≤d_q) (ccq:i_q≤e_q) (cdq:j_q≤f_q) (ar:Rd .u64 w A_r n_r lar) (br:Rd .u64 w B_r m_r lbr) (ur:Rd .u64 w E_r i_r lcr) (vr:Rd .u64 w F_r j_r ldr) (tar:Lim B64 lar) (tbr:Lim B64 lbr) (tcr:Lim B64 lcr) (tdr:Lim B64 ldr) (car:n_r≤c_r) (cbr:m_r≤d_r) (ccr:i_r≤e_r) (cdr:j_r≤f_r) :
 Calls Tryz.prog 8 #[.agg #[.bool m.a.s,.slice m.a.A m.a.n m.a.c,.slice m.a.B m.a.m m.a.d,.bool m.b.s,.slice m.b.A m.b.n m.b.c,.slice m.b.B m.b.m m.b.d,.bool m.c.s,.slice m.c.A m.c.n m.c.c,.slice m.c.B m.c.m m.c.d,.bool m.d.s,.slice m.d.A m.d.n m.d.c,.slice m.d.B m.d.m m.d.d,.bool m.e.s,.slice m.e.A m.e.n m.e.c,.slice m.e.B m.e.m m.e.d,.bool m.f.s,.slice m.f.A m.f.n m.f.c,.slice m.f.B m.f.m m.f.d],.agg #[.bool n.a.s,.slice n.a.A n.a.n n.a.c,.slice n.a.B n.a.m n.a.d,.bool n.b.s,.slice n.b.A n.b.n n.b.c,.slice n.b.B n.b.m n.b.d,.bool n.c.s,.slice n.c.A n.c.n n.c.c,.slice n.c.B n.c.m n.c.d,.bool n.d.s,.slice n.d.A n.d.n n.d.c,.slice n.d.B n.d.m n.d.d,.bool n.e.s,.slice n.e.A n.e.n n.e.c,.slice n.e.B n.e.m n.e.d,.bool n.f.s,.slice n.f.A n.f.n n.f.c,.slice n.f.B n.f.m n.f.d],.agg #[.bool s_p,.slice A_p n_p c_p,.slice B_p m_p d_p,.bool t_p,.slice E_p i_p e_p,.slice F_p j_p f_p,.bool s_q,.slice A_q n_q c_q,.slice B_q m_q d_q,.bool t_q,.slice E_q i_q e_q,.slice F_q j_q f_q,.bool s_r,.slice A_r n_r c_r,.slice B_r m_r d_r,.bool t_r,.slice E_r i_r e_r,.slice F_r j_r f_r]] w fun e w'=>e=.returned (.bool true)∧Below w.heap.size w w':=by
 obtain ⟨v,hv⟩:=hm.mr
 obtain ⟨u,hu⟩:=hn.mr
 by_cases h1:((((m.a.n≤6∧m.a.m≤6)∧m.b.n≤6∧m.b.m≤6))∧(((m.c.n≤6∧m.c.m≤6)∧m.d.n≤6∧m.d.m≤6))∧(((m.e.n≤6∧m.e.m≤6)∧m.f.n≤6∧m.f.m≤6)))
 · by_cases h2:((((n.a.n≤6∧n.a.m≤6)∧n.b.n≤6∧n.b.m≤6))∧(((n.c.n≤6∧n.c.m≤6)∧n.d.n≤6∧n.d.m≤6))∧(((n.e.n≤6∧n.e.m≤6)∧n.f.n≤6∧n.f.m≤6)))
   · by_cases h3:(((n_p≤6∧m_p≤6)∧i_p≤6∧j_p≤6)∧((n_q≤6∧m_q≤6)∧i_q≤6∧j_q≤6)∧((n_r≤6∧m_r≤6)∧i_r≤6∧j_r≤6))
     · have p:PR w s_p A_p n_p c_p B_p m_p d_p t_p E_p i_p e_p F_p j_p f_p (mkRat (iv s_p (val B64 lap)) (den1 (val B64 lbp))) (mkRat (iv t_p (val B64 lcp)) (den1 (val B64 ldp))) 6:=⟨QR.of_rd ap tap cap bp tbp cbp h3.1.1.1 h3.1.1.2,QR.of_rd up tcp ccp vp tdp cdp h3.1.2.1 h3.1.2.2⟩
       have q:PR w s_q A_q n_q c_q B_q m_q d_q t_q E_q i_q e_q F_q j_q f_q (mkRat (iv s_q (val B64 laq)) (den1 (val B64 lbq))) (mkRat (iv t_q (val B64 lcq)) (den1 (val B64 ldq))) 6:=⟨QR.of_rd aq taq caq bq tbq cbq h3.2.1.1.1 h3.2.1.1.2,QR.of_rd uq tcq ccq vq tdq cdq h3.2.1.2.1 h3.2.1.2.2⟩
       have r:PR w s_r A_r n_r c_r B_r m_r d_r t_r E_r i_r e_r F_r j_r f_r (mkRat (iv s_r (val B64 lar)) (den1 (val B64 lbr))) (mkRat (iv t_r (val B64 lcr)) (den1 (val B64 ldr))) 6:=⟨QR.of_rd ar tar car br tbr cbr h3.2.2.1.1 h3.2.2.1.2,QR.of_rd ur tcr ccr vr tdr cdr h3.2.2.2.1 h3.2.2.2.2⟩
       by_cases h0:v.det=0
       · exact mlaws_z (hv h1) (hu h2) p q r h1 h2 h3 h0
       · exact mlaws_p (hv h1) (hu h2) p q r h1 h2 h3 h0
     · exact mlaws_l2 h1 h2 h3
   · exact mlaws_l1 h1 h2
 · exact mlaws_l0 h1
end Go.Proofs.YtgneghgfpkkkdaaGreat
