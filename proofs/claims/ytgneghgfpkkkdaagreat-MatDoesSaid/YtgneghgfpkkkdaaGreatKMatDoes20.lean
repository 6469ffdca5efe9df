/- MatDoes: part 20. -/
import Derived.Test.YtgneghgfpkkkdaaGreatKMatDoes19
set_option linter.unusedVariables false
set_option maxRecDepth 100000
set_option maxHeartbeats 16000000
variable {w:Go.World}
variable {s_p t_p:Bool} {A_p B_p E_p F_p:Option Go.Addr} {n_p c_p m_p d_p i_p e_p j_p f_p:Nat}
namespace Go.Proofs.YtgneghgfpkkkdaaGreat
open Go Go.RowKit
attribute [local go_sem ↓] open_LVM open_STM open_LVN open_STN
theorem sgn9_nul {x:Rat}:sgnQ x=0 ↔ x=0:=by
 unfold sgnQ
 split
 · rename_i h;exact ⟨fun e=>absurd e (by decide),fun e=>by rw [e] at h;exact absurd h Rat.lt_irrefl⟩
 · split
   · rename_i h;exact ⟨fun _=>h,fun _=>rfl⟩
   · rename_i h;exact ⟨fun e=>absurd e (by decide),fun e=>absurd e h⟩
theorem mkbx54_20 {w W:World} {x0 x1 x2 x3 x4 x5 x6 x7 x8 x9 x10 x11 x12 x13 x14 x15 x16 x17 x18 x19 x20 x21 x22 x23 x24 x25 x26 x27 x28 x29 x30 x31 x32 x33 x34 x35 x36 x37 x38 x39 x40 x41:Value} (h:(((w.alloc (Obj.cells #[x0,x1,x2,x3,x4,x5,x6,x7,x8,x9,x10,x11,x12,x13,x14,x15,x16,x17] 71)).alloc (Obj.cells #[x18,x19,x20,x21,x22,x23,x24,x25,x26,x27,x28,x29,x30,x31,x32,x33,x34,x35] 71)).alloc (Obj.cells #[x36,x37,x38,x39,x40,x41] 29))=W):Below w.heap.size w W∧B18 W (w.heap.size) x0 x1 x2 x3 x4 x5 x6 x7 x8 x9 x10 x11 x12 x13 x14 x15 x16 x17∧B18 W (w.heap.size+1) x18 x19 x20 x21 x22 x23 x24 x25 x26 x27 x28 x29 x30 x31 x32 x33 x34 x35∧B6 W (w.heap.size+1+1) x36 x37 x38 x39 x40 x41∧W.heap.size=w.heap.size+3:=by subst h;exact ⟨by exact ((((Below.refl _ _).alloc (Nat.le_refl _) _).alloc (by simp) _).alloc (by simp;omega) _),by exact ((B18.new' _ _ _ _ _ _ _ _ _ _ _ _ _ _ _ _ _ _ _ _ rfl).alloc _).alloc _,by exact (B18.new' _ _ _ _ _ _ _ _ _ _ _ _ _ _ _ _ _ _ _ _ (by simp)).alloc _,by exact B6.new' _ _ _ _ _ _ _ _ (by simp),by simp⟩
theorem mdoes_l0 {m n:MV} (h1:¬ ((((m.a.n≤6∧m.a.m≤6)∧m.b.n≤6∧m.b.m≤6))∧(((m.c.n≤6∧m.c.m≤6)∧m.d.n≤6∧m.d.m≤6))∧(((m.e.n≤6∧m.e.m≤6)∧m.f.n≤6∧m.f.m≤6)))) :
 Calls Tryz.prog 6 #[.agg #[.bool m.a.s,.slice m.a.A m.a.n m.a.c,.slice m.a.B m.a.m m.a.d,.bool m.b.s,.slice m.b.A m.b.n m.b.c,.slice m.b.B m.b.m m.b.d,.bool m.c.s,.slice m.c.A m.c.n m.c.c,.slice m.c.B m.c.m m.c.d,.bool m.d.s,.slice m.d.A m.d.n m.d.c,.slice m.d.B m.d.m m.d.d,.bool m.e.s,.slice m.e.A m.e.n m.e.c,.slice m.e.B m.e.m m.e.d,.bool m.f.s,.slice m.f.A m.f.n m.f.c,.slice m.f.B m.f.m m.f.d],.agg #[.bool n.a.s,.slice n.a.A n.a.n n.a.c,.slice n.a.B n.a.m n.a.d,.bool n.b.s,.slice n.b.A n.b.n n.b.c,.slice n.b.B n.b.m n.b.d,.bool n.c.s,.slice n.c.A n.c.n n.c.c,.slice n.c.B n.c.m n.c.d,.bool n.d.s,.slice n.d.A n.d.n n.d.c,.slice n.d.B n.d.m n.d.d,.bool n.e.s,.slice n.e.A n.e.n n.e.c,.slice n.e.B n.e.m n.e.d,.bool n.f.s,.slice n.f.A n.f.n n.f.c,.slice n.f.B n.f.m n.f.d],.agg #[.bool s_p,.slice A_p n_p c_p,.slice B_p m_p d_p,.bool t_p,.slice E_p i_p e_p,.slice F_p j_p f_p]] w fun e w'=>e=.returned (.bool true)∧Below w.heap.size w w':=by
 have HM:Hid (decide ((((m.a.n≤6∧m.a.m≤6)∧m.b.n≤6∧m.b.m≤6))∧(((m.c.n≤6∧m.c.m≤6)∧m.d.n≤6∧m.d.m≤6))∧(((m.e.n≤6∧m.e.m≤6)∧m.f.n≤6∧m.f.m≤6)))=false):=decide_eq_false h1
 clear h1
 go_enter Tryz.func6,Tryz.ntmps6
 go_upto_region 1 with (fail)
 generalize hW:World.alloc _ _=W
 obtain ⟨hb,XA,XB,XP,hzW⟩:=mkbx54_20 hW;clear hW;have xal:=XA.ld
 go_wp2_with (first
  | (go_at_call 35;(with_reducible refine (fairM false HM.out).mono ?_);rintro e w_z ⟨rfl,hh⟩
     (try replace XA:=XA.below hh);(try replace XB:=XB.below hh);(try replace XP:=XP.below hh);replace hb:=bend hb hh)
  | (go_at_call 36;(with_reducible refine (wakes9_any _).mono ?_);rintro e w_z ⟨rfl,hh⟩
     replace hb:=bend hb hh))
 go_ret;exact ⟨rfl,hb⟩
theorem mdoes_l1 {m n:MV} (h1:((((m.a.n≤6∧m.a.m≤6)∧m.b.n≤6∧m.b.m≤6))∧(((m.c.n≤6∧m.c.m≤6)∧m.d.n≤6∧m.d.m≤6))∧(((m.e.n≤6∧m.e.m≤6)∧m.f.n≤6∧m.f.m≤6)))) (h2:¬ ((((n.a.n≤6∧n.a.m≤6)∧n.b.n≤6∧n.b.m≤6))∧(((n.c.n≤6∧n.c.m≤6)∧n.d.n≤6∧n.d.m≤6))∧(((n.e.n≤6∧n.e.m≤6)∧n.f.n≤6∧n.f.m≤6)))) :
 Calls Tryz.prog 6 #[.agg #[.bool m.a.s,.slice m.a.A m.a.n m.a.c,.slice m.a.B m.a.m m.a.d,.bool m.b.s,.slice m.b.A m.b.n m.b.c,.slice m.b.B m.b.m m.b.d,.bool m.c.s,.slice m.c.A m.c.n m.c.c,.slice m.c.B m.c.m m.c.d,.bool m.d.s,.slice m.d.A m.d.n m.d.c,.slice m.d.B m.d.m m.d.d,.bool m.e.s,.slice m.e.A m.e.n m.e.c,.slice m.e.B m.e.m m.e.d,.bool m.f.s,.slice m.f.A m.f.n m.f.c,.slice m.f.B m.f.m m.f.d],.agg #[.bool n.a.s,.slice n.a.A n.a.n n.a.c,.slice n.a.B n.a.m n.a.d,.bool n.b.s,.slice n.b.A n.b.n n.b.c,.slice n.b.B n.b.m n.b.d,.bool n.c.s,.slice n.c.A n.c.n n.c.c,.slice n.c.B n.c.m n.c.d,.bool n.d.s,.slice n.d.A n.d.n n.d.c,.slice n.d.B n.d.m n.d.d,.bool n.e.s,.slice n.e.A n.e.n n.e.c,.slice n.e.B n.e.m n.e.d,.bool n.f.s,.slice n.f.A n.f.n n.f.c,.slice n.f.B n.f.m n.f.d],.agg #[.bool s_p,.slice A_p n_p c_p,.slice B_p m_p d_p,.bool t_p,.slice E_p i_p e_p,.slice F_p j_p f_p]] w fun e w'=>e=.returned (.bool true)∧Below w.heap.size w w':=by
 have HM:Hid (decide ((((m.a.n≤6∧m.a.m≤6)∧m.b.n≤6∧m.b.m≤6))∧(((m.c.n≤6∧m.c.m≤6)∧m.d.n≤6∧m.d.m≤6))∧(((m.e.n≤6∧m.e.m≤6)∧m.f.n≤6∧m.f.m≤6)))=true):=decide_eq_true h1
 have HN:Hid (decide ((((n.a.n≤6∧n.a.m≤6)∧n.b.n≤6∧n.b.m≤6))∧(((n.c.n≤6∧n.c.m≤6)∧n.d.n≤6∧n.d.m≤6))∧(((n.e.n≤6∧n.e.m≤6)∧n.f.n≤6∧n.f.m≤6)))=false):=decide_eq_false h2
 clear h1 h2
 go_enter Tryz.func6,Tryz.ntmps6
 go_upto_region 1 with (fail)
 generalize hW:World.alloc _ _=W
 obtain ⟨hb,XA,XB,XP,hzW⟩:=mkbx54_20 hW;clear hW;have xal:=XA.ld
 go_wp2_with (first
  | (go_at_call 35;(with_reducible refine (fairM true HM.out).mono ?_);rintro e w_z ⟨rfl,hh⟩
     (try replace XA:=XA.below hh);(try replace XB:=XB.below hh);(try replace XP:=XP.below hh);replace hb:=bend hb hh;have xbl:=XB.ld)
  | (go_at_call 35;(with_reducible refine (fairM false HN.out).mono ?_);rintro e w_y ⟨rfl,hh⟩
     (try replace XA:=XA.below hh);(try replace XB:=XB.below hh);(try replace XP:=XP.below hh);replace hb:=bend hb hh)
  | (go_at_call 36;(with_reducible refine (wakes9_any _).mono ?_);rintro e w_z ⟨rfl,hh⟩
     replace hb:=bend hb hh))
 go_ret;exact ⟨rfl,hb⟩
theorem mdoes_l2 {m n:MV} (h1:((((m.a.n≤6∧m.a.m≤6)∧m.b.n≤6∧m.b.m≤6))∧(((m.c.n≤6∧m.c.m≤6)∧m.d.n≤6∧m.d.m≤6))∧(((m.e.n≤6∧m.e.m≤6)∧m.f.n≤6∧m.f.m≤6)))) (h2:((((n.a.n≤6∧n.a.m≤6)∧n.b.n≤6∧n.b.m≤6))∧(((n.c.n≤6∧n.c.m≤6)∧n.d.n≤6∧n.d.m≤6))∧(((n.e.n≤6∧n.e.m≤6)∧n.f.n≤6∧n.f.m≤6)))) (h3:¬ ((n_p≤6∧m_p≤6)∧i_p≤6∧j_p≤6)) :
 Calls Tryz.prog 6 #[.agg #[.bool m.a.s,.slice m.a.A m.a.n m.a.c,.slice m.a.B m.a.m m.a.d,.bool m.b.s,.slice m.b.A m.b.n m.b.c,.slice m.b.B m.b.m m.b.d,.bool m.c.s,.slice m.c.A m.c.n m.c.c,.slice m.c.B m.c.m m.c.d,.bool m.d.s,.slice m.d.A m.d.n m.d.c,.slice m.d.B m.d.m m.d.d,.bool m.e.s,.slice m.e.A m.e.n m.e.c,.slice m.e.B m.e.m m.e.d,.bool m.f.s,.slice m.f.A m.f.n m.f.c,.slice m.f.B m.f.m m.f.d],.agg #[.bool n.a.s,.slice n.a.A n.a.n n.a.c,.slice n.a.B n.a.m n.a.d,.bool n.b.s,.slice n.b.A n.b.n n.b.c,.slice n.b.B n.b.m n.b.d,.bool n.c.s,.slice n.c.A n.c.n n.c.c,.slice n.c.B n.c.m n.c.d,.bool n.d.s,.slice n.d.A n.d.n n.d.c,.slice n.d.B n.d.m n.d.d,.bool n.e.s,.slice n.e.A n.e.n n.e.c,.slice n.e.B n.e.m n.e.d,.bool n.f.s,.slice n.f.A n.f.n n.f.c,.slice n.f.B n.f.m n.f.d],.agg #[.bool s_p,.slice A_p n_p c_p,.slice B_p m_p d_p,.bool t_p,.slice E_p i_p e_p,.slice F_p j_p f_p]] w fun e w'=>e=.returned (.bool true)∧Below w.heap.size w w':=by
 have HM:Hid (decide ((((m.a.n≤6∧m.a.m≤6)∧m.b.n≤6∧m.b.m≤6))∧(((m.c.n≤6∧m.c.m≤6)∧m.d.n≤6∧m.d.m≤6))∧(((m.e.n≤6∧m.e.m≤6)∧m.f.n≤6∧m.f.m≤6)))=true):=decide_eq_true h1
 have HN:Hid (decide ((((n.a.n≤6∧n.a.m≤6)∧n.b.n≤6∧n.b.m≤6))∧(((n.c.n≤6∧n.c.m≤6)∧n.d.n≤6∧n.d.m≤6))∧(((n.e.n≤6∧n.e.m≤6)∧n.f.n≤6∧n.f.m≤6)))=true):=decide_eq_true h2
 have HL:Hid (decide ((n_p≤6∧m_p≤6)∧i_p≤6∧j_p≤6)=false):=decide_eq_false h3
 clear h1 h2 h3
 go_enter Tryz.func6,Tryz.ntmps6
 go_upto_region 1 with (fail)
 generalize hW:World.alloc _ _=W
 obtain ⟨hb,XA,XB,XP,hzW⟩:=mkbx54_20 hW;clear hW;have xal:=XA.ld
 go_wp2_with (first
  | (go_at_call 35;(with_reducible refine (fairM true HM.out).mono ?_);rintro e w_z ⟨rfl,hh⟩
     (try replace XA:=XA.below hh);(try replace XB:=XB.below hh);(try replace XP:=XP.below hh);replace hb:=bend hb hh;have xbl:=XB.ld)
  | (go_at_call 35;(with_reducible refine (fairM true HN.out).mono ?_);rintro e w_y ⟨rfl,hh⟩
     (try replace XA:=XA.below hh);(try replace XB:=XB.below hh);(try replace XP:=XP.below hh);replace hb:=bend hb hh;obtain ⟨xp0,xp1,xp2,xp3,xp4,xp5⟩:=XP.all
     have ha:Below w_y.heap.size w_y (w_y.alloc (.cells #[.bool s_p,.slice A_p n_p c_p,.slice B_p m_p d_p,.bool t_p,.slice E_p i_p e_p,.slice F_p j_p f_p] 29)):=(Below.refl _ _).alloc (Nat.le_refl _) _
     have XS:=BL1.new' w_y (.bool s_p) (.slice A_p n_p c_p) (.slice B_p m_p d_p) (.bool t_p) (.slice E_p i_p e_p) (.slice F_p j_p f_p) _ rfl
     replace XA:=XA.below ha;replace XB:=XB.below ha;replace XP:=XP.below ha;replace hb:=bend hb ha;clear ha)
  | (go_at_call 11;(with_reducible refine (fair1 XS false HL.out).mono ?_);rintro e w_x ⟨rfl,hh⟩
     (try replace XA:=XA.below hh);(try replace XB:=XB.below hh);(try replace XP:=XP.below hh);replace hb:=bend hb hh;clear XS xp0 xp1 xp2 xp3 xp4 xp5)
  | (go_at_call 36;(with_reducible refine (wakes9_any _).mono ?_);rintro e w_z ⟨rfl,hh⟩
     replace hb:=bend hb hh))
 go_ret;exact ⟨rfl,hb⟩
theorem mdoes_z {m n:MV} {v u:AM} {px py:Rat} (M:MR w m v 6 6) (Nn:MR w n u 6 6) (p:PR w s_p A_p n_p c_p B_p m_p d_p t_p E_p i_p e_p F_p j_p f_p px py 6) (h1:((((m.a.n≤6∧m.a.m≤6)∧m.b.n≤6∧m.b.m≤6))∧(((m.c.n≤6∧m.c.m≤6)∧m.d.n≤6∧m.d.m≤6))∧(((m.e.n≤6∧m.e.m≤6)∧m.f.n≤6∧m.f.m≤6)))) (h2:((((n.a.n≤6∧n.a.m≤6)∧n.b.n≤6∧n.b.m≤6))∧(((n.c.n≤6∧n.c.m≤6)∧n.d.n≤6∧n.d.m≤6))∧(((n.e.n≤6∧n.e.m≤6)∧n.f.n≤6∧n.f.m≤6)))) (h3:((n_p≤6∧m_p≤6)∧i_p≤6∧j_p≤6)) (h0:v.det=0) (R:Bool) (hR:v.same u=R) :
 Calls Tryz.prog 6 #[.agg #[.bool m.a.s,.slice m.a.A m.a.n m.a.c,.slice m.a.B m.a.m m.a.d,.bool m.b.s,.slice m.b.A m.b.n m.b.c,.slice m.b.B m.b.m m.b.d,.bool m.c.s,.slice m.c.A m.c.n m.c.c,.slice m.c.B m.c.m m.c.d,.bool m.d.s,.slice m.d.A m.d.n m.d.c,.slice m.d.B m.d.m m.d.d,.bool m.e.s,.slice m.e.A m.e.n m.e.c,.slice m.e.B m.e.m m.e.d,.bool m.f.s,.slice m.f.A m.f.n m.f.c,.slice m.f.B m.f.m m.f.d],.agg #[.bool n.a.s,.slice n.a.A n.a.n n.a.c,.slice n.a.B n.a.m n.a.d,.bool n.b.s,.slice n.b.A n.b.n n.b.c,.slice n.b.B n.b.m n.b.d,.bool n.c.s,.slice n.c.A n.c.n n.c.c,.slice n.c.B n.c.m n.c.d,.bool n.d.s,.slice n.d.A n.d.n n.d.c,.slice n.d.B n.d.m n.d.d,.bool n.e.s,.slice n.e.A n.e.n n.e.c,.slice n.e.B n.e.m n.e.d,.bool n.f.s,.slice n.f.A n.f.n n.f.c,.slice n.f.B n.f.m n.f.d],.agg #[.bool s_p,.slice A_p n_p c_p,.slice B_p m_p d_p,.bool t_p,.slice E_p i_p e_p,.slice F_p j_p f_p]] w fun e w'=>e=.returned (.bool true)∧Below w.heap.size w w':=by
 have HM:Hid (decide ((((m.a.n≤6∧m.a.m≤6)∧m.b.n≤6∧m.b.m≤6))∧(((m.c.n≤6∧m.c.m≤6)∧m.d.n≤6∧m.d.m≤6))∧(((m.e.n≤6∧m.e.m≤6)∧m.f.n≤6∧m.f.m≤6)))=true):=decide_eq_true h1
 have HN:Hid (decide ((((n.a.n≤6∧n.a.m≤6)∧n.b.n≤6∧n.b.m≤6))∧(((n.c.n≤6∧n.c.m≤6)∧n.d.n≤6∧n.d.m≤6))∧(((n.e.n≤6∧n.e.m≤6)∧n.f.n≤6∧n.f.m≤6)))=true):=decide_eq_true h2
 have HL:Hid (decide ((n_p≤6∧m_p≤6)∧i_p≤6∧j_p≤6)=true):=decide_eq_true h3
 have HR:=Lib.hid hR
 have HE:=Lib.hid ((eqs_same v u).symm.trans hR)
 have HS:Hid (sgnQ v.det=0):=by show _=_;rw [h0];rfl
 have H0:=Lib.hid h0;clear h0 h1 h2 h3 hR
 go_enter Tryz.func6,Tryz.ntmps6
 go_upto_region 1 with (fail)
 generalize hW:World.alloc _ _=W
 obtain ⟨hb,XA,XB,XP,hzW⟩:=mkbx54_20 hW;clear hW;replace M:=M.below hb;replace Nn:=Nn.below hb;replace p:=p.below hb;have xal:=XA.ld
 go_upto_region 3 with (first
  | (go_at_call 35;(with_reducible refine (fairM true HM.out).mono ?_);rintro e w_z ⟨rfl,hh⟩
     (try replace M:=M.below hh);(try replace Nn:=Nn.below hh);(try replace p:=p.below hh);(try replace XA:=XA.below hh);(try replace XB:=XB.below hh);(try replace XP:=XP.below hh);replace hb:=bend hb hh;have xbl:=XB.ld)
  | (go_at_call 35;(with_reducible refine (fairM true HN.out).mono ?_);rintro e w_y ⟨rfl,hh⟩
     (try replace M:=M.below hh);(try replace Nn:=Nn.below hh);(try replace p:=p.below hh);(try replace XA:=XA.below hh);(try replace XB:=XB.below hh);(try replace XP:=XP.below hh);replace hb:=bend hb hh;obtain ⟨xp0,xp1,xp2,xp3,xp4,xp5⟩:=XP.all
     have ha:Below w_y.heap.size w_y (w_y.alloc (.cells #[.bool s_p,.slice A_p n_p c_p,.slice B_p m_p d_p,.bool t_p,.slice E_p i_p e_p,.slice F_p j_p f_p] 29)):=(Below.refl _ _).alloc (Nat.le_refl _) _
     have XS:=BL1.new' w_y (.bool s_p) (.slice A_p n_p c_p) (.slice B_p m_p d_p) (.bool t_p) (.slice E_p i_p e_p) (.slice F_p j_p f_p) _ rfl
     replace M:=M.below ha;replace Nn:=Nn.below ha;replace p:=p.below ha;replace XA:=XA.below ha;replace XB:=XB.below ha;replace XP:=XP.below ha;replace hb:=bend hb ha;clear ha)
  | (go_at_call 11;(with_reducible refine (fair1 XS true HL.out).mono ?_);rintro e w_x ⟨rfl,hh⟩
     (try replace M:=M.below hh);(try replace Nn:=Nn.below hh);(try replace p:=p.below hh);(try replace XA:=XA.below hh);(try replace XB:=XB.below hh);(try replace XP:=XP.below hh);replace hb:=bend hb hh;clear XS xp0 xp1 xp2 xp3 xp4 xp5))
 clear xal xbl
 refine mdi_region (by simp) rfl rfl XA XB M Nn ?_
 intro V1 w_x g_x x g_y y x0 XX hg_x hvx y0 XY hg_y hvy hn1 hh
 simp only [putAll,Act.put,List.setIfInBounds_toArray,List.set_cons_zero,List.set_cons_succ,hvx,hvy]
 clear hvx hvy;replace M:=M.below hh;replace Nn:=Nn.below hh;replace p:=p.below hh;replace XA:=XA.below hh;replace XB:=XB.below hh;replace XP:=XP.below hh;replace hb:=bend hb hh;have xal:=XA.ld;have xxl:=XX.ld
 go_upto_region 5 with (first
  | (go_at_call 38;(with_reducible refine (minv_z M (by decide) (by decide) H0.out).mono ?_);rintro e w_z ⟨rfl,hh⟩
     (try replace M:=M.below hh);(try replace Nn:=Nn.below hh);(try replace p:=p.below hh);(try replace XA:=XA.below hh);(try replace XB:=XB.below hh);(try replace XP:=XP.below hh);(try replace x0:=x0.below hh);(try replace XX:=XX.below hh);(try replace y0:=y0.below hh);(try replace XY:=XY.below hh);replace hb:=bend hb hh
     have zs:=st_newM w_z (.bool false) (.slice none 0 0) (.slice none 0 0) (.bool false) (.slice none 0 0) (.slice none 0 0) (.bool false) (.slice none 0 0) (.slice none 0 0) (.bool false) (.slice none 0 0) (.slice none 0 0) (.bool false) (.slice none 0 0) (.slice none 0 0) (.bool false) (.slice none 0 0) (.slice none 0 0) (by simp [Value.oneCell'])))
 clear zs xal xxl
 generalize hW:World.alloc _ _=W1
 obtain ⟨hh,XI,hzW1⟩:=mkbx43_15 hW;clear hW;(try replace M:=M.below hh);(try replace Nn:=Nn.below hh);(try replace p:=p.below hh);(try replace XA:=XA.below hh);(try replace XB:=XB.below hh);(try replace XP:=XP.below hh);(try replace x0:=x0.below hh);(try replace XX:=XX.below hh);(try replace y0:=y0.below hh);(try replace XY:=XY.below hh);replace hb:=bend hb hh;have xxl:=XX.ld
 go_upto_region 10 with (first
  | (go_at_call 39;(with_reducible refine (rdet9 x0 (by decide)).mono ?_);rintro e w_d ⟨s_d,A_d,n_d,c_d,B_d,m_d,d_d,rfl,d,hh⟩
     (try replace M:=M.below hh);(try replace Nn:=Nn.below hh);(try replace p:=p.below hh);(try replace XA:=XA.below hh);(try replace XB:=XB.below hh);(try replace XP:=XP.below hh);(try replace x0:=x0.below hh);(try replace XX:=XX.below hh);(try replace y0:=y0.below hh);(try replace XY:=XY.below hh);(try replace XI:=XI.below hh);replace hb:=bend hb hh)
  | (go_at_call 40;(with_reducible refine (rsign3 d).mono ?_);rintro e w_e ⟨rfl,hh⟩
     rw [HS.out];clear d
     (try replace M:=M.below hh);(try replace Nn:=Nn.below hh);(try replace p:=p.below hh);(try replace XA:=XA.below hh);(try replace XB:=XB.below hh);(try replace XP:=XP.below hh);(try replace x0:=x0.below hh);(try replace XX:=XX.below hh);(try replace y0:=y0.below hh);(try replace XY:=XY.below hh);(try replace XI:=XI.below hh);replace hb:=bend hb hh;have xi1:=XI.c1;have xi10:=XI.c10))
 clear xxl xi1 xi10 XI
 replace M:=M.below (Below.refl _ _).drew
 replace Nn:=Nn.below (Below.refl _ _).drew
 replace p:=p.below (Below.refl _ _).drew
 replace XA:=XA.below (Below.refl _ _).drew
 replace XB:=XB.below (Below.refl _ _).drew
 replace XP:=XP.below (Below.refl _ _).drew
 replace x0:=x0.below (Below.refl _ _).drew
 replace XX:=XX.below (Below.refl _ _).drew
 replace y0:=y0.below (Below.refl _ _).drew
 replace XY:=XY.below (Below.refl _ _).drew
 replace hb:=hb.drew
 go_region_held3 (fun w'=>(LVM ⟨w.heap.size,0,none⟩).run Tryz.prog w'=.ok (.agg #[.bool m.a.s,.slice m.a.A m.a.n m.a.c,.slice m.a.B m.a.m m.a.d,.bool m.b.s,.slice m.b.A m.b.n m.b.c,.slice m.b.B m.b.m m.b.d,.bool m.c.s,.slice m.c.A m.c.n m.c.c,.slice m.c.B m.c.m m.c.d,.bool m.d.s,.slice m.d.A m.d.n m.d.c,.slice m.d.B m.d.m m.d.d,.bool m.e.s,.slice m.e.A m.e.n m.e.c,.slice m.e.B m.e.m m.e.d,.bool m.f.s,.slice m.f.A m.f.n m.f.c,.slice m.f.B m.f.m m.f.d]) w'∧(LVM ⟨w.heap.size+1,0,none⟩).run Tryz.prog w'=.ok (.agg #[.bool n.a.s,.slice n.a.A n.a.n n.a.c,.slice n.a.B n.a.m n.a.d,.bool n.b.s,.slice n.b.A n.b.n n.b.c,.slice n.b.B n.b.m n.b.d,.bool n.c.s,.slice n.c.A n.c.n n.c.c,.slice n.c.B n.c.m n.c.d,.bool n.d.s,.slice n.d.A n.d.n n.d.c,.slice n.d.B n.d.m n.d.d,.bool n.e.s,.slice n.e.A n.e.n n.e.c,.slice n.e.B n.e.m n.e.d,.bool n.f.s,.slice n.f.A n.f.n n.f.c,.slice n.f.B n.f.m n.f.d]) w'∧w'.cell? ⟨w.heap.size+1+1,0,none⟩=some (.bool s_p)∧w'.cell? ⟨w.heap.size+1+1,1,none⟩=some (.slice A_p n_p c_p)∧w'.cell? ⟨w.heap.size+1+1,2,none⟩=some (.slice B_p m_p d_p)∧w'.cell? ⟨w.heap.size+1+1,3,none⟩=some (.bool t_p)∧w'.cell? ⟨w.heap.size+1+1,4,none⟩=some (.slice E_p i_p e_p)∧w'.cell? ⟨w.heap.size+1+1,5,none⟩=some (.slice F_p j_p f_p)∧(LVN ⟨g_x,0,none⟩).run Tryz.prog w'=.ok (.agg #[.bool x.a.s,.slice x.a.A x.a.n x.a.c,.slice x.a.B x.a.m x.a.d,.bool x.b.s,.slice x.b.A x.b.n x.b.c,.slice x.b.B x.b.m x.b.d,.bool x.c.s,.slice x.c.A x.c.n x.c.c,.slice x.c.B x.c.m x.c.d,.bool x.d.s,.slice x.d.A x.d.n x.d.c,.slice x.d.B x.d.m x.d.d,.bool x.e.s,.slice x.e.A x.e.n x.e.c,.slice x.e.B x.e.m x.e.d,.bool x.f.s,.slice x.f.A x.f.n x.f.c,.slice x.f.B x.f.m x.f.d]) w'∧(LVN ⟨g_y,0,none⟩).run Tryz.prog w'=.ok (.agg #[.bool y.a.s,.slice y.a.A y.a.n y.a.c,.slice y.a.B y.a.m y.a.d,.bool y.b.s,.slice y.b.A y.b.n y.b.c,.slice y.b.B y.b.m y.b.d,.bool y.c.s,.slice y.c.A y.c.n y.c.c,.slice y.c.B y.c.m y.c.d,.bool y.d.s,.slice y.d.A y.d.n y.d.c,.slice y.d.B y.d.m y.d.d,.bool y.e.s,.slice y.e.A y.e.n y.e.c,.slice y.e.B y.e.m y.e.d,.bool y.f.s,.slice y.f.A y.f.n y.f.c,.slice y.f.B y.f.m y.f.d]) w')
  (first | with_reducible exact ⟨XA.ld,XB.ld,XP.c0,XP.c1,XP.c2,XP.c3,XP.c4,XP.c5,XX.ld,XY.ld⟩)
  (first
  | (go_at_call 43;(with_reducible refine (mapply_p M p (by decide) (by decide) (by decide) (by decide) (by decide)).mono ?_);rintro e w_a ⟨s_a,A_a,n_a,c_a,B_a,m_a,d_a,t_a,E_a,i_a,e_a,F_a,j_a,f_a,rfl,a,hh⟩
     (try replace M:=M.below hh);(try replace Nn:=Nn.below hh);(try replace p:=p.below hh);(try replace XA:=XA.below hh);(try replace XB:=XB.below hh);(try replace XP:=XP.below hh);(try replace x0:=x0.below hh);(try replace XX:=XX.below hh);(try replace y0:=y0.below hh);(try replace XY:=XY.below hh);replace hb:=bend hb hh)
  | (go_at_call 25;(with_reducible refine (rin6 p (by decide) (by decide)).mono ?_);rintro e w_b ⟨s_b,A_b,n_b,c_b,B_b,m_b,d_b,t_b,E_b,i_b,e_b,F_b,j_b,f_b,rfl,b,hh⟩
     (try replace M:=M.below hh);(try replace Nn:=Nn.below hh);(try replace p:=p.below hh);(try replace XA:=XA.below hh);(try replace XB:=XB.below hh);(try replace XP:=XP.below hh);(try replace x0:=x0.below hh);(try replace XX:=XX.below hh);(try replace y0:=y0.below hh);(try replace XY:=XY.below hh);(try replace a:=a.below hh);replace hb:=bend hb hh)
  | (go_at_call 44;(with_reducible refine (rapply9 x0 b (by decide) (by decide)).mono ?_);rintro e w_c ⟨s_c,A_c,n_c,c_c,B_c,m_c,d_c,t_c,E_c,i_c,e_c,F_c,j_c,f_c,rfl,c,hh⟩
     (try replace M:=M.below hh);(try replace Nn:=Nn.below hh);(try replace p:=p.below hh);(try replace XA:=XA.below hh);(try replace XB:=XB.below hh);(try replace XP:=XP.below hh);(try replace x0:=x0.below hh);(try replace XX:=XX.below hh);(try replace y0:=y0.below hh);(try replace XY:=XY.below hh);(try replace a:=a.below hh);replace hb:=bend hb hh;clear b)
  | (go_at_call 17;(with_reducible refine (lsame6 a c rfl rfl (by decide) (by decide)).mono ?_);rintro e w_z ⟨rfl,hh⟩
     (try replace M:=M.below hh);(try replace Nn:=Nn.below hh);(try replace p:=p.below hh);(try replace XA:=XA.below hh);(try replace XB:=XB.below hh);(try replace XP:=XP.below hh);(try replace x0:=x0.below hh);(try replace XX:=XX.below hh);(try replace y0:=y0.below hh);(try replace XY:=XY.below hh);replace hb:=bend hb hh;clear a c)
  | (go_at_call 45;(with_reducible refine (mmul_p M Nn (by decide) (by decide) (by decide) (by decide) (by decide) (by decide) (by decide) ).mono ?_);rintro e w_f ⟨f,rfl,fh,hh⟩
     (try replace M:=M.below hh);(try replace Nn:=Nn.below hh);(try replace p:=p.below hh);(try replace XA:=XA.below hh);(try replace XB:=XB.below hh);(try replace XP:=XP.below hh);(try replace x0:=x0.below hh);(try replace XX:=XX.below hh);(try replace y0:=y0.below hh);(try replace XY:=XY.below hh);replace hb:=bend hb hh)
  | (go_at_call 46;(with_reducible refine (rmul9 x0 y0 (by decide) (by decide) (by decide) (by decide) ).mono ?_);rintro e w_g ⟨g,rfl,gh,hh⟩
     (try replace M:=M.below hh);(try replace Nn:=Nn.below hh);(try replace p:=p.below hh);(try replace XA:=XA.below hh);(try replace XB:=XB.below hh);(try replace XP:=XP.below hh);(try replace x0:=x0.below hh);(try replace XX:=XX.below hh);(try replace y0:=y0.below hh);(try replace XY:=XY.below hh);(try replace fh:=fh.below hh);replace hb:=bend hb hh)
  | (go_at_call 41;(with_reducible refine (lsame9 fh gh (by decide) (by decide) (by decide) (by decide) rfl).mono ?_);rintro e w_z ⟨rfl,hh⟩
     (try replace M:=M.below hh);(try replace Nn:=Nn.below hh);(try replace p:=p.below hh);(try replace XA:=XA.below hh);(try replace XB:=XB.below hh);(try replace XP:=XP.below hh);(try replace x0:=x0.below hh);(try replace XX:=XX.below hh);(try replace y0:=y0.below hh);(try replace XY:=XY.below hh);replace hb:=bend hb hh;clear fh gh)
  | (go_at_call 47;(with_reducible refine (mdet_p M (by decide) (by decide)).mono ?_);rintro e w_k ⟨s_k,A_k,n_k,c_k,B_k,m_k,d_k,rfl,k,hh⟩
     (try replace M:=M.below hh);(try replace Nn:=Nn.below hh);(try replace p:=p.below hh);(try replace XA:=XA.below hh);(try replace XB:=XB.below hh);(try replace XP:=XP.below hh);(try replace x0:=x0.below hh);(try replace XX:=XX.below hh);(try replace y0:=y0.below hh);(try replace XY:=XY.below hh);replace hb:=bend hb hh)
  | (go_at_call 39;(with_reducible refine (rdet9 x0 (by decide)).mono ?_);rintro e w_l ⟨s_l,A_l,n_l,c_l,B_l,m_l,d_l,rfl,l,hh⟩
     (try replace M:=M.below hh);(try replace Nn:=Nn.below hh);(try replace p:=p.below hh);(try replace XA:=XA.below hh);(try replace XB:=XB.below hh);(try replace XP:=XP.below hh);(try replace x0:=x0.below hh);(try replace XX:=XX.below hh);(try replace y0:=y0.below hh);(try replace XY:=XY.below hh);(try replace k:=k.below hh);replace hb:=bend hb hh)
  | (go_at_call 18;(with_reducible refine (same3 k l rfl (by decide) (by decide)).mono ?_);rintro e w_z ⟨rfl,hh⟩
     (try replace M:=M.below hh);(try replace Nn:=Nn.below hh);(try replace p:=p.below hh);(try replace XA:=XA.below hh);(try replace XB:=XB.below hh);(try replace XP:=XP.below hh);(try replace x0:=x0.below hh);(try replace XX:=XX.below hh);(try replace y0:=y0.below hh);(try replace XY:=XY.below hh);replace hb:=bend hb hh;clear k l)
  | (go_at_call 48;(with_reducible refine (msame_p M Nn (by decide) (by decide) (by decide) (by decide) (by decide) (by decide) (by decide) (by decide) R HR.out).mono ?_);rintro e w_z ⟨rfl,hh⟩
     (try replace M:=M.below hh);(try replace Nn:=Nn.below hh);(try replace p:=p.below hh);(try replace XA:=XA.below hh);(try replace XB:=XB.below hh);(try replace XP:=XP.below hh);(try replace x0:=x0.below hh);(try replace XX:=XX.below hh);(try replace y0:=y0.below hh);(try replace XY:=XY.below hh);replace hb:=bend hb hh)
  | (go_at_call 50;(with_reducible refine (rout9 x0 (by decide) (by decide) (x0.fits (by decide) (by decide))).mono ?_);rintro e w_s ⟨s,rfl,sh,hh⟩
     (try replace M:=M.below hh);(try replace Nn:=Nn.below hh);(try replace p:=p.below hh);(try replace XA:=XA.below hh);(try replace XB:=XB.below hh);(try replace XP:=XP.below hh);(try replace x0:=x0.below hh);(try replace XX:=XX.below hh);(try replace y0:=y0.below hh);(try replace XY:=XY.below hh);replace hb:=bend hb hh)
  | (go_at_call 50;(with_reducible refine (rout9 y0 (by decide) (by decide) (y0.fits (by decide) (by decide))).mono ?_);rintro e w_t ⟨t,rfl,th,hh⟩
     (try replace M:=M.below hh);(try replace Nn:=Nn.below hh);(try replace p:=p.below hh);(try replace XA:=XA.below hh);(try replace XB:=XB.below hh);(try replace XP:=XP.below hh);(try replace x0:=x0.below hh);(try replace XX:=XX.below hh);(try replace y0:=y0.below hh);(try replace XY:=XY.below hh);(try replace sh:=sh.below hh);replace hb:=bend hb hh)
  | (go_at_call 49;(with_reducible refine (mats_p sh th (sh.len (by decide) (by decide)) R HE.out).mono ?_);rintro e w_z ⟨rfl,hh⟩
     (try replace M:=M.below hh);(try replace Nn:=Nn.below hh);(try replace p:=p.below hh);(try replace XA:=XA.below hh);(try replace XB:=XB.below hh);(try replace XP:=XP.below hh);(try replace x0:=x0.below hh);(try replace XX:=XX.below hh);(try replace y0:=y0.below hh);(try replace XY:=XY.below hh);replace hb:=bend hb hh;clear sh th)
  | (go_at_call 36;(with_reducible refine (wakes9_any _).mono ?_);rintro e w_z ⟨rfl,hh⟩
     (try replace XA:=XA.below hh);(try replace XB:=XB.below hh);(try replace XP:=XP.below hh);(try replace XX:=XX.below hh);(try replace XY:=XY.below hh);replace hb:=bend hb hh))
 go_wp2_with fail
 go_ret
 exact ⟨by simp,hb⟩
theorem mdoes_p {m n:MV} {v u:AM} {px py:Rat} (M:MR w m v 6 6) (Nn:MR w n u 6 6) (p:PR w s_p A_p n_p c_p B_p m_p d_p t_p E_p i_p e_p F_p j_p f_p px py 6) (h1:((((m.a.n≤6∧m.a.m≤6)∧m.b.n≤6∧m.b.m≤6))∧(((m.c.n≤6∧m.c.m≤6)∧m.d.n≤6∧m.d.m≤6))∧(((m.e.n≤6∧m.e.m≤6)∧m.f.n≤6∧m.f.m≤6)))) (h2:((((n.a.n≤6∧n.a.m≤6)∧n.b.n≤6∧n.b.m≤6))∧(((n.c.n≤6∧n.c.m≤6)∧n.d.n≤6∧n.d.m≤6))∧(((n.e.n≤6∧n.e.m≤6)∧n.f.n≤6∧n.f.m≤6)))) (h3:((n_p≤6∧m_p≤6)∧i_p≤6∧j_p≤6)) (h0:v.det ≠ 0) (R:Bool) (hR:v.same u=R) :
 Calls Tryz.prog 6 #[.agg #[.bool m.a.s,.slice m.a.A m.a.n m.a.c,.slice m.a.B m.a.m m.a.d,.bool m.b.s,.slice m.b.A m.b.n m.b.c,.slice m.b.B m.b.m m.b.d,.bool m.c.s,.slice m.c.A m.c.n m.c.c,.slice m.c.B m.c.m m.c.d,.bool m.d.s,.slice m.d.A m.d.n m.d.c,.slice m.d.B m.d.m m.d.d,.bool m.e.s,.slice m.e.A m.e.n m.e.c,.slice m.e.B m.e.m m.e.d,.bool m.f.s,.slice m.f.A m.f.n m.f.c,.slice m.f.B m.f.m m.f.d],.agg #[.bool n.a.s,.slice n.a.A n.a.n n.a.c,.slice n.a.B n.a.m n.a.d,.bool n.b.s,.slice n.b.A n.b.n n.b.c,.slice n.b.B n.b.m n.b.d,.bool n.c.s,.slice n.c.A n.c.n n.c.c,.slice n.c.B n.c.m n.c.d,.bool n.d.s,.slice n.d.A n.d.n n.d.c,.slice n.d.B n.d.m n.d.d,.bool n.e.s,.slice n.e.A n.e.n n.e.c,.slice n.e.B n.e.m n.e.d,.bool n.f.s,.slice n.f.A n.f.n n.f.c,.slice n.f.B n.f.m n.f.d],.agg #[.bool s_p,.slice A_p n_p c_p,.slice B_p m_p d_p,.bool t_p,.slice E_p i_p e_p,.slice F_p j_p f_p]] w fun e w'=>e=.returned (.bool true)∧Below w.heap.size w w':=by
 have HM:Hid (decide ((((m.a.n≤6∧m.a.m≤6)∧m.b.n≤6∧m.b.m≤6))∧(((m.c.n≤6∧m.c.m≤6)∧m.d.n≤6∧m.d.m≤6))∧(((m.e.n≤6∧m.e.m≤6)∧m.f.n≤6∧m.f.m≤6)))=true):=decide_eq_true h1
 have HN:Hid (decide ((((n.a.n≤6∧n.a.m≤6)∧n.b.n≤6∧n.b.m≤6))∧(((n.c.n≤6∧n.c.m≤6)∧n.d.n≤6∧n.d.m≤6))∧(((n.e.n≤6∧n.e.m≤6)∧n.f.n≤6∧n.f.m≤6)))=true):=decide_eq_true h2
 have HL:Hid (decide ((n_p≤6∧m_p≤6)∧i_p≤6∧j_p≤6)=true):=decide_eq_true h3
 have HR:=Lib.hid hR
 have HE:=Lib.hid ((eqs_same v u).symm.trans hR)
 obtain ⟨K,hK,hK0⟩:∃ K,sgnQ v.det=K∧((K:Int) == 0)=false:=⟨_,rfl,by simpa using fun q=>h0 (sgn9_nul.1 q)⟩
 have HK:=Lib.hid hK;clear hK;have H0:=Lib.hid h0;clear h0 h1 h2 h3 hR
 go_enter Tryz.func6,Tryz.ntmps6
 go_upto_region 1 with (fail)
 generalize hW:World.alloc _ _=W
 obtain ⟨hb,XA,XB,XP,hzW⟩:=mkbx54_20 hW;clear hW;replace M:=M.below hb;replace Nn:=Nn.below hb;replace p:=p.below hb;have xal:=XA.ld
 go_upto_region 3 with (first
  | (go_at_call 35;(with_reducible refine (fairM true HM.out).mono ?_);rintro e w_z ⟨rfl,hh⟩
     (try replace M:=M.below hh);(try replace Nn:=Nn.below hh);(try replace p:=p.below hh);(try replace XA:=XA.below hh);(try replace XB:=XB.below hh);(try replace XP:=XP.below hh);replace hb:=bend hb hh;have xbl:=XB.ld)
  | (go_at_call 35;(with_reducible refine (fairM true HN.out).mono ?_);rintro e w_y ⟨rfl,hh⟩
     (try replace M:=M.below hh);(try replace Nn:=Nn.below hh);(try replace p:=p.below hh);(try replace XA:=XA.below hh);(try replace XB:=XB.below hh);(try replace XP:=XP.below hh);replace hb:=bend hb hh;obtain ⟨xp0,xp1,xp2,xp3,xp4,xp5⟩:=XP.all
     have ha:Below w_y.heap.size w_y (w_y.alloc (.cells #[.bool s_p,.slice A_p n_p c_p,.slice B_p m_p d_p,.bool t_p,.slice E_p i_p e_p,.slice F_p j_p f_p] 29)):=(Below.refl _ _).alloc (Nat.le_refl _) _
     have XS:=BL1.new' w_y (.bool s_p) (.slice A_p n_p c_p) (.slice B_p m_p d_p) (.bool t_p) (.slice E_p i_p e_p) (.slice F_p j_p f_p) _ rfl
     replace M:=M.below ha;replace Nn:=Nn.below ha;replace p:=p.below ha;replace XA:=XA.below ha;replace XB:=XB.below ha;replace XP:=XP.below ha;replace hb:=bend hb ha;clear ha)
  | (go_at_call 11;(with_reducible refine (fair1 XS true HL.out).mono ?_);rintro e w_x ⟨rfl,hh⟩
     (try replace M:=M.below hh);(try replace Nn:=Nn.below hh);(try replace p:=p.below hh);(try replace XA:=XA.below hh);(try replace XB:=XB.below hh);(try replace XP:=XP.below hh);replace hb:=bend hb hh;clear XS xp0 xp1 xp2 xp3 xp4 xp5))
 clear xal xbl
 refine mdi_region (by simp) rfl rfl XA XB M Nn ?_
 intro V1 w_x g_x x g_y y x0 XX hg_x hvx y0 XY hg_y hvy hn1 hh
 simp only [putAll,Act.put,List.setIfInBounds_toArray,List.set_cons_zero,List.set_cons_succ,hvx,hvy]
 clear hvx hvy;replace M:=M.below hh;replace Nn:=Nn.below hh;replace p:=p.below hh;replace XA:=XA.below hh;replace XB:=XB.below hh;replace XP:=XP.below hh;replace hb:=bend hb hh;have xal:=XA.ld
 go_upto_region 5 with (first
  | (go_at_call 38;(with_reducible refine (minv_p M (by decide) (by decide) (by decide) (by decide) H0.out).mono ?_);rintro e w_i ⟨i,rfl,ih,hh⟩
     (try replace M:=M.below hh);(try replace Nn:=Nn.below hh);(try replace p:=p.below hh);(try replace XA:=XA.below hh);(try replace XB:=XB.below hh);(try replace XP:=XP.below hh);(try replace x0:=x0.below hh);(try replace XX:=XX.below hh);(try replace y0:=y0.below hh);(try replace XY:=XY.below hh);replace hb:=bend hb hh
     have zs:=st_newM w_i (.bool i.a.s) (.slice i.a.A i.a.n i.a.c) (.slice i.a.B i.a.m i.a.d) (.bool i.b.s) (.slice i.b.A i.b.n i.b.c) (.slice i.b.B i.b.m i.b.d) (.bool i.c.s) (.slice i.c.A i.c.n i.c.c) (.slice i.c.B i.c.m i.c.d) (.bool i.d.s) (.slice i.d.A i.d.n i.d.c) (.slice i.d.B i.d.m i.d.d) (.bool i.e.s) (.slice i.e.A i.e.n i.e.c) (.slice i.e.B i.e.m i.e.d) (.bool i.f.s) (.slice i.f.A i.f.n i.f.c) (.slice i.f.B i.f.m i.f.d) (by simp [Value.oneCell'])))
 clear zs xal
 generalize hW:World.alloc _ _=W1
 obtain ⟨hh,XI,hzW1⟩:=mkbx43_15 hW;clear hW;(try replace M:=M.below hh);(try replace Nn:=Nn.below hh);(try replace p:=p.below hh);(try replace XA:=XA.below hh);(try replace XB:=XB.below hh);(try replace XP:=XP.below hh);(try replace x0:=x0.below hh);(try replace XX:=XX.below hh);(try replace y0:=y0.below hh);(try replace XY:=XY.below hh);(try replace ih:=ih.below hh);replace hb:=bend hb hh;have xxl:=XX.ld
 go_upto_region 8 with (first
  | (go_at_call 39;(with_reducible refine (rdet9 x0 (by decide)).mono ?_);rintro e w_d ⟨s_d,A_d,n_d,c_d,B_d,m_d,d_d,rfl,d,hh⟩
     (try replace M:=M.below hh);(try replace Nn:=Nn.below hh);(try replace p:=p.below hh);(try replace XA:=XA.below hh);(try replace XB:=XB.below hh);(try replace XP:=XP.below hh);(try replace x0:=x0.below hh);(try replace XX:=XX.below hh);(try replace y0:=y0.below hh);(try replace XY:=XY.below hh);(try replace ih:=ih.below hh);(try replace XI:=XI.below hh);replace hb:=bend hb hh)
  | (go_at_call 40;(with_reducible refine (rsign3 d).mono ?_);rintro e w_e ⟨rfl,hh⟩
     rw [HK.out];clear d
     (try replace M:=M.below hh);(try replace Nn:=Nn.below hh);(try replace p:=p.below hh);(try replace XA:=XA.below hh);(try replace XB:=XB.below hh);(try replace XP:=XP.below hh);(try replace x0:=x0.below hh);(try replace XX:=XX.below hh);(try replace y0:=y0.below hh);(try replace XY:=XY.below hh);(try replace ih:=ih.below hh);(try replace XI:=XI.below hh);replace hb:=bend hb hh))
 clear xxl
 replace M:=M.below (Below.refl _ _).drew
 replace Nn:=Nn.below (Below.refl _ _).drew
 replace p:=p.below (Below.refl _ _).drew
 replace XA:=XA.below (Below.refl _ _).drew
 replace XB:=XB.below (Below.refl _ _).drew
 replace XP:=XP.below (Below.refl _ _).drew
 replace x0:=x0.below (Below.refl _ _).drew
 replace XX:=XX.below (Below.refl _ _).drew
 replace y0:=y0.below (Below.refl _ _).drew
 replace XY:=XY.below (Below.refl _ _).drew
 replace ih:=ih.below (Below.refl _ _).drew
 replace XI:=XI.below (Below.refl _ _).drew
 replace hb:=hb.drew
 go_region_held3 (fun w'=>(LVN ⟨g_x,0,none⟩).run Tryz.prog w'=.ok (.agg #[.bool x.a.s,.slice x.a.A x.a.n x.a.c,.slice x.a.B x.a.m x.a.d,.bool x.b.s,.slice x.b.A x.b.n x.b.c,.slice x.b.B x.b.m x.b.d,.bool x.c.s,.slice x.c.A x.c.n x.c.c,.slice x.c.B x.c.m x.c.d,.bool x.d.s,.slice x.d.A x.d.n x.d.c,.slice x.d.B x.d.m x.d.d,.bool x.e.s,.slice x.e.A x.e.n x.e.c,.slice x.e.B x.e.m x.e.d,.bool x.f.s,.slice x.f.A x.f.n x.f.c,.slice x.f.B x.f.m x.f.d]) w'∧(LVM ⟨w_i.heap.size,0,none⟩).run Tryz.prog w'=.ok (.agg #[.bool i.a.s,.slice i.a.A i.a.n i.a.c,.slice i.a.B i.a.m i.a.d,.bool i.b.s,.slice i.b.A i.b.n i.b.c,.slice i.b.B i.b.m i.b.d,.bool i.c.s,.slice i.c.A i.c.n i.c.c,.slice i.c.B i.c.m i.c.d,.bool i.d.s,.slice i.d.A i.d.n i.d.c,.slice i.d.B i.d.m i.d.d,.bool i.e.s,.slice i.e.A i.e.n i.e.c,.slice i.e.B i.e.m i.e.d,.bool i.f.s,.slice i.f.A i.f.n i.f.c,.slice i.f.B i.f.m i.f.d]) w')
  (first | with_reducible exact ⟨XX.ld,XI.ld⟩)
  (first
  | (go_at_call 42;(with_reducible refine (rinv9 x0 (by decide) (by decide) (by decide) H0.out).mono ?_);rintro e w_j ⟨j,rfl,jh,hh⟩
     (try replace M:=M.below hh);(try replace Nn:=Nn.below hh);(try replace p:=p.below hh);(try replace XA:=XA.below hh);(try replace XB:=XB.below hh);(try replace XP:=XP.below hh);(try replace x0:=x0.below hh);(try replace XX:=XX.below hh);(try replace y0:=y0.below hh);(try replace XY:=XY.below hh);(try replace ih:=ih.below hh);(try replace XI:=XI.below hh);replace hb:=bend hb hh)
  | (go_at_call 41;(with_reducible refine (lsame9 ih jh (by decide) (by decide) (by decide) (by decide) rfl).mono ?_);rintro e w_z ⟨rfl,hh⟩
     (try replace M:=M.below hh);(try replace Nn:=Nn.below hh);(try replace p:=p.below hh);(try replace XA:=XA.below hh);(try replace XB:=XB.below hh);(try replace XP:=XP.below hh);(try replace x0:=x0.below hh);(try replace XX:=XX.below hh);(try replace y0:=y0.below hh);(try replace XY:=XY.below hh);(try replace ih:=ih.below hh);(try replace XI:=XI.below hh);replace hb:=bend hb hh;clear jh))
 clear ih XI
 go_upto_region 10 with (fail)
 replace M:=M.below (Below.refl _ _).drew
 replace Nn:=Nn.below (Below.refl _ _).drew
 replace p:=p.below (Below.refl _ _).drew
 replace XA:=XA.below (Below.refl _ _).drew
 replace XB:=XB.below (Below.refl _ _).drew
 replace XP:=XP.below (Below.refl _ _).drew
 replace x0:=x0.below (Below.refl _ _).drew
 replace XX:=XX.below (Below.refl _ _).drew
 replace y0:=y0.below (Below.refl _ _).drew
 replace XY:=XY.below (Below.refl _ _).drew
 replace hb:=hb.drew
 go_region_held3 (fun w'=>(LVM ⟨w.heap.size,0,none⟩).run Tryz.prog w'=.ok (.agg #[.bool m.a.s,.slice m.a.A m.a.n m.a.c,.slice m.a.B m.a.m m.a.d,.bool m.b.s,.slice m.b.A m.b.n m.b.c,.slice m.b.B m.b.m m.b.d,.bool m.c.s,.slice m.c.A m.c.n m.c.c,.slice m.c.B m.c.m m.c.d,.bool m.d.s,.slice m.d.A m.d.n m.d.c,.slice m.d.B m.d.m m.d.d,.bool m.e.s,.slice m.e.A m.e.n m.e.c,.slice m.e.B m.e.m m.e.d,.bool m.f.s,.slice m.f.A m.f.n m.f.c,.slice m.f.B m.f.m m.f.d]) w'∧(LVM ⟨w.heap.size+1,0,none⟩).run Tryz.prog w'=.ok (.agg #[.bool n.a.s,.slice n.a.A n.a.n n.a.c,.slice n.a.B n.a.m n.a.d,.bool n.b.s,.slice n.b.A n.b.n n.b.c,.slice n.b.B n.b.m n.b.d,.bool n.c.s,.slice n.c.A n.c.n n.c.c,.slice n.c.B n.c.m n.c.d,.bool n.d.s,.slice n.d.A n.d.n n.d.c,.slice n.d.B n.d.m n.d.d,.bool n.e.s,.slice n.e.A n.e.n n.e.c,.slice n.e.B n.e.m n.e.d,.bool n.f.s,.slice n.f.A n.f.n n.f.c,.slice n.f.B n.f.m n.f.d]) w'∧w'.cell? ⟨w.heap.size+1+1,0,none⟩=some (.bool s_p)∧w'.cell? ⟨w.heap.size+1+1,1,none⟩=some (.slice A_p n_p c_p)∧w'.cell? ⟨w.heap.size+1+1,2,none⟩=some (.slice B_p m_p d_p)∧w'.cell? ⟨w.heap.size+1+1,3,none⟩=some (.bool t_p)∧w'.cell? ⟨w.heap.size+1+1,4,none⟩=some (.slice E_p i_p e_p)∧w'.cell? ⟨w.heap.size+1+1,5,none⟩=some (.slice F_p j_p f_p)∧(LVN ⟨g_x,0,none⟩).run Tryz.prog w'=.ok (.agg #[.bool x.a.s,.slice x.a.A x.a.n x.a.c,.slice x.a.B x.a.m x.a.d,.bool x.b.s,.slice x.b.A x.b.n x.b.c,.slice x.b.B x.b.m x.b.d,.bool x.c.s,.slice x.c.A x.c.n x.c.c,.slice x.c.B x.c.m x.c.d,.bool x.d.s,.slice x.d.A x.d.n x.d.c,.slice x.d.B x.d.m x.d.d,.bool x.e.s,.slice x.e.A x.e.n x.e.c,.slice x.e.B x.e.m x.e.d,.bool x.f.s,.slice x.f.A x.f.n x.f.c,.slice x.f.B x.f.m x.f.d]) w'∧(LVN ⟨g_y,0,none⟩).run Tryz.prog w'=.ok (.agg #[.bool y.a.s,.slice y.a.A y.a.n y.a.c,.slice y.a.B y.a.m y.a.d,.bool y.b.s,.slice y.b.A y.b.n y.b.c,.slice y.b.B y.b.m y.b.d,.bool y.c.s,.slice y.c.A y.c.n y.c.c,.slice y.c.B y.c.m y.c.d,.bool y.d.s,.slice y.d.A y.d.n y.d.c,.slice y.d.B y.d.m y.d.d,.bool y.e.s,.slice y.e.A y.e.n y.e.c,.slice y.e.B y.e.m y.e.d,.bool y.f.s,.slice y.f.A y.f.n y.f.c,.slice y.f.B y.f.m y.f.d]) w')
  (first | with_reducible exact ⟨XA.ld,XB.ld,XP.c0,XP.c1,XP.c2,XP.c3,XP.c4,XP.c5,XX.ld,XY.ld⟩)
  (first
  | (go_at_call 43;(with_reducible refine (mapply_p M p (by decide) (by decide) (by decide) (by decide) (by decide)).mono ?_);rintro e w_a ⟨s_a,A_a,n_a,c_a,B_a,m_a,d_a,t_a,E_a,i_a,e_a,F_a,j_a,f_a,rfl,a,hh⟩
     (try replace M:=M.below hh);(try replace Nn:=Nn.below hh);(try replace p:=p.below hh);(try replace XA:=XA.below hh);(try replace XB:=XB.below hh);(try replace XP:=XP.below hh);(try replace x0:=x0.below hh);(try replace XX:=XX.below hh);(try replace y0:=y0.below hh);(try replace XY:=XY.below hh);replace hb:=bend hb hh)
  | (go_at_call 25;(with_reducible refine (rin6 p (by decide) (by decide)).mono ?_);rintro e w_b ⟨s_b,A_b,n_b,c_b,B_b,m_b,d_b,t_b,E_b,i_b,e_b,F_b,j_b,f_b,rfl,b,hh⟩
     (try replace M:=M.below hh);(try replace Nn:=Nn.below hh);(try replace p:=p.below hh);(try replace XA:=XA.below hh);(try replace XB:=XB.below hh);(try replace XP:=XP.below hh);(try replace x0:=x0.below hh);(try replace XX:=XX.below hh);(try replace y0:=y0.below hh);(try replace XY:=XY.below hh);(try replace a:=a.below hh);replace hb:=bend hb hh)
  | (go_at_call 44;(with_reducible refine (rapply9 x0 b (by decide) (by decide)).mono ?_);rintro e w_c ⟨s_c,A_c,n_c,c_c,B_c,m_c,d_c,t_c,E_c,i_c,e_c,F_c,j_c,f_c,rfl,c,hh⟩
     (try replace M:=M.below hh);(try replace Nn:=Nn.below hh);(try replace p:=p.below hh);(try replace XA:=XA.below hh);(try replace XB:=XB.below hh);(try replace XP:=XP.below hh);(try replace x0:=x0.below hh);(try replace XX:=XX.below hh);(try replace y0:=y0.below hh);(try replace XY:=XY.below hh);(try replace a:=a.below hh);replace hb:=bend hb hh;clear b)
  | (go_at_call 17;(with_reducible refine (lsame6 a c rfl rfl (by decide) (by decide)).mono ?_);rintro e w_z ⟨rfl,hh⟩
     (try replace M:=M.below hh);(try replace Nn:=Nn.below hh);(try replace p:=p.below hh);(try replace XA:=XA.below hh);(try replace XB:=XB.below hh);(try replace XP:=XP.below hh);(try replace x0:=x0.below hh);(try replace XX:=XX.below hh);(try replace y0:=y0.below hh);(try replace XY:=XY.below hh);replace hb:=bend hb hh;clear a c)
  | (go_at_call 45;(with_reducible refine (mmul_p M Nn (by decide) (by decide) (by decide) (by decide) (by decide) (by decide) (by decide) ).mono ?_);rintro e w_f ⟨f,rfl,fh,hh⟩
     (try replace M:=M.below hh);(try replace Nn:=Nn.below hh);(try replace p:=p.below hh);(try replace XA:=XA.below hh);(try replace XB:=XB.below hh);(try replace XP:=XP.below hh);(try replace x0:=x0.below hh);(try replace XX:=XX.below hh);(try replace y0:=y0.below hh);(try replace XY:=XY.below hh);replace hb:=bend hb hh)
  | (go_at_call 46;(with_reducible refine (rmul9 x0 y0 (by decide) (by decide) (by decide) (by decide) ).mono ?_);rintro e w_g ⟨g,rfl,gh,hh⟩
     (try replace M:=M.below hh);(try replace Nn:=Nn.below hh);(try replace p:=p.below hh);(try replace XA:=XA.below hh);(try replace XB:=XB.below hh);(try replace XP:=XP.below hh);(try replace x0:=x0.below hh);(try replace XX:=XX.below hh);(try replace y0:=y0.below hh);(try replace XY:=XY.below hh);(try replace fh:=fh.below hh);replace hb:=bend hb hh)
  | (go_at_call 41;(with_reducible refine (lsame9 fh gh (by decide) (by decide) (by decide) (by decide) rfl).mono ?_);rintro e w_z ⟨rfl,hh⟩
     (try replace M:=M.below hh);(try replace Nn:=Nn.below hh);(try replace p:=p.below hh);(try replace XA:=XA.below hh);(try replace XB:=XB.below hh);(try replace XP:=XP.below hh);(try replace x0:=x0.below hh);(try replace XX:=XX.below hh);(try replace y0:=y0.below hh);(try replace XY:=XY.below hh);replace hb:=bend hb hh;clear fh gh)
  | (go_at_call 47;(with_reducible refine (mdet_p M (by decide) (by decide)).mono ?_);rintro e w_k ⟨s_k,A_k,n_k,c_k,B_k,m_k,d_k,rfl,k,hh⟩
     (try replace M:=M.below hh);(try replace Nn:=Nn.below hh);(try replace p:=p.below hh);(try replace XA:=XA.below hh);(try replace XB:=XB.below hh);(try replace XP:=XP.below hh);(try replace x0:=x0.below hh);(try replace XX:=XX.below hh);(try replace y0:=y0.below hh);(try replace XY:=XY.below hh);replace hb:=bend hb hh)
  | (go_at_call 39;(with_reducible refine (rdet9 x0 (by decide)).mono ?_);rintro e w_l ⟨s_l,A_l,n_l,c_l,B_l,m_l,d_l,rfl,l,hh⟩
     (try replace M:=M.below hh);(try replace Nn:=Nn.below hh);(try replace p:=p.below hh);(try replace XA:=XA.below hh);(try replace XB:=XB.below hh);(try replace XP:=XP.below hh);(try replace x0:=x0.below hh);(try replace XX:=XX.below hh);(try replace y0:=y0.below hh);(try replace XY:=XY.below hh);(try replace k:=k.below hh);replace hb:=bend hb hh)
  | (go_at_call 18;(with_reducible refine (same3 k l rfl (by decide) (by decide)).mono ?_);rintro e w_z ⟨rfl,hh⟩
     (try replace M:=M.below hh);(try replace Nn:=Nn.below hh);(try replace p:=p.below hh);(try replace XA:=XA.below hh);(try replace XB:=XB.below hh);(try replace XP:=XP.below hh);(try replace x0:=x0.below hh);(try replace XX:=XX.below hh);(try replace y0:=y0.below hh);(try replace XY:=XY.below hh);replace hb:=bend hb hh;clear k l)
  | (go_at_call 48;(with_reducible refine (msame_p M Nn (by decide) (by decide) (by decide) (by decide) (by decide) (by decide) (by decide) (by decide) R HR.out).mono ?_);rintro e w_z ⟨rfl,hh⟩
     (try replace M:=M.below hh);(try replace Nn:=Nn.below hh);(try replace p:=p.below hh);(try replace XA:=XA.below hh);(try replace XB:=XB.below hh);(try replace XP:=XP.below hh);(try replace x0:=x0.below hh);(try replace XX:=XX.below hh);(try replace y0:=y0.below hh);(try replace XY:=XY.below hh);replace hb:=bend hb hh)
  | (go_at_call 50;(with_reducible refine (rout9 x0 (by decide) (by decide) (x0.fits (by decide) (by decide))).mono ?_);rintro e w_s ⟨s,rfl,sh,hh⟩
     (try replace M:=M.below hh);(try replace Nn:=Nn.below hh);(try replace p:=p.below hh);(try replace XA:=XA.below hh);(try replace XB:=XB.below hh);(try replace XP:=XP.below hh);(try replace x0:=x0.below hh);(try replace XX:=XX.below hh);(try replace y0:=y0.below hh);(try replace XY:=XY.below hh);replace hb:=bend hb hh)
  | (go_at_call 50;(with_reducible refine (rout9 y0 (by decide) (by decide) (y0.fits (by decide) (by decide))).mono ?_);rintro e w_t ⟨t,rfl,th,hh⟩
     (try replace M:=M.below hh);(try replace Nn:=Nn.below hh);(try replace p:=p.below hh);(try replace XA:=XA.below hh);(try replace XB:=XB.below hh);(try replace XP:=XP.below hh);(try replace x0:=x0.below hh);(try replace XX:=XX.below hh);(try replace y0:=y0.below hh);(try replace XY:=XY.below hh);(try replace sh:=sh.below hh);replace hb:=bend hb hh)
  | (go_at_call 49;(with_reducible refine (mats_p sh th (sh.len (by decide) (by decide)) R HE.out).mono ?_);rintro e w_z ⟨rfl,hh⟩
     (try replace M:=M.below hh);(try replace Nn:=Nn.below hh);(try replace p:=p.below hh);(try replace XA:=XA.below hh);(try replace XB:=XB.below hh);(try replace XP:=XP.below hh);(try replace x0:=x0.below hh);(try replace XX:=XX.below hh);(try replace y0:=y0.below hh);(try replace XY:=XY.below hh);replace hb:=bend hb hh;clear sh th)
  | (go_at_call 36;(with_reducible refine (wakes9_any _).mono ?_);rintro e w_z ⟨rfl,hh⟩
     (try replace XA:=XA.below hh);(try replace XB:=XB.below hh);(try replace XP:=XP.below hh);(try replace XX:=XX.below hh);(try replace XY:=XY.below hh);replace hb:=bend hb hh))
 go_wp2_with fail
 go_ret
 exact ⟨by simp,hb⟩
theorem law_does9 {m n:MV} {lap lbp lcp ldp:List Nat} (hm:MRows w m) (hn:MRows w n) (ap:Rd .u64 w A_p n_p lap) (bp:Rd .u64 w B_p m_p lbp) (up:Rd .u64 w E_p i_p lcp) (vp:Rd .u64 w F_p j_p ldp) (tap:Lim B64 lap) (tbp:Lim B64 lbp) (tcp:Lim B64 lcp) (tdp:Lim B64 ldp) (cap:n_p≤c_p) (cbp:m_p≤d_p) (ccp:i_p≤e_p) (cdp:j_p≤f_p) :
 Calls Tryz.prog 6 #[.agg #[.bool m.a.s,.slice m.a.A m.a.n m.a.c,.slice m.a.B m.a.m m.a.d,.bool m.b.s,.slice m.b.A m.b.n m.b.c,.slice m.b.B m.b.m m.b.d,.bool m.c.s,.slice m.c.A m.c.n m.c.c,.slice m.c.B m.c.m m.c.d,.bool m.d.s,.slice m.d.A m.d.n m.d.c,.slice m.d.B m.d.m m.d.d,.bool m.e.s,.slice m.e.A m.e.n m.e.c,.slice m.e.B m.e.m m.e.d,.bool m.f.s,.slice m.f.A m.f.n m.f.c,.slice m.f.B m.f.m m.f.d],.agg #[.bool n.a.s,.slice n.a.A n.a.n n.a.c,.slice n.a.B n.a.m n.a.d,.bool n.b.s,.slice n.b.A n.b.n n.b.c,.slice n.b.B n.b.m n.b.d,.bool n.c.s,.slice n.c.A n.c.n n.c.c,.slice n.c.B n.c.m n.c.d,.bool n.d.s,.slice n.d.A n.d.n n.d.c,.slice n.d.B n.d.m n.d.d,.bool n.e.s,.slice n.e.A n.e.n n.e.c,.slice n.e.B n.e.m n.e.d,.bool n.f.s,.slice n.f.A n.f.n n.f.c,.slice n.f.B n.f.m n.f.d],.agg #[.bool s_p,.slice A_p n_p c_p,.slice B_p m_p d_p,.bool t_p,.slice E_p i_p e_p,.slice F_p j_p f_p]] w fun e w'=>e=.returned (.bool true)∧Below w.heap.size w w':=by
 obtain ⟨v,hv⟩:=hm.mr
 obtain ⟨u,hu⟩:=hn.mr
 by_cases h1:((((m.a.n≤6∧m.a.m≤6)∧m.b.n≤6∧m.b.m≤6))∧(((m.c.n≤6∧m.c.m≤6)∧m.d.n≤6∧m.d.m≤6))∧(((m.e.n≤6∧m.e.m≤6)∧m.f.n≤6∧m.f.m≤6)))
 · by_cases h2:((((n.a.n≤6∧n.a.m≤6)∧n.b.n≤6∧n.b.m≤6))∧(((n.c.n≤6∧n.c.m≤6)∧n.d.n≤6∧n.d.m≤6))∧(((n.e.n≤6∧n.e.m≤6)∧n.f.n≤6∧n.f.m≤6)))
   · by_cases h3:((n_p≤6∧m_p≤6)∧i_p≤6∧j_p≤6)
     · have p:PR w s_p A_p n_p c_p B_p m_p d_p t_p E_p i_p e_p F_p j_p f_p (mkRat (iv s_p (val B64 lap)) (den1 (val B64 lbp))) (mkRat (iv t_p (val B64 lcp)) (den1 (val B64 ldp))) 6:=⟨QR.of_rd ap tap cap bp tbp cbp h3.1.1 h3.1.2,QR.of_rd up tcp ccp vp tdp cdp h3.2.1 h3.2.2⟩
       by_cases h0:v.det=0
       · exact mdoes_z (hv h1) (hu h2) p h1 h2 h3 h0 _ rfl
       · exact mdoes_p (hv h1) (hu h2) p h1 h2 h3 h0 _ rfl
     · exact mdoes_l2 h1 h2 h3
   · exact mdoes_l1 h1 h2
 · exact mdoes_l0 h1
end Go.Proofs.YtgneghgfpkkkdaaGreat
