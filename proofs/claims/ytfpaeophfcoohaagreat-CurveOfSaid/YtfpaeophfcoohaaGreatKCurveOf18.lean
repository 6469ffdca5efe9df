/- CurveOf: part 18. -/
import Derived.Lib.SmallJoins
import Derived.OpenShut
import Derived.Test.YtfpaeophfcoohaaGreatKCurveOf0
import Derived.Test.YtfpaeophfcoohaaGreatKCurveOf11
import Derived.Test.YtfpaeophfcoohaaGreatKCurveOf12
import Derived.Test.YtfpaeophfcoohaaGreatKCurveOf15
import Derived.Test.YtfpaeophfcoohaaGreatKCurveOf16
import Derived.Test.YtfpaeophfcoohaaGreatKCurveOf17
set_option linter.unusedVariables false
set_option maxRecDepth 100000
set_option maxHeartbeats 16000000
variable {w:Go.World}
variable {s_p t_p:Bool} {A_p B_p E_p F_p:Option Go.Addr} {n_p c_p m_p d_p i_p e_p j_p f_p:Nat}
namespace Go.Proofs.YtfpaeophfcoohaaGreat
section
open Go Go.RowKit
attribute [local go_sem ↓] open_LVM open_STM open_LVN open_STN
attribute [local go_sem ↓] open_LVH open_STH open_LVJ open_STJ
theorem cof_p {k l kp:Nat} {v:AM} {m:MV} {fx fy:Rat} (u:SV8) (p:PR w s_p A_p n_p c_p B_p m_p d_p t_p E_p i_p e_p F_p j_p f_p fx fy kp) (M:MR w m v k l) (hin:u.In) (hkk:k+kp≤10000) (hl:l≤9000) (h1:1≤k) (h2:1≤kp) (h3:1≤l) (hd:u.draws) :
 Calls Tryz.prog 11 #[.agg #[.bool s_p,.slice A_p n_p c_p,.slice B_p m_p d_p,.bool t_p,.slice E_p i_p e_p,.slice F_p j_p f_p],.agg #[.int .i64 u.k,.int .i64 u.v0,.int .i64 u.v1,.int .i64 u.v2,.int .i64 u.v3,.int .i64 u.v4,.int .i64 u.v5,.int .i64 u.w],.agg #[.bool m.a.s,.slice m.a.A m.a.n m.a.c,.slice m.a.B m.a.m m.a.d,.bool m.b.s,.slice m.b.A m.b.n m.b.c,.slice m.b.B m.b.m m.b.d,.bool m.c.s,.slice m.c.A m.c.n m.c.c,.slice m.c.B m.c.m m.c.d,.bool m.d.s,.slice m.d.A m.d.n m.d.c,.slice m.d.B m.d.m m.d.d,.bool m.e.s,.slice m.e.A m.e.n m.e.c,.slice m.e.B m.e.m m.e.d,.bool m.f.s,.slice m.f.A m.f.n m.f.c,.slice m.f.B m.f.m m.f.d]] w (GivesHsE w (ofL v fx fy u (cntK u.k)) (k+kp+(k+kp)+1+l+1+1)):=by
 have hn:=hd.1
 by_cases hk:u.k=5
 · exact cof_5 u p M hin hkk hl h1 h2 h3 _ rfl (by omega) hk (hd.2 hk)
 · exact cof_n u p M hin hkk hl h1 h2 h3 _ rfl (by omega) hk
theorem rof13_p {v:AM} {m:MV} {fx fy:Rat} (u:SV8) (p:RP w s_p A_p n_p c_p B_p m_p d_p t_p E_p i_p e_p F_p j_p f_p fx fy 12) (M:RM w m v 12 12) (hin:u.In) (hd:u.draws) :
 Calls Tryz.prog 12 #[.agg #[.bool s_p,.slice A_p n_p c_p,.slice B_p m_p d_p,.bool t_p,.slice E_p i_p e_p,.slice F_p j_p f_p],.agg #[.int .i64 u.k,.int .i64 u.v0,.int .i64 u.v1,.int .i64 u.v2,.int .i64 u.v3,.int .i64 u.v4,.int .i64 u.v5,.int .i64 u.w],.agg #[.bool m.a.s,.slice m.a.A m.a.n m.a.c,.slice m.a.B m.a.m m.a.d,.bool m.b.s,.slice m.b.A m.b.n m.b.c,.slice m.b.B m.b.m m.b.d,.bool m.c.s,.slice m.c.A m.c.n m.c.c,.slice m.c.B m.c.m m.c.d,.bool m.d.s,.slice m.d.A m.d.n m.d.c,.slice m.d.B m.d.m m.d.d,.bool m.e.s,.slice m.e.A m.e.n m.e.c,.slice m.e.B m.e.m m.e.d,.bool m.f.s,.slice m.f.A m.f.n m.f.c,.slice m.f.B m.f.m m.f.d]] w (GivesJsE w (ofL v fx fy u (cntK u.k)) 64):=by
 have h0:=hd.1
 by_cases q2:u.k=2
 · have e:cntK u.k=1:=by rw [q2];rfl
   rw [e];exact rof13_2 u p M hin q2
 · by_cases q3:u.k=3
   · have e:cntK u.k=2:=by rw [q3];rfl
     rw [e];exact rof13_3 u p M hin q3
   · by_cases q4:u.k=4
     · have e:cntK u.k=3:=by rw [q4];rfl
       rw [e];exact rof13_4 u p M hin q4
     · by_cases q5:u.k=5
       · have e:cntK u.k=2:=by rw [q5];rfl
         rw [e];exact rof13_5 u p M hin q5 (hd.2 q5)
       · unfold cntK at h0
         rw [if_neg q2,if_neg (by simp [q3,q5]),if_neg q4] at h0
         exact absurd rfl h0
theorem svz {A:Option Addr} (w:World):SV w A (hvs []):=fun h=>absurd h (by decide)
theorem eachz_j:EachH RH w [] [] 1:=⟨rfl,fun i p u h=>by cases h⟩
theorem eachz_g {k:Nat}:EachH HG w [] [] k:=⟨rfl,fun i p u h=>by cases h⟩
theorem outs_nil (w:World):Calls Tryz.prog 16 #[.slice none 0 0] w fun e w'=>∃ (A:Option Addr) (c:Nat),e=.returned (.slice A 0 c)∧Below w.heap.size w w' :=
 (routs13 (w:=w) (A:=none) (n:=0) (c:=0) (k:=1) (L:=[]) (V:=[]) (svz _) eachz_j rfl (by decide) (by decide) 1 (fun _ h=>by cases h)).mono fun e w' ⟨v,M,he,hl,hE,hb⟩=>by
  obtain rfl:M=[]:=List.eq_nil_of_length_eq_zero hE.1
  obtain ⟨A,c,rfl,_,_⟩:=hl.form
  exact ⟨A,c,he,hb⟩
theorem homs_nil (w:World) (A:Option Addr) (c:Nat):Calls Tryz.prog 15 #[.slice none 0 0,.slice A 0 c] w fun e w'=>e=.returned (.bool true)∧Below w.heap.size w w' :=
 homs_same (L:=[]) (M:=[]) (V:=[]) (k:=1) (k2:=1) (n:=0) (svz _) eachz_g (svz _) eachz_g rfl (by decide) (by decide)
theorem of_l0 {m:MV} (u:SV8) (h1:¬ ((n_p≤6∧m_p≤6)∧i_p≤6∧j_p≤6)) :
 Calls Tryz.prog 3 #[.agg #[.bool s_p,.slice A_p n_p c_p,.slice B_p m_p d_p,.bool t_p,.slice E_p i_p e_p,.slice F_p j_p f_p],.agg #[.int .i64 u.k,.int .i64 u.v0,.int .i64 u.v1,.int .i64 u.v2,.int .i64 u.v3,.int .i64 u.v4,.int .i64 u.v5,.int .i64 u.w],.agg #[.bool m.a.s,.slice m.a.A m.a.n m.a.c,.slice m.a.B m.a.m m.a.d,.bool m.b.s,.slice m.b.A m.b.n m.b.c,.slice m.b.B m.b.m m.b.d,.bool m.c.s,.slice m.c.A m.c.n m.c.c,.slice m.c.B m.c.m m.c.d,.bool m.d.s,.slice m.d.A m.d.n m.d.c,.slice m.d.B m.d.m m.d.d,.bool m.e.s,.slice m.e.A m.e.n m.e.c,.slice m.e.B m.e.m m.e.d,.bool m.f.s,.slice m.f.A m.f.n m.f.c,.slice m.f.B m.f.m m.f.d]] w fun e w'=>e=.returned (.bool true)∧Below w.heap.size w w':=by
 have HL:Hid (decide ((n_p≤6∧m_p≤6)∧i_p≤6∧j_p≤6)=false):=decide_eq_false h1
 clear h1
 go_enter Tryz.func3,Tryz.ntmps3
 go_upto_region 1 with (fail)
 generalize hW:World.alloc _ _=W
 obtain ⟨hb,XF,XS,XM,hzW⟩:=mkbx44_15 hW;clear hW;obtain ⟨xf0,xf1,xf2,xf3,xf4,xf5⟩:=XF.all
 have ha:Below W.heap.size W (W.alloc (Obj.cells #[.bool s_p,.slice A_p n_p c_p,.slice B_p m_p d_p,.bool t_p,.slice E_p i_p e_p,.slice F_p j_p f_p] 28)):=(Below.refl _ _).alloc (Nat.le_refl _) _
 have XL:=BL1.new' W (.bool s_p) (.slice A_p n_p c_p) (.slice B_p m_p d_p) (.bool t_p) (.slice E_p i_p e_p) (.slice F_p j_p f_p) (w.heap.size+3) hzW.symm
 replace XF:=XF.below ha;replace XS:=XS.below ha;replace XM:=XM.below ha;replace hb:=bend hb ha;clear ha
 go_wp2_with (first
  | (go_at_call 8;(with_reducible refine (fair1 XL false HL.out).mono ?_);rintro e w_z ⟨rfl,hh⟩
     (try replace XF:=XF.below hh);(try replace XS:=XS.below hh);(try replace XM:=XM.below hh);replace hb:=bend hb hh;clear XL xf0 xf1 xf2 xf3 xf4 xf5)
  | (go_at_call 10;(with_reducible refine (wakes13_any _).mono ?_);rintro e w_z ⟨rfl,hh⟩
     replace hb:=bend hb hh))
 go_ret;exact ⟨rfl,hb⟩
theorem of_l1 {m:MV} (u:SV8) (h1:((n_p≤6∧m_p≤6)∧i_p≤6∧j_p≤6)) (h2:¬ ((((m.a.n≤6∧m.a.m≤6)∧m.b.n≤6∧m.b.m≤6))∧(((m.c.n≤6∧m.c.m≤6)∧m.d.n≤6∧m.d.m≤6))∧(((m.e.n≤6∧m.e.m≤6)∧m.f.n≤6∧m.f.m≤6)))) :
 Calls Tryz.prog 3 #[.agg #[.bool s_p,.slice A_p n_p c_p,.slice B_p m_p d_p,.bool t_p,.slice E_p i_p e_p,.slice F_p j_p f_p],.agg #[.int .i64 u.k,.int .i64 u.v0,.int .i64 u.v1,.int .i64 u.v2,.int .i64 u.v3,.int .i64 u.v4,.int .i64 u.v5,.int .i64 u.w],.agg #[.bool m.a.s,.slice m.a.A m.a.n m.a.c,.slice m.a.B m.a.m m.a.d,.bool m.b.s,.slice m.b.A m.b.n m.b.c,.slice m.b.B m.b.m m.b.d,.bool m.c.s,.slice m.c.A m.c.n m.c.c,.slice m.c.B m.c.m m.c.d,.bool m.d.s,.slice m.d.A m.d.n m.d.c,.slice m.d.B m.d.m m.d.d,.bool m.e.s,.slice m.e.A m.e.n m.e.c,.slice m.e.B m.e.m m.e.d,.bool m.f.s,.slice m.f.A m.f.n m.f.c,.slice m.f.B m.f.m m.f.d]] w fun e w'=>e=.returned (.bool true)∧Below w.heap.size w w':=by
 have HL:Hid (decide ((n_p≤6∧m_p≤6)∧i_p≤6∧j_p≤6)=true):=decide_eq_true h1
 have HM:Hid (decide ((((m.a.n≤6∧m.a.m≤6)∧m.b.n≤6∧m.b.m≤6))∧(((m.c.n≤6∧m.c.m≤6)∧m.d.n≤6∧m.d.m≤6))∧(((m.e.n≤6∧m.e.m≤6)∧m.f.n≤6∧m.f.m≤6)))=false):=decide_eq_false h2
 clear h1 h2
 go_enter Tryz.func3,Tryz.ntmps3
 go_upto_region 1 with (fail)
 generalize hW:World.alloc _ _=W
 obtain ⟨hb,XF,XS,XM,hzW⟩:=mkbx44_15 hW;clear hW;obtain ⟨xf0,xf1,xf2,xf3,xf4,xf5⟩:=XF.all
 have ha:Below W.heap.size W (W.alloc (Obj.cells #[.bool s_p,.slice A_p n_p c_p,.slice B_p m_p d_p,.bool t_p,.slice E_p i_p e_p,.slice F_p j_p f_p] 28)):=(Below.refl _ _).alloc (Nat.le_refl _) _
 have XL:=BL1.new' W (.bool s_p) (.slice A_p n_p c_p) (.slice B_p m_p d_p) (.bool t_p) (.slice E_p i_p e_p) (.slice F_p j_p f_p) (w.heap.size+3) hzW.symm
 replace XF:=XF.below ha;replace XS:=XS.below ha;replace XM:=XM.below ha;replace hb:=bend hb ha;clear ha
 go_wp2_with (first
  | (go_at_call 8;(with_reducible refine (fair1 XL true HL.out).mono ?_);rintro e w_z ⟨rfl,hh⟩
     (try replace XF:=XF.below hh);(try replace XS:=XS.below hh);(try replace XM:=XM.below hh);replace hb:=bend hb hh;clear XL xf0 xf1 xf2 xf3 xf4 xf5;have xml:=XM.ld)
  | (go_at_call 9;(with_reducible refine (fairM false HM.out).mono ?_);rintro e w_y ⟨rfl,hh⟩
     (try replace XF:=XF.below hh);(try replace XS:=XS.below hh);(try replace XM:=XM.below hh);replace hb:=bend hb hh;clear xml)
  | (go_at_call 10;(with_reducible refine (wakes13_any _).mono ?_);rintro e w_z ⟨rfl,hh⟩
     replace hb:=bend hb hh))
 go_ret;exact ⟨rfl,hb⟩
theorem of_e {m:MV} (u:SV8) {v:AM} {fx fy:Rat} (M:MR w m v 6 6) (p:PR w s_p A_p n_p c_p B_p m_p d_p t_p E_p i_p e_p F_p j_p f_p fx fy 6) (h1:((n_p≤6∧m_p≤6)∧i_p≤6∧j_p≤6)) (h2:((((m.a.n≤6∧m.a.m≤6)∧m.b.n≤6∧m.b.m≤6))∧(((m.c.n≤6∧m.c.m≤6)∧m.d.n≤6∧m.d.m≤6))∧(((m.e.n≤6∧m.e.m≤6)∧m.f.n≤6∧m.f.m≤6)))) (_hin:u.In) (hd:¬ u.draws) :
 Calls Tryz.prog 3 #[.agg #[.bool s_p,.slice A_p n_p c_p,.slice B_p m_p d_p,.bool t_p,.slice E_p i_p e_p,.slice F_p j_p f_p],.agg #[.int .i64 u.k,.int .i64 u.v0,.int .i64 u.v1,.int .i64 u.v2,.int .i64 u.v3,.int .i64 u.v4,.int .i64 u.v5,.int .i64 u.w],.agg #[.bool m.a.s,.slice m.a.A m.a.n m.a.c,.slice m.a.B m.a.m m.a.d,.bool m.b.s,.slice m.b.A m.b.n m.b.c,.slice m.b.B m.b.m m.b.d,.bool m.c.s,.slice m.c.A m.c.n m.c.c,.slice m.c.B m.c.m m.c.d,.bool m.d.s,.slice m.d.A m.d.n m.d.c,.slice m.d.B m.d.m m.d.d,.bool m.e.s,.slice m.e.A m.e.n m.e.c,.slice m.e.B m.e.m m.e.d,.bool m.f.s,.slice m.f.A m.f.n m.f.c,.slice m.f.B m.f.m m.f.d]] w fun e w'=>e=.returned (.bool true)∧Below w.heap.size w w':=by
 have HL:Hid (decide ((n_p≤6∧m_p≤6)∧i_p≤6∧j_p≤6)=true):=decide_eq_true h1
 have HM:Hid (decide ((((m.a.n≤6∧m.a.m≤6)∧m.b.n≤6∧m.b.m≤6))∧(((m.c.n≤6∧m.c.m≤6)∧m.d.n≤6∧m.d.m≤6))∧(((m.e.n≤6∧m.e.m≤6)∧m.f.n≤6∧m.f.m≤6)))=true):=decide_eq_true h2
 have HD:=Lib.hid hd;clear h1 h2 _hin hd
 go_enter Tryz.func3,Tryz.ntmps3
 go_upto_region 1 with (fail)
 generalize hW:World.alloc _ _=W
 obtain ⟨hb,XF,XS,XM,hzW⟩:=mkbx44_15 hW;clear hW;replace M:=M.below hb;replace p:=p.below hb;obtain ⟨xf0,xf1,xf2,xf3,xf4,xf5⟩:=XF.all
 have ha:Below W.heap.size W (W.alloc (Obj.cells #[.bool s_p,.slice A_p n_p c_p,.slice B_p m_p d_p,.bool t_p,.slice E_p i_p e_p,.slice F_p j_p f_p] 28)):=(Below.refl _ _).alloc (Nat.le_refl _) _
 have XL:=BL1.new' W (.bool s_p) (.slice A_p n_p c_p) (.slice B_p m_p d_p) (.bool t_p) (.slice E_p i_p e_p) (.slice F_p j_p f_p) (w.heap.size+3) hzW.symm
 replace M:=M.below ha;replace p:=p.below ha;replace XF:=XF.below ha;replace XS:=XS.below ha;replace XM:=XM.below ha;replace hb:=bend hb ha;clear ha
 go_upto_region 3 with (first
  | (go_at_call 8;(with_reducible refine (fair1 XL true HL.out).mono ?_);rintro e w_z ⟨rfl,hh⟩
     (try replace M:=M.below hh);(try replace p:=p.below hh);(try replace XF:=XF.below hh);(try replace XS:=XS.below hh);(try replace XM:=XM.below hh);replace hb:=bend hb hh;clear XL xf0 xf1 xf2 xf3 xf4 xf5;have xml:=XM.ld)
  | (go_at_call 9;(with_reducible refine (fairM true HM.out).mono ?_);rintro e w_y ⟨rfl,hh⟩
     (try replace M:=M.below hh);(try replace p:=p.below hh);(try replace XF:=XF.below hh);(try replace XS:=XS.below hh);(try replace XM:=XM.below hh);replace hb:=bend hb hh;clear xml))
 obtain ⟨xf0,xf1,xf2,xf3,xf4,xf5⟩:=XF.all;obtain ⟨xs0,xs1,xs2,xs3,xs4,xs5,xs6,xs7⟩:=XS.all;have xml:=XM.ld
 go_upto_region 4 with (first
  | (go_at_call 11;(with_reducible refine (cof_e u HD.out).mono ?_);rintro e w_a ⟨rfl,hh⟩
     (try replace M:=M.below hh);(try replace p:=p.below hh);(try replace XF:=XF.below hh);(try replace XS:=XS.below hh);(try replace XM:=XM.below hh);replace hb:=bend hb hh))
 clear xf0 xf1 xf2 xf3 xf4 xf5 xs0 xs1 xs2 xs3 xs4 xs5 xs6 xs7 xml
 replace M:=M.below (Below.refl _ _).drew
 replace p:=p.below (Below.refl _ _).drew
 replace XF:=XF.below (Below.refl _ _).drew
 replace XS:=XS.below (Below.refl _ _).drew
 replace XM:=XM.below (Below.refl _ _).drew
 replace hb:=hb.drew
 refine wp_region_held_drew (S:=(fun w'=>w'.cell? ⟨w.heap.size,0,none⟩=some (.bool s_p)∧w'.cell? ⟨w.heap.size,1,none⟩=some (.slice A_p n_p c_p)∧w'.cell? ⟨w.heap.size,2,none⟩=some (.slice B_p m_p d_p)∧w'.cell? ⟨w.heap.size,3,none⟩=some (.bool t_p)∧w'.cell? ⟨w.heap.size,4,none⟩=some (.slice E_p i_p e_p)∧w'.cell? ⟨w.heap.size,5,none⟩=some (.slice F_p j_p f_p)∧w'.cell? ⟨w.heap.size+1,0,none⟩=some (.int .i64 u.k)∧w'.cell? ⟨w.heap.size+1,1,none⟩=some (.int .i64 u.v0)∧w'.cell? ⟨w.heap.size+1,2,none⟩=some (.int .i64 u.v1)∧w'.cell? ⟨w.heap.size+1,3,none⟩=some (.int .i64 u.v2)∧w'.cell? ⟨w.heap.size+1,4,none⟩=some (.int .i64 u.v3)∧w'.cell? ⟨w.heap.size+1,5,none⟩=some (.int .i64 u.v4)∧w'.cell? ⟨w.heap.size+1,6,none⟩=some (.int .i64 u.v5)∧w'.cell? ⟨w.heap.size+1,7,none⟩=some (.int .i64 u.w)∧(LVM ⟨w.heap.size+1+1,0,none⟩).run Tryz.prog w'=.ok (.agg #[.bool m.a.s,.slice m.a.A m.a.n m.a.c,.slice m.a.B m.a.m m.a.d,.bool m.b.s,.slice m.b.A m.b.n m.b.c,.slice m.b.B m.b.m m.b.d,.bool m.c.s,.slice m.c.A m.c.n m.c.c,.slice m.c.B m.c.m m.c.d,.bool m.d.s,.slice m.d.A m.d.n m.d.c,.slice m.d.B m.d.m m.d.d,.bool m.e.s,.slice m.e.A m.e.n m.e.c,.slice m.e.B m.e.m m.e.d,.bool m.f.s,.slice m.f.A m.f.n m.f.c,.slice m.f.B m.f.m m.f.d]) w')) (by kernel_rfl) (by with_reducible exact ⟨XF.c0,XF.c1,XF.c2,XF.c3,XF.c4,XF.c5,XS.c0,XS.c1,XS.c2,XS.c3,XS.c4,XS.c5,XS.c6,XS.c7,XM.ld⟩) (fun hHeld=>?_)
 refine wpAnyH_take (i:=0) (oi:=⟨some 29,.load 28 (.tmp 3),28, "law.go:56",#[],none⟩) (v:=?_) rfl (by kernel_rfl) (by kernel_rfl) (by kernel_rfl) (fun _ _ _ h=>h) (Or.inl ⟨by rfl,?_⟩) hHeld ?_
 rotate_left
 · (intro w hSw;(try dsimp only at hSw);go_simp;try with_reducible rfl)
 simp only [Act.put,List.setIfInBounds_toArray,List.set_cons_zero,List.set_cons_succ]
 refine wpAnyH_take (i:=2) (oi:=⟨some 31,.load 31 (.tmp 4),31, "law.go:56",#[],none⟩) (v:=?_) rfl (by kernel_rfl) (by kernel_rfl) (by kernel_rfl) (fun _ _ _ h=>h) (Or.inl ⟨by rfl,?_⟩) hHeld ?_
 rotate_left
 · (intro w hSw;(try dsimp only at hSw);go_simp;try with_reducible rfl)
 simp only [Act.put,List.setIfInBounds_toArray,List.set_cons_zero,List.set_cons_succ]
 refine wpAnyH_take (i:=3) (oi:=⟨some 32,.load 33 (.tmp 5),33, "law.go:56",#[],none⟩) (v:=?_) rfl (by kernel_rfl) (by kernel_rfl) (by kernel_rfl) (fun _ _ _ h=>h) (Or.inl ⟨by rfl,?_⟩) hHeld ?_
 rotate_left
 · (intro w hSw;(try dsimp only at hSw);go_simp;try with_reducible rfl)
 simp only [Act.put,List.setIfInBounds_toArray,List.set_cons_zero,List.set_cons_succ]
 refine wpAnyH_ready (rs:=[1]) (by kernel_rfl) (by simp) ?_
 refine AllReadyH.cons (o:=⟨some 30,.call ⟨.value (.func 13),#[.tmp 29],#[28]⟩,51, "law.go:56",#[⟨0,.data⟩],none⟩) rfl (fun K1 hK1=>?_) AllReadyH.nil
 go_simp
 first
 | (go_at_call 13;(with_reducible refine (rin6 p (by decide) (by decide)).mono ?_);rintro e w_r ⟨s_r,A_r,n_r,c_r,B_r,m_r,d_r,t_r,E_r,i_r,e_r,F_r,j_r,f_r,rfl,r,hh⟩
    (try replace M:=M.below hh);(try replace p:=p.below hh);(try replace XF:=XF.below hh);(try replace XS:=XS.below hh);(try replace XM:=XM.below hh);replace hb:=bend hb hh)
 refine hK1.out _ _ (by with_reducible exact ⟨XF.c0,XF.c1,XF.c2,XF.c3,XF.c4,XF.c5,XS.c0,XS.c1,XS.c2,XS.c3,XS.c4,XS.c5,XS.c6,XS.c7,XM.ld⟩) (fun hHeld=>?_)
 clear hK1 K1
 refine wpAnyH_ready (rs:=[4]) (by kernel_rfl) (by simp) ?_
 refine AllReadyH.cons (o:=⟨some 33,.call ⟨.value (.func 14),#[.tmp 32],#[33]⟩,54, "law.go:56",#[⟨3,.data⟩,⟨1,.chain⟩],none⟩) rfl (fun K1 hK1=>?_) AllReadyH.nil
 go_simp
 first
 | (go_at_call 14;(with_reducible refine (rin9 M (by decide) (by decide) (by decide) (by decide)).mono ?_);rintro e w_n ⟨nm,rfl,nh,hh⟩
    (try replace p:=p.below hh);(try replace XF:=XF.below hh);(try replace XS:=XS.below hh);(try replace XM:=XM.below hh);(try replace r:=r.below hh);replace hb:=bend hb hh)
 refine hK1.out _ _ (by with_reducible exact ⟨XF.c0,XF.c1,XF.c2,XF.c3,XF.c4,XF.c5,XS.c0,XS.c1,XS.c2,XS.c3,XS.c4,XS.c5,XS.c6,XS.c7,XM.ld⟩) (fun hHeld=>?_)
 clear hK1 K1
 refine wpAnyH_ready (rs:=[5]) (by kernel_rfl) (by simp) ?_
 refine AllReadyH.cons (o:=⟨some 34,.call ⟨.value (.func 12),#[.tmp 30,.tmp 31,.tmp 33],#[51,31,54]⟩,42, "law.go:56",#[⟨1,.data⟩,⟨2,.data⟩,⟨4,.data⟩,⟨4,.chain⟩],none⟩) rfl (fun K1 hK1=>?_) AllReadyH.nil
 go_simp
 first
 | (go_at_call 12;(with_reducible refine (rof13_e u HD.out).mono ?_);rintro e w_b ⟨rfl,hh⟩
    (try replace XF:=XF.below hh);(try replace XS:=XS.below hh);(try replace XM:=XM.below hh);replace hb:=bend hb hh)
 refine hK1.out _ _ (by with_reducible exact ⟨XF.c0,XF.c1,XF.c2,XF.c3,XF.c4,XF.c5,XS.c0,XS.c1,XS.c2,XS.c3,XS.c4,XS.c5,XS.c6,XS.c7,XM.ld⟩) (fun hHeld=>?_)
 clear hK1 K1
 refine wpAnyH_take (i:=6) (oi:=⟨some 28,.move (.tmp 34),42, "law.go:56",#[⟨5,.data⟩],none⟩) (v:=?_) rfl (by kernel_rfl) (by kernel_rfl) (by kernel_rfl) (fun _ _ _ h=>h) (Or.inl ⟨by rfl,?_⟩) hHeld ?_
 rotate_left
 · (intro w hSw;(try dsimp only at hSw);go_simp;try with_reducible rfl)
 simp only [Act.put,List.setIfInBounds_toArray,List.set_cons_zero,List.set_cons_succ]
 refine wpAnyH_take (i:=7) (oi:=⟨some 35,.extract (.tmp 28) 0,41, "law.go:56",#[⟨6,.data⟩],none⟩) (v:=?_) rfl (by kernel_rfl) (by kernel_rfl) (by kernel_rfl) (fun _ _ _ h=>h) (Or.inl ⟨by rfl,?_⟩) hHeld ?_
 rotate_left
 · (intro w hSw;(try dsimp only at hSw);go_simp;try with_reducible rfl)
 simp only [Act.put,List.setIfInBounds_toArray,List.set_cons_zero,List.set_cons_succ]
 refine wpAnyH_take (i:=8) (oi:=⟨some 36,.extract (.tmp 28) 1,3, "law.go:56",#[⟨6,.data⟩,⟨9,.gcOnly .lateStores⟩],none⟩) (v:=?_) rfl (by kernel_rfl) (by kernel_rfl) (by kernel_rfl) (fun _ _ _ h=>h) (Or.inl ⟨by rfl,?_⟩) hHeld ?_
 rotate_left
 · (intro w hSw;(try dsimp only at hSw);go_simp;try with_reducible rfl)
 simp only [Act.put,List.setIfInBounds_toArray,List.set_cons_zero,List.set_cons_succ]
 refine wpAnyH_take (i:=9) (oi:=⟨some 9,.assign (.tmp 35),41, "law.go:56",#[⟨7,.data⟩,⟨5,.chain⟩,⟨0,.phase⟩,⟨1,.phase⟩,⟨2,.phase⟩,⟨3,.phase⟩,⟨4,.phase⟩,⟨5,.phase⟩,⟨6,.phase⟩,⟨7,.phase⟩,⟨8,.textOnly .lateStores⟩],none⟩) (v:=?_) rfl (by kernel_rfl) (by kernel_rfl) (by kernel_rfl) (fun _ _ _ h=>h) (Or.inl ⟨by rfl,?_⟩) hHeld ?_
 rotate_left
 · (intro w hSw;(try dsimp only at hSw);go_simp;try with_reducible rfl)
 simp only [Act.put,List.setIfInBounds_toArray,List.set_cons_zero,List.set_cons_succ]
 refine wpAnyH_take (i:=10) (oi:=⟨some 10,.assign (.tmp 36),3, "law.go:56",#[⟨8,.data⟩,⟨9,.chain⟩,⟨0,.phase⟩,⟨1,.phase⟩,⟨2,.phase⟩,⟨3,.phase⟩,⟨4,.phase⟩,⟨5,.phase⟩,⟨6,.phase⟩,⟨7,.phase⟩,⟨8,.phase⟩,⟨9,.phase⟩],none⟩) (v:=?_) rfl (by kernel_rfl) (by kernel_rfl) (by kernel_rfl) (fun _ _ _ h=>h) (Or.inl ⟨by rfl,?_⟩) hHeld ?_
 rotate_left
 · (intro w hSw;(try dsimp only at hSw);go_simp;try with_reducible rfl)
 simp only [Act.put,List.setIfInBounds_toArray,List.set_cons_zero,List.set_cons_succ]
 refine wpAnyH_done (by kernel_rfl) ?_ _
 go_wp2_with (first
  | (go_at_call 16;(with_reducible refine (outs_nil _).mono ?_);rintro e w_c ⟨A_z,c_z,rfl,hh⟩
     replace hb:=bend hb hh)
  | (go_at_call 15;(with_reducible refine (homs_nil _ _ _).mono ?_);rintro e w_h ⟨rfl,hh⟩
     replace hb:=bend hb hh)
  | (go_at_call 10;(with_reducible refine (wakes13_any _).mono ?_);rintro e w_z ⟨rfl,hh⟩
     replace hb:=bend hb hh))
 go_ret;exact ⟨rfl,hb⟩
theorem of_p {m:MV} (u:SV8) {v:AM} {fx fy:Rat} (M:MR w m v 6 6) (p:PR w s_p A_p n_p c_p B_p m_p d_p t_p E_p i_p e_p F_p j_p f_p fx fy 6) (h1:((n_p≤6∧m_p≤6)∧i_p≤6∧j_p≤6)) (h2:((((m.a.n≤6∧m.a.m≤6)∧m.b.n≤6∧m.b.m≤6))∧(((m.c.n≤6∧m.c.m≤6)∧m.d.n≤6∧m.d.m≤6))∧(((m.e.n≤6∧m.e.m≤6)∧m.f.n≤6∧m.f.m≤6)))) (hin:u.In) (hd:u.draws) :
 Calls Tryz.prog 3 #[.agg #[.bool s_p,.slice A_p n_p c_p,.slice B_p m_p d_p,.bool t_p,.slice E_p i_p e_p,.slice F_p j_p f_p],.agg #[.int .i64 u.k,.int .i64 u.v0,.int .i64 u.v1,.int .i64 u.v2,.int .i64 u.v3,.int .i64 u.v4,.int .i64 u.v5,.int .i64 u.w],.agg #[.bool m.a.s,.slice m.a.A m.a.n m.a.c,.slice m.a.B m.a.m m.a.d,.bool m.b.s,.slice m.b.A m.b.n m.b.c,.slice m.b.B m.b.m m.b.d,.bool m.c.s,.slice m.c.A m.c.n m.c.c,.slice m.c.B m.c.m m.c.d,.bool m.d.s,.slice m.d.A m.d.n m.d.c,.slice m.d.B m.d.m m.d.d,.bool m.e.s,.slice m.e.A m.e.n m.e.c,.slice m.e.B m.e.m m.e.d,.bool m.f.s,.slice m.f.A m.f.n m.f.c,.slice m.f.B m.f.m m.f.d]] w fun e w'=>e=.returned (.bool true)∧Below w.heap.size w w':=by
 have HL:Hid (decide ((n_p≤6∧m_p≤6)∧i_p≤6∧j_p≤6)=true):=decide_eq_true h1
 have HM:Hid (decide ((((m.a.n≤6∧m.a.m≤6)∧m.b.n≤6∧m.b.m≤6))∧(((m.c.n≤6∧m.c.m≤6)∧m.d.n≤6∧m.d.m≤6))∧(((m.e.n≤6∧m.e.m≤6)∧m.f.n≤6∧m.f.m≤6)))=true):=decide_eq_true h2
 have HD:=Lib.hid hd;have HIN:=Lib.hid hin
 obtain ⟨KF,hKF⟩:=fits_ex (ofL v fx fy u (cntK u.k))
 have HKF:=Lib.hid hKF;clear hKF;clear h1 h2 hin hd
 go_enter Tryz.func3,Tryz.ntmps3
 go_upto_region 1 with (fail)
 generalize hW:World.alloc _ _=W
 obtain ⟨hb,XF,XS,XM,hzW⟩:=mkbx44_15 hW;clear hW;replace M:=M.below hb;replace p:=p.below hb;obtain ⟨xf0,xf1,xf2,xf3,xf4,xf5⟩:=XF.all
 have ha:Below W.heap.size W (W.alloc (Obj.cells #[.bool s_p,.slice A_p n_p c_p,.slice B_p m_p d_p,.bool t_p,.slice E_p i_p e_p,.slice F_p j_p f_p] 28)):=(Below.refl _ _).alloc (Nat.le_refl _) _
 have XL:=BL1.new' W (.bool s_p) (.slice A_p n_p c_p) (.slice B_p m_p d_p) (.bool t_p) (.slice E_p i_p e_p) (.slice F_p j_p f_p) (w.heap.size+3) hzW.symm
 replace M:=M.below ha;replace p:=p.below ha;replace XF:=XF.below ha;replace XS:=XS.below ha;replace XM:=XM.below ha;replace hb:=bend hb ha;clear ha
 go_upto_region 3 with (first
  | (go_at_call 8;(with_reducible refine (fair1 XL true HL.out).mono ?_);rintro e w_z ⟨rfl,hh⟩
     (try replace M:=M.below hh);(try replace p:=p.below hh);(try replace XF:=XF.below hh);(try replace XS:=XS.below hh);(try replace XM:=XM.below hh);replace hb:=bend hb hh;clear XL xf0 xf1 xf2 xf3 xf4 xf5;have xml:=XM.ld)
  | (go_at_call 9;(with_reducible refine (fairM true HM.out).mono ?_);rintro e w_y ⟨rfl,hh⟩
     (try replace M:=M.below hh);(try replace p:=p.below hh);(try replace XF:=XF.below hh);(try replace XS:=XS.below hh);(try replace XM:=XM.below hh);replace hb:=bend hb hh;clear xml))
 obtain ⟨xf0,xf1,xf2,xf3,xf4,xf5⟩:=XF.all;obtain ⟨xs0,xs1,xs2,xs3,xs4,xs5,xs6,xs7⟩:=XS.all;have xml:=XM.ld
 go_upto_region 4 with (first
  | (go_at_call 11;(with_reducible refine (cof_p u p M HIN.out (by decide) (by decide) (by decide) (by decide) (by decide) HD.out).mono ?_);rintro e w_a ⟨v1,M1,rfl,l1,e1,hh⟩
     (try replace M:=M.below hh);(try replace p:=p.below hh);(try replace XF:=XF.below hh);(try replace XS:=XS.below hh);(try replace XM:=XM.below hh);replace hb:=bend hb hh
     obtain ⟨A_x,c_x,rfl,_,_⟩:=l1.form
     have L1:=l1.sv))
 clear xf0 xf1 xf2 xf3 xf4 xf5 xs0 xs1 xs2 xs3 xs4 xs5 xs6 xs7 xml l1
 replace M:=M.below (Below.refl _ _).drew
 replace p:=p.below (Below.refl _ _).drew
 replace XF:=XF.below (Below.refl _ _).drew
 replace XS:=XS.below (Below.refl _ _).drew
 replace XM:=XM.below (Below.refl _ _).drew
 replace L1:=L1.below (Below.refl _ _).drew
 replace e1:=EachH.belowG e1 (Below.refl _ _).drew
 replace hb:=hb.drew
 refine wp_region_held_drew (S:=(fun w'=>w'.cell? ⟨w.heap.size,0,none⟩=some (.bool s_p)∧w'.cell? ⟨w.heap.size,1,none⟩=some (.slice A_p n_p c_p)∧w'.cell? ⟨w.heap.size,2,none⟩=some (.slice B_p m_p d_p)∧w'.cell? ⟨w.heap.size,3,none⟩=some (.bool t_p)∧w'.cell? ⟨w.heap.size,4,none⟩=some (.slice E_p i_p e_p)∧w'.cell? ⟨w.heap.size,5,none⟩=some (.slice F_p j_p f_p)∧w'.cell? ⟨w.heap.size+1,0,none⟩=some (.int .i64 u.k)∧w'.cell? ⟨w.heap.size+1,1,none⟩=some (.int .i64 u.v0)∧w'.cell? ⟨w.heap.size+1,2,none⟩=some (.int .i64 u.v1)∧w'.cell? ⟨w.heap.size+1,3,none⟩=some (.int .i64 u.v2)∧w'.cell? ⟨w.heap.size+1,4,none⟩=some (.int .i64 u.v3)∧w'.cell? ⟨w.heap.size+1,5,none⟩=some (.int .i64 u.v4)∧w'.cell? ⟨w.heap.size+1,6,none⟩=some (.int .i64 u.v5)∧w'.cell? ⟨w.heap.size+1,7,none⟩=some (.int .i64 u.w)∧(LVM ⟨w.heap.size+1+1,0,none⟩).run Tryz.prog w'=.ok (.agg #[.bool m.a.s,.slice m.a.A m.a.n m.a.c,.slice m.a.B m.a.m m.a.d,.bool m.b.s,.slice m.b.A m.b.n m.b.c,.slice m.b.B m.b.m m.b.d,.bool m.c.s,.slice m.c.A m.c.n m.c.c,.slice m.c.B m.c.m m.c.d,.bool m.d.s,.slice m.d.A m.d.n m.d.c,.slice m.d.B m.d.m m.d.d,.bool m.e.s,.slice m.e.A m.e.n m.e.c,.slice m.e.B m.e.m m.e.d,.bool m.f.s,.slice m.f.A m.f.n m.f.c,.slice m.f.B m.f.m m.f.d]) w')) (by kernel_rfl) (by with_reducible exact ⟨XF.c0,XF.c1,XF.c2,XF.c3,XF.c4,XF.c5,XS.c0,XS.c1,XS.c2,XS.c3,XS.c4,XS.c5,XS.c6,XS.c7,XM.ld⟩) (fun hHeld=>?_)
 refine wpAnyH_take (i:=0) (oi:=⟨some 29,.load 28 (.tmp 3),28, "law.go:56",#[],none⟩) (v:=?_) rfl (by kernel_rfl) (by kernel_rfl) (by kernel_rfl) (fun _ _ _ h=>h) (Or.inl ⟨by rfl,?_⟩) hHeld ?_
 rotate_left
 · (intro w hSw;(try dsimp only at hSw);go_simp;try with_reducible rfl)
 simp only [Act.put,List.setIfInBounds_toArray,List.set_cons_zero,List.set_cons_succ]
 refine wpAnyH_take (i:=2) (oi:=⟨some 31,.load 31 (.tmp 4),31, "law.go:56",#[],none⟩) (v:=?_) rfl (by kernel_rfl) (by kernel_rfl) (by kernel_rfl) (fun _ _ _ h=>h) (Or.inl ⟨by rfl,?_⟩) hHeld ?_
 rotate_left
 · (intro w hSw;(try dsimp only at hSw);go_simp;try with_reducible rfl)
 simp only [Act.put,List.setIfInBounds_toArray,List.set_cons_zero,List.set_cons_succ]
 refine wpAnyH_take (i:=3) (oi:=⟨some 32,.load 33 (.tmp 5),33, "law.go:56",#[],none⟩) (v:=?_) rfl (by kernel_rfl) (by kernel_rfl) (by kernel_rfl) (fun _ _ _ h=>h) (Or.inl ⟨by rfl,?_⟩) hHeld ?_
 rotate_left
 · (intro w hSw;(try dsimp only at hSw);go_simp;try with_reducible rfl)
 simp only [Act.put,List.setIfInBounds_toArray,List.set_cons_zero,List.set_cons_succ]
 refine wpAnyH_ready (rs:=[1]) (by kernel_rfl) (by simp) ?_
 refine AllReadyH.cons (o:=⟨some 30,.call ⟨.value (.func 13),#[.tmp 29],#[28]⟩,51, "law.go:56",#[⟨0,.data⟩],none⟩) rfl (fun K1 hK1=>?_) AllReadyH.nil
 go_simp
 first
 | (go_at_call 13;(with_reducible refine (rin6 p (by decide) (by decide)).mono ?_);rintro e w_r ⟨s_r,A_r,n_r,c_r,B_r,m_r,d_r,t_r,E_r,i_r,e_r,F_r,j_r,f_r,rfl,r,hh⟩
    (try replace M:=M.below hh);(try replace p:=p.below hh);(try replace XF:=XF.below hh);(try replace XS:=XS.below hh);(try replace XM:=XM.below hh);(try replace L1:=L1.below hh);replace hb:=bend hb hh;replace e1:=EachH.belowG e1 hh)
 refine hK1.out _ _ (by with_reducible exact ⟨XF.c0,XF.c1,XF.c2,XF.c3,XF.c4,XF.c5,XS.c0,XS.c1,XS.c2,XS.c3,XS.c4,XS.c5,XS.c6,XS.c7,XM.ld⟩) (fun hHeld=>?_)
 clear hK1 K1
 refine wpAnyH_ready (rs:=[4]) (by kernel_rfl) (by simp) ?_
 refine AllReadyH.cons (o:=⟨some 33,.call ⟨.value (.func 14),#[.tmp 32],#[33]⟩,54, "law.go:56",#[⟨3,.data⟩,⟨1,.chain⟩],none⟩) rfl (fun K1 hK1=>?_) AllReadyH.nil
 go_simp
 first
 | (go_at_call 14;(with_reducible refine (rin9 M (by decide) (by decide) (by decide) (by decide)).mono ?_);rintro e w_n ⟨nm,rfl,nh,hh⟩
    (try replace p:=p.below hh);(try replace XF:=XF.below hh);(try replace XS:=XS.below hh);(try replace XM:=XM.below hh);(try replace L1:=L1.below hh);(try replace r:=r.below hh);replace hb:=bend hb hh;replace e1:=EachH.belowG e1 hh)
 refine hK1.out _ _ (by with_reducible exact ⟨XF.c0,XF.c1,XF.c2,XF.c3,XF.c4,XF.c5,XS.c0,XS.c1,XS.c2,XS.c3,XS.c4,XS.c5,XS.c6,XS.c7,XM.ld⟩) (fun hHeld=>?_)
 clear hK1 K1
 refine wpAnyH_ready (rs:=[5]) (by kernel_rfl) (by simp) ?_
 refine AllReadyH.cons (o:=⟨some 34,.call ⟨.value (.func 12),#[.tmp 30,.tmp 31,.tmp 33],#[51,31,54]⟩,42, "law.go:56",#[⟨1,.data⟩,⟨2,.data⟩,⟨4,.data⟩,⟨4,.chain⟩],none⟩) rfl (fun K1 hK1=>?_) AllReadyH.nil
 go_simp
 first
 | (go_at_call 12;(with_reducible refine (rof13_p u r nh HIN.out HD.out).mono ?_);rintro e w_b ⟨v2,M2,rfl,l2,e2,hh⟩
    (try replace L1:=L1.below hh);(try replace XF:=XF.below hh);(try replace XS:=XS.below hh);(try replace XM:=XM.below hh);replace hb:=bend hb hh;replace e1:=EachH.belowG e1 hh
    obtain ⟨A_y,c_y,rfl,_,_⟩:=l2.form
    have L2:=l2.sv;clear l2)
 refine hK1.out _ _ (by with_reducible exact ⟨XF.c0,XF.c1,XF.c2,XF.c3,XF.c4,XF.c5,XS.c0,XS.c1,XS.c2,XS.c3,XS.c4,XS.c5,XS.c6,XS.c7,XM.ld⟩) (fun hHeld=>?_)
 clear hK1 K1
 refine wpAnyH_take (i:=6) (oi:=⟨some 28,.move (.tmp 34),42, "law.go:56",#[⟨5,.data⟩],none⟩) (v:=?_) rfl (by kernel_rfl) (by kernel_rfl) (by kernel_rfl) (fun _ _ _ h=>h) (Or.inl ⟨by rfl,?_⟩) hHeld ?_
 rotate_left
 · (intro w hSw;(try dsimp only at hSw);go_simp;try with_reducible rfl)
 simp only [Act.put,List.setIfInBounds_toArray,List.set_cons_zero,List.set_cons_succ]
 refine wpAnyH_take (i:=7) (oi:=⟨some 35,.extract (.tmp 28) 0,41, "law.go:56",#[⟨6,.data⟩],none⟩) (v:=?_) rfl (by kernel_rfl) (by kernel_rfl) (by kernel_rfl) (fun _ _ _ h=>h) (Or.inl ⟨by rfl,?_⟩) hHeld ?_
 rotate_left
 · (intro w hSw;(try dsimp only at hSw);go_simp;try with_reducible rfl)
 simp only [Act.put,List.setIfInBounds_toArray,List.set_cons_zero,List.set_cons_succ]
 refine wpAnyH_take (i:=8) (oi:=⟨some 36,.extract (.tmp 28) 1,3, "law.go:56",#[⟨6,.data⟩,⟨9,.gcOnly .lateStores⟩],none⟩) (v:=?_) rfl (by kernel_rfl) (by kernel_rfl) (by kernel_rfl) (fun _ _ _ h=>h) (Or.inl ⟨by rfl,?_⟩) hHeld ?_
 rotate_left
 · (intro w hSw;(try dsimp only at hSw);go_simp;try with_reducible rfl)
 simp only [Act.put,List.setIfInBounds_toArray,List.set_cons_zero,List.set_cons_succ]
 refine wpAnyH_take (i:=9) (oi:=⟨some 9,.assign (.tmp 35),41, "law.go:56",#[⟨7,.data⟩,⟨5,.chain⟩,⟨0,.phase⟩,⟨1,.phase⟩,⟨2,.phase⟩,⟨3,.phase⟩,⟨4,.phase⟩,⟨5,.phase⟩,⟨6,.phase⟩,⟨7,.phase⟩,⟨8,.textOnly .lateStores⟩],none⟩) (v:=?_) rfl (by kernel_rfl) (by kernel_rfl) (by kernel_rfl) (fun _ _ _ h=>h) (Or.inl ⟨by rfl,?_⟩) hHeld ?_
 rotate_left
 · (intro w hSw;(try dsimp only at hSw);go_simp;try with_reducible rfl)
 simp only [Act.put,List.setIfInBounds_toArray,List.set_cons_zero,List.set_cons_succ]
 refine wpAnyH_take (i:=10) (oi:=⟨some 10,.assign (.tmp 36),3, "law.go:56",#[⟨8,.data⟩,⟨9,.chain⟩,⟨0,.phase⟩,⟨1,.phase⟩,⟨2,.phase⟩,⟨3,.phase⟩,⟨4,.phase⟩,⟨5,.phase⟩,⟨6,.phase⟩,⟨7,.phase⟩,⟨8,.phase⟩,⟨9,.phase⟩],none⟩) (v:=?_) rfl (by kernel_rfl) (by kernel_rfl) (by kernel_rfl) (fun _ _ _ h=>h) (Or.inl ⟨by rfl,?_⟩) hHeld ?_
 rotate_left
 · (intro w hSw;(try dsimp only at hSw);go_simp;try with_reducible rfl)
 simp only [Act.put,List.setIfInBounds_toArray,List.set_cons_zero,List.set_cons_succ]
 refine wpAnyH_done (by kernel_rfl) ?_ _
 clear M p XF XS XM r nh
 have hE2l:M2.length=cntK u.k+1:=by rw [e2.1,ofL_length]
 have hE1l:M1.length=cntK u.k+1:=by rw [e1.1,ofL_length]
 have HM2:=Lib.hid hE2l;have HM1:=Lib.hid hE1l
 have HCK:Hid (cntK u.k≤3):=cntK_le _
 clear hE1l hE2l
 go_wp2_with (first
  | (go_at_call 16;(with_reducible refine (routs13 L2 e2 rfl (by rw [HM2.out];have:=HCK.out;omega) (by decide) KF HKF.out).mono ?_);rintro e w_c ⟨v3,M3,rfl,l3,e3,hh⟩
     (try replace L1:=L1.below hh);replace hb:=bend hb hh;replace e1:=EachH.belowG e1 hh
     obtain ⟨A_z,c_z,rfl,_,_⟩:=l3.form
     have L3:=l3.sv
     have h3:M3.length=M1.length:=by rw [e3.1,e1.1]
     clear l3 L2 e2;rw [h3])
  | (go_at_call 15;(with_reducible refine (homs_same L1 e1 L3 e3 rfl (by rw [HM1.out];have:=HCK.out;omega) (by decide)).mono ?_);rintro e w_h ⟨rfl,hh⟩
     replace hb:=bend hb hh;clear L1 e1 L3 e3)
  | (go_at_call 10;(with_reducible refine (wakes13_any _).mono ?_);rintro e w_z ⟨rfl,hh⟩
     replace hb:=bend hb hh))
 go_ret;exact ⟨rfl,hb⟩
end
section
open Go Go.ChangeShapes Go.WideShapes Go.ChangeAt Go.RowKit
theorem open_rat3 {H:Type} {enc:TypeId × Value→H} {base fuel:Nat} {held:Bool} {x0 x1 x2:Value} {y:DataW H × List MemPlace}
 (h:DataW.trod enc Tryz.prog w base (fun _=>true) held fuel 26 [x0,x1,x2]=some y) :
 ∃ (q:QV) (zs ys:List Int),x0=.bool q.s∧x1=.slice q.A q.n q.c∧x2=.slice q.B q.m q.d∧IsRow64 w q.A q.n q.c zs∧IsRow64 w q.B q.m q.d ys:=by
 have e0:Tryz.prog.cellsOf 24=2:=by kernel_rfl
 have e1:Tryz.prog.cellsOf 22=1:=by kernel_rfl
 have e2:Tryz.prog.cellsOf 4=1:=by kernel_rfl
 obtain ⟨z0,z1,m,hx2,_,h2,h3⟩:=trod_struct2 Tryz.underlying26 h
 simp [e0] at h2
 simp [e1] at h3
 obtain ⟨u0,u1,k,hx4,_,h6,h7⟩:=trod_struct2 Tryz.underlying24 h2
 simp [e2] at h6
 simp [e1] at h7
 obtain ⟨b,hb,_⟩:=DataW.trod_bool Tryz.underlying4 h6
 cases hb
 obtain ⟨A1,n1,c1,zs1,rfl,r1⟩:∃ A n c zs,x1=.slice A n c∧IsRow64 w A n c zs:=by
  rcases open_ints Tryz.underlying22 Tryz.underlying140 (by kernel_rfl) h7 with ⟨hcs,_⟩ | ⟨x,l,c,zs,hcs,_,hl,hm,hz,_,hcell,hwz⟩
  · exact ⟨none,0,0,[],by cases hcs;rfl,.inl ⟨rfl,rfl,rfl,rfl⟩⟩
  · exact ⟨some x,l,c,zs,by cases hcs;rfl,.inr ⟨x,rfl,hl,hm,by simpa using hz,hcell,hwz⟩⟩
 obtain ⟨A2,n2,c2,zs2,rfl,r2⟩:∃ A n c zs,x2=.slice A n c∧IsRow64 w A n c zs:=by
  rcases open_ints Tryz.underlying22 Tryz.underlying140 (by kernel_rfl) h3 with ⟨hcs,_⟩ | ⟨x,l,c,zs,hcs,_,hl,hm,hz,_,hcell,hwz⟩
  · exact ⟨none,0,0,[],by cases hcs;rfl,.inl ⟨rfl,rfl,rfl,rfl⟩⟩
  · exact ⟨some x,l,c,zs,by cases hcs;rfl,.inr ⟨x,rfl,hl,hm,by simpa using hz,hcell,hwz⟩⟩
 exact ⟨⟨_,A1,n1,c1,A2,n2,c2⟩,zs1,zs2,rfl,rfl,rfl,r1,r2⟩
def MRows (w:World) (m:MV):Prop:=(∃ zs,IsRow64 w m.a.A m.a.n m.a.c zs)∧(∃ zs,IsRow64 w m.a.B m.a.m m.a.d zs)∧(∃ zs,IsRow64 w m.b.A m.b.n m.b.c zs)∧(∃ zs,IsRow64 w m.b.B m.b.m m.b.d zs)∧(∃ zs,IsRow64 w m.c.A m.c.n m.c.c zs)∧(∃ zs,IsRow64 w m.c.B m.c.m m.c.d zs)∧(∃ zs,IsRow64 w m.d.A m.d.n m.d.c zs)∧(∃ zs,IsRow64 w m.d.B m.d.m m.d.d zs)∧(∃ zs,IsRow64 w m.e.A m.e.n m.e.c zs)∧(∃ zs,IsRow64 w m.e.B m.e.m m.e.d zs)∧(∃ zs,IsRow64 w m.f.A m.f.n m.f.c zs)∧(∃ zs,IsRow64 w m.f.B m.f.m m.f.d zs)
theorem open_zmat {H:Type} {enc:TypeId × Value→H} {base:Nat} {held:Bool} {r:Reach} {b0:Nat} {v:Value} {d:DataW H} {p:List MemPlace}
 (hv:Value.okWide Tryz.prog w r b0 33 v) (h:DataW.Trod enc Tryz.prog w base (fun _=>true) held 33 v d p) :
 ∃ m:MV,v=.agg #[.bool m.a.s,.slice m.a.A m.a.n m.a.c,.slice m.a.B m.a.m m.a.d,.bool m.b.s,.slice m.b.A m.b.n m.b.c,.slice m.b.B m.b.m m.b.d,.bool m.c.s,.slice m.c.A m.c.n m.c.c,.slice m.c.B m.c.m m.c.d,.bool m.d.s,.slice m.d.A m.d.n m.d.c,.slice m.d.B m.d.m m.d.d,.bool m.e.s,.slice m.e.A m.e.n m.e.c,.slice m.e.B m.e.m m.e.d,.bool m.f.s,.slice m.f.A m.f.n m.f.c,.slice m.f.B m.f.m m.f.d]∧MRows w m:=by
 have e3:Tryz.prog.cellsOf 26=3:=by kernel_rfl
 obtain ⟨cs,rfl,hsz⟩:=okWide_struct Tryz.underlying33 hv
 have hsz18:cs.size=18:=hsz.trans (by kernel_rfl)
 obtain ⟨x0,x1,x2,x3,x4,x5,x6,x7,x8,x9,x10,x11,x12,x13,x14,x15,x16,x17,rfl⟩:∃ x0 x1 x2 x3 x4 x5 x6 x7 x8 x9 x10 x11 x12 x13 x14 x15 x16 x17,cs=#[x0,x1,x2,x3,x4,x5,x6,x7,x8,x9,x10,x11,x12,x13,x14,x15,x16,x17]:=by
  obtain ⟨l⟩:=cs
  match l,hsz18 with
  | [x0,x1,x2,x3,x4,x5,x6,x7,x8,x9,x10,x11,x12,x13,x14,x15,x16,x17],_=>exact ⟨x0,x1,x2,x3,x4,x5,x6,x7,x8,x9,x10,x11,x12,x13,x14,x15,x16,x17,rfl⟩
 obtain ⟨fuel,hf⟩:=h
 obtain ⟨xs,n,_,_,_,hlen,hi⟩:=DataW.trod_struct Tryz.underlying33 hf
 match xs,hlen with
 | [y0,y1,y2,y3,y4,y5],_ =>
   have h0:=hi 0 _ rfl
   simp [Value.cells,e3] at h0
   have h1:=hi 1 _ rfl
   simp [Value.cells,e3] at h1
   have h2:=hi 2 _ rfl
   simp [Value.cells,e3] at h2
   have h3:=hi 3 _ rfl
   simp [Value.cells,e3] at h3
   have h4:=hi 4 _ rfl
   simp [Value.cells,e3] at h4
   have h5:=hi 5 _ rfl
   simp [Value.cells,e3] at h5
   obtain ⟨q0,z0,s0,rfl,rfl,rfl,r0,t0⟩:=open_rat3 h0
   obtain ⟨q1,z1,s1,rfl,rfl,rfl,r1,t1⟩:=open_rat3 h1
   obtain ⟨q2,z2,s2,rfl,rfl,rfl,r2,t2⟩:=open_rat3 h2
   obtain ⟨q3,z3,s3,rfl,rfl,rfl,r3,t3⟩:=open_rat3 h3
   obtain ⟨q4,z4,s4,rfl,rfl,rfl,r4,t4⟩:=open_rat3 h4
   obtain ⟨q5,z5,s5,rfl,rfl,rfl,r5,t5⟩:=open_rat3 h5
   exact ⟨⟨q0,q1,q2,q3,q4,q5⟩,rfl,⟨z0,r0⟩,⟨s0,t0⟩,⟨z1,r1⟩,⟨s1,t1⟩,⟨z2,r2⟩,⟨s2,t2⟩,⟨z3,r3⟩,⟨s3,t3⟩,⟨z4,r4⟩,⟨s4,t4⟩,⟨z5,r5⟩,⟨s5,t5⟩⟩
theorem MRows.mr {m:MV} (h:MRows w m):∃ v:AM,((((m.a.n≤6∧m.a.m≤6)∧m.b.n≤6∧m.b.m≤6)∧(((m.c.n≤6∧m.c.m≤6)∧m.d.n≤6∧m.d.m≤6))∧(((m.e.n≤6∧m.e.m≤6)∧m.f.n≤6∧m.f.m≤6)))→MR w m v 6 6):=by
 obtain ⟨⟨_,ra⟩,⟨_,ta⟩,⟨_,rb⟩,⟨_,tb⟩,⟨_,rc⟩,⟨_,tc⟩,⟨_,rd⟩,⟨_,td⟩,⟨_,re⟩,⟨_,te⟩,⟨_,rf⟩,⟨_,tf⟩⟩:=h
 obtain ⟨lia,pa,sa,ea,_⟩:=ra.rd
 obtain ⟨lja,qa,ua,ga,_⟩:=ta.rd
 obtain ⟨lib,pb,sb,eb,_⟩:=rb.rd
 obtain ⟨ljb,qb,ub,gb,_⟩:=tb.rd
 obtain ⟨lic,pc,sc,ec,_⟩:=rc.rd
 obtain ⟨ljc,qc,uc,gc,_⟩:=tc.rd
 obtain ⟨lid,pd,sd,ed,_⟩:=rd.rd
 obtain ⟨ljd,qd,ud,gd,_⟩:=td.rd
 obtain ⟨lie,pe,se,ee,_⟩:=re.rd
 obtain ⟨lje,qe,ue,ge,_⟩:=te.rd
 obtain ⟨lif,pf,sf,ef,_⟩:=rf.rd
 obtain ⟨ljf,qf,uf,gf,_⟩:=tf.rd
 exact ⟨⟨_,_,_,_,_,_⟩,fun k=>⟨⟨QR.of_rd pa sa ea qa ua ga k.1.1.1 k.1.1.2,QR.of_rd pb sb eb qb ub gb k.1.2.1 k.1.2.2⟩,⟨QR.of_rd pc sc ec qc uc gc k.2.1.1.1 k.2.1.1.2,QR.of_rd pd sd ed qd ud gd k.2.1.2.1 k.2.1.2.2⟩,⟨QR.of_rd pe se ee qe ue ge k.2.2.1.1 k.2.2.1.2,QR.of_rd pf sf ef qf uf gf k.2.2.2.1 k.2.2.2.2⟩⟩⟩
end
section
open Go Go.ChangeShapes Go.WideShapes Go.ChangeAt Go.RowKit
theorem i64_of {x:Int} (h:-9223372036854775808≤x∧x≤9223372036854775807):i64In x:=⟨h.1,by have:=h.2;omega⟩
theorem open_zseg {H:Type} {enc:TypeId × Value→H} {base:Nat} {held:Bool} {r:Reach} {b0:Nat} {v:Value} {d:DataW H} {p:List MemPlace}
 (hv:Value.okWide Tryz.prog w r b0 31 v) (h:DataW.Trod enc Tryz.prog w base (fun _=>true) held 31 v d p) :
 ∃ u:SV8,v=.agg #[.int .i64 u.k,.int .i64 u.v0,.int .i64 u.v1,.int .i64 u.v2,.int .i64 u.v3,.int .i64 u.v4,.int .i64 u.v5,.int .i64 u.w]∧u.In:=by
 have e0:Tryz.prog.cellsOf 3=1:=by kernel_rfl
 have e1:Tryz.prog.cellsOf 2=1:=by kernel_rfl
 have e6:Tryz.prog.cellsOf 29=6:=by kernel_rfl
 obtain ⟨cs,rfl,hsz⟩:=okWide_struct Tryz.underlying31 hv
 have hsz8:cs.size=8:=hsz.trans (by kernel_rfl)
 obtain ⟨x0,x1,x2,x3,x4,x5,x6,x7,rfl⟩:∃ x0 x1 x2 x3 x4 x5 x6 x7,cs=#[x0,x1,x2,x3,x4,x5,x6,x7]:=by
  obtain ⟨l⟩:=cs
  match l,hsz8 with
  | [x0,x1,x2,x3,x4,x5,x6,x7],_=>exact ⟨x0,x1,x2,x3,x4,x5,x6,x7,rfl⟩
 obtain ⟨fuel,hf⟩:=h
 obtain ⟨zs,m,_,_,_,hzl,hzf⟩:=DataW.trod_struct Tryz.underlying31 hf
 match zs,hzl with
 | [z0,z1,z2],_ =>
   have h2:=hzf 0 _ rfl;have h3:=hzf 1 _ rfl;have h4:=hzf 2 _ rfl
   simp [Value.cells,e0] at h2
   simp [Value.cells,e6] at h3
   simp [Value.cells,e1] at h4
   obtain ⟨k,hk,_,wk⟩:=DataW.trod_int Tryz.underlying3 h2
   obtain ⟨wt,hw,_,ww⟩:=DataW.trod_int Tryz.underlying2 h4
   cases hk
   cases hw
   obtain ⟨xs,m,_,hx,_,hl,hi⟩:=DataW.trod_array Tryz.underlying29 h3
   have i0:=hi 0 (by decide)
   have i1:=hi 1 (by decide)
   have i2:=hi 2 (by decide)
   have i3:=hi 3 (by decide)
   have i4:=hi 4 (by decide)
   have i5:=hi 5 (by decide)
   match xs,hl with
   | [y0,y1,y2,y3,y4,y5],_ =>
     simp [e1] at i0 i1 i2 i3 i4 i5
     obtain ⟨n0,q0,_,w0⟩:=DataW.trod_int Tryz.underlying2 i0
     obtain ⟨n1,q1,_,w1⟩:=DataW.trod_int Tryz.underlying2 i1
     obtain ⟨n2,q2,_,w2⟩:=DataW.trod_int Tryz.underlying2 i2
     obtain ⟨n3,q3,_,w3⟩:=DataW.trod_int Tryz.underlying2 i3
     obtain ⟨n4,q4,_,w4⟩:=DataW.trod_int Tryz.underlying2 i4
     obtain ⟨n5,q5,_,w5⟩:=DataW.trod_int Tryz.underlying2 i5
     cases q0;cases q1;cases q2;cases q3;cases q4;cases q5
     refine ⟨⟨k,n0,n1,n2,n3,n4,n5,wt⟩,rfl,i64_of (bounds_i64 wk),fun i=>?_,i64_of (bounds_i64 ww)⟩
     match i with
     | 0=>exact i64_of (bounds_i64 w0)
     | 1=>exact i64_of (bounds_i64 w1)
     | 2=>exact i64_of (bounds_i64 w2)
     | 3=>exact i64_of (bounds_i64 w3)
     | 4=>exact i64_of (bounds_i64 w4)
     | i+5=>exact i64_of (bounds_i64 w5)
end
section
open Go Go.RowKit
theorem law_of13 {m:MV} {l1 l2 l3 l4:List Nat} (u:SV8) (a1:Rd .u64 w A_p n_p l1) (b1:Lim B64 l1) (c1:n_p≤c_p) (a2:Rd .u64 w B_p m_p l2) (b2:Lim B64 l2) (c2:m_p≤d_p) (a3:Rd .u64 w E_p i_p l3) (b3:Lim B64 l3) (c3:i_p≤e_p) (a4:Rd .u64 w F_p j_p l4) (b4:Lim B64 l4) (c4:j_p≤f_p) (hin:u.In) (hm:MRows w m) :
 Calls Tryz.prog 3 #[.agg #[.bool s_p,.slice A_p n_p c_p,.slice B_p m_p d_p,.bool t_p,.slice E_p i_p e_p,.slice F_p j_p f_p],.agg #[.int .i64 u.k,.int .i64 u.v0,.int .i64 u.v1,.int .i64 u.v2,.int .i64 u.v3,.int .i64 u.v4,.int .i64 u.v5,.int .i64 u.w],.agg #[.bool m.a.s,.slice m.a.A m.a.n m.a.c,.slice m.a.B m.a.m m.a.d,.bool m.b.s,.slice m.b.A m.b.n m.b.c,.slice m.b.B m.b.m m.b.d,.bool m.c.s,.slice m.c.A m.c.n m.c.c,.slice m.c.B m.c.m m.c.d,.bool m.d.s,.slice m.d.A m.d.n m.d.c,.slice m.d.B m.d.m m.d.d,.bool m.e.s,.slice m.e.A m.e.n m.e.c,.slice m.e.B m.e.m m.e.d,.bool m.f.s,.slice m.f.A m.f.n m.f.c,.slice m.f.B m.f.m m.f.d]] w fun e w'=>e=.returned (.bool true)∧Below w.heap.size w w':=by
 obtain ⟨v,hv⟩:=hm.mr
 by_cases h1:((n_p≤6∧m_p≤6)∧i_p≤6∧j_p≤6)
 · by_cases h2:((((m.a.n≤6∧m.a.m≤6)∧m.b.n≤6∧m.b.m≤6))∧(((m.c.n≤6∧m.c.m≤6)∧m.d.n≤6∧m.d.m≤6))∧(((m.e.n≤6∧m.e.m≤6)∧m.f.n≤6∧m.f.m≤6)))
   · have p:=And.intro (QR.of_rd (s:=s_p) a1 b1 c1 a2 b2 c2 h1.1.1 h1.1.2) (QR.of_rd (s:=t_p) a3 b3 c3 a4 b4 c4 h1.2.1 h1.2.2)
     by_cases hd:u.draws
     · exact of_p u (hv h2) p h1 h2 hin hd
     · exact of_e u (hv h2) p h1 h2 hin hd
   · exact of_l1 u h1 h2
 · exact of_l0 u h1
end
end Go.Proofs.YtfpaeophfcoohaaGreat
