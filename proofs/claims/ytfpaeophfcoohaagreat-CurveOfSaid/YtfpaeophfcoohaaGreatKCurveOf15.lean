/- CurveOf: part 15. -/
import Derived.Test.YtfpaeophfcoohaaGreatKCurveOf11
import Derived.Test.YtfpaeophfcoohaaGreatKCurveOf13
import Derived.Test.YtfpaeophfcoohaaGreatKCurveOf14
set_option linter.unusedVariables false
set_option maxRecDepth 100000
set_option maxHeartbeats 16000000
variable {w:Go.World}
variable {s_p t_p:Bool} {A_p B_p E_p F_p:Option Go.Addr} {n_p c_p m_p d_p i_p e_p j_p f_p:Nat}
variable {s_a:Bool} {A_a B_a:Option Go.Addr} {n_a c_a m_a d_a:Nat}
variable {s_c:Bool} {A_c B_c:Option Go.Addr} {n_c c_c m_c d_c:Nat}
variable {s_e:Bool} {A_e B_e:Option Go.Addr} {n_e c_e m_e d_e:Nat}
variable {s_x:Bool} {A_x B_x:Option Go.Addr} {n_x c_x m_x d_x:Nat}
variable {s_y:Bool} {A_y B_y:Option Go.Addr} {n_y c_y m_y d_y:Nat}
namespace Go.Proofs.YtfpaeophfcoohaaGreat
section
open Go Go.RowKit
attribute [local go_sem ↓] open_LVM open_STM open_LVN open_STN
attribute [local go_sem ↓] open_LVH open_STH open_LVJ open_STJ
def BS (W:World) (g:Nat) (v0 v1 v2 v3 v4 v5 v6 v7:Value):Prop:=W.heap[g]?=some (.cells #[v0,v1,v2,v3,v4,v5,v6,v7] 31 (0,0))
section
variable {W W':World} {g:Nat} {v0 v1 v2 v3 v4 v5 v6 v7:Value}
theorem BS.c0 (h:BS W g v0 v1 v2 v3 v4 v5 v6 v7):W.cell? ⟨g,0,none⟩=some v0:=by rw [cell_of_row W g 0 _ _ (0,0) h];rfl
theorem BS.c1 (h:BS W g v0 v1 v2 v3 v4 v5 v6 v7):W.cell? ⟨g,1,none⟩=some v1:=by rw [cell_of_row W g 1 _ _ (0,0) h];rfl
theorem BS.c2 (h:BS W g v0 v1 v2 v3 v4 v5 v6 v7):W.cell? ⟨g,2,none⟩=some v2:=by rw [cell_of_row W g 2 _ _ (0,0) h];rfl
theorem BS.c3 (h:BS W g v0 v1 v2 v3 v4 v5 v6 v7):W.cell? ⟨g,3,none⟩=some v3:=by rw [cell_of_row W g 3 _ _ (0,0) h];rfl
theorem BS.c4 (h:BS W g v0 v1 v2 v3 v4 v5 v6 v7):W.cell? ⟨g,4,none⟩=some v4:=by rw [cell_of_row W g 4 _ _ (0,0) h];rfl
theorem BS.c5 (h:BS W g v0 v1 v2 v3 v4 v5 v6 v7):W.cell? ⟨g,5,none⟩=some v5:=by rw [cell_of_row W g 5 _ _ (0,0) h];rfl
theorem BS.c6 (h:BS W g v0 v1 v2 v3 v4 v5 v6 v7):W.cell? ⟨g,6,none⟩=some v6:=by rw [cell_of_row W g 6 _ _ (0,0) h];rfl
theorem BS.c7 (h:BS W g v0 v1 v2 v3 v4 v5 v6 v7):W.cell? ⟨g,7,none⟩=some v7:=by rw [cell_of_row W g 7 _ _ (0,0) h];rfl
theorem BS.all (h:BS W g v0 v1 v2 v3 v4 v5 v6 v7):W.cell? ⟨g,0,none⟩=some v0∧W.cell? ⟨g,1,none⟩=some v1∧W.cell? ⟨g,2,none⟩=some v2∧W.cell? ⟨g,3,none⟩=some v3∧W.cell? ⟨g,4,none⟩=some v4∧W.cell? ⟨g,5,none⟩=some v5∧W.cell? ⟨g,6,none⟩=some v6∧W.cell? ⟨g,7,none⟩=some v7:=⟨h.c0,h.c1,h.c2,h.c3,h.c4,h.c5,h.c6,h.c7⟩
theorem BS.lt (h:BS W g v0 v1 v2 v3 v4 v5 v6 v7):g < W.heap.size:=World.block_lt_of_cell? W _ h.c0
theorem BS.below (h:BS W g v0 v1 v2 v3 v4 v5 v6 v7) (hb:Below W.heap.size W W'):BS W' g v0 v1 v2 v3 v4 v5 v6 v7:=(hb.block g h.lt).trans h
theorem BS.alloc (h:BS W g v0 v1 v2 v3 v4 v5 v6 v7) (o:Obj):BS (W.alloc o) g v0 v1 v2 v3 v4 v5 v6 v7:=(Below.heap_alloc W o g h.lt).trans h
theorem BS.restm {k:Nat} (h:BS W g v0 v1 v2 v3 v4 v5 v6 v7) (hne:g ≠ k) (ho:Only k W W'):BS W' g v0 v1 v2 v3 v4 v5 v6 v7:=(ho.block g h.lt hne).trans h
theorem BS.new' (W:World) (v0 v1 v2 v3 v4 v5 v6 v7:Value) (g:Nat) (hg:g=W.heap.size):BS (W.alloc (.cells #[v0,v1,v2,v3,v4,v5,v6,v7] 31)) g v0 v1 v2 v3 v4 v5 v6 v7:=by subst hg;exact heap_alloc_new W _
end
structure SV8 where
 k:Int
 v0:Int
 v1:Int
 v2:Int
 v3:Int
 v4:Int
 v5:Int
 w:Int
def SV8.at_ (s:SV8):Nat→Int
 | 0=>s.v0
 | 1=>s.v1
 | 2=>s.v2
 | 3=>s.v3
 | 4=>s.v4
 | _=>s.v5
def i64In (x:Int):Prop:=-9223372036854775808≤x∧x < 9223372036854775808
def SV8.In (s:SV8):Prop:=i64In s.k∧(∀ i,i64In (s.at_ i))∧i64In s.w
def cntK (K:Int):Nat:=if K=2 then 1 else if K=3 ∨ K=5 then 2 else if K=4 then 3 else 0
theorem cntK_le (K : Int) : cntK K ≤ 3 := by unfold cntK; split; · decide
                                             · split;· decide
                                               · split <;> decide
def wgtQ (s:SV8) (i:Nat):Rat:=if s.k=5∧i=0 then fromQ s.w 64 else 1
theorem cpoints_i (K:Int) (w:World):Calls Tryz.prog 36 #[.int .i64 K] w fun e w'=>e=.returned (.int .i64 (cntK K:Int))∧w=w':=by
 by_cases h2:K=2
 · subst h2
   go_enter Tryz.func36,Tryz.ntmps36
   go_wp2_with fail
   go_ret
   exact ⟨rfl,rfl⟩
 · by_cases h3:K=3
   · subst h3
     go_enter Tryz.func36,Tryz.ntmps36
     go_wp2_with fail
     go_ret
     exact ⟨rfl,rfl⟩
   · by_cases h5:K=5
     · subst h5
       go_enter Tryz.func36,Tryz.ntmps36
       go_wp2_with fail
       go_ret
       exact ⟨rfl,rfl⟩
     · by_cases h4:K=4
       · subst h4
         go_enter Tryz.func36,Tryz.ntmps36
         go_wp2_with fail
         go_ret
         exact ⟨rfl,rfl⟩
       · have e:cntK K=0:=by unfold cntK;rw [if_neg h2,if_neg (by simp [h3,h5]),if_neg h4]
         rw [e];clear e
         have b2:(K == 2)=false:=by simp [h2]
         have b3:(K == 3)=false:=by simp [h3]
         have b4:(K == 4)=false:=by simp [h4]
         have b5:(K == 5)=false:=by simp [h5]
         go_enter Tryz.func36,Tryz.ntmps36
         go_wp2_with fail
         go_ret
         exact ⟨rfl,rfl⟩
theorem mkbx43_15 {w W:World} {x0 x1 x2 x3 x4 x5 x6 x7 x8 x9 x10:Value} (h:((w.alloc (Obj.cells #[x0,x1,x2,x3,x4,x5,x6,x7] 31)).alloc (Obj.cells #[x8,x9,x10] 26))=W):Below w.heap.size w W∧BS W (w.heap.size) x0 x1 x2 x3 x4 x5 x6 x7∧B3 W (w.heap.size+1) x8 x9 x10∧W.heap.size=w.heap.size+2:=by subst h;exact ⟨by exact (((Below.refl _ _).alloc (Nat.le_refl _) _).alloc (by simp) _),by exact (BS.new' _ _ _ _ _ _ _ _ _ _ rfl).alloc _,by exact B3.new' _ _ _ _ _ (by simp),by simp⟩
theorem cweight_w (u:SV8) (hk:u.k=5) (hw:i64In u.w) :
 Calls Tryz.prog 41 #[.agg #[.int .i64 u.k,.int .i64 u.v0,.int .i64 u.v1,.int .i64 u.v2,.int .i64 u.v3,.int .i64 u.v4,.int .i64 u.v5,.int .i64 u.w],.int .i64 0] w (GivesQ w (fromQ u.w 64) 1):=by
 have HW:Hid (-9223372036854775808≤u.w∧u.w < 9223372036854775808):=hw
 have hkb:(u.k == 5)=true:=by simp [hk]
 clear hw hk
 go_enter Tryz.func41,Tryz.ntmps41
 go_upto_region 1 with (fail)
 generalize hW:World.alloc _ _=W
 obtain ⟨hb,XA,Z,hzW⟩:=mkbx43_15 hW;clear hW;obtain ⟨xa0,xa1,xa2,xa3,xa4,xa5,xa6,xa7⟩:=XA.all
 go_wp2_with (first
  | (go_at_call 40;(with_reducible refine (from_all u.w 64 HW.out.1 HW.out.2 (by decide) (by decide) _).mono ?_);rintro e w_r ⟨s_r,A_r,n_r,c_r,B_r,m_r,d_r,rfl,r,hh⟩
     (try replace Z:=Z.below hh);replace hb:=bend hb hh;have zf0:=Z.f0;have zf1:=Z.f1;have zf2:=Z.f2;obtain ⟨z0,z1,z2⟩:=Z.all))
 have Z2:=Z.set3 (.bool s_r) (.slice A_r n_r c_r) (.slice B_r m_r d_r)
 obtain ⟨g0,g1,g2⟩:=Z2.all
 refine bodyPost_ret (v:=.agg #[.bool s_r,.slice A_r n_r c_r,.slice B_r m_r d_r]) (by simp [results,Tryz.results41,go_sem,g0,g1,g2]) rfl ?_
 exact ⟨s_r,A_r,n_r,c_r,B_r,m_r,d_r,rfl,r.set3 Z _ _ _,below_set3 hb (by omega) _ _ _⟩
theorem cweight_n (u:SV8) (hk:¬ u.k=5) (m:Int) :
 Calls Tryz.prog 41 #[.agg #[.int .i64 u.k,.int .i64 u.v0,.int .i64 u.v1,.int .i64 u.v2,.int .i64 u.v3,.int .i64 u.v4,.int .i64 u.v5,.int .i64 u.w],.int .i64 m] w (GivesQ w (Rat.divInt 1 1) 1):=by
 have hkb:(u.k == 5)=false:=by simp [hk]
 go_enter Tryz.func41,Tryz.ntmps41
 go_upto_region 1 with (fail)
 generalize hW:World.alloc _ _=W
 obtain ⟨hb,XA,Z,hzW⟩:=mkbx43_15 hW;clear hW;obtain ⟨xa0,xa1,xa2,xa3,xa4,xa5,xa6,xa7⟩:=XA.all
 go_wp2_with (first
  | (go_at_call 39;(with_reducible refine (cone_q _).mono ?_);rintro e w_r ⟨s_r,A_r,n_r,c_r,B_r,m_r,d_r,rfl,r,hh⟩
     (try replace Z:=Z.below hh);replace hb:=bend hb hh;have zf0:=Z.f0;have zf1:=Z.f1;have zf2:=Z.f2;obtain ⟨z0,z1,z2⟩:=Z.all))
 have Z2:=Z.set3 (.bool s_r) (.slice A_r n_r c_r) (.slice B_r m_r d_r)
 obtain ⟨g0,g1,g2⟩:=Z2.all
 refine bodyPost_ret (v:=.agg #[.bool s_r,.slice A_r n_r c_r,.slice B_r m_r d_r]) (by simp [results,Tryz.results41,go_sem,g0,g1,g2]) rfl ?_
 exact ⟨s_r,A_r,n_r,c_r,B_r,m_r,d_r,rfl,r.set3 Z _ _ _,below_set3 hb (by omega) _ _ _⟩
theorem cweight_m (u:SV8) (hk:u.k=5) (m:Int) (hm:¬ m=0) :
 Calls Tryz.prog 41 #[.agg #[.int .i64 u.k,.int .i64 u.v0,.int .i64 u.v1,.int .i64 u.v2,.int .i64 u.v3,.int .i64 u.v4,.int .i64 u.v5,.int .i64 u.w],.int .i64 m] w (GivesQ w (Rat.divInt 1 1) 1):=by
 have hkb:(u.k == 5)=true:=by simp [hk]
 have hmb:(m == 0)=false:=by simp [hm]
 clear hk
 go_enter Tryz.func41,Tryz.ntmps41
 go_upto_region 1 with (fail)
 generalize hW:World.alloc _ _=W
 obtain ⟨hb,XA,Z,hzW⟩:=mkbx43_15 hW;clear hW;obtain ⟨xa0,xa1,xa2,xa3,xa4,xa5,xa6,xa7⟩:=XA.all
 go_wp2_with (first
  | (go_at_call 39;(with_reducible refine (cone_q _).mono ?_);rintro e w_r ⟨s_r,A_r,n_r,c_r,B_r,m_r,d_r,rfl,r,hh⟩
     (try replace Z:=Z.below hh);replace hb:=bend hb hh;have zf0:=Z.f0;have zf1:=Z.f1;have zf2:=Z.f2;obtain ⟨z0,z1,z2⟩:=Z.all))
 have Z2:=Z.set3 (.bool s_r) (.slice A_r n_r c_r) (.slice B_r m_r d_r)
 obtain ⟨g0,g1,g2⟩:=Z2.all
 refine bodyPost_ret (v:=.agg #[.bool s_r,.slice A_r n_r c_r,.slice B_r m_r d_r]) (by simp [results,Tryz.results41,go_sem,g0,g1,g2]) rfl ?_
 exact ⟨s_r,A_r,n_r,c_r,B_r,m_r,d_r,rfl,r.set3 Z _ _ _,below_set3 hb (by omega) _ _ _⟩
theorem cweight_q (u:SV8) (m:Nat) (hw:i64In u.w):Calls Tryz.prog 41 #[.agg #[.int .i64 u.k,.int .i64 u.v0,.int .i64 u.v1,.int .i64 u.v2,.int .i64 u.v3,.int .i64 u.v4,.int .i64 u.v5,.int .i64 u.w],.int .i64 (m:Int)] w (GivesQ w (wgtQ u m) 1):=by
 unfold wgtQ
 by_cases hk:u.k=5
 · by_cases hm:m=0
   · subst hm;rw [if_pos ⟨hk,rfl⟩];exact cweight_w u hk hw
   · rw [if_neg (by simp [hm]),← one_q];exact cweight_m u hk m (by omega)
 · rw [if_neg (by simp [hk]),← one_q];exact cweight_n u hk m
theorem run_sg_mul {e1:Operand→Value} {x1:Operand} {d1:Option Tmp} {y1:Nat} {pos:String} {af:Array Edge} {m:Nat} (h:e1 x1=.int .i64 (m:Int)) (hw:IntKind.i64.wrap (2*(m:Int))=2*(m:Int)) (hc:e1 (.const (Value.int IntKind.i64 2))=.int .i64 2) :
 (execOp e1 ⟨d1,.binOp BinOp.mul 3 (.const (Value.int IntKind.i64 2)) x1 3,y1,pos,af,none⟩).run Tryz.prog w=.ok (.value (.int .i64 (2*(m:Int)))) w:=by
 go_simp
theorem run_sg_add {e1:Operand→Value} {x1:Operand} {d1:Option Tmp} {y1:Nat} {pos:String} {af:Array Edge} {m:Nat} (h:e1 x1=.int .i64 (2*(m:Int))) (hw:IntKind.i64.wrap (2*(m:Int)+1)=2*(m:Int)+1) (hc:e1 (.const (Value.int IntKind.i64 1))=.int .i64 1) :
 (execOp e1 ⟨d1,.binOp BinOp.add 3 x1 (.const (Value.int IntKind.i64 1)) 3,y1,pos,af,none⟩).run Tryz.prog w=.ok (.value (.int .i64 (2*(m:Int)+1))) w:=by
 go_simp
theorem run_sg_fa {e1:Operand→Value} {x1:Operand} {d1:Option Tmp} {y1:Nat} {pos:String} {af:Array Edge} {g:Nat} (h:e1 x1=.pointer (some ⟨g,0,none⟩)) :
 (execOp e1 ⟨d1,.fieldAddr 31 x1 1,y1,pos,af,none⟩).run Tryz.prog w=.ok (.value (.pointer (some ⟨g,1,none⟩))) w:=by
 go_simp
theorem run_sg_ia {e1:Operand→Value} {x1 x2:Operand} {d1:Option Tmp} {y1:Nat} {pos:String} {af:Array Edge} {g o:Nat} {J:Int} (h:e1 x1=.pointer (some ⟨g,1,none⟩)) (h2:e1 x2=.int .i64 J) (hix:∀ w':World,(Instr.indexAt 29 (.pointer (some ⟨g,1,none⟩)) (.int .i64 J)).run Tryz.prog w'=.ok (.pointer (some ⟨g,o,none⟩)) w') :
 (execOp e1 ⟨d1,.indexAddr 29 x1 x2,y1,pos,af,none⟩).run Tryz.prog w=.ok (.value (.pointer (some ⟨g,o,none⟩))) w:=by
 go_simp
theorem run_sg_ld {e1:Operand→Value} {x1:Operand} {d1:Option Tmp} {y1:Nat} {pos:String} {af:Array Edge} {g o:Nat} {u:Int} (h:e1 x1=.pointer (some ⟨g,o,none⟩)) (hc:w.cell? ⟨g,o,none⟩=some (.int .i64 u)) :
 (execOp e1 ⟨d1,.load 2 x1,y1,pos,af,none⟩).run Tryz.prog w=.ok (.value (.int .i64 u)) w:=by
 go_simp
theorem ats_0 (g:Nat) (w:World):(Instr.indexAt 29 (Value.pointer (some ⟨g,1,none⟩)) (Value.int IntKind.i64 0)).run Tryz.prog w=.ok (.pointer (some ⟨g,1,none⟩)) w:=by kernel_rfl
theorem ats_1 (g:Nat) (w:World):(Instr.indexAt 29 (Value.pointer (some ⟨g,1,none⟩)) (Value.int IntKind.i64 1)).run Tryz.prog w=.ok (.pointer (some ⟨g,2,none⟩)) w:=by kernel_rfl
theorem ats_2 (g:Nat) (w:World):(Instr.indexAt 29 (Value.pointer (some ⟨g,1,none⟩)) (Value.int IntKind.i64 2)).run Tryz.prog w=.ok (.pointer (some ⟨g,3,none⟩)) w:=by kernel_rfl
theorem ats_3 (g:Nat) (w:World):(Instr.indexAt 29 (Value.pointer (some ⟨g,1,none⟩)) (Value.int IntKind.i64 3)).run Tryz.prog w=.ok (.pointer (some ⟨g,4,none⟩)) w:=by kernel_rfl
theorem ats_4 (g:Nat) (w:World):(Instr.indexAt 29 (Value.pointer (some ⟨g,1,none⟩)) (Value.int IntKind.i64 4)).run Tryz.prog w=.ok (.pointer (some ⟨g,5,none⟩)) w:=by kernel_rfl
theorem ats_5 (g:Nat) (w:World):(Instr.indexAt 29 (Value.pointer (some ⟨g,1,none⟩)) (Value.int IntKind.i64 5)).run Tryz.prog w=.ok (.pointer (some ⟨g,6,none⟩)) w:=by kernel_rfl
theorem ats_m (g m:Nat) (hm:m < 6) (w:World):(Instr.indexAt 29 (Value.pointer (some ⟨g,1,none⟩)) (Value.int IntKind.i64 (m:Int))).run Tryz.prog w=.ok (.pointer (some ⟨g,1+m,none⟩)) w:=by
 match m,hm with
 | 0,_=>exact ats_0 g w
 | 1,_=>exact ats_1 g w
 | 2,_=>exact ats_2 g w
 | 3,_=>exact ats_3 g w
 | 4,_=>exact ats_4 g w
 | 5,_=>exact ats_5 g w
theorem BS.cv {W:World} {g:Nat} {u:SV8} (h:BS W g (.int .i64 u.k) (.int .i64 u.v0) (.int .i64 u.v1) (.int .i64 u.v2) (.int .i64 u.v3) (.int .i64 u.v4) (.int .i64 u.v5) (.int .i64 u.w)) (m:Nat) (hm:m < 6):W.cell? ⟨g,1+m,none⟩=some (.int .i64 (u.at_ m)):=by
 match m,hm with
 | 0,_=>exact h.c1
 | 1,_=>exact h.c2
 | 2,_=>exact h.c3
 | 3,_=>exact h.c4
 | 4,_=>exact h.c5
 | 5,_=>exact h.c6
def C1 (w:World) (g o:Nat) (u:Value):Prop:=w.cell? ⟨g,o,none⟩=some u
theorem C1.below {w w':World} {g o:Nat} {u:Value} (h:C1 w g o u) (hb:Below w.heap.size w w'):C1 w' g o u:=(hb.cell (p:=⟨g,o,none⟩) (World.block_lt_of_cell? w ⟨g,o,none⟩ h)).trans h
abbrev L_cofp:List Nat:=[37,38,39,40,41,42,43,44,45,46,47,48,49,50,11]
def o0_cofp:Oper:=⟨some 37,.move (.tmp 10),3, "curve.go:24",#[],none⟩
def o1_cofp:Oper:=⟨some 38,.binOp BinOp.mul 3 (.const (Value.int IntKind.i64 2)) (.tmp 37) 3,3, "curve.go:24",#[⟨0,.data⟩],none⟩
def o2_cofp:Oper:=⟨some 39,.fieldAddr 31 (.tmp 4) 1,0, "curve.go:24",#[],none⟩
def o3_cofp:Oper:=⟨some 40,.indexAddr 29 (.tmp 39) (.tmp 38),0, "curve.go:24",#[⟨2,.data⟩,⟨1,.data⟩],none⟩
def o4_cofp:Oper:=⟨some 41,.load 2 (.tmp 40),2, "curve.go:24",#[⟨3,.data⟩],none⟩
def o5_cofp:Oper:=⟨some 42,.call ⟨.value (.func 40),#[.tmp 41,.const (Value.int IntKind.i64 64)],#[2,2]⟩,26, "curve.go:24",#[⟨4,.data⟩],none⟩
def o6_cofp:Oper:=⟨some 43,.move (.tmp 10),3, "curve.go:24",#[],none⟩
def o7_cofp:Oper:=⟨some 44,.binOp BinOp.mul 3 (.const (Value.int IntKind.i64 2)) (.tmp 43) 3,3, "curve.go:24",#[⟨6,.data⟩],none⟩
def o8_cofp:Oper:=⟨some 45,.binOp BinOp.add 3 (.tmp 44) (.const (Value.int IntKind.i64 1)) 3,3, "curve.go:24",#[⟨7,.data⟩],none⟩
def o9_cofp:Oper:=⟨some 46,.fieldAddr 31 (.tmp 4) 1,0, "curve.go:24",#[],none⟩
def o10_cofp:Oper:=⟨some 47,.indexAddr 29 (.tmp 46) (.tmp 45),0, "curve.go:24",#[⟨9,.data⟩,⟨8,.data⟩],none⟩
def o11_cofp:Oper:=⟨some 48,.load 2 (.tmp 47),2, "curve.go:24",#[⟨10,.data⟩],none⟩
def o12_cofp:Oper:=⟨some 49,.call ⟨.value (.func 40),#[.tmp 48,.const (Value.int IntKind.i64 64)],#[2,2]⟩,26, "curve.go:24",#[⟨11,.data⟩,⟨5,.chain⟩],none⟩
def o13_cofp:Oper:=⟨some 50,.build 28 #[(0,.tmp 42),(1,.tmp 49)],28, "curve.go:24",#[⟨5,.data⟩,⟨12,.data⟩],none⟩
def o14_cofp:Oper:=⟨some 11,.alloc 28,0, "curve.go:24",#[],none⟩
def o15_cofp:Oper:=⟨none,.store 28 (.tmp 11) (.tmp 50),0, "curve.go:24",#[⟨14,.data⟩,⟨13,.data⟩,⟨12,.chain⟩,⟨0,.phase⟩,⟨1,.phase⟩,⟨2,.phase⟩,⟨3,.phase⟩,⟨4,.phase⟩,⟨5,.phase⟩,⟨6,.phase⟩,⟨7,.phase⟩,⟨8,.phase⟩,⟨9,.phase⟩,⟨10,.phase⟩,⟨11,.phase⟩,⟨12,.phase⟩,⟨13,.phase⟩,⟨14,.phase⟩],none⟩
theorem rc_gesso_fix_From {e:Operand→Value} {x0 x1:Operand} {d:Option Tmp} {y:Nat} {pos:String} {af:Array Edge} {u0 u1:Value} (h0:e x0=u0) (h1:e x1=u1) (hf:e (.func 40)=.func (.func 40) #[] #[]) :
 (execOp e ⟨d,.call ⟨.value (.func 40),#[x0,x1],#[2,2]⟩,y,pos,af,none⟩).run Tryz.prog w=.ok (.enter 40 #[u0,u1]) w:=by
 go_simp
def F_cofp (gs:Nat) (m:Nat) (p:Nat) (q:Nat) (a:Int) (b:Int) (sl:Nat):Value→World→Prop :=
 match sl with
 | 37=>fun x _=>x=Value.int .i64 (m:Int)
 | 38=>fun x _=>x=Value.int .i64 (2*(m:Int))
 | 39=>fun x _=>x=Value.pointer (some ⟨gs,1,none⟩)
 | 40=>fun x _=>x=Value.pointer (some ⟨gs,p,none⟩)
 | 41=>fun x _=>x=Value.int .i64 a
 | 42=>VQ (fromQ a 64) (1)
 | 43=>fun x _=>x=Value.int .i64 (m:Int)
 | 44=>fun x _=>x=Value.int .i64 (2*(m:Int))
 | 45=>fun x _=>x=Value.int .i64 (2*(m:Int)+1)
 | 46=>fun x _=>x=Value.pointer (some ⟨gs,1,none⟩)
 | 47=>fun x _=>x=Value.pointer (some ⟨gs,q,none⟩)
 | 48=>fun x _=>x=Value.int .i64 b
 | 49=>VQ (fromQ b 64) (1)
 | 50=>VPG (fromQ a 64) (fromQ b 64) (1)
 | _=>fun _ _=>True
def B0_cofp (a:Int) (b:Int):BoxOp :=
 ⟨14,15,11,28,#[.bool false,.slice none 0 0,.slice none 0 0,.bool false,.slice none 0 0,.slice none 0 0],fun cs w=>∃ s A n c B m d t E i e F j f,cs=#[.bool s,.slice A n c,.slice B m d,.bool t,.slice E i e,.slice F j f]∧PG w s A n c B m d t E i e F j f (fromQ a 64) (fromQ b 64) (1)⟩
theorem cofp_region {id:Nat} {ac:Act} {Q:Exit→Act→World→Prop} {gs m p q:Nat} {a b:Int}
 (hsz:50 < ac.tmps.size) (e10:ac.eval (.tmp 10)=Value.int .i64 (m:Int)) (e4:ac.eval (.tmp 4)=Value.pointer (some ⟨gs,0,none⟩)) (X1:C1 w gs p (.int .i64 a)) (X2:C1 w gs q (.int .i64 b)) (hm:m < 3) (i1:(∀ w':World,(Instr.indexAt 29 (.pointer (some ⟨gs,1,none⟩)) (.int .i64 (2*(m:Int)))).run Tryz.prog w'=.ok (.pointer (some ⟨gs,p,none⟩)) w')) (i2:(∀ w':World,(Instr.indexAt 29 (.pointer (some ⟨gs,1,none⟩)) (.int .i64 (2*(m:Int)+1))).run Tryz.prog w'=.ok (.pointer (some ⟨gs,q,none⟩)) w')) (ha:i64In a) (hb:i64In b)
 (hend:∀ (V:Nat→Value) (w':World) (g0:Nat) (s0:Bool) (A0:Option Addr) (n0:Nat) (c0:Nat) (B0:Option Addr) (m0:Nat) (d0:Nat) (t0:Bool) (E0:Option Addr) (i0:Nat) (e0:Nat) (F0:Option Addr) (j0:Nat) (f0:Nat),PG w' s0 A0 n0 c0 B0 m0 d0 t0 E0 i0 e0 F0 j0 f0 (fromQ a 64) (fromQ b 64) (1)→B6 w' g0 (.bool s0) (.slice A0 n0 c0) (.slice B0 m0 d0) (.bool t0) (.slice E0 i0 e0) (.slice F0 j0 f0)→w.heap.size≤g0→V 11=.pointer (some ⟨g0,0,none⟩)→Below w.heap.size w w'→Q .normal (putAll ac [37,38,39,40,41,42,43,44,45,46,47,48,49,50,11] V) w') :
 (Code.region id #[o0_cofp,o1_cofp,o2_cofp,o3_cofp,o4_cofp,o5_cofp,o6_cofp,o7_cofp,o8_cofp,o9_cofp,o10_cofp,o11_cofp,o12_cofp,o13_cofp,o14_cofp,o15_cofp] true).wp Tryz.prog Q ac w:=by
 have hnd:L_cofp.Nodup:=by decide
 have G:∀ (sv:Nat→Value) (t:Nat),t ∈ L_cofp→t≤50→(putAll ac L_cofp sv).eval (.tmp t)=sv t:=fun sv t ht h=>eval_putAll_mem (t:=t) L_cofp ac hnd ht (Nat.lt_of_le_of_lt h hsz)
 have E10:∀ sv:Nat→Value,(putAll ac L_cofp sv).eval (.tmp 10)=Value.int .i64 (m:Int):=fun sv=>(eval_putAll_not (v:=sv) L_cofp ac (show 10 ∉ _ by decide)).trans e10
 have E4:∀ sv:Nat→Value,(putAll ac L_cofp sv).eval (.tmp 4)=Value.pointer (some ⟨gs,0,none⟩):=fun sv=>(eval_putAll_not (v:=sv) L_cofp ac (show 4 ∉ _ by decide)).trans e4
 have NE:∀ t:Nat,(t ≠ 11)→∀ p ∈ [B0_cofp a b],t ≠ p.tA:=by
  intro t ht p hp
  simp only [List.mem_cons,List.not_mem_nil,or_false] at hp
  rcases hp with rfl
  · exact ht
 refine wp_region_flowsT L_cofp [B0_cofp a b] (F_cofp gs m p q a b) (by kernel_rfl) (by kernel_rfl) rfl hnd ?_ ?_ ?_ ?_ ?_ ?_ ?_ ?_
 · intro p hp
   simp only [List.mem_cons,List.not_mem_nil,or_false] at hp
   rcases hp with rfl
   · refine ⟨⟨o14_cofp,rfl,rfl,rfl,fun e w'=>run_alloc6⟩,⟨o15_cofp,rfl,rfl,rfl,⟨14,.data⟩,by simp [o15_cofp],rfl,rfl⟩,free6 _ _ _ _ _ _ _ _ _ _ _ _ _ _,?_,?_⟩
     · rintro cs w1 w2 ⟨s_,A_,n_,c_,B_,m_,d_,t_,E_,i_,e_,F_,j_,f_,rfl,h⟩ hb;exact ⟨s_,A_,n_,c_,B_,m_,d_,t_,E_,i_,e_,F_,j_,f_,rfl,h.below hb⟩
     · rintro T cs w1 w2 g c0 ⟨s_,A_,n_,c_,B_,m_,d_,t_,E_,i_,e_,F_,j_,f_,rfl,h⟩ hB ho;exact ⟨s_,A_,n_,c_,B_,m_,d_,t_,E_,i_,e_,F_,j_,f_,rfl,h.box hB ho⟩
 · intro p hp q hq h
   simp only [List.mem_cons,List.not_mem_nil,or_false] at hp hq
   rcases hp with rfl <;> rcases hq with rfl
   · rfl
 · intro p hp q hq h
   simp only [List.mem_cons,List.not_mem_nil,or_false] at hp hq
   rcases hp with rfl <;> rcases hq with rfl
   · rfl
 · intro i o h1 h2
   match i,h1 with
   | 0,h1=>cases h1;cases h2
   | 1,h1=>cases h1;cases h2
   | 2,h1=>cases h1;cases h2
   | 3,h1=>cases h1;cases h2
   | 4,h1=>cases h1;cases h2
   | 5,h1=>cases h1;cases h2
   | 6,h1=>cases h1;cases h2
   | 7,h1=>cases h1;cases h2
   | 8,h1=>cases h1;cases h2
   | 9,h1=>cases h1;cases h2
   | 10,h1=>cases h1;cases h2
   | 11,h1=>cases h1;cases h2
   | 12,h1=>cases h1;cases h2
   | 13,h1=>cases h1;cases h2
   | 14,h1=>cases h1;cases h2
   | 15,h1=>exact ⟨B0_cofp a b,List.Mem.head _,rfl⟩
   | i+16,h1=>cases h1
 · intro t
   unfold F_cofp
   split <;> first | exact (stays_eq _).inn _ | exact (stays_q _ _).inn _ | exact (stays_z _ _).inn _ | exact (stays_r _ _).inn _ | exact (stays_rq _ _).inn _ | exact (stays_pg _ _ _).inn _ | exact (stays_true).inn _
 · intro i o t sv w' ho hia hd J0 hf
   have X1:=X1.below J0;have X2:=X2.below J0
   match i,ho with
   | 0,ho =>
     obtain rfl:o0_cofp=o:=Option.some.inj ho
     cases hd
     refine wpOp_plain' (o:=o0_cofp) rfl rfl ?_
     unfold Oper.wp o0_cofp
     rw [run_move (E10 sv),Oper.upon_value]
     exact ⟨_,rfl,Below.refl _ _,rfl⟩
   | 1,ho =>
     obtain rfl:o1_cofp=o:=Option.some.inj ho
     cases hd
     have f37:sv 37=Value.int .i64 (m:Int):=hf ⟨0,.data⟩ (by simp [o1_cofp]) rfl _ 37 rfl rfl (NE _ (by decide))
     refine wpOp_plain' (o:=o1_cofp) rfl rfl ?_
     unfold Oper.wp o1_cofp
     rw [run_sg_mul ((G sv 37 (by decide) (by decide)).trans f37) (IntWalk.i64_in _ (by omega)) rfl,Oper.upon_value]
     exact ⟨_,rfl,Below.refl _ _,rfl⟩
   | 2,ho =>
     obtain rfl:o2_cofp=o:=Option.some.inj ho
     cases hd
     refine wpOp_plain' (o:=o2_cofp) rfl rfl ?_
     unfold Oper.wp o2_cofp
     rw [run_sg_fa (E4 sv) ,Oper.upon_value]
     exact ⟨_,rfl,Below.refl _ _,rfl⟩
   | 3,ho =>
     obtain rfl:o3_cofp=o:=Option.some.inj ho
     cases hd
     have f39:sv 39=Value.pointer (some ⟨gs,1,none⟩):=hf ⟨2,.data⟩ (by simp [o3_cofp]) rfl _ 39 rfl rfl (NE _ (by decide))
     have f38:sv 38=Value.int .i64 (2*(m:Int)):=hf ⟨1,.data⟩ (by simp [o3_cofp]) rfl _ 38 rfl rfl (NE _ (by decide))
     refine wpOp_plain' (o:=o3_cofp) rfl rfl ?_
     unfold Oper.wp o3_cofp
     rw [run_sg_ia ((G sv 39 (by decide) (by decide)).trans f39) ((G sv 38 (by decide) (by decide)).trans f38) i1,Oper.upon_value]
     exact ⟨_,rfl,Below.refl _ _,rfl⟩
   | 4,ho =>
     obtain rfl:o4_cofp=o:=Option.some.inj ho
     cases hd
     have f40:sv 40=Value.pointer (some ⟨gs,p,none⟩):=hf ⟨3,.data⟩ (by simp [o4_cofp]) rfl _ 40 rfl rfl (NE _ (by decide))
     refine wpOp_plain' (o:=o4_cofp) rfl rfl ?_
     unfold Oper.wp o4_cofp
     rw [run_sg_ld ((G sv 40 (by decide) (by decide)).trans f40) X1,Oper.upon_value]
     exact ⟨_,rfl,Below.refl _ _,rfl⟩
   | 5,ho =>
     obtain rfl:o5_cofp=o:=Option.some.inj ho
     cases hd
     have f41:sv 41=Value.int .i64 a:=hf ⟨4,.data⟩ (by simp [o5_cofp]) rfl _ 41 rfl rfl (NE _ (by decide))
     refine wpOp_plain' (o:=o5_cofp) rfl rfl ?_
     unfold Oper.wp o5_cofp
     rw [rc_gesso_fix_From ((G sv 41 (by decide) (by decide)).trans f41) (show (putAll ac L_cofp sv).eval (.const (Value.int IntKind.i64 64))=(Value.int IntKind.i64 64) from rfl) rfl,Oper.upon_enter]
     refine (from_all a 64 ha.1 ha.2 (by decide) (by decide) _).mono ?_
     rintro e w1 ⟨s_,A_,n_,c_,B_,m_,d_,rfl,hq,hh⟩
     exact ⟨_,rfl,hh,s_,A_,n_,c_,B_,m_,d_,rfl,hq⟩
   | 6,ho =>
     obtain rfl:o6_cofp=o:=Option.some.inj ho
     cases hd
     refine wpOp_plain' (o:=o6_cofp) rfl rfl ?_
     unfold Oper.wp o6_cofp
     rw [run_move (E10 sv),Oper.upon_value]
     exact ⟨_,rfl,Below.refl _ _,rfl⟩
   | 7,ho =>
     obtain rfl:o7_cofp=o:=Option.some.inj ho
     cases hd
     have f43:sv 43=Value.int .i64 (m:Int):=hf ⟨6,.data⟩ (by simp [o7_cofp]) rfl _ 43 rfl rfl (NE _ (by decide))
     refine wpOp_plain' (o:=o7_cofp) rfl rfl ?_
     unfold Oper.wp o7_cofp
     rw [run_sg_mul ((G sv 43 (by decide) (by decide)).trans f43) (IntWalk.i64_in _ (by omega)) rfl,Oper.upon_value]
     exact ⟨_,rfl,Below.refl _ _,rfl⟩
   | 8,ho =>
     obtain rfl:o8_cofp=o:=Option.some.inj ho
     cases hd
     have f44:sv 44=Value.int .i64 (2*(m:Int)):=hf ⟨7,.data⟩ (by simp [o8_cofp]) rfl _ 44 rfl rfl (NE _ (by decide))
     refine wpOp_plain' (o:=o8_cofp) rfl rfl ?_
     unfold Oper.wp o8_cofp
     rw [run_sg_add ((G sv 44 (by decide) (by decide)).trans f44) (IntWalk.i64_in _ (by omega)) rfl,Oper.upon_value]
     exact ⟨_,rfl,Below.refl _ _,rfl⟩
   | 9,ho =>
     obtain rfl:o9_cofp=o:=Option.some.inj ho
     cases hd
     refine wpOp_plain' (o:=o9_cofp) rfl rfl ?_
     unfold Oper.wp o9_cofp
     rw [run_sg_fa (E4 sv) ,Oper.upon_value]
     exact ⟨_,rfl,Below.refl _ _,rfl⟩
   | 10,ho =>
     obtain rfl:o10_cofp=o:=Option.some.inj ho
     cases hd
     have f46:sv 46=Value.pointer (some ⟨gs,1,none⟩):=hf ⟨9,.data⟩ (by simp [o10_cofp]) rfl _ 46 rfl rfl (NE _ (by decide))
     have f45:sv 45=Value.int .i64 (2*(m:Int)+1):=hf ⟨8,.data⟩ (by simp [o10_cofp]) rfl _ 45 rfl rfl (NE _ (by decide))
     refine wpOp_plain' (o:=o10_cofp) rfl rfl ?_
     unfold Oper.wp o10_cofp
     rw [run_sg_ia ((G sv 46 (by decide) (by decide)).trans f46) ((G sv 45 (by decide) (by decide)).trans f45) i2,Oper.upon_value]
     exact ⟨_,rfl,Below.refl _ _,rfl⟩
   | 11,ho =>
     obtain rfl:o11_cofp=o:=Option.some.inj ho
     cases hd
     have f47:sv 47=Value.pointer (some ⟨gs,q,none⟩):=hf ⟨10,.data⟩ (by simp [o11_cofp]) rfl _ 47 rfl rfl (NE _ (by decide))
     refine wpOp_plain' (o:=o11_cofp) rfl rfl ?_
     unfold Oper.wp o11_cofp
     rw [run_sg_ld ((G sv 47 (by decide) (by decide)).trans f47) X2,Oper.upon_value]
     exact ⟨_,rfl,Below.refl _ _,rfl⟩
   | 12,ho =>
     obtain rfl:o12_cofp=o:=Option.some.inj ho
     cases hd
     have f48:sv 48=Value.int .i64 b:=hf ⟨11,.data⟩ (by simp [o12_cofp]) rfl _ 48 rfl rfl (NE _ (by decide))
     refine wpOp_plain' (o:=o12_cofp) rfl rfl ?_
     unfold Oper.wp o12_cofp
     rw [rc_gesso_fix_From ((G sv 48 (by decide) (by decide)).trans f48) (show (putAll ac L_cofp sv).eval (.const (Value.int IntKind.i64 64))=(Value.int IntKind.i64 64) from rfl) rfl,Oper.upon_enter]
     refine (from_all b 64 hb.1 hb.2 (by decide) (by decide) _).mono ?_
     rintro e w1 ⟨s_,A_,n_,c_,B_,m_,d_,rfl,hq,hh⟩
     exact ⟨_,rfl,hh,s_,A_,n_,c_,B_,m_,d_,rfl,hq⟩
   | 13,ho =>
     obtain rfl:o13_cofp=o:=Option.some.inj ho
     cases hd
     have h42:VQ (fromQ a 64) (1) (sv 42) w':=hf ⟨5,.data⟩ (by simp [o13_cofp]) rfl _ 42 rfl rfl (NE _ (by decide))
     obtain ⟨s42_,A42_,n42_,c42_,B42_,m42_,d42_,f42,q42⟩:=h42
     have h49:VQ (fromQ b 64) (1) (sv 49) w':=hf ⟨12,.data⟩ (by simp [o13_cofp]) rfl _ 49 rfl rfl (NE _ (by decide))
     obtain ⟨s49_,A49_,n49_,c49_,B49_,m49_,d49_,f49,q49⟩:=h49
     refine wpOp_plain' (o:=o13_cofp) rfl rfl ?_
     unfold Oper.wp o13_cofp
     rw [run_build6 ((G sv 42 (by decide) (by decide)).trans f42) ((G sv 49 (by decide) (by decide)).trans f49) ,Oper.upon_value]
     exact ⟨_,rfl,Below.refl _ _,_,_,_,_,_,_,_,_,_,_,_,_,_,_,rfl,q42,q49⟩
   | 14,ho=>cases ho;cases hd;exact absurd rfl (hia (B0_cofp a b) (List.Mem.head _))
   | 15,ho=>cases ho;cases hd
   | i+16,ho=>cases ho
 · intro p hp os sv w' g hos J0 p1 p3 hf
   simp only [List.mem_cons,List.not_mem_nil,or_false] at hp
   rcases hp with rfl
   · obtain rfl:o15_cofp=os:=Option.some.inj hos
     have h1:VPG (fromQ a 64) (fromQ b 64) (1) (sv 50) w':=hf ⟨13,.data⟩ (by simp [o15_cofp]) rfl _ 50 rfl rfl (NE _ (by decide))
     rw [← G sv 50 (by decide) (by decide)] at h1
     refine store_pg (x:=fromQ a 64) (y:=fromQ b 64) (k:=1) (ac:=putAll ac L_cofp sv) (z:=.tmp 50) ?_ ?_ ?_
     · exact (G sv 11 (by decide) (by decide)).trans p1
     · exact h1
     · exact p3
 · intro sv w' J0 hF hB hap
   obtain ⟨g0,cs0,p0,r0,b0,⟨s0,A0,n0,c0,B0,m0,d0,t0,E0,i0,e0,F0,j0,f0,rfl,h0⟩⟩:=hB (B0_cofp a b) (List.Mem.head _)
   have p0':sv 11=.pointer (some ⟨g0,0,none⟩):=p0
   exact hend sv w' g0 _ _ _ _ _ _ _ _ _ _ _ _ _ _ h0 b0.at_ r0 p0'   J0
def ofA (v:AM) (u:SV8) (i:Nat):AH:=⟨v.ax (fromQ (u.at_ (2*i)) 64) (fromQ (u.at_ (2*i+1)) 64)*wgtQ u i,v.ay (fromQ (u.at_ (2*i)) 64) (fromQ (u.at_ (2*i+1)) 64)*wgtQ u i,wgtQ u i⟩
def ofL (v:AM) (x y:Rat) (u:SV8) (n:Nat):List AH:=⟨v.ax x y*1,v.ay x y*1,1⟩ :: (List.range n).map (ofA v u)
theorem ofL_length (v:AM) (x y:Rat) (u:SV8) (n:Nat):(ofL v x y u n).length=n+1:=by simp [ofL]
theorem ofL_get {v:AM} {x y:Rat} {u:SV8} {n m:Nat} (h:m < n):(ofL v x y u n)[m+1]?=some (ofA v u m):=by simp [ofL,h]
theorem B18.pushX {w w':World} {g:Nat} {v0 v1 v2 v3 v4 v5 v6 v7 v8 v9 v10 v11 v12 v13 v14 v15 v16 v17:Value} {row:Option Nat} (h:B18 w g v0 v1 v2 v3 v4 v5 v6 v7 v8 v9 v10 v11 v12 v13 v14 v15 v16 v17) (hg:w.grownBy w' row) (hne:∀ k,row=some k→k ≠ g):B18 w' g v0 v1 v2 v3 v4 v5 v6 v7 v8 v9 v10 v11 v12 v13 v14 v15 v16 v17:=(hg.block g h.lt (fun e=>hne g e.symm rfl)).trans h
theorem B6.pushX {w w':World} {g:Nat} {x y z u v t:Value} {row:Option Nat} (h:B6 w g x y z u v t) (hg:w.grownBy w' row) (hne:∀ k,row=some k→k ≠ g):B6 w' g x y z u v t:=(hg.block g h.lt (fun e=>hne g e.symm rfl)).trans h
theorem BS.pushX {w w':World} {g:Nat} {v0 v1 v2 v3 v4 v5 v6 v7:Value} {row:Option Nat} (h:BS w g v0 v1 v2 v3 v4 v5 v6 v7) (hg:w.grownBy w' row) (hne:∀ k,row=some k→k ≠ g):BS w' g v0 v1 v2 v3 v4 v5 v6 v7:=(hg.block g h.lt (fun e=>hne g e.symm rfl)).trans h
def SV8.draws (u:SV8):Prop:=cntK u.k ≠ 0∧(u.k=5→1≤u.w)
def GivesHsE (w:World) (l:List AH) (k:Nat) (en:Ending) (w':World):Prop :=
 ∃ v M,en=.returned (.tuple #[v,.int .i64 0])∧LnH 79 w.heap.size w' v M∧EachH HG w' M l k∧Below w.heap.size w w'
def GivesHsN (w:World) (x:Int) (en:Ending) (w':World):Prop:=en=.returned (.tuple #[.slice none 0 0,.int .i64 x])∧Below w.heap.size w w'
theorem mkbx44_15 {w W:World} {x0 x1 x2 x3 x4 x5 x6 x7 x8 x9 x10 x11 x12 x13 x14 x15 x16 x17 x18 x19 x20 x21 x22 x23 x24 x25 x26 x27 x28 x29 x30 x31:Value} (h:(((w.alloc (Obj.cells #[x0,x1,x2,x3,x4,x5] 28)).alloc (Obj.cells #[x6,x7,x8,x9,x10,x11,x12,x13] 31)).alloc (Obj.cells #[x14,x15,x16,x17,x18,x19,x20,x21,x22,x23,x24,x25,x26,x27,x28,x29,x30,x31] 33))=W):Below w.heap.size w W∧B6 W (w.heap.size) x0 x1 x2 x3 x4 x5∧BS W (w.heap.size+1) x6 x7 x8 x9 x10 x11 x12 x13∧B18 W (w.heap.size+1+1) x14 x15 x16 x17 x18 x19 x20 x21 x22 x23 x24 x25 x26 x27 x28 x29 x30 x31∧W.heap.size=w.heap.size+3:=by subst h;exact ⟨by exact ((((Below.refl _ _).alloc (Nat.le_refl _) _).alloc (by simp) _).alloc (by simp;omega) _),by exact ((B6.new' _ _ _ _ _ _ _ _ rfl).alloc _).alloc _,by exact (BS.new' _ _ _ _ _ _ _ _ _ _ (by simp)).alloc _,by exact B18.new' _ _ _ _ _ _ _ _ _ _ _ _ _ _ _ _ _ _ _ _ (by simp),by simp⟩
theorem cof_e0 {m:MV} (u:SV8) (h0:cntK u.k=0) :
 Calls Tryz.prog 11 #[.agg #[.bool s_p,.slice A_p n_p c_p,.slice B_p m_p d_p,.bool t_p,.slice E_p i_p e_p,.slice F_p j_p f_p],.agg #[.int .i64 u.k,.int .i64 u.v0,.int .i64 u.v1,.int .i64 u.v2,.int .i64 u.v3,.int .i64 u.v4,.int .i64 u.v5,.int .i64 u.w],.agg #[.bool m.a.s,.slice m.a.A m.a.n m.a.c,.slice m.a.B m.a.m m.a.d,.bool m.b.s,.slice m.b.A m.b.n m.b.c,.slice m.b.B m.b.m m.b.d,.bool m.c.s,.slice m.c.A m.c.n m.c.c,.slice m.c.B m.c.m m.c.d,.bool m.d.s,.slice m.d.A m.d.n m.d.c,.slice m.d.B m.d.m m.d.d,.bool m.e.s,.slice m.e.A m.e.n m.e.c,.slice m.e.B m.e.m m.e.d,.bool m.f.s,.slice m.f.A m.f.n m.f.c,.slice m.f.B m.f.m m.f.d]] w (GivesHsN w 11):=by
 have HC:=Lib.hid h0;clear h0
 go_enter Tryz.func11,Tryz.ntmps11
 go_upto_region 1 with (fail)
 generalize hW:World.alloc _ _=W
 obtain ⟨hb,XF,XS,XM,hzW⟩:=mkbx44_15 hW;clear hW;obtain ⟨xs0,xs1,xs2,xs3,xs4,xs5,xs6,xs7⟩:=XS.all
 go_wp2_with (first
  | (go_at_call 36;(with_reducible refine (cpoints_i u.k _).mono ?_);rintro e w_z ⟨rfl,rfl⟩;rw [HC.out]))
 go_ret2
 exact ⟨rfl,hb⟩
theorem cof_e5 {m:MV} (u:SV8) (hk:u.k=5) (hw:u.w < 1) :
 Calls Tryz.prog 11 #[.agg #[.bool s_p,.slice A_p n_p c_p,.slice B_p m_p d_p,.bool t_p,.slice E_p i_p e_p,.slice F_p j_p f_p],.agg #[.int .i64 u.k,.int .i64 u.v0,.int .i64 u.v1,.int .i64 u.v2,.int .i64 u.v3,.int .i64 u.v4,.int .i64 u.v5,.int .i64 u.w],.agg #[.bool m.a.s,.slice m.a.A m.a.n m.a.c,.slice m.a.B m.a.m m.a.d,.bool m.b.s,.slice m.b.A m.b.n m.b.c,.slice m.b.B m.b.m m.b.d,.bool m.c.s,.slice m.c.A m.c.n m.c.c,.slice m.c.B m.c.m m.c.d,.bool m.d.s,.slice m.d.A m.d.n m.d.c,.slice m.d.B m.d.m m.d.d,.bool m.e.s,.slice m.e.A m.e.n m.e.c,.slice m.e.B m.e.m m.e.d,.bool m.f.s,.slice m.f.A m.f.n m.f.c,.slice m.f.B m.f.m m.f.d]] w (GivesHsN w 11):=by
 have HC:Hid (cntK u.k=2):=by show _=_;rw [hk];rfl
 have hkb:(u.k == 5)=true:=by simp [hk]
 clear hk
 go_enter Tryz.func11,Tryz.ntmps11
 go_upto_region 1 with (fail)
 generalize hW:World.alloc _ _=W
 obtain ⟨hb,XF,XS,XM,hzW⟩:=mkbx44_15 hW;clear hW;obtain ⟨xs0,xs1,xs2,xs3,xs4,xs5,xs6,xs7⟩:=XS.all
 go_wp2_with (first
  | (go_at_call 36;(with_reducible refine (cpoints_i u.k _).mono ?_);rintro e w_z ⟨rfl,rfl⟩;rw [HC.out]))
 go_ret2
 exact ⟨rfl,hb⟩
theorem cof_e {m:MV} (u:SV8) (h:¬ u.draws):Calls Tryz.prog 11 #[.agg #[.bool s_p,.slice A_p n_p c_p,.slice B_p m_p d_p,.bool t_p,.slice E_p i_p e_p,.slice F_p j_p f_p],.agg #[.int .i64 u.k,.int .i64 u.v0,.int .i64 u.v1,.int .i64 u.v2,.int .i64 u.v3,.int .i64 u.v4,.int .i64 u.v5,.int .i64 u.w],.agg #[.bool m.a.s,.slice m.a.A m.a.n m.a.c,.slice m.a.B m.a.m m.a.d,.bool m.b.s,.slice m.b.A m.b.n m.b.c,.slice m.b.B m.b.m m.b.d,.bool m.c.s,.slice m.c.A m.c.n m.c.c,.slice m.c.B m.c.m m.c.d,.bool m.d.s,.slice m.d.A m.d.n m.d.c,.slice m.d.B m.d.m m.d.d,.bool m.e.s,.slice m.e.A m.e.n m.e.c,.slice m.e.B m.e.m m.e.d,.bool m.f.s,.slice m.f.A m.f.n m.f.c,.slice m.f.B m.f.m m.f.d]] w (GivesHsN w 11):=by
 by_cases h0:cntK u.k=0
 · exact cof_e0 u h0
 · by_cases hk:u.k=5
   · by_cases hw:u.w < 1
     · exact cof_e5 u hk hw
     · exact absurd ⟨h0,fun _=>by omega⟩ h
   · exact absurd ⟨h0,fun e=>absurd e hk⟩ h
theorem cof_5 {k l kp:Nat} {v:AM} {m:MV} {fx fy:Rat} (u:SV8) (p:PR w s_p A_p n_p c_p B_p m_p d_p t_p E_p i_p e_p F_p j_p f_p fx fy kp) (M:MR w m v k l) (hin:u.In) (hkk:k+kp≤10000) (hl:l≤9000) (h1:1≤k) (h2:1≤kp) (h3:1≤l) (n:Nat) (hn:cntK u.k=n) (hn1:1≤n) (hk:u.k=5) (hw:1≤u.w) :
 Calls Tryz.prog 11 #[.agg #[.bool s_p,.slice A_p n_p c_p,.slice B_p m_p d_p,.bool t_p,.slice E_p i_p e_p,.slice F_p j_p f_p],.agg #[.int .i64 u.k,.int .i64 u.v0,.int .i64 u.v1,.int .i64 u.v2,.int .i64 u.v3,.int .i64 u.v4,.int .i64 u.v5,.int .i64 u.w],.agg #[.bool m.a.s,.slice m.a.A m.a.n m.a.c,.slice m.a.B m.a.m m.a.d,.bool m.b.s,.slice m.b.A m.b.n m.b.c,.slice m.b.B m.b.m m.b.d,.bool m.c.s,.slice m.c.A m.c.n m.c.c,.slice m.c.B m.c.m m.c.d,.bool m.d.s,.slice m.d.A m.d.n m.d.c,.slice m.d.B m.d.m m.d.d,.bool m.e.s,.slice m.e.A m.e.n m.e.c,.slice m.e.B m.e.m m.e.d,.bool m.f.s,.slice m.f.A m.f.n m.f.c,.slice m.f.B m.f.m m.f.d]] w (GivesHsE w (ofL v fx fy u n) ((k+kp+(k+kp)+1+l+1)+1)):=by
 have hn3:n≤3:=by rw [← hn];exact cntK_le _
 have HN:=Lib.hid hn;have HIN:=Lib.hid hin
 have hnb:((n:Int) == 0)=false:=by simp;omega
 clear hn hin
 have hkb:(u.k == 5)=true:=by simp [hk]
 have hw2:¬ u.w < 1:=by omega
 clear hk hw
 go_enter Tryz.func11,Tryz.ntmps11
 go_upto_region 1 with (fail)
 generalize hW:World.alloc _ _=W
 obtain ⟨hb,XF,XS,XM,hzW⟩:=mkbx44_15 hW;clear hW;replace p:=p.below hb;replace M:=M.below hb;have XS9:=Lib.hid XS;have XM9:=Lib.hid XM;have M9:=Lib.hid M;have HB9:=Lib.hid hb;obtain ⟨xf0,xf1,xf2,xf3,xf4,xf5⟩:=XF.all;obtain ⟨xs0,xs1,xs2,xs3,xs4,xs5,xs6,xs7⟩:=XS.all;have xml:=XM.ld
 replace hb:Below W.heap.size W W:=Below.refl _ _
 go_wp2_with (first
  | (go_at_call 36;(with_reducible refine (cpoints_i u.k _).mono ?_);rintro e w_z ⟨rfl,rfl⟩;rw [HN.out])
  | (go_at_call 38;(with_reducible refine (mapply_p M p (by omega) (by omega) h1 h2 h3).mono ?_);rintro e w_r ⟨s_r,A_r,n_r,c_r,B_r,m_r,d_r,t_r,E_r,i_r,e_r,F_r,j_r,f_r,rfl,r,hh⟩
     replace hb:=bend hb hh)
  | (go_at_call 39;(with_reducible refine (cone_q _).mono ?_);rintro e w_o ⟨s_o,A_o,n_o,c_o,B_o,m_o,d_o,rfl,o,hh⟩
     (try replace r:=r.below hh);replace hb:=bend hb hh;rw [one_q] at o)
  | (go_at_call 37;(with_reducible refine (cweighted_h r.pr o (by omega) (by decide) (by omega) (by decide)).mono ?_);rintro e w_y ⟨y,rfl,yh,hh⟩
     replace hb:=bend hb hh))
 have hLit:=LnH.lit (T:=79) (base:=W.heap.size) w_y [y] hb.size (by simp)
 have hal:Below w_y.heap.size w_y (w_y.alloc (Obj.cells #[Value.bool y.x.s,Value.slice y.x.A y.x.n y.x.c,Value.slice y.x.B y.x.m y.x.d,Value.bool y.y.s,Value.slice y.y.A y.y.n y.y.c,Value.slice y.y.B y.y.m y.y.d,Value.bool y.w.s,Value.slice y.w.A y.w.n y.w.c,Value.slice y.w.B y.w.m y.w.d] 79)):=((Below.refl _ _).alloc (Nat.le_refl _) _)
 have yh9:=Lib.hid (yh.below hal)
 have hbA:=Lib.hid (bend hb hal)
 clear r o yh XF XS XM p M xs0 xs1 xs2 xs3 xs4 xs5 xs6 xs7 xf0 xf1 xf2 xf3 xf4 xf5 xml
 go_loopg [9,34] n (fun gk out ix wr=>∃ (L:List HV) (j:Nat),Hid (gk+j=n)∧ix=.int .i64 (j:Int)∧LnH 79 W.heap.size wr out L∧Hid (EachH HG wr L ((ofL v fx fy u n).take (j+1)) ((k+kp+(k+kp)+1+l+1)+1))∧Below W.heap.size W wr)
 case atStart=>exact ⟨[y],0,Nat.add_zero _,rfl,hLit,⟨by simp [ofL],fun i a b ha hb=>by
  match i with
  | 0=>cases ha;cases hb;exact yh9.out
  | i+1=>cases ha⟩,hbA.out⟩
 case round =>
  obtain ⟨L,j,HGK,rfl,LT,HQ,hB⟩:=hrel
  by_cases hmn:j < n
  · have XS:=XS9.out.below hB
    have XM:=XM9.out.below hB;have M:=M9.out.below hB
    have hlt:(j:Int) < (n:Int):=by omega
    have hwr:IntKind.i64.wrap ((j:Int)+1)=(j:Int)+1:=IntWalk.i64_in _ (by omega)
    have HU:=Lib.hid (ofL_get (v:=v) (x:=fx) (y:=fy) (u:=u) hmn)
    have hMl:L.length≤1000000:=by have:=HQ.out.1;rw [List.length_take] at this;omega
    have HMN:=Lib.hid hmn
    have X1:C1 wr (w.heap.size+1) (1+2*j) (.int .i64 (u.at_ (2*j))):=XS.cv (2*j) (by omega)
    have X2:C1 wr (w.heap.size+1) (1+(2*j+1)) (.int .i64 (u.at_ (2*j+1))):=XS.cv (2*j+1) (by omega)
    have i1:∀ w':World,(Instr.indexAt 29 (.pointer (some ⟨w.heap.size+1,1,none⟩)) (.int .i64 (2*(j:Int)))).run Tryz.prog w'=.ok (.pointer (some ⟨w.heap.size+1,1+2*j,none⟩)) w':=fun w'=>by have h9:=ats_m (w.heap.size+1) (2*j) (by omega) w';rwa [show ((2*j:Nat):Int)=2*(j:Int) by omega] at h9
    have i2:∀ w':World,(Instr.indexAt 29 (.pointer (some ⟨w.heap.size+1,1,none⟩)) (.int .i64 (2*(j:Int)+1))).run Tryz.prog w'=.ok (.pointer (some ⟨w.heap.size+1,1+(2*j+1),none⟩)) w':=fun w'=>by have h9:=ats_m (w.heap.size+1) (2*j+1) (by omega) w';rwa [show ((2*j+1:Nat):Int)=2*(j:Int)+1 by omega] at h9
    have hj3:j < 3:=by omega
    have ha0:=HIN.out.2.1 (2*j)
    have hb0:=HIN.out.2.1 (2*j+1)
    clear hmn
    go_upto_region 8 with (fail)
    refine cofp_region (by simp) rfl rfl X1 X2 hj3 i1 i2 ha0 hb0 ?_
    intro V1 w_r g_r s_r A_r n_r c_r B_r m_r d_r t_r E_r i_r e_r F_r j_r f_r r XP hg_r hvr hh
    simp only [putAll,Act.put,List.setIfInBounds_toArray,List.set_cons_zero,List.set_cons_succ,hvr]
    clear hvr X1 X2 i1 i2 ha0 hb0
    have hxp:∀ b,u9.ownBlock=some b→b ≠ g_r:=fun b e=>by have h5:=(LT.own.lt b e).2;omega
    replace XS:=XS.below hh;replace XM:=XM.below hh;replace M:=M.below hh;replace LT:=LT.below hh
    have hxs:∀ b,u9.ownBlock=some b→b ≠ w.heap.size+1:=fun b e=>by have:=LT.own_base e;omega
    have hxm:∀ b,u9.ownBlock=some b→b ≠ w.heap.size+1+1:=fun b e=>by have:=LT.own_base e;omega
    replace HQ:=Lib.hid (EachH.belowG HQ.out hh)
    replace hB:=bend hB hh;clear hh
    go_upto_region 9 with (fail)
    replace LT:=LT.below (Below.refl _ _).drew
    replace XP:=XP.below (Below.refl _ _).drew
    replace XS:=XS.below (Below.refl _ _).drew
    replace XM:=XM.below (Below.refl _ _).drew
    replace r:=r.below (Below.refl _ _).drew
    replace M:=M.below (Below.refl _ _).drew
    replace HQ:=Lib.hid (EachH.belowG HQ.out (Below.refl _ _).drew)
    replace hB:=hB.drew;have hiw:=HIN.out.2.2
    go_region_held3 (fun w'=>(LVM ⟨w.heap.size+1+1,0,none⟩).run Tryz.prog w'=.ok (.agg #[.bool m.a.s,.slice m.a.A m.a.n m.a.c,.slice m.a.B m.a.m m.a.d,.bool m.b.s,.slice m.b.A m.b.n m.b.c,.slice m.b.B m.b.m m.b.d,.bool m.c.s,.slice m.c.A m.c.n m.c.c,.slice m.c.B m.c.m m.c.d,.bool m.d.s,.slice m.d.A m.d.n m.d.c,.slice m.d.B m.d.m m.d.d,.bool m.e.s,.slice m.e.A m.e.n m.e.c,.slice m.e.B m.e.m m.e.d,.bool m.f.s,.slice m.f.A m.f.n m.f.c,.slice m.f.B m.f.m m.f.d]) w'∧w'.cell? ⟨g_r,0,none⟩=some (.bool s_r)∧w'.cell? ⟨g_r,1,none⟩=some (.slice A_r n_r c_r)∧w'.cell? ⟨g_r,2,none⟩=some (.slice B_r m_r d_r)∧w'.cell? ⟨g_r,3,none⟩=some (.bool t_r)∧w'.cell? ⟨g_r,4,none⟩=some (.slice E_r i_r e_r)∧w'.cell? ⟨g_r,5,none⟩=some (.slice F_r j_r f_r)∧w'.cell? ⟨w.heap.size+1,0,none⟩=some (.int .i64 u.k)∧w'.cell? ⟨w.heap.size+1,1,none⟩=some (.int .i64 u.v0)∧w'.cell? ⟨w.heap.size+1,2,none⟩=some (.int .i64 u.v1)∧w'.cell? ⟨w.heap.size+1,3,none⟩=some (.int .i64 u.v2)∧w'.cell? ⟨w.heap.size+1,4,none⟩=some (.int .i64 u.v3)∧w'.cell? ⟨w.heap.size+1,5,none⟩=some (.int .i64 u.v4)∧w'.cell? ⟨w.heap.size+1,6,none⟩=some (.int .i64 u.v5)∧w'.cell? ⟨w.heap.size+1,7,none⟩=some (.int .i64 u.w))
     (first | with_reducible exact ⟨XMb.ld,XPb.c0,XPb.c1,XPb.c2,XPb.c3,XPb.c4,XPb.c5,XSb.c0,XSb.c1,XSb.c2,XSb.c3,XSb.c4,XSb.c5,XSb.c6,XSb.c7⟩ | with_reducible exact ⟨XM.ld,XP.c0,XP.c1,XP.c2,XP.c3,XP.c4,XP.c5,XS.c0,XS.c1,XS.c2,XS.c3,XS.c4,XS.c5,XS.c6,XS.c7⟩ | exact ⟨(XM.below ((Below.refl _ _).alloc (Nat.le_refl _) _)).ld,(XP.below ((Below.refl _ _).alloc (Nat.le_refl _) _)).c0,(XP.below ((Below.refl _ _).alloc (Nat.le_refl _) _)).c1,(XP.below ((Below.refl _ _).alloc (Nat.le_refl _) _)).c2,(XP.below ((Below.refl _ _).alloc (Nat.le_refl _) _)).c3,(XP.below ((Below.refl _ _).alloc (Nat.le_refl _) _)).c4,(XP.below ((Below.refl _ _).alloc (Nat.le_refl _) _)).c5,(XS.below ((Below.refl _ _).alloc (Nat.le_refl _) _)).c0,(XS.below ((Below.refl _ _).alloc (Nat.le_refl _) _)).c1,(XS.below ((Below.refl _ _).alloc (Nat.le_refl _) _)).c2,(XS.below ((Below.refl _ _).alloc (Nat.le_refl _) _)).c3,(XS.below ((Below.refl _ _).alloc (Nat.le_refl _) _)).c4,(XS.below ((Below.refl _ _).alloc (Nat.le_refl _) _)).c5,(XS.below ((Below.refl _ _).alloc (Nat.le_refl _) _)).c6,(XS.below ((Below.refl _ _).alloc (Nat.le_refl _) _)).c7⟩)
     (first
     | (go_at_call 38;(with_reducible refine (mapply_p M r.pr (by omega) (by omega) h1 (by decide) h3).mono ?_);rintro e w_q1 ⟨s_q1,A_q1,n_q1,c_q1,B_q1,m_q1,d_q1,t_q1,E_q1,i_q1,e_q1,F_q1,j_q1,f_q1,rfl,q1,hh⟩
        (try replace LT:=LT.below hh);(try replace XP:=XP.below hh);(try replace XS:=XS.below hh);(try replace XM:=XM.below hh);(try replace r:=r.below hh);(try replace M:=M.below hh)
        replace HQ:=Lib.hid (EachH.belowG HQ.out hh)
        replace hB:=bend hB hh)
     | (go_at_call 41;(with_reducible refine (cweight_q u j hiw).mono ?_);rintro e w_o ⟨s_o,A_o,n_o,c_o,B_o,m_o,d_o,rfl,o,hh⟩
        (try replace LT:=LT.below hh);(try replace XP:=XP.below hh);(try replace XS:=XS.below hh);(try replace XM:=XM.below hh);(try replace r:=r.below hh);(try replace M:=M.below hh);(try replace q1:=q1.below hh)
        replace HQ:=Lib.hid (EachH.belowG HQ.out hh)
        replace hB:=bend hB hh)
     | (go_at_call 37;(with_reducible refine (cweighted_h q1.pr o (by omega) (by decide) (by omega) (by decide)).mono ?_);rintro e w_y ⟨y,rfl,yh,hh⟩
        (try replace LT:=LT.below hh);(try replace XP:=XP.below hh);(try replace XS:=XS.below hh);(try replace XM:=XM.below hh);(try replace r:=r.below hh);(try replace M:=M.below hh)
        replace HQ:=Lib.hid (EachH.belowG HQ.out hh)
        replace hB:=bend hB hh)
     | (have hal:Below w_y.heap.size w_y (w_y.alloc (Obj.cells #[Value.bool y.x.s,Value.slice y.x.A y.x.n y.x.c,Value.slice y.x.B y.x.m y.x.d,Value.bool y.y.s,Value.slice y.y.A y.y.n y.y.c,Value.slice y.y.B y.y.m y.y.d,Value.bool y.w.s,Value.slice y.w.A y.w.n y.w.c,Value.slice y.w.B y.w.m y.w.d] 79)):=((Below.refl _ _).alloc (Nat.le_refl _) _)
        have XMa:=XM.below hal;have XPa:=XP.below hal;have XSa:=XS.below hal
        refine step_pushH Tryz.underlying37 info_hom (by rfl) _ _ (by rfl) (p:=y) (k0:=1) (b:=w_y.heap.size) (by rfl) (by rfl) (LT.below hal) (Nat.le_trans hB.size hal.size) hMl (heap_alloc_new w_y _) ?_
        intro v3 w3 hn3 hg3 ho3
        have XMb:=XMa.pushX hg3 hxm;have XPb:=XPa.pushX hg3 hxp;have XSb:=XSa.pushX hg3 hxs))
    have hE3:EachH HG (w_y.alloc (Obj.cells #[Value.bool y.x.s,Value.slice y.x.A y.x.n y.x.c,Value.slice y.x.B y.x.m y.x.d,Value.bool y.y.s,Value.slice y.y.A y.y.n y.y.c,Value.slice y.y.B y.y.m y.y.d,Value.bool y.w.s,Value.slice y.w.A y.w.n y.w.c,Value.slice y.w.B y.w.m y.w.d] 79)) L ((ofL v fx fy u n).take (j+1)) ((k+kp+(k+kp)+1+l+1)+1):=EachH.belowG HQ.out hal
    have hp3:HG (w_y.alloc (Obj.cells #[Value.bool y.x.s,Value.slice y.x.A y.x.n y.x.c,Value.slice y.x.B y.x.m y.x.d,Value.bool y.y.s,Value.slice y.y.A y.y.n y.y.c,Value.slice y.y.B y.y.m y.y.d,Value.bool y.w.s,Value.slice y.w.A y.w.n y.w.c,Value.slice y.w.B y.w.m y.w.d] 79)) y (ofA v u j) ((k+kp+(k+kp)+1+l+1)+1):=(yh.below hal).more (by omega)
    have hB9:=LnH.under (T:=79) (base:=W.heap.size) (LT.below hal) hg3 (w0:=W) (bend hB hal) (Nat.le_refl _)
    have hE4:=takeH HU.out (EachH.push hE3 (fun _ _ h=>(LT.below hal).hg hg3 h) ((LT.below hal).hg hg3 hp3))
    clear hE3 hp3 XMa XPa XSa XMb XPb XSb XM XP XS r M yh q1 o
    go_wp2_with fail
    go_roundg (gk - 1)
    case measure=>have:=HGK.out;have:=HMN.out;omega
    case rel=>exact ⟨L ++ [y],j+1,by have:=HGK.out;have:=HMN.out;show _=_;omega,by go_num,hn3,hE4,hB9⟩
  · have hlt:¬ (j:Int) < (n:Int):=by omega
    have HQ2:Hid (EachH HG wr L (ofL v fx fy u n) ((k+kp+(k+kp)+1+l+1)+1)):=by
     have h:=HQ.out
     rwa [List.take_of_length_le (by rw [ofL_length];omega)] at h
    clear hmn
    go_wp2_with fail
    (try rw [Exit.noGoto_ret])
    go_ret2
    exact ⟨_,L,rfl,LT.base_le (by have:=HB9.out.size;omega),HQ2.out,bend HB9.out hB⟩
theorem cof_n {k l kp:Nat} {v:AM} {m:MV} {fx fy:Rat} (u:SV8) (p:PR w s_p A_p n_p c_p B_p m_p d_p t_p E_p i_p e_p F_p j_p f_p fx fy kp) (M:MR w m v k l) (hin:u.In) (hkk:k+kp≤10000) (hl:l≤9000) (h1:1≤k) (h2:1≤kp) (h3:1≤l) (n:Nat) (hn:cntK u.k=n) (hn1:1≤n) (hk:¬ u.k=5) :
 Calls Tryz.prog 11 #[.agg #[.bool s_p,.slice A_p n_p c_p,.slice B_p m_p d_p,.bool t_p,.slice E_p i_p e_p,.slice F_p j_p f_p],.agg #[.int .i64 u.k,.int .i64 u.v0,.int .i64 u.v1,.int .i64 u.v2,.int .i64 u.v3,.int .i64 u.v4,.int .i64 u.v5,.int .i64 u.w],.agg #[.bool m.a.s,.slice m.a.A m.a.n m.a.c,.slice m.a.B m.a.m m.a.d,.bool m.b.s,.slice m.b.A m.b.n m.b.c,.slice m.b.B m.b.m m.b.d,.bool m.c.s,.slice m.c.A m.c.n m.c.c,.slice m.c.B m.c.m m.c.d,.bool m.d.s,.slice m.d.A m.d.n m.d.c,.slice m.d.B m.d.m m.d.d,.bool m.e.s,.slice m.e.A m.e.n m.e.c,.slice m.e.B m.e.m m.e.d,.bool m.f.s,.slice m.f.A m.f.n m.f.c,.slice m.f.B m.f.m m.f.d]] w (GivesHsE w (ofL v fx fy u n) ((k+kp+(k+kp)+1+l+1)+1)):=by
 have hn3:n≤3:=by rw [← hn];exact cntK_le _
 have HN:=Lib.hid hn;have HIN:=Lib.hid hin
 have hnb:((n:Int) == 0)=false:=by simp;omega
 clear hn hin
 have hkb:(u.k == 5)=false:=by simp [hk]
 clear hk
 go_enter Tryz.func11,Tryz.ntmps11
 go_upto_region 1 with (fail)
 generalize hW:World.alloc _ _=W
 obtain ⟨hb,XF,XS,XM,hzW⟩:=mkbx44_15 hW;clear hW;replace p:=p.below hb;replace M:=M.below hb;have XS9:=Lib.hid XS;have XM9:=Lib.hid XM;have M9:=Lib.hid M;have HB9:=Lib.hid hb;obtain ⟨xf0,xf1,xf2,xf3,xf4,xf5⟩:=XF.all;obtain ⟨xs0,xs1,xs2,xs3,xs4,xs5,xs6,xs7⟩:=XS.all;have xml:=XM.ld
 replace hb:Below W.heap.size W W:=Below.refl _ _
 go_wp2_with (first
  | (go_at_call 36;(with_reducible refine (cpoints_i u.k _).mono ?_);rintro e w_z ⟨rfl,rfl⟩;rw [HN.out])
  | (go_at_call 38;(with_reducible refine (mapply_p M p (by omega) (by omega) h1 h2 h3).mono ?_);rintro e w_r ⟨s_r,A_r,n_r,c_r,B_r,m_r,d_r,t_r,E_r,i_r,e_r,F_r,j_r,f_r,rfl,r,hh⟩
     replace hb:=bend hb hh)
  | (go_at_call 39;(with_reducible refine (cone_q _).mono ?_);rintro e w_o ⟨s_o,A_o,n_o,c_o,B_o,m_o,d_o,rfl,o,hh⟩
     (try replace r:=r.below hh);replace hb:=bend hb hh;rw [one_q] at o)
  | (go_at_call 37;(with_reducible refine (cweighted_h r.pr o (by omega) (by decide) (by omega) (by decide)).mono ?_);rintro e w_y ⟨y,rfl,yh,hh⟩
     replace hb:=bend hb hh))
 have hLit:=LnH.lit (T:=79) (base:=W.heap.size) w_y [y] hb.size (by simp)
 have hal:Below w_y.heap.size w_y (w_y.alloc (Obj.cells #[Value.bool y.x.s,Value.slice y.x.A y.x.n y.x.c,Value.slice y.x.B y.x.m y.x.d,Value.bool y.y.s,Value.slice y.y.A y.y.n y.y.c,Value.slice y.y.B y.y.m y.y.d,Value.bool y.w.s,Value.slice y.w.A y.w.n y.w.c,Value.slice y.w.B y.w.m y.w.d] 79)):=((Below.refl _ _).alloc (Nat.le_refl _) _)
 have yh9:=Lib.hid (yh.below hal)
 have hbA:=Lib.hid (bend hb hal)
 clear r o yh XF XS XM p M xs0 xs1 xs2 xs3 xs4 xs5 xs6 xs7 xf0 xf1 xf2 xf3 xf4 xf5 xml
 go_loopg [9,34] n (fun gk out ix wr=>∃ (L:List HV) (j:Nat),Hid (gk+j=n)∧ix=.int .i64 (j:Int)∧LnH 79 W.heap.size wr out L∧Hid (EachH HG wr L ((ofL v fx fy u n).take (j+1)) ((k+kp+(k+kp)+1+l+1)+1))∧Below W.heap.size W wr)
 case atStart=>exact ⟨[y],0,Nat.add_zero _,rfl,hLit,⟨by simp [ofL],fun i a b ha hb=>by
  match i with
  | 0=>cases ha;cases hb;exact yh9.out
  | i+1=>cases ha⟩,hbA.out⟩
 case round =>
  obtain ⟨L,j,HGK,rfl,LT,HQ,hB⟩:=hrel
  by_cases hmn:j < n
  · have XS:=XS9.out.below hB
    have XM:=XM9.out.below hB;have M:=M9.out.below hB
    have hlt:(j:Int) < (n:Int):=by omega
    have hwr:IntKind.i64.wrap ((j:Int)+1)=(j:Int)+1:=IntWalk.i64_in _ (by omega)
    have HU:=Lib.hid (ofL_get (v:=v) (x:=fx) (y:=fy) (u:=u) hmn)
    have hMl:L.length≤1000000:=by have:=HQ.out.1;rw [List.length_take] at this;omega
    have HMN:=Lib.hid hmn
    have X1:C1 wr (w.heap.size+1) (1+2*j) (.int .i64 (u.at_ (2*j))):=XS.cv (2*j) (by omega)
    have X2:C1 wr (w.heap.size+1) (1+(2*j+1)) (.int .i64 (u.at_ (2*j+1))):=XS.cv (2*j+1) (by omega)
    have i1:∀ w':World,(Instr.indexAt 29 (.pointer (some ⟨w.heap.size+1,1,none⟩)) (.int .i64 (2*(j:Int)))).run Tryz.prog w'=.ok (.pointer (some ⟨w.heap.size+1,1+2*j,none⟩)) w':=fun w'=>by have h9:=ats_m (w.heap.size+1) (2*j) (by omega) w';rwa [show ((2*j:Nat):Int)=2*(j:Int) by omega] at h9
    have i2:∀ w':World,(Instr.indexAt 29 (.pointer (some ⟨w.heap.size+1,1,none⟩)) (.int .i64 (2*(j:Int)+1))).run Tryz.prog w'=.ok (.pointer (some ⟨w.heap.size+1,1+(2*j+1),none⟩)) w':=fun w'=>by have h9:=ats_m (w.heap.size+1) (2*j+1) (by omega) w';rwa [show ((2*j+1:Nat):Int)=2*(j:Int)+1 by omega] at h9
    have hj3:j < 3:=by omega
    have ha0:=HIN.out.2.1 (2*j)
    have hb0:=HIN.out.2.1 (2*j+1)
    clear hmn
    go_upto_region 8 with (fail)
    refine cofp_region (by simp) rfl rfl X1 X2 hj3 i1 i2 ha0 hb0 ?_
    intro V1 w_r g_r s_r A_r n_r c_r B_r m_r d_r t_r E_r i_r e_r F_r j_r f_r r XP hg_r hvr hh
    simp only [putAll,Act.put,List.setIfInBounds_toArray,List.set_cons_zero,List.set_cons_succ,hvr]
    clear hvr X1 X2 i1 i2 ha0 hb0
    have hxp:∀ b,u9.ownBlock=some b→b ≠ g_r:=fun b e=>by have h5:=(LT.own.lt b e).2;omega
    replace XS:=XS.below hh;replace XM:=XM.below hh;replace M:=M.below hh;replace LT:=LT.below hh
    have hxs:∀ b,u9.ownBlock=some b→b ≠ w.heap.size+1:=fun b e=>by have:=LT.own_base e;omega
    have hxm:∀ b,u9.ownBlock=some b→b ≠ w.heap.size+1+1:=fun b e=>by have:=LT.own_base e;omega
    replace HQ:=Lib.hid (EachH.belowG HQ.out hh)
    replace hB:=bend hB hh;clear hh
    go_upto_region 9 with (fail)
    replace LT:=LT.below (Below.refl _ _).drew
    replace XP:=XP.below (Below.refl _ _).drew
    replace XS:=XS.below (Below.refl _ _).drew
    replace XM:=XM.below (Below.refl _ _).drew
    replace r:=r.below (Below.refl _ _).drew
    replace M:=M.below (Below.refl _ _).drew
    replace HQ:=Lib.hid (EachH.belowG HQ.out (Below.refl _ _).drew)
    replace hB:=hB.drew;have hiw:=HIN.out.2.2
    go_region_held3 (fun w'=>(LVM ⟨w.heap.size+1+1,0,none⟩).run Tryz.prog w'=.ok (.agg #[.bool m.a.s,.slice m.a.A m.a.n m.a.c,.slice m.a.B m.a.m m.a.d,.bool m.b.s,.slice m.b.A m.b.n m.b.c,.slice m.b.B m.b.m m.b.d,.bool m.c.s,.slice m.c.A m.c.n m.c.c,.slice m.c.B m.c.m m.c.d,.bool m.d.s,.slice m.d.A m.d.n m.d.c,.slice m.d.B m.d.m m.d.d,.bool m.e.s,.slice m.e.A m.e.n m.e.c,.slice m.e.B m.e.m m.e.d,.bool m.f.s,.slice m.f.A m.f.n m.f.c,.slice m.f.B m.f.m m.f.d]) w'∧w'.cell? ⟨g_r,0,none⟩=some (.bool s_r)∧w'.cell? ⟨g_r,1,none⟩=some (.slice A_r n_r c_r)∧w'.cell? ⟨g_r,2,none⟩=some (.slice B_r m_r d_r)∧w'.cell? ⟨g_r,3,none⟩=some (.bool t_r)∧w'.cell? ⟨g_r,4,none⟩=some (.slice E_r i_r e_r)∧w'.cell? ⟨g_r,5,none⟩=some (.slice F_r j_r f_r)∧w'.cell? ⟨w.heap.size+1,0,none⟩=some (.int .i64 u.k)∧w'.cell? ⟨w.heap.size+1,1,none⟩=some (.int .i64 u.v0)∧w'.cell? ⟨w.heap.size+1,2,none⟩=some (.int .i64 u.v1)∧w'.cell? ⟨w.heap.size+1,3,none⟩=some (.int .i64 u.v2)∧w'.cell? ⟨w.heap.size+1,4,none⟩=some (.int .i64 u.v3)∧w'.cell? ⟨w.heap.size+1,5,none⟩=some (.int .i64 u.v4)∧w'.cell? ⟨w.heap.size+1,6,none⟩=some (.int .i64 u.v5)∧w'.cell? ⟨w.heap.size+1,7,none⟩=some (.int .i64 u.w))
     (first | with_reducible exact ⟨XMb.ld,XPb.c0,XPb.c1,XPb.c2,XPb.c3,XPb.c4,XPb.c5,XSb.c0,XSb.c1,XSb.c2,XSb.c3,XSb.c4,XSb.c5,XSb.c6,XSb.c7⟩ | with_reducible exact ⟨XM.ld,XP.c0,XP.c1,XP.c2,XP.c3,XP.c4,XP.c5,XS.c0,XS.c1,XS.c2,XS.c3,XS.c4,XS.c5,XS.c6,XS.c7⟩ | exact ⟨(XM.below ((Below.refl _ _).alloc (Nat.le_refl _) _)).ld,(XP.below ((Below.refl _ _).alloc (Nat.le_refl _) _)).c0,(XP.below ((Below.refl _ _).alloc (Nat.le_refl _) _)).c1,(XP.below ((Below.refl _ _).alloc (Nat.le_refl _) _)).c2,(XP.below ((Below.refl _ _).alloc (Nat.le_refl _) _)).c3,(XP.below ((Below.refl _ _).alloc (Nat.le_refl _) _)).c4,(XP.below ((Below.refl _ _).alloc (Nat.le_refl _) _)).c5,(XS.below ((Below.refl _ _).alloc (Nat.le_refl _) _)).c0,(XS.below ((Below.refl _ _).alloc (Nat.le_refl _) _)).c1,(XS.below ((Below.refl _ _).alloc (Nat.le_refl _) _)).c2,(XS.below ((Below.refl _ _).alloc (Nat.le_refl _) _)).c3,(XS.below ((Below.refl _ _).alloc (Nat.le_refl _) _)).c4,(XS.below ((Below.refl _ _).alloc (Nat.le_refl _) _)).c5,(XS.below ((Below.refl _ _).alloc (Nat.le_refl _) _)).c6,(XS.below ((Below.refl _ _).alloc (Nat.le_refl _) _)).c7⟩)
     (first
     | (go_at_call 38;(with_reducible refine (mapply_p M r.pr (by omega) (by omega) h1 (by decide) h3).mono ?_);rintro e w_q1 ⟨s_q1,A_q1,n_q1,c_q1,B_q1,m_q1,d_q1,t_q1,E_q1,i_q1,e_q1,F_q1,j_q1,f_q1,rfl,q1,hh⟩
        (try replace LT:=LT.below hh);(try replace XP:=XP.below hh);(try replace XS:=XS.below hh);(try replace XM:=XM.below hh);(try replace r:=r.below hh);(try replace M:=M.below hh)
        replace HQ:=Lib.hid (EachH.belowG HQ.out hh)
        replace hB:=bend hB hh)
     | (go_at_call 41;(with_reducible refine (cweight_q u j hiw).mono ?_);rintro e w_o ⟨s_o,A_o,n_o,c_o,B_o,m_o,d_o,rfl,o,hh⟩
        (try replace LT:=LT.below hh);(try replace XP:=XP.below hh);(try replace XS:=XS.below hh);(try replace XM:=XM.below hh);(try replace r:=r.below hh);(try replace M:=M.below hh);(try replace q1:=q1.below hh)
        replace HQ:=Lib.hid (EachH.belowG HQ.out hh)
        replace hB:=bend hB hh)
     | (go_at_call 37;(with_reducible refine (cweighted_h q1.pr o (by omega) (by decide) (by omega) (by decide)).mono ?_);rintro e w_y ⟨y,rfl,yh,hh⟩
        (try replace LT:=LT.below hh);(try replace XP:=XP.below hh);(try replace XS:=XS.below hh);(try replace XM:=XM.below hh);(try replace r:=r.below hh);(try replace M:=M.below hh)
        replace HQ:=Lib.hid (EachH.belowG HQ.out hh)
        replace hB:=bend hB hh)
     | (have hal:Below w_y.heap.size w_y (w_y.alloc (Obj.cells #[Value.bool y.x.s,Value.slice y.x.A y.x.n y.x.c,Value.slice y.x.B y.x.m y.x.d,Value.bool y.y.s,Value.slice y.y.A y.y.n y.y.c,Value.slice y.y.B y.y.m y.y.d,Value.bool y.w.s,Value.slice y.w.A y.w.n y.w.c,Value.slice y.w.B y.w.m y.w.d] 79)):=((Below.refl _ _).alloc (Nat.le_refl _) _)
        have XMa:=XM.below hal;have XPa:=XP.below hal;have XSa:=XS.below hal
        refine step_pushH Tryz.underlying37 info_hom (by rfl) _ _ (by rfl) (p:=y) (k0:=1) (b:=w_y.heap.size) (by rfl) (by rfl) (LT.below hal) (Nat.le_trans hB.size hal.size) hMl (heap_alloc_new w_y _) ?_
        intro v3 w3 hn3 hg3 ho3
        have XMb:=XMa.pushX hg3 hxm;have XPb:=XPa.pushX hg3 hxp;have XSb:=XSa.pushX hg3 hxs))
    have hE3:EachH HG (w_y.alloc (Obj.cells #[Value.bool y.x.s,Value.slice y.x.A y.x.n y.x.c,Value.slice y.x.B y.x.m y.x.d,Value.bool y.y.s,Value.slice y.y.A y.y.n y.y.c,Value.slice y.y.B y.y.m y.y.d,Value.bool y.w.s,Value.slice y.w.A y.w.n y.w.c,Value.slice y.w.B y.w.m y.w.d] 79)) L ((ofL v fx fy u n).take (j+1)) ((k+kp+(k+kp)+1+l+1)+1):=EachH.belowG HQ.out hal
    have hp3:HG (w_y.alloc (Obj.cells #[Value.bool y.x.s,Value.slice y.x.A y.x.n y.x.c,Value.slice y.x.B y.x.m y.x.d,Value.bool y.y.s,Value.slice y.y.A y.y.n y.y.c,Value.slice y.y.B y.y.m y.y.d,Value.bool y.w.s,Value.slice y.w.A y.w.n y.w.c,Value.slice y.w.B y.w.m y.w.d] 79)) y (ofA v u j) ((k+kp+(k+kp)+1+l+1)+1):=(yh.below hal).more (by omega)
    have hB9:=LnH.under (T:=79) (base:=W.heap.size) (LT.below hal) hg3 (w0:=W) (bend hB hal) (Nat.le_refl _)
    have hE4:=takeH HU.out (EachH.push hE3 (fun _ _ h=>(LT.below hal).hg hg3 h) ((LT.below hal).hg hg3 hp3))
    clear hE3 hp3 XMa XPa XSa XMb XPb XSb XM XP XS r M yh q1 o
    go_wp2_with fail
    go_roundg (gk - 1)
    case measure=>have:=HGK.out;have:=HMN.out;omega
    case rel=>exact ⟨L ++ [y],j+1,by have:=HGK.out;have:=HMN.out;show _=_;omega,by go_num,hn3,hE4,hB9⟩
  · have hlt:¬ (j:Int) < (n:Int):=by omega
    have HQ2:Hid (EachH HG wr L (ofL v fx fy u n) ((k+kp+(k+kp)+1+l+1)+1)):=by
     have h:=HQ.out
     rwa [List.take_of_length_le (by rw [ofL_length];omega)] at h
    clear hmn
    go_wp2_with fail
    (try rw [Exit.noGoto_ret])
    go_ret2
    exact ⟨_,L,rfl,LT.base_le (by have:=HB9.out.size;omega),HQ2.out,bend HB9.out hB⟩
end
section
open Go Go.RowKit
theorem GivesLn.more {w w':World} {l:List (Rat × Rat)} {k k2:Nat} {en:Ending} (h:GivesLn w l k en w') (hk:k≤k2):GivesLn w l k2 en w':=by
 obtain ⟨v,L,h1,h2,h3,h4⟩:=h
 exact ⟨v,L,h1,h2,⟨h3.1,fun i p u hp hu=>PG.more (h3.2 i p u hp hu) hk⟩,h4⟩
end
section
open Go Go.RowKit
theorem Each.belowR {w w':World} {L:List PV} {l:List (Rat × Rat)} {k:Nat} (h:Each PV.RP w L l k) (hb:Below w.heap.size w w'):Each PV.RP w' L l k:=h.imp fun _ _ hp=>RP.below hp hb
theorem B6R.rest {w w':World} {g k:Nat} {x y z u v t:Value} (h:B6R w g x y z u v t) (hne:g ≠ k) (ho:Only k w w'):B6R w' g x y z u v t:=(ho.block g h.lt hne).trans h
end
section
open Go Go.RowKit
def PV.small (M:Nat) (p:PV):Prop:=(p.n≤M∧p.m≤M)∧p.i≤M∧p.j≤M
instance (M:Nat) (p:PV):Decidable (p.small M):=by unfold PV.small;exact inferInstance
end
section
open Go Go.RowKit
attribute [local go_sem ↓] open_LVH open_STH open_LVJ open_STJ
def QV.small (M:Nat) (q:QV):Prop:=q.n≤M∧q.m≤M
instance (M:Nat) (q:QV):Decidable (q.small M):=by unfold QV.small;exact inferInstance
def HV.small (M:Nat) (p:HV):Prop:=p.x.small M∧p.y.small M∧p.w.small M
end
section
open Go Go.RowKit
attribute [local go_sem ↓] open_LVM open_STM open_LVN open_STN
def AM.fits (v:AM) (K:Nat):Prop:=(v.a.num.natAbs < B64 ^ K∧v.a.den < B64 ^ K)∧(v.b.num.natAbs < B64 ^ K∧v.b.den < B64 ^ K)∧(v.c.num.natAbs < B64 ^ K∧v.c.den < B64 ^ K)∧(v.d.num.natAbs < B64 ^ K∧v.d.den < B64 ^ K)∧(v.e.num.natAbs < B64 ^ K∧v.e.den < B64 ^ K)∧v.f.num.natAbs < B64 ^ K∧v.f.den < B64 ^ K
theorem AM.fits_ex (v:AM):∃ K,v.fits K:=by
 have h:∀ n m:Nat,n≤m→n < B64 ^ m:=fun n m h=>Nat.lt_of_lt_of_le (Nat.lt_pow_self (by decide)) (Nat.pow_le_pow_right (by decide) h)
 exact ⟨v.a.num.natAbs+v.a.den+(v.b.num.natAbs+v.b.den)+(v.c.num.natAbs+v.c.den)+(v.d.num.natAbs+v.d.den)+(v.e.num.natAbs+v.e.den)+(v.f.num.natAbs+v.f.den),⟨h _ _ (by omega),h _ _ (by omega)⟩,⟨h _ _ (by omega),h _ _ (by omega)⟩,⟨h _ _ (by omega),h _ _ (by omega)⟩,⟨h _ _ (by omega),h _ _ (by omega)⟩,⟨h _ _ (by omega),h _ _ (by omega)⟩,h _ _ (by omega),h _ _ (by omega)⟩
theorem mkbx45_15 {w W:World} {x0 x1 x2 x3 x4 x5 x6 x7 x8 x9 x10 x11 x12 x13 x14 x15 x16 x17 x18 x19 x20 x21 x22 x23 x24 x25 x26 x27 x28 x29 x30 x31 x32 x33 x34 x35:Value} (h:((w.alloc (Obj.cells #[x0,x1,x2,x3,x4,x5,x6,x7,x8,x9,x10,x11,x12,x13,x14,x15,x16,x17] 33)).alloc (Obj.cells #[x18,x19,x20,x21,x22,x23,x24,x25,x26,x27,x28,x29,x30,x31,x32,x33,x34,x35] 54))=W):Below w.heap.size w W∧B18 W (w.heap.size) x0 x1 x2 x3 x4 x5 x6 x7 x8 x9 x10 x11 x12 x13 x14 x15 x16 x17∧B18R W (w.heap.size+1) x18 x19 x20 x21 x22 x23 x24 x25 x26 x27 x28 x29 x30 x31 x32 x33 x34 x35∧W.heap.size=w.heap.size+2:=by subst h;exact ⟨by exact (((Below.refl _ _).alloc (Nat.le_refl _) _).alloc (by simp) _),by exact (B18.new' _ _ _ _ _ _ _ _ _ _ _ _ _ _ _ _ _ _ _ _ rfl).alloc _,by exact B18R.new' _ _ _ _ _ _ _ _ _ _ _ _ _ _ _ _ _ _ _ _ (by simp),by simp⟩
theorem rin9 {k l:Nat} {v:AM} {m:MV} (M:MR w m v k l) (hk:k≤1000) (hl:l≤1000) (h1:1≤k) (h3:1≤l) :
 Calls Tryz.prog 14 #[.agg #[.bool m.a.s,.slice m.a.A m.a.n m.a.c,.slice m.a.B m.a.m m.a.d,.bool m.b.s,.slice m.b.A m.b.n m.b.c,.slice m.b.B m.b.m m.b.d,.bool m.c.s,.slice m.c.A m.c.n m.c.c,.slice m.c.B m.c.m m.c.d,.bool m.d.s,.slice m.d.A m.d.n m.d.c,.slice m.d.B m.d.m m.d.d,.bool m.e.s,.slice m.e.A m.e.n m.e.c,.slice m.e.B m.e.m m.e.d,.bool m.f.s,.slice m.f.A m.f.n m.f.c,.slice m.f.B m.f.m m.f.d]] w (GivesRM w v (2*k) (2*l)):=by
 go_enter Tryz.func14,Tryz.ntmps14
 go_upto_region 1 with (fail)
 generalize hW:World.alloc _ _=W
 obtain ⟨hb,XA,Z,hzW⟩:=mkbx45_15 hW;clear hW;replace M:=M.below hb
 replace M:=M.below (Below.refl _ _).drew
 replace XA:=XA.below (Below.refl _ _).drew
 replace Z:=Z.below (Below.refl _ _).drew
 replace hb:=hb.drew
 go_region_held3 (fun w'=>w'.cell? ⟨w.heap.size,0,none⟩=some (.bool m.a.s)∧w'.cell? ⟨w.heap.size,1,none⟩=some (.slice m.a.A m.a.n m.a.c)∧w'.cell? ⟨w.heap.size,2,none⟩=some (.slice m.a.B m.a.m m.a.d)∧w'.cell? ⟨w.heap.size,3,none⟩=some (.bool m.b.s)∧w'.cell? ⟨w.heap.size,4,none⟩=some (.slice m.b.A m.b.n m.b.c)∧w'.cell? ⟨w.heap.size,5,none⟩=some (.slice m.b.B m.b.m m.b.d)∧w'.cell? ⟨w.heap.size,6,none⟩=some (.bool m.c.s)∧w'.cell? ⟨w.heap.size,7,none⟩=some (.slice m.c.A m.c.n m.c.c)∧w'.cell? ⟨w.heap.size,8,none⟩=some (.slice m.c.B m.c.m m.c.d)∧w'.cell? ⟨w.heap.size,9,none⟩=some (.bool m.d.s)∧w'.cell? ⟨w.heap.size,10,none⟩=some (.slice m.d.A m.d.n m.d.c)∧w'.cell? ⟨w.heap.size,11,none⟩=some (.slice m.d.B m.d.m m.d.d)∧w'.cell? ⟨w.heap.size,12,none⟩=some (.bool m.e.s)∧w'.cell? ⟨w.heap.size,13,none⟩=some (.slice m.e.A m.e.n m.e.c)∧w'.cell? ⟨w.heap.size,14,none⟩=some (.slice m.e.B m.e.m m.e.d)∧w'.cell? ⟨w.heap.size,15,none⟩=some (.bool m.f.s)∧w'.cell? ⟨w.heap.size,16,none⟩=some (.slice m.f.A m.f.n m.f.c)∧w'.cell? ⟨w.heap.size,17,none⟩=some (.slice m.f.B m.f.m m.f.d))
  (first | with_reducible exact ⟨XA.c0,XA.c1,XA.c2,XA.c3,XA.c4,XA.c5,XA.c6,XA.c7,XA.c8,XA.c9,XA.c10,XA.c11,XA.c12,XA.c13,XA.c14,XA.c15,XA.c16,XA.c17⟩ | with_reducible exact ⟨(XA.restm (by omega) (only_set18 _ _ _ _ _ _ _ _ _ _ _ _ _ _ _ _ _ _ _ _)).c0,(XA.restm (by omega) (only_set18 _ _ _ _ _ _ _ _ _ _ _ _ _ _ _ _ _ _ _ _)).c1,(XA.restm (by omega) (only_set18 _ _ _ _ _ _ _ _ _ _ _ _ _ _ _ _ _ _ _ _)).c2,(XA.restm (by omega) (only_set18 _ _ _ _ _ _ _ _ _ _ _ _ _ _ _ _ _ _ _ _)).c3,(XA.restm (by omega) (only_set18 _ _ _ _ _ _ _ _ _ _ _ _ _ _ _ _ _ _ _ _)).c4,(XA.restm (by omega) (only_set18 _ _ _ _ _ _ _ _ _ _ _ _ _ _ _ _ _ _ _ _)).c5,(XA.restm (by omega) (only_set18 _ _ _ _ _ _ _ _ _ _ _ _ _ _ _ _ _ _ _ _)).c6,(XA.restm (by omega) (only_set18 _ _ _ _ _ _ _ _ _ _ _ _ _ _ _ _ _ _ _ _)).c7,(XA.restm (by omega) (only_set18 _ _ _ _ _ _ _ _ _ _ _ _ _ _ _ _ _ _ _ _)).c8,(XA.restm (by omega) (only_set18 _ _ _ _ _ _ _ _ _ _ _ _ _ _ _ _ _ _ _ _)).c9,(XA.restm (by omega) (only_set18 _ _ _ _ _ _ _ _ _ _ _ _ _ _ _ _ _ _ _ _)).c10,(XA.restm (by omega) (only_set18 _ _ _ _ _ _ _ _ _ _ _ _ _ _ _ _ _ _ _ _)).c11,(XA.restm (by omega) (only_set18 _ _ _ _ _ _ _ _ _ _ _ _ _ _ _ _ _ _ _ _)).c12,(XA.restm (by omega) (only_set18 _ _ _ _ _ _ _ _ _ _ _ _ _ _ _ _ _ _ _ _)).c13,(XA.restm (by omega) (only_set18 _ _ _ _ _ _ _ _ _ _ _ _ _ _ _ _ _ _ _ _)).c14,(XA.restm (by omega) (only_set18 _ _ _ _ _ _ _ _ _ _ _ _ _ _ _ _ _ _ _ _)).c15,(XA.restm (by omega) (only_set18 _ _ _ _ _ _ _ _ _ _ _ _ _ _ _ _ _ _ _ _)).c16,(XA.restm (by omega) (only_set18 _ _ _ _ _ _ _ _ _ _ _ _ _ _ _ _ _ _ _ _)).c17⟩)
  (first
  | (go_at_call 46;(with_reducible refine (rin3 M.ab.qx hk h1).mono ?_);rintro e w_r1 ⟨s_r1,A_r1,n_r1,c_r1,B_r1,m_r1,d_r1,rfl,r1,hh⟩
     (try replace M:=M.below hh);(try replace XA:=XA.below hh);(try replace Z:=Z.below hh);replace hb:=bend hb hh)
  | (go_at_call 46;(with_reducible refine (rin3 M.ab.qy hk h1).mono ?_);rintro e w_r2 ⟨s_r2,A_r2,n_r2,c_r2,B_r2,m_r2,d_r2,rfl,r2,hh⟩
     (try replace M:=M.below hh);(try replace XA:=XA.below hh);(try replace Z:=Z.below hh);(try replace r1:=r1.below hh);replace hb:=bend hb hh)
  | (go_at_call 46;(with_reducible refine (rin3 M.cd.qx hk h1).mono ?_);rintro e w_r3 ⟨s_r3,A_r3,n_r3,c_r3,B_r3,m_r3,d_r3,rfl,r3,hh⟩
     (try replace M:=M.below hh);(try replace XA:=XA.below hh);(try replace Z:=Z.below hh);(try replace r1:=r1.below hh);(try replace r2:=r2.below hh);replace hb:=bend hb hh)
  | (go_at_call 46;(with_reducible refine (rin3 M.cd.qy hk h1).mono ?_);rintro e w_r4 ⟨s_r4,A_r4,n_r4,c_r4,B_r4,m_r4,d_r4,rfl,r4,hh⟩
     (try replace M:=M.below hh);(try replace XA:=XA.below hh);(try replace Z:=Z.below hh);(try replace r1:=r1.below hh);(try replace r2:=r2.below hh);(try replace r3:=r3.below hh);replace hb:=bend hb hh)
  | (go_at_call 46;(with_reducible refine (rin3 M.ef.qx hl h3).mono ?_);rintro e w_r5 ⟨s_r5,A_r5,n_r5,c_r5,B_r5,m_r5,d_r5,rfl,r5,hh⟩
     (try replace M:=M.below hh);(try replace XA:=XA.below hh);(try replace Z:=Z.below hh);(try replace r1:=r1.below hh);(try replace r2:=r2.below hh);(try replace r3:=r3.below hh);(try replace r4:=r4.below hh);replace hb:=bend hb hh)
  | (go_at_call 46;(with_reducible refine (rin3 M.ef.qy hl h3).mono ?_);rintro e w_r6 ⟨s_r6,A_r6,n_r6,c_r6,B_r6,m_r6,d_r6,rfl,r6,hh⟩
     (try replace M:=M.below hh);(try replace XA:=XA.below hh);(try replace Z:=Z.below hh);(try replace r1:=r1.below hh);(try replace r2:=r2.below hh);(try replace r3:=r3.below hh);(try replace r4:=r4.below hh);(try replace r5:=r5.below hh);replace hb:=bend hb hh
     have zst:=Z.st (.bool s_r1) (.slice A_r1 n_r1 c_r1) (.slice B_r1 m_r1 d_r1) (.bool s_r2) (.slice A_r2 n_r2 c_r2) (.slice B_r2 m_r2 d_r2) (.bool s_r3) (.slice A_r3 n_r3 c_r3) (.slice B_r3 m_r3 d_r3) (.bool s_r4) (.slice A_r4 n_r4 c_r4) (.slice B_r4 m_r4 d_r4) (.bool s_r5) (.slice A_r5 n_r5 c_r5) (.slice B_r5 m_r5 d_r5) (.bool s_r6) (.slice A_r6 n_r6 c_r6) (.slice B_r6 m_r6 d_r6) (by simp [Value.oneCell'])))
 go_wp2_with fail
 have Z2:=Z.set18 (.bool s_r1) (.slice A_r1 n_r1 c_r1) (.slice B_r1 m_r1 d_r1) (.bool s_r2) (.slice A_r2 n_r2 c_r2) (.slice B_r2 m_r2 d_r2) (.bool s_r3) (.slice A_r3 n_r3 c_r3) (.slice B_r3 m_r3 d_r3) (.bool s_r4) (.slice A_r4 n_r4 c_r4) (.slice B_r4 m_r4 d_r4) (.bool s_r5) (.slice A_r5 n_r5 c_r5) (.slice B_r5 m_r5 d_r5) (.bool s_r6) (.slice A_r6 n_r6 c_r6) (.slice B_r6 m_r6 d_r6)
 have gl:=Z2.ld
 refine bodyPost_ret (v:=.agg #[.bool s_r1,.slice A_r1 n_r1 c_r1,.slice B_r1 m_r1 d_r1,.bool s_r2,.slice A_r2 n_r2 c_r2,.slice B_r2 m_r2 d_r2,.bool s_r3,.slice A_r3 n_r3 c_r3,.slice B_r3 m_r3 d_r3,.bool s_r4,.slice A_r4 n_r4 c_r4,.slice B_r4 m_r4 d_r4,.bool s_r5,.slice A_r5 n_r5 c_r5,.slice B_r5 m_r5 d_r5,.bool s_r6,.slice A_r6 n_r6 c_r6,.slice B_r6 m_r6 d_r6]) (res_N Tryz.results14 _ _ (by simp) gl) rfl ?_
 exact ⟨⟨⟨s_r1,A_r1,n_r1,c_r1,B_r1,m_r1,d_r1⟩,⟨s_r2,A_r2,n_r2,c_r2,B_r2,m_r2,d_r2⟩,⟨s_r3,A_r3,n_r3,c_r3,B_r3,m_r3,d_r3⟩,⟨s_r4,A_r4,n_r4,c_r4,B_r4,m_r4,d_r4⟩,⟨s_r5,A_r5,n_r5,c_r5,B_r5,m_r5,d_r5⟩,⟨s_r6,A_r6,n_r6,c_r6,B_r6,m_r6,d_r6⟩⟩,rfl,RM.set18 (m:=⟨⟨s_r1,A_r1,n_r1,c_r1,B_r1,m_r1,d_r1⟩,⟨s_r2,A_r2,n_r2,c_r2,B_r2,m_r2,d_r2⟩,⟨s_r3,A_r3,n_r3,c_r3,B_r3,m_r3,d_r3⟩,⟨s_r4,A_r4,n_r4,c_r4,B_r4,m_r4,d_r4⟩,⟨s_r5,A_r5,n_r5,c_r5,B_r5,m_r5,d_r5⟩,⟨s_r6,A_r6,n_r6,c_r6,B_r6,m_r6,d_r6⟩⟩) (v:=v) ⟨⟨r1,r2⟩,⟨r3,r4⟩,⟨r5,r6⟩⟩ Z _ _ _ _ _ _ _ _ _ _ _ _ _ _ _ _ _ _,below_set18 hb (by omega) _ _ _ _ _ _ _ _ _ _ _ _ _ _ _ _ _ _⟩
theorem mkbx46_15 {w W:World} {x0 x1 x2 x3 x4 x5 x6 x7 x8 x9 x10 x11 x12 x13 x14 x15 x16 x17:Value} (h:((((((w.alloc (Obj.cells #[x0,x1,x2] 49)).alloc (Obj.cells #[x3,x4,x5] 49)).alloc (Obj.cells #[x6,x7,x8] 49)).alloc (Obj.cells #[x9,x10,x11] 49)).alloc (Obj.cells #[x12,x13,x14] 49)).alloc (Obj.cells #[x15,x16,x17] 49))=W):Below w.heap.size w W∧B3R W (w.heap.size) x0 x1 x2∧B3R W (w.heap.size+1) x3 x4 x5∧B3R W (w.heap.size+1+1) x6 x7 x8∧B3R W (w.heap.size+1+1+1) x9 x10 x11∧B3R W (w.heap.size+1+1+1+1) x12 x13 x14∧B3R W (w.heap.size+1+1+1+1+1) x15 x16 x17∧W.heap.size=w.heap.size+6:=by subst h;exact ⟨by exact (((((((Below.refl _ _).alloc (Nat.le_refl _) _).alloc (by simp) _).alloc (by simp;omega) _).alloc (by simp;omega) _).alloc (by simp;omega) _).alloc (by simp;omega) _),by exact (((((B3R.new' _ _ _ _ _ rfl).alloc _).alloc _).alloc _).alloc _).alloc _,by exact ((((B3R.new' _ _ _ _ _ (by simp)).alloc _).alloc _).alloc _).alloc _,by exact (((B3R.new' _ _ _ _ _ (by simp)).alloc _).alloc _).alloc _,by exact ((B3R.new' _ _ _ _ _ (by simp)).alloc _).alloc _,by exact (B3R.new' _ _ _ _ _ (by simp)).alloc _,by exact B3R.new' _ _ _ _ _ (by simp),by simp⟩
theorem rtwo9 {k k2 l:Nat} {va vx vc vy ve:Rat} (a:RQ w s_a A_a n_a c_a B_a m_a d_a va k) (x:RQ w s_x A_x n_x c_x B_x m_x d_x vx k2) (c:RQ w s_c A_c n_c c_c B_c m_c d_c vc k) (y:RQ w s_y A_y n_y c_y B_y m_y d_y vy k2) (e:RQ w s_e A_e n_e c_e B_e m_e d_e ve l) (hk:k+k2≤4000) (hl:l≤10000) :
 Calls Tryz.prog 80 #[.agg #[.bool s_a,.slice A_a n_a c_a,.slice B_a m_a d_a],.agg #[.bool s_x,.slice A_x n_x c_x,.slice B_x m_x d_x],.agg #[.bool s_c,.slice A_c n_c c_c,.slice B_c m_c d_c],.agg #[.bool s_y,.slice A_y n_y c_y,.slice B_y m_y d_y],.agg #[.bool s_e,.slice A_e n_e c_e,.slice B_e m_e d_e]] w (GivesRQ w (va*vx+vc*vy+ve) (k+k2+(k+k2)+1+l+1)):=by
 go_enter Tryz.func80,Tryz.ntmps80
 go_upto_region 1 with (fail)
 generalize hW:World.alloc _ _=W
 obtain ⟨hb,XA,XX,XC,XY,XE,Z,hzW⟩:=mkbx46_15 hW;clear hW;replace a:=a.below hb;replace x:=x.below hb;replace c:=c.below hb;replace y:=y.below hb;replace e:=e.below hb
 replace a:=a.below (Below.refl _ _).drew
 replace x:=x.below (Below.refl _ _).drew
 replace c:=c.below (Below.refl _ _).drew
 replace y:=y.below (Below.refl _ _).drew
 replace e:=e.below (Below.refl _ _).drew
 replace XA:=XA.below (Below.refl _ _).drew
 replace XX:=XX.below (Below.refl _ _).drew
 replace XC:=XC.below (Below.refl _ _).drew
 replace XY:=XY.below (Below.refl _ _).drew
 replace XE:=XE.below (Below.refl _ _).drew
 replace Z:=Z.below (Below.refl _ _).drew
 replace hb:=hb.drew
 go_region_held3 (fun w'=>w'.cell? ⟨w.heap.size,0,none⟩=some (.bool s_a)∧w'.cell? ⟨w.heap.size,1,none⟩=some (.slice A_a n_a c_a)∧w'.cell? ⟨w.heap.size,2,none⟩=some (.slice B_a m_a d_a)∧w'.cell? ⟨w.heap.size+1,0,none⟩=some (.bool s_x)∧w'.cell? ⟨w.heap.size+1,1,none⟩=some (.slice A_x n_x c_x)∧w'.cell? ⟨w.heap.size+1,2,none⟩=some (.slice B_x m_x d_x)∧w'.cell? ⟨w.heap.size+1+1,0,none⟩=some (.bool s_c)∧w'.cell? ⟨w.heap.size+1+1,1,none⟩=some (.slice A_c n_c c_c)∧w'.cell? ⟨w.heap.size+1+1,2,none⟩=some (.slice B_c m_c d_c)∧w'.cell? ⟨w.heap.size+1+1+1,0,none⟩=some (.bool s_y)∧w'.cell? ⟨w.heap.size+1+1+1,1,none⟩=some (.slice A_y n_y c_y)∧w'.cell? ⟨w.heap.size+1+1+1,2,none⟩=some (.slice B_y m_y d_y)∧w'.cell? ⟨w.heap.size+1+1+1+1,0,none⟩=some (.bool s_e)∧w'.cell? ⟨w.heap.size+1+1+1+1,1,none⟩=some (.slice A_e n_e c_e)∧w'.cell? ⟨w.heap.size+1+1+1+1,2,none⟩=some (.slice B_e m_e d_e))
  (first | with_reducible exact ⟨XA.c0,XA.c1,XA.c2,XX.c0,XX.c1,XX.c2,XC.c0,XC.c1,XC.c2,XY.c0,XY.c1,XY.c2,XE.c0,XE.c1,XE.c2⟩ | with_reducible exact ⟨(XA.restm (by omega) (only_set3 _ _ _ _ _)).c0,(XA.restm (by omega) (only_set3 _ _ _ _ _)).c1,(XA.restm (by omega) (only_set3 _ _ _ _ _)).c2,(XX.restm (by omega) (only_set3 _ _ _ _ _)).c0,(XX.restm (by omega) (only_set3 _ _ _ _ _)).c1,(XX.restm (by omega) (only_set3 _ _ _ _ _)).c2,(XC.restm (by omega) (only_set3 _ _ _ _ _)).c0,(XC.restm (by omega) (only_set3 _ _ _ _ _)).c1,(XC.restm (by omega) (only_set3 _ _ _ _ _)).c2,(XY.restm (by omega) (only_set3 _ _ _ _ _)).c0,(XY.restm (by omega) (only_set3 _ _ _ _ _)).c1,(XY.restm (by omega) (only_set3 _ _ _ _ _)).c2,(XE.restm (by omega) (only_set3 _ _ _ _ _)).c0,(XE.restm (by omega) (only_set3 _ _ _ _ _)).c1,(XE.restm (by omega) (only_set3 _ _ _ _ _)).c2⟩)
  (first
  | (go_at_call 79;(with_reducible refine (rmul3 a x (by omega) (by omega)).mono ?_);rintro en w_r1 ⟨s_r1,A_r1,n_r1,c_r1,B_r1,m_r1,d_r1,rfl,r1,hh⟩
     (try replace a:=a.below hh);(try replace x:=x.below hh);(try replace c:=c.below hh);(try replace y:=y.below hh);(try replace e:=e.below hh);(try replace XA:=XA.below hh);(try replace XX:=XX.below hh);(try replace XC:=XC.below hh);(try replace XY:=XY.below hh);(try replace XE:=XE.below hh);(try replace Z:=Z.below hh);replace hb:=bend hb hh)
  | (go_at_call 79;(with_reducible refine (rmul3 c y (by omega) (by omega)).mono ?_);rintro en w_r2 ⟨s_r2,A_r2,n_r2,c_r2,B_r2,m_r2,d_r2,rfl,r2,hh⟩
     (try replace a:=a.below hh);(try replace x:=x.below hh);(try replace c:=c.below hh);(try replace y:=y.below hh);(try replace e:=e.below hh);(try replace XA:=XA.below hh);(try replace XX:=XX.below hh);(try replace XC:=XC.below hh);(try replace XY:=XY.below hh);(try replace XE:=XE.below hh);(try replace Z:=Z.below hh);(try replace r1:=r1.below hh);replace hb:=bend hb hh)
  | (go_at_call 93;(with_reducible refine (radd3 r1 r2 (by omega) (by omega)).mono ?_);rintro en w_r3 ⟨s_r3,A_r3,n_r3,c_r3,B_r3,m_r3,d_r3,rfl,r3,hh⟩
     (try replace a:=a.below hh);(try replace x:=x.below hh);(try replace c:=c.below hh);(try replace y:=y.below hh);(try replace e:=e.below hh);(try replace XA:=XA.below hh);(try replace XX:=XX.below hh);(try replace XC:=XC.below hh);(try replace XY:=XY.below hh);(try replace XE:=XE.below hh);(try replace Z:=Z.below hh);(try replace r1:=r1.below hh);(try replace r2:=r2.below hh);replace hb:=bend hb hh)
  | (go_at_call 93;(with_reducible refine (radd3 r3 e (by omega) (by omega)).mono ?_);rintro en w_r4 ⟨s_r4,A_r4,n_r4,c_r4,B_r4,m_r4,d_r4,rfl,r4,hh⟩
     (try replace a:=a.below hh);(try replace x:=x.below hh);(try replace c:=c.below hh);(try replace y:=y.below hh);(try replace e:=e.below hh);(try replace XA:=XA.below hh);(try replace XX:=XX.below hh);(try replace XC:=XC.below hh);(try replace XY:=XY.below hh);(try replace XE:=XE.below hh);(try replace Z:=Z.below hh);(try replace r1:=r1.below hh);(try replace r2:=r2.below hh);(try replace r3:=r3.below hh);replace hb:=bend hb hh;have zf0:=Z.f0;have zf1:=Z.f1;have zf2:=Z.f2;obtain ⟨z0,z1,z2⟩:=Z.all))
 go_wp2_with fail
 have Z2:=Z.set3 (.bool s_r4) (.slice A_r4 n_r4 c_r4) (.slice B_r4 m_r4 d_r4)
 obtain ⟨g0,g1,g2⟩:=Z2.all
 refine bodyPost_ret (v:=.agg #[.bool s_r4,.slice A_r4 n_r4 c_r4,.slice B_r4 m_r4 d_r4]) (by simp [results,Tryz.results80,go_sem,g0,g1,g2]) rfl ?_
 exact ⟨s_r4,A_r4,n_r4,c_r4,B_r4,m_r4,d_r4,rfl,r4.set3 Z _ _ _,below_set3 hb (by omega) _ _ _⟩
theorem mkbx47_15 {w W:World} {x0 x1 x2 x3 x4 x5 x6 x7 x8 x9 x10 x11 x12 x13 x14 x15 x16 x17 x18 x19 x20 x21 x22 x23 x24 x25 x26 x27 x28 x29:Value} (h:(((w.alloc (Obj.cells #[x0,x1,x2,x3,x4,x5,x6,x7,x8,x9,x10,x11,x12,x13,x14,x15,x16,x17] 54)).alloc (Obj.cells #[x18,x19,x20,x21,x22,x23] 51)).alloc (Obj.cells #[x24,x25,x26,x27,x28,x29] 51))=W):Below w.heap.size w W∧B18R W (w.heap.size) x0 x1 x2 x3 x4 x5 x6 x7 x8 x9 x10 x11 x12 x13 x14 x15 x16 x17∧B6R W (w.heap.size+1) x18 x19 x20 x21 x22 x23∧B6R W (w.heap.size+1+1) x24 x25 x26 x27 x28 x29∧W.heap.size=w.heap.size+3:=by subst h;exact ⟨by exact ((((Below.refl _ _).alloc (Nat.le_refl _) _).alloc (by simp) _).alloc (by simp;omega) _),by exact ((B18R.new' _ _ _ _ _ _ _ _ _ _ _ _ _ _ _ _ _ _ _ _ rfl).alloc _).alloc _,by exact (B6R.new' _ _ _ _ _ _ _ _ (by simp)).alloc _,by exact B6R.new' _ _ _ _ _ _ _ _ (by simp),by simp⟩
theorem rapply9 {k l k2:Nat} {v:AM} {m:MV} {x y:Rat} (M:RM w m v k l) (p:RP w s_p A_p n_p c_p B_p m_p d_p t_p E_p i_p e_p F_p j_p f_p x y k2) (hk:k+k2≤4000) (hl:l≤10000) :
 Calls Tryz.prog 44 #[.agg #[.bool m.a.s,.slice m.a.A m.a.n m.a.c,.slice m.a.B m.a.m m.a.d,.bool m.b.s,.slice m.b.A m.b.n m.b.c,.slice m.b.B m.b.m m.b.d,.bool m.c.s,.slice m.c.A m.c.n m.c.c,.slice m.c.B m.c.m m.c.d,.bool m.d.s,.slice m.d.A m.d.n m.d.c,.slice m.d.B m.d.m m.d.d,.bool m.e.s,.slice m.e.A m.e.n m.e.c,.slice m.e.B m.e.m m.e.d,.bool m.f.s,.slice m.f.A m.f.n m.f.c,.slice m.f.B m.f.m m.f.d],.agg #[.bool s_p,.slice A_p n_p c_p,.slice B_p m_p d_p,.bool t_p,.slice E_p i_p e_p,.slice F_p j_p f_p]] w (GivesRP w (v.ax x y) (v.ay x y) (k+k2+(k+k2)+1+l+1)):=by
 go_enter Tryz.func44,Tryz.ntmps44
 go_upto_region 1 with (fail)
 generalize hW:World.alloc _ _=W
 obtain ⟨hb,XA,XB,Z,hzW⟩:=mkbx47_15 hW;clear hW;replace M:=M.below hb;replace p:=p.below hb
 replace M:=M.below (Below.refl _ _).drew
 replace p:=p.below (Below.refl _ _).drew
 replace XA:=XA.below (Below.refl _ _).drew
 replace XB:=XB.below (Below.refl _ _).drew
 replace Z:=Z.below (Below.refl _ _).drew
 replace hb:=hb.drew
 go_region_held3 (fun w'=>w'.cell? ⟨w.heap.size,0,none⟩=some (.bool m.a.s)∧w'.cell? ⟨w.heap.size,1,none⟩=some (.slice m.a.A m.a.n m.a.c)∧w'.cell? ⟨w.heap.size,2,none⟩=some (.slice m.a.B m.a.m m.a.d)∧w'.cell? ⟨w.heap.size,3,none⟩=some (.bool m.b.s)∧w'.cell? ⟨w.heap.size,4,none⟩=some (.slice m.b.A m.b.n m.b.c)∧w'.cell? ⟨w.heap.size,5,none⟩=some (.slice m.b.B m.b.m m.b.d)∧w'.cell? ⟨w.heap.size,6,none⟩=some (.bool m.c.s)∧w'.cell? ⟨w.heap.size,7,none⟩=some (.slice m.c.A m.c.n m.c.c)∧w'.cell? ⟨w.heap.size,8,none⟩=some (.slice m.c.B m.c.m m.c.d)∧w'.cell? ⟨w.heap.size,9,none⟩=some (.bool m.d.s)∧w'.cell? ⟨w.heap.size,10,none⟩=some (.slice m.d.A m.d.n m.d.c)∧w'.cell? ⟨w.heap.size,11,none⟩=some (.slice m.d.B m.d.m m.d.d)∧w'.cell? ⟨w.heap.size,12,none⟩=some (.bool m.e.s)∧w'.cell? ⟨w.heap.size,13,none⟩=some (.slice m.e.A m.e.n m.e.c)∧w'.cell? ⟨w.heap.size,14,none⟩=some (.slice m.e.B m.e.m m.e.d)∧w'.cell? ⟨w.heap.size,15,none⟩=some (.bool m.f.s)∧w'.cell? ⟨w.heap.size,16,none⟩=some (.slice m.f.A m.f.n m.f.c)∧w'.cell? ⟨w.heap.size,17,none⟩=some (.slice m.f.B m.f.m m.f.d)∧w'.cell? ⟨w.heap.size+1,0,none⟩=some (.bool s_p)∧w'.cell? ⟨w.heap.size+1,1,none⟩=some (.slice A_p n_p c_p)∧w'.cell? ⟨w.heap.size+1,2,none⟩=some (.slice B_p m_p d_p)∧w'.cell? ⟨w.heap.size+1,3,none⟩=some (.bool t_p)∧w'.cell? ⟨w.heap.size+1,4,none⟩=some (.slice E_p i_p e_p)∧w'.cell? ⟨w.heap.size+1,5,none⟩=some (.slice F_p j_p f_p))
  (first | with_reducible exact ⟨XA.c0,XA.c1,XA.c2,XA.c3,XA.c4,XA.c5,XA.c6,XA.c7,XA.c8,XA.c9,XA.c10,XA.c11,XA.c12,XA.c13,XA.c14,XA.c15,XA.c16,XA.c17,XB.c0,XB.c1,XB.c2,XB.c3,XB.c4,XB.c5⟩ | with_reducible exact ⟨(XA.restm (by omega) (only_set6 _ _ _ _ _ _ _ _)).c0,(XA.restm (by omega) (only_set6 _ _ _ _ _ _ _ _)).c1,(XA.restm (by omega) (only_set6 _ _ _ _ _ _ _ _)).c2,(XA.restm (by omega) (only_set6 _ _ _ _ _ _ _ _)).c3,(XA.restm (by omega) (only_set6 _ _ _ _ _ _ _ _)).c4,(XA.restm (by omega) (only_set6 _ _ _ _ _ _ _ _)).c5,(XA.restm (by omega) (only_set6 _ _ _ _ _ _ _ _)).c6,(XA.restm (by omega) (only_set6 _ _ _ _ _ _ _ _)).c7,(XA.restm (by omega) (only_set6 _ _ _ _ _ _ _ _)).c8,(XA.restm (by omega) (only_set6 _ _ _ _ _ _ _ _)).c9,(XA.restm (by omega) (only_set6 _ _ _ _ _ _ _ _)).c10,(XA.restm (by omega) (only_set6 _ _ _ _ _ _ _ _)).c11,(XA.restm (by omega) (only_set6 _ _ _ _ _ _ _ _)).c12,(XA.restm (by omega) (only_set6 _ _ _ _ _ _ _ _)).c13,(XA.restm (by omega) (only_set6 _ _ _ _ _ _ _ _)).c14,(XA.restm (by omega) (only_set6 _ _ _ _ _ _ _ _)).c15,(XA.restm (by omega) (only_set6 _ _ _ _ _ _ _ _)).c16,(XA.restm (by omega) (only_set6 _ _ _ _ _ _ _ _)).c17,(XB.restm (by omega) (only_set6 _ _ _ _ _ _ _ _)).c0,(XB.restm (by omega) (only_set6 _ _ _ _ _ _ _ _)).c1,(XB.restm (by omega) (only_set6 _ _ _ _ _ _ _ _)).c2,(XB.restm (by omega) (only_set6 _ _ _ _ _ _ _ _)).c3,(XB.restm (by omega) (only_set6 _ _ _ _ _ _ _ _)).c4,(XB.restm (by omega) (only_set6 _ _ _ _ _ _ _ _)).c5⟩)
  (first
  | (go_at_call 80;(with_reducible refine (rtwo9 M.ab.qx p.qx M.cd.qx p.qy M.ef.qx hk hl).mono ?_);rintro e w_r ⟨s_r,A_r,n_r,c_r,B_r,m_r,d_r,rfl,r,hh⟩
     (try replace M:=M.below hh);(try replace p:=p.below hh);(try replace XA:=XA.below hh);(try replace XB:=XB.below hh);(try replace Z:=Z.below hh);replace hb:=bend hb hh)
  | (go_at_call 80;(with_reducible refine (rtwo9 M.ab.qy p.qx M.cd.qy p.qy M.ef.qy hk hl).mono ?_);rintro e w_u ⟨s_u,A_u,n_u,c_u,B_u,m_u,d_u,rfl,u,hh⟩
     (try replace M:=M.below hh);(try replace p:=p.below hh);(try replace XA:=XA.below hh);(try replace XB:=XB.below hh);(try replace Z:=Z.below hh);(try replace r:=r.below hh);replace hb:=bend hb hh;have zg0:=Z.f0;have zg1:=Z.f1;have zg2:=Z.f2;have zg3:=Z.f3;have zg4:=Z.f4;have zg5:=Z.f5;obtain ⟨zc0,zc1,zc2,zc3,zc4,zc5⟩:=Z.all))
 go_wp2_with fail
 have Z2:=Z.set6 (.bool s_r) (.slice A_r n_r c_r) (.slice B_r m_r d_r) (.bool s_u) (.slice A_u n_u c_u) (.slice B_u m_u d_u)
 obtain ⟨g0,g1,g2,g3,g4,g5⟩:=Z2.all
 refine bodyPost_ret (v:=.agg #[.bool s_r,.slice A_r n_r c_r,.slice B_r m_r d_r,.bool s_u,.slice A_u n_u c_u,.slice B_u m_u d_u]) (by simp [results,Tryz.results44,go_sem,g0,g1,g2,g3,g4,g5]) rfl ?_
 exact ⟨_,_,_,_,_,_,_,_,_,_,_,_,_,_,rfl,(show RP _ _ _ _ _ _ _ _ _ _ _ _ _ _ _ _ _ _ from ⟨r,u⟩).set6 Z _ _ _ _ _ _,below_set6 hb (by omega) _ _ _ _ _ _⟩
end
section
open Go Go.RowKit
attribute [local go_sem ↓] open_LVM open_STM open_LVN open_STN
attribute [local go_sem ↓] open_LVH open_STH open_LVJ open_STJ
def AH.fits (u:AH) (K:Nat):Prop:=(u.x.num.natAbs < B64 ^ K∧u.x.den < B64 ^ K)∧(u.y.num.natAbs < B64 ^ K∧u.y.den < B64 ^ K)∧u.w.num.natAbs < B64 ^ K∧u.w.den < B64 ^ K
theorem AH.fits.xn {u:AH} {K:Nat} (h:u.fits K):u.x.num.natAbs < B64 ^ K:=h.1.1
theorem AH.fits.xd {u:AH} {K:Nat} (h:u.fits K):u.x.den < B64 ^ K:=h.1.2
theorem AH.fits.yn {u:AH} {K:Nat} (h:u.fits K):u.y.num.natAbs < B64 ^ K:=h.2.1.1
theorem AH.fits.yd {u:AH} {K:Nat} (h:u.fits K):u.y.den < B64 ^ K:=h.2.1.2
theorem AH.fits.wn {u:AH} {K:Nat} (h:u.fits K):u.w.num.natAbs < B64 ^ K:=h.2.2.1
theorem AH.fits.wd {u:AH} {K:Nat} (h:u.fits K):u.w.den < B64 ^ K:=h.2.2.2
theorem fits_ex (l:List AH):∃ K,∀ u ∈ l,u.fits K:=by
 have h:∀ n m:Nat,n≤m→n < B64 ^ m:=fun n m h=>Nat.lt_of_lt_of_le (Nat.lt_pow_self (by decide)) (Nat.pow_le_pow_right (by decide) h)
 induction l with
 | nil=>exact ⟨0,fun u hu=>by cases hu⟩
 | cons v l ih =>
   obtain ⟨K,hK⟩:=ih
   have up:∀ {a k K:Nat},a < B64 ^ k→k≤K→a < B64 ^ K:=fun h hk=>Nat.lt_of_lt_of_le h (Nat.pow_le_pow_right (by decide) hk)
   refine ⟨K+(v.x.num.natAbs+v.x.den+(v.y.num.natAbs+v.y.den)+(v.w.num.natAbs+v.w.den)),fun u hu=>?_⟩
   rcases List.mem_cons.1 hu with rfl | hu
   · exact ⟨⟨h _ _ (by omega),h _ _ (by omega)⟩,⟨h _ _ (by omega),h _ _ (by omega)⟩,h _ _ (by omega),h _ _ (by omega)⟩
   · obtain ⟨⟨h1,h2⟩,⟨h3,h4⟩,h5,h6⟩:=hK u hu
     exact ⟨⟨up h1 (by omega),up h2 (by omega)⟩,⟨up h3 (by omega),up h4 (by omega)⟩,up h5 (by omega),up h6 (by omega)⟩
theorem routs13 {A:Option Addr} {n c k:Nat} {L:List HV} {V:List AH} (hL:SV w A (hvs L)) (hE:EachH RH w L V k) (hn:L.length=n) (hm:n≤1000) (hk:k≤100000) (K:Nat) (hF:∀ u ∈ V,u.fits K) :
 Calls Tryz.prog 16 #[.slice A n c] w (GivesHs w V K):=by
 have HN:=Lib.hid hn
 have HVl:Hid (V.length=n):=hE.1.symm.trans hn
 have HL9:=Lib.hid hL;have E9:=Lib.hid hE;have HF9:=Lib.hid hF;clear hF;clear hL hE hn
 go_enter Tryz.func16,Tryz.ntmps16
 go_wp2_with fail
 go_loopg [3,4] n (fun gk out ix wr=>∃ (M:List HV) (m:Nat),Hid (gk+m=n)∧ix=.int .i64 (m:Int)∧LnH 79 w.heap.size wr out M∧Hid (EachH HG wr M (V.take m) (K))∧Below w.heap.size w wr)
 case atStart=>exact ⟨[],0,Nat.add_zero _,rfl,LnH.nil _ _ _,⟨rfl,fun i p u h=>by cases h⟩,Below.refl _ _⟩
 case round =>
  obtain ⟨M,m,HG9,rfl,LT,HQ,hB⟩:=hrel
  by_cases hmn:m < n
  · obtain ⟨P,u,hP1,hu1,p0⟩:=(EachH.belowJ E9.out hB).at_ (i:=m) (by rw [HN.out];exact hmn)
    obtain ⟨g0,o0,hix0,EP0,_⟩:=HL9.out.jt hP1
    have hixa:∀ w',(Instr.indexAt 41 (.slice A n c) (.int .i64 (m:Int))).run Tryz.prog w'=.ok (.pointer (some ⟨g0,o0,none⟩)) w':=fun w'=>hix0 n c w' hmn
    have hlt:(m:Int) < (n:Int):=by omega
    have hwr:IntKind.i64.wrap ((m:Int)+1)=(m:Int)+1:=IntWalk.i64_in _ (by omega)
    have HU:=Lib.hid hu1
    have hMl:M.length≤1000000:=by have:=HQ.out.1;rw [List.length_take] at this;omega
    have HMN:=Lib.hid hmn;have EP:=EP0.below hB
    have hxg:∀ b,u3.ownBlock=some b→b ≠ g0:=fun b e=>by have:=LT.own_base e;have:=EP0.lt;omega
    have p:=p0
    have HF:Hid (u.fits K):=HF9.out u (List.mem_of_getElem? hu1)
    clear hP1 hu1 hix0 hmn EP0 p0
    go_upto_region 5 with (fail)
    replace LT:=LT.below (Below.refl _ _).drew
    replace EP:=EP.below (Below.refl _ _).drew
    replace p:=p.below (Below.refl _ _).drew
    replace HQ:=Lib.hid (EachH.belowG HQ.out (Below.refl _ _).drew)
    replace hB:=hB.drew
    go_region_held3 (fun w'=>w'.cell? ⟨g0,o0,none⟩=some (.bool P.x.s)∧w'.cell? ⟨g0,o0+1,none⟩=some (.slice P.x.A P.x.n P.x.c)∧w'.cell? ⟨g0,o0+2,none⟩=some (.slice P.x.B P.x.m P.x.d)∧w'.cell? ⟨g0,o0+3,none⟩=some (.bool P.y.s)∧w'.cell? ⟨g0,o0+4,none⟩=some (.slice P.y.A P.y.n P.y.c)∧w'.cell? ⟨g0,o0+5,none⟩=some (.slice P.y.B P.y.m P.y.d)∧w'.cell? ⟨g0,o0+6,none⟩=some (.bool P.w.s)∧w'.cell? ⟨g0,o0+7,none⟩=some (.slice P.w.A P.w.n P.w.c)∧w'.cell? ⟨g0,o0+8,none⟩=some (.slice P.w.B P.w.m P.w.d))
     (first | with_reducible exact ⟨EPb.c0,EPb.c1,EPb.c2,EPb.c3,EPb.c4,EPb.c5,EPb.c6,EPb.c7,EPb.c8⟩ | with_reducible exact ⟨EP.c0,EP.c1,EP.c2,EP.c3,EP.c4,EP.c5,EP.c6,EP.c7,EP.c8⟩ | exact ⟨(EP.below ((Below.refl _ _).alloc (Nat.le_refl _) _)).c0,(EP.below ((Below.refl _ _).alloc (Nat.le_refl _) _)).c1,(EP.below ((Below.refl _ _).alloc (Nat.le_refl _) _)).c2,(EP.below ((Below.refl _ _).alloc (Nat.le_refl _) _)).c3,(EP.below ((Below.refl _ _).alloc (Nat.le_refl _) _)).c4,(EP.below ((Below.refl _ _).alloc (Nat.le_refl _) _)).c5,(EP.below ((Below.refl _ _).alloc (Nat.le_refl _) _)).c6,(EP.below ((Below.refl _ _).alloc (Nat.le_refl _) _)).c7,(EP.below ((Below.refl _ _).alloc (Nat.le_refl _) _)).c8⟩)
     (first
     | (go_at_call 48;(with_reducible refine (rout3g p.qx hk K HF.out.xn HF.out.xd).mono ?_);rintro e w_r1 ⟨s_r1,A_r1,n_r1,c_r1,B_r1,m_r1,d_r1,rfl,r1,hh⟩
        (try replace LT:=LT.below hh);(try replace EP:=EP.below hh);(try replace p:=p.below hh);(try replace r2:=r2.below hh);(try replace r3:=r3.below hh)
        replace HQ:=Lib.hid (EachH.belowG HQ.out hh)
        replace hB:=bend hB hh)
     | (go_at_call 48;(with_reducible refine (rout3g p.qy hk K HF.out.yn HF.out.yd).mono ?_);rintro e w_r2 ⟨s_r2,A_r2,n_r2,c_r2,B_r2,m_r2,d_r2,rfl,r2,hh⟩
        (try replace LT:=LT.below hh);(try replace EP:=EP.below hh);(try replace p:=p.below hh);(try replace r1:=r1.below hh);(try replace r3:=r3.below hh)
        replace HQ:=Lib.hid (EachH.belowG HQ.out hh)
        replace hB:=bend hB hh)
     | (go_at_call 48;(with_reducible refine (rout3g p.qw hk K HF.out.wn HF.out.wd).mono ?_);rintro e w_r3 ⟨s_r3,A_r3,n_r3,c_r3,B_r3,m_r3,d_r3,rfl,r3,hh⟩
        (try replace LT:=LT.below hh);(try replace EP:=EP.below hh);(try replace p:=p.below hh);(try replace r1:=r1.below hh);(try replace r2:=r2.below hh)
        replace HQ:=Lib.hid (EachH.belowG HQ.out hh)
        replace hB:=bend hB hh)
     | (have hal:Below w_r3.heap.size w_r3 (w_r3.alloc (Obj.cells #[Value.bool s_r1,Value.slice A_r1 n_r1 c_r1,Value.slice B_r1 m_r1 d_r1,Value.bool s_r2,Value.slice A_r2 n_r2 c_r2,Value.slice B_r2 m_r2 d_r2,Value.bool s_r3,Value.slice A_r3 n_r3 c_r3,Value.slice B_r3 m_r3 d_r3] 79)):=((Below.refl _ _).alloc (Nat.le_refl _) _)
        have EPa:=EP.below hal
        refine step_pushH Tryz.underlying37 info_hom (by rfl) _ _ (by rfl) (p:=⟨⟨s_r1,A_r1,n_r1,c_r1,B_r1,m_r1,d_r1⟩,⟨s_r2,A_r2,n_r2,c_r2,B_r2,m_r2,d_r2⟩,⟨s_r3,A_r3,n_r3,c_r3,B_r3,m_r3,d_r3⟩⟩) (k0:=1) (b:=w_r3.heap.size) (by rfl) (by rfl) (LT.below hal) (Nat.le_trans hB.size hal.size) hMl (heap_alloc_new w_r3 _) ?_
        intro v3 w3 hn3 hg3 ho3
        have EPb:=EPa.push hg3 hxg))
    have hE3:EachH HG (w_r3.alloc (Obj.cells #[Value.bool s_r1,Value.slice A_r1 n_r1 c_r1,Value.slice B_r1 m_r1 d_r1,Value.bool s_r2,Value.slice A_r2 n_r2 c_r2,Value.slice B_r2 m_r2 d_r2,Value.bool s_r3,Value.slice A_r3 n_r3 c_r3,Value.slice B_r3 m_r3 d_r3] 79)) M (V.take m) (K):=EachH.belowG HQ.out hal
    have hp3:HG (w_r3.alloc (Obj.cells #[Value.bool s_r1,Value.slice A_r1 n_r1 c_r1,Value.slice B_r1 m_r1 d_r1,Value.bool s_r2,Value.slice A_r2 n_r2 c_r2,Value.slice B_r2 m_r2 d_r2,Value.bool s_r3,Value.slice A_r3 n_r3 c_r3,Value.slice B_r3 m_r3 d_r3] 79)) ⟨⟨s_r1,A_r1,n_r1,c_r1,B_r1,m_r1,d_r1⟩,⟨s_r2,A_r2,n_r2,c_r2,B_r2,m_r2,d_r2⟩,⟨s_r3,A_r3,n_r3,c_r3,B_r3,m_r3,d_r3⟩⟩ u (K):=(HG.below (h:=⟨⟨s_r1,A_r1,n_r1,c_r1,B_r1,m_r1,d_r1⟩,⟨s_r2,A_r2,n_r2,c_r2,B_r2,m_r2,d_r2⟩,⟨s_r3,A_r3,n_r3,c_r3,B_r3,m_r3,d_r3⟩⟩) (v:=u) (k:=K) ⟨r1,r2,r3⟩ hal)
    have hB9:=LnH.under (T:=79) (base:=w.heap.size) (LT.below hal) hg3 (w0:=w) (bend hB hal) (Nat.le_refl _)
    have hE4:=takeH HU.out (EachH.push hE3 (fun _ _ h=>(LT.below hal).hg hg3 h) ((LT.below hal).hg hg3 hp3))
    clear hE3 hp3 EPa EPb EP p r1 r2 r3
    go_wp2_with fail
    go_roundg (gk - 1)
    case measure=>have:=HG9.out;have:=HMN.out;omega
    case rel=>exact ⟨M ++ [(⟨⟨s_r1,A_r1,n_r1,c_r1,B_r1,m_r1,d_r1⟩,⟨s_r2,A_r2,n_r2,c_r2,B_r2,m_r2,d_r2⟩,⟨s_r3,A_r3,n_r3,c_r3,B_r3,m_r3,d_r3⟩⟩:HV)],m+1,by have:=HG9.out;have:=HMN.out;show _=_;omega,by go_num,hn3,Lib.hid hE4,hB9⟩
  · have hlt:¬ (m:Int) < (n:Int):=by omega
    have HQ2:Hid (EachH HG wr M V (K)):=by
     have h:=HQ.out
     rwa [List.take_of_length_le (by rw [HVl.out];omega)] at h
    clear hmn
    go_wp2_with fail
    (try rw [Exit.noGoto_ret])
    go_ret
    exact ⟨_,M,rfl,LT,HQ2.out,hB⟩
end
end Go.Proofs.YtfpaeophfcoohaaGreat
