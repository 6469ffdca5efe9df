/- RatTexts: part 10. -/
import Derived.IntWalk
import Derived.Test.YtmgklaklnaihpaaGreatKRatTexts9
set_option linter.unusedVariables false
set_option maxRecDepth 100000
set_option maxHeartbeats 16000000
variable {w:Go.World}
namespace Go.Proofs.YtmgklaklnaihpaaGreat
section
open Go Go.RowKit
theorem mkbx12_10 {w W:World} {x0 x1 x2 x3 x4 x5 x6 x7 x8 x9:Value} (h:((((w.alloc (Obj.cells #[x0,x1,x2] 26)).alloc (Obj.cells #[x3,x4,x5] 26)).alloc (Obj.cells #[x6,x7] 24)).alloc (Obj.cells #[x8,x9] 24))=W):Below w.heap.size w W∧B3 W (w.heap.size) x0 x1 x2∧B3 W (w.heap.size+1) x3 x4 x5∧Bx W (w.heap.size+1+1) x6 x7∧Bx W (w.heap.size+1+1+1) x8 x9∧W.heap.size=w.heap.size+4:=by subst h;exact ⟨by exact (((((Below.refl _ _).alloc (Nat.le_refl _) _).alloc (by simp) _).alloc (by simp;omega) _).alloc (by simp;omega) _),by exact (((B3.new' _ _ _ _ _ rfl).alloc _).alloc _).alloc _,by exact ((B3.new' _ _ _ _ _ (by simp)).alloc _).alloc _,by exact (Bx.new' _ _ _ _ (by simp)).alloc _,by exact Bx.new' _ _ _ _ (by simp),by simp⟩
theorem rquot_q {s t:Bool} {A A' B B':Option Addr} {n c n' c' m d m' d' k k2:Nat} {p p2:Int} {q q2:Nat} (X:ZR w s A n c p k) (Q:NR w A' n' c' q k) (Y:ZR w t B m d p2 k2) (R:NR w B' m' d' q2 k2) (hk:k≤400) (hkb:k2≤400) (h40:k≤400 ∨ k2≤400) (hk1:1≤k) (hk3:1≤k2) :
 Calls Tryz.prog 108 #[.agg #[.bool s,.slice A n c,.slice A' n' c'],.agg #[.bool t,.slice B m d,.slice B' m' d']] w (GivesP w (p*(den1 q2:Int)) ((den1 q:Int)*p2) (k+k2)):=by
 go_enter Tryz.func108,Tryz.ntmps108
 go_wp2_with fail
 generalize hW:World.alloc _ _=W
 obtain ⟨hb,XA,XB,Z1,Z2,hzW⟩:=mkbx12_10 hW;clear hW;replace X:=X.below hb;replace Q:=Q.below hb;replace Y:=Y.below hb;replace R:=R.below hb;obtain ⟨xa0,xa1,xa2⟩:=XA.all;obtain ⟨xb0,xb1,xb2⟩:=XB.all
 go_upto_region 2 with (first
  | (go_at_call 62;(with_reducible refine (parts_any X Q (by omega) hk1).mono ?_);rintro e w_p ⟨s_x,A_x,n_x,c_x,s_y,A_y,n_y,c_y,rfl,x,y,hh⟩
     (try replace X:=X.below hh);(try replace Q:=Q.below hh);(try replace Y:=Y.below hh);(try replace R:=R.below hh);(try replace u:=u.below hh);(try replace v:=v.below hh);(try replace m1:=m1.below hh);(try replace m2:=m2.below hh);(try replace m3:=m3.below hh);(try replace XA:=XA.below hh);(try replace XB:=XB.below hh);(try replace Z:=Z.below hh);(try replace Z1:=Z1.below hh);(try replace Z2:=Z2.below hh);(try replace Z3:=Z3.below hh);(try replace XP:=XP.below hh);(try replace XQ:=XQ.below hh);(try replace XU:=XU.below hh);(try replace XV:=XV.below hh);replace hb:=bend hb hh))
 have hp1:=Z2.lt
 generalize hW:World.alloc _ _=W2
 obtain ⟨hh,XP,XQ,hzW2⟩:=mkbx5_9 hW;clear hW;(try replace X:=X.below hh);(try replace Q:=Q.below hh);(try replace Y:=Y.below hh);(try replace R:=R.below hh);(try replace x:=x.below hh);(try replace y:=y.below hh);(try replace XA:=XA.below hh);(try replace XB:=XB.below hh);(try replace Z1:=Z1.below hh);(try replace Z2:=Z2.below hh);replace hb:=bend hb hh;obtain ⟨xb0,xb1,xb2⟩:=XB.all
 go_upto_region 3 with (first
  | (go_at_call 62;(with_reducible refine (parts_any Y R (by omega) hk3).mono ?_);rintro e w_u ⟨s_u,A_u,n_u,c_u,s_v,A_v,n_v,c_v,rfl,u,v,hh⟩
     (try replace X:=X.below hh);(try replace Q:=Q.below hh);(try replace Y:=Y.below hh);(try replace R:=R.below hh);(try replace x:=x.below hh);(try replace y:=y.below hh);(try replace m1:=m1.below hh);(try replace m2:=m2.below hh);(try replace m3:=m3.below hh);(try replace XA:=XA.below hh);(try replace XB:=XB.below hh);(try replace Z:=Z.below hh);(try replace Z1:=Z1.below hh);(try replace Z2:=Z2.below hh);(try replace Z3:=Z3.below hh);(try replace XP:=XP.below hh);(try replace XQ:=XQ.below hh);(try replace XU:=XU.below hh);(try replace XV:=XV.below hh);replace hb:=bend hb hh))
 have hu1:=XQ.lt
 generalize hW:World.alloc _ _=W3
 obtain ⟨hh,XU,XV,hzW3⟩:=mkbx5_9 hW;clear hW;(try replace x:=x.below hh);(try replace y:=y.below hh);(try replace u:=u.below hh);(try replace v:=v.below hh);(try replace XP:=XP.below hh);(try replace XQ:=XQ.below hh);(try replace Z1:=Z1.below hh);(try replace Z2:=Z2.below hh);replace hb:=bend hb hh
 replace x:=x.below (Below.refl _ _).drew
 replace y:=y.below (Below.refl _ _).drew
 replace u:=u.below (Below.refl _ _).drew
 replace v:=v.below (Below.refl _ _).drew
 replace Z1:=Z1.below (Below.refl _ _).drew
 replace Z2:=Z2.below (Below.refl _ _).drew
 replace XP:=XP.below (Below.refl _ _).drew
 replace XQ:=XQ.below (Below.refl _ _).drew
 replace XU:=XU.below (Below.refl _ _).drew
 replace XV:=XV.below (Below.refl _ _).drew
 replace hb:=hb.drew
 go_region_held3 (fun w'=>w'.cell? ⟨w_p.heap.size,0,none⟩=some (.bool s_x)∧w'.cell? ⟨w_p.heap.size,1,none⟩=some (.slice A_x n_x c_x)∧w'.cell? ⟨w_p.heap.size+1,0,none⟩=some (.bool s_y)∧w'.cell? ⟨w_p.heap.size+1,1,none⟩=some (.slice A_y n_y c_y)∧w'.cell? ⟨w_u.heap.size,0,none⟩=some (.bool s_u)∧w'.cell? ⟨w_u.heap.size,1,none⟩=some (.slice A_u n_u c_u)∧w'.cell? ⟨w_u.heap.size+1,0,none⟩=some (.bool s_v)∧w'.cell? ⟨w_u.heap.size+1,1,none⟩=some (.slice A_v n_v c_v))
  (first | with_reducible exact ⟨XP.c0,XP.c1,XQ.c0,XQ.c1,XU.c0,XU.c1,XV.c0,XV.c1⟩ | with_reducible exact ⟨(set2_cell _ _ _ _ _ _ (by omega)).trans (XP.c0),(set2_cell _ _ _ _ _ _ (by omega)).trans (XP.c1),(set2_cell _ _ _ _ _ _ (by omega)).trans (XQ.c0),(set2_cell _ _ _ _ _ _ (by omega)).trans (XQ.c1),(set2_cell _ _ _ _ _ _ (by omega)).trans (XU.c0),(set2_cell _ _ _ _ _ _ (by omega)).trans (XU.c1),(set2_cell _ _ _ _ _ _ (by omega)).trans (XV.c0),(set2_cell _ _ _ _ _ _ (by omega)).trans (XV.c1)⟩ | with_reducible exact ⟨(set2_cell _ _ _ _ _ _ (by omega)).trans ((set2_cell _ _ _ _ _ _ (by omega)).trans (XP.c0)),(set2_cell _ _ _ _ _ _ (by omega)).trans ((set2_cell _ _ _ _ _ _ (by omega)).trans (XP.c1)),(set2_cell _ _ _ _ _ _ (by omega)).trans ((set2_cell _ _ _ _ _ _ (by omega)).trans (XQ.c0)),(set2_cell _ _ _ _ _ _ (by omega)).trans ((set2_cell _ _ _ _ _ _ (by omega)).trans (XQ.c1)),(set2_cell _ _ _ _ _ _ (by omega)).trans ((set2_cell _ _ _ _ _ _ (by omega)).trans (XU.c0)),(set2_cell _ _ _ _ _ _ (by omega)).trans ((set2_cell _ _ _ _ _ _ (by omega)).trans (XU.c1)),(set2_cell _ _ _ _ _ _ (by omega)).trans ((set2_cell _ _ _ _ _ _ (by omega)).trans (XV.c0)),(set2_cell _ _ _ _ _ _ (by omega)).trans ((set2_cell _ _ _ _ _ _ (by omega)).trans (XV.c1))⟩)
  (first
  | (go_at_call 26;(with_reducible refine (zmul_zr (k+k2) x v (by omega) (by omega) (by omega)).mono ?_);rintro e w_m1 ⟨s_m1,A_m1,n_m1,c_m1,rfl,m1,hh⟩
     (try replace X:=X.below hh);(try replace Q:=Q.below hh);(try replace Y:=Y.below hh);(try replace R:=R.below hh);(try replace x:=x.below hh);(try replace y:=y.below hh);(try replace u:=u.below hh);(try replace v:=v.below hh);(try replace m2:=m2.below hh);(try replace m3:=m3.below hh);(try replace XA:=XA.below hh);(try replace XB:=XB.below hh);(try replace Z:=Z.below hh);(try replace Z1:=Z1.below hh);(try replace Z2:=Z2.below hh);(try replace Z3:=Z3.below hh);(try replace XP:=XP.below hh);(try replace XQ:=XQ.below hh);(try replace XU:=XU.below hh);(try replace XV:=XV.below hh);replace hb:=bend hb hh)
  | (go_at_call 26;(with_reducible refine (zmul_zr (k+k2) y u (by omega) (by omega) (by omega)).mono ?_);rintro e w_m2 ⟨s_m2,A_m2,n_m2,c_m2,rfl,m2,hh⟩
     (try replace X:=X.below hh);(try replace Q:=Q.below hh);(try replace Y:=Y.below hh);(try replace R:=R.below hh);(try replace x:=x.below hh);(try replace y:=y.below hh);(try replace u:=u.below hh);(try replace v:=v.below hh);(try replace m1:=m1.below hh);(try replace m3:=m3.below hh);(try replace XA:=XA.below hh);(try replace XB:=XB.below hh);(try replace Z:=Z.below hh);(try replace Z1:=Z1.below hh);(try replace Z2:=Z2.below hh);(try replace Z3:=Z3.below hh);(try replace XP:=XP.below hh);(try replace XQ:=XQ.below hh);(try replace XU:=XU.below hh);(try replace XV:=XV.below hh);replace hb:=bend hb hh;obtain ⟨z0,z1⟩:=Z1.all;have z2:=Z1.f0;have z3:=Z1.f1;obtain ⟨y0,y1⟩:=Z2.all;have y2:=Z2.f0;have y3:=Z2.f1
     have Z2o:=Z2.other (k:=w.heap.size+1+1) (by omega) (.bool s_m1) (.slice A_m1 n_m1 c_m1)
     obtain ⟨zo0,zo1⟩:=Z2o.all;have zo2:=Z2o.f0;have zo3:=Z2o.f1))
 go_wp2_with fail
 have G1:=(Z1.set2 (.bool s_m1) (.slice A_m1 n_m1 c_m1)).other (k:=w.heap.size+1+1+1) (by omega) (.bool s_m2) (.slice A_m2 n_m2 c_m2)
 have G2:=(Z2.other (k:=w.heap.size+1+1) (by omega) (.bool s_m1) (.slice A_m1 n_m1 c_m1)).set2 (.bool s_m2) (.slice A_m2 n_m2 c_m2)
 obtain ⟨g0,g1⟩:=G1.all;have g2:=G2.c0;have g3:=G2.c1
 have HT:=two_set hb (by omega) (by omega) (by omega) Z1 Z2 m1 m2 (.bool s_m1) (.slice A_m1 n_m1 c_m1) (.bool s_m2) (.slice A_m2 n_m2 c_m2)
 refine bodyPost_ret (v:=.tuple #[.agg #[.bool s_m1,.slice A_m1 n_m1 c_m1],.agg #[.bool s_m2,.slice A_m2 n_m2 c_m2]]) (by simp [results,Tryz.results108,go_sem,g0,g1,g2,g3]) rfl ?_
 exact ⟨_,_,_,_,_,_,_,_,rfl,HT.1,HT.2.1,HT.2.2⟩
theorem three_set {w W:World} {g1 g2 g3 n c m d n3 d3 k n1 c1 n2 c2 n4 c4:Nat} {s t r a b b3:Bool} {A B C A1 A2 A4:Option Addr} {p q l:Int} (hb:Below w.heap.size w W) (h1:w.heap.size≤g1) (h2:w.heap.size≤g2) (h3:w.heap.size≤g3) (hne:g1 ≠ g2) (hne2:g1 ≠ g3) (hne3:g2 ≠ g3)
 (Z1:Bx W g1 (.bool a) (.slice A1 n1 c1)) (Z2:Bx W g2 (.bool b) (.slice A2 n2 c2)) (Z3:Bx W g3 (.bool b3) (.slice A4 n4 c4)) (X:ZR W s A n c p k) (Y:ZR W t B m d q k) (L:ZR W r C n3 d3 l k) (x y z u i j:Value) :
 ZR ((((((W.setCell ⟨g1,0,none⟩ x).setCell ⟨g1,1,none⟩ y).setCell ⟨g2,0,none⟩ z).setCell ⟨g2,1,none⟩ u).setCell ⟨g3,0,none⟩ i).setCell ⟨g3,1,none⟩ j) s A n c p k ∧
 ZR ((((((W.setCell ⟨g1,0,none⟩ x).setCell ⟨g1,1,none⟩ y).setCell ⟨g2,0,none⟩ z).setCell ⟨g2,1,none⟩ u).setCell ⟨g3,0,none⟩ i).setCell ⟨g3,1,none⟩ j) t B m d q k ∧
 ZR ((((((W.setCell ⟨g1,0,none⟩ x).setCell ⟨g1,1,none⟩ y).setCell ⟨g2,0,none⟩ z).setCell ⟨g2,1,none⟩ u).setCell ⟨g3,0,none⟩ i).setCell ⟨g3,1,none⟩ j) r C n3 d3 l k ∧
 Below w.heap.size w ((((((W.setCell ⟨g1,0,none⟩ x).setCell ⟨g1,1,none⟩ y).setCell ⟨g2,0,none⟩ z).setCell ⟨g2,1,none⟩ u).setCell ⟨g3,0,none⟩ i).setCell ⟨g3,1,none⟩ j):=by
 have h:=two_set hb h1 h2 hne Z1 Z2 X Y x y z u
 have h':=two_set hb h1 h2 hne Z1 Z2 L Y x y z u
 have Z4:=(Z3.other (k:=g1) (Ne.symm hne2) x y).other (k:=g2) (Ne.symm hne3) z u
 exact ⟨h.1.set2x Z4 i j,h.2.1.set2x Z4 i j,h'.1.set2x Z4 i j,(h.2.2.setCell h3 _).setCell h3 _⟩
def GivesA (w:World) (v u:Rat) (k:Nat) (e:Ending) (w':World):Prop :=
 ∃ (f g:Int) (L:Nat),L ≠ 0∧v=mkRat f L∧u=mkRat g L∧∃ s A n c t B m d r C n3 d3,e=.returned (.tuple #[.agg #[.bool s,.slice A n c],.agg #[.bool t,.slice B m d],.agg #[.bool r,.slice C n3 d3]]) ∧
  ZR w' s A n c f k∧ZR w' t B m d g k∧ZR w' r C n3 d3 (L:Int) k∧Below w.heap.size w w'
theorem mkbx13_10 {w W:World} {x0 x1 x2 x3 x4 x5 x6 x7 x8 x9 x10 x11:Value} (h:(((((w.alloc (Obj.cells #[x0,x1,x2] 26)).alloc (Obj.cells #[x3,x4,x5] 26)).alloc (Obj.cells #[x6,x7] 24)).alloc (Obj.cells #[x8,x9] 24)).alloc (Obj.cells #[x10,x11] 24))=W):Below w.heap.size w W∧B3 W (w.heap.size) x0 x1 x2∧B3 W (w.heap.size+1) x3 x4 x5∧Bx W (w.heap.size+1+1) x6 x7∧Bx W (w.heap.size+1+1+1) x8 x9∧Bx W (w.heap.size+1+1+1+1) x10 x11∧W.heap.size=w.heap.size+5:=by subst h;exact ⟨by exact ((((((Below.refl _ _).alloc (Nat.le_refl _) _).alloc (by simp) _).alloc (by simp;omega) _).alloc (by simp;omega) _).alloc (by simp;omega) _),by exact ((((B3.new' _ _ _ _ _ rfl).alloc _).alloc _).alloc _).alloc _,by exact (((B3.new' _ _ _ _ _ (by simp)).alloc _).alloc _).alloc _,by exact ((Bx.new' _ _ _ _ (by simp)).alloc _).alloc _,by exact (Bx.new' _ _ _ _ (by simp)).alloc _,by exact Bx.new' _ _ _ _ (by simp),by simp⟩
theorem ralike_q {s t:Bool} {A A' B B':Option Addr} {n c n' c' m d m' d' k k2:Nat} {p p2:Int} {q q2:Nat} (X:ZR w s A n c p k) (Q:NR w A' n' c' q k) (Y:ZR w t B m d p2 k2) (R:NR w B' m' d' q2 k2) (hk:k≤400) (hkb:k2≤400) (h40:k≤400 ∨ k2≤400) (hk1:1≤k) (hk3:1≤k2) :
 Calls Tryz.prog 132 #[.agg #[.bool s,.slice A n c,.slice A' n' c'],.agg #[.bool t,.slice B m d,.slice B' m' d']] w (GivesA w (mkRat p (den1 q)) (mkRat p2 (den1 q2)) (k+k2)):=by
 go_enter Tryz.func132,Tryz.ntmps132
 go_wp2_with fail
 generalize hW:World.alloc _ _=W
 obtain ⟨hb,XA,XB,Z1,Z2,Z3,hzW⟩:=mkbx13_10 hW;clear hW;replace X:=X.below hb;replace Q:=Q.below hb;replace Y:=Y.below hb;replace R:=R.below hb;obtain ⟨xa0,xa1,xa2⟩:=XA.all;obtain ⟨xb0,xb1,xb2⟩:=XB.all
 go_upto_region 2 with (first
  | (go_at_call 62;(with_reducible refine (parts_any X Q (by omega) hk1).mono ?_);rintro e w_p ⟨s_x,A_x,n_x,c_x,s_y,A_y,n_y,c_y,rfl,x,y,hh⟩
     (try replace X:=X.below hh);(try replace Q:=Q.below hh);(try replace Y:=Y.below hh);(try replace R:=R.below hh);(try replace u:=u.below hh);(try replace v:=v.below hh);(try replace m1:=m1.below hh);(try replace m2:=m2.below hh);(try replace m3:=m3.below hh);(try replace XA:=XA.below hh);(try replace XB:=XB.below hh);(try replace Z:=Z.below hh);(try replace Z1:=Z1.below hh);(try replace Z2:=Z2.below hh);(try replace Z3:=Z3.below hh);(try replace XP:=XP.below hh);(try replace XQ:=XQ.below hh);(try replace XU:=XU.below hh);(try replace XV:=XV.below hh);replace hb:=bend hb hh))
 have hp1:=Z3.lt
 generalize hW:World.alloc _ _=W2
 obtain ⟨hh,XP,XQ,hzW2⟩:=mkbx5_9 hW;clear hW;(try replace X:=X.below hh);(try replace Q:=Q.below hh);(try replace Y:=Y.below hh);(try replace R:=R.below hh);(try replace x:=x.below hh);(try replace y:=y.below hh);(try replace XA:=XA.below hh);(try replace XB:=XB.below hh);(try replace Z1:=Z1.below hh);(try replace Z2:=Z2.below hh);(try replace Z3:=Z3.below hh);replace hb:=bend hb hh;obtain ⟨xb0,xb1,xb2⟩:=XB.all
 go_upto_region 3 with (first
  | (go_at_call 62;(with_reducible refine (parts_any Y R (by omega) hk3).mono ?_);rintro e w_u ⟨s_u,A_u,n_u,c_u,s_v,A_v,n_v,c_v,rfl,u,v,hh⟩
     (try replace X:=X.below hh);(try replace Q:=Q.below hh);(try replace Y:=Y.below hh);(try replace R:=R.below hh);(try replace x:=x.below hh);(try replace y:=y.below hh);(try replace m1:=m1.below hh);(try replace m2:=m2.below hh);(try replace m3:=m3.below hh);(try replace XA:=XA.below hh);(try replace XB:=XB.below hh);(try replace Z:=Z.below hh);(try replace Z1:=Z1.below hh);(try replace Z2:=Z2.below hh);(try replace Z3:=Z3.below hh);(try replace XP:=XP.below hh);(try replace XQ:=XQ.below hh);(try replace XU:=XU.below hh);(try replace XV:=XV.below hh);replace hb:=bend hb hh))
 have hu1:=XQ.lt
 generalize hW:World.alloc _ _=W3
 obtain ⟨hh,XU,XV,hzW3⟩:=mkbx5_9 hW;clear hW;(try replace x:=x.below hh);(try replace y:=y.below hh);(try replace u:=u.below hh);(try replace v:=v.below hh);(try replace XP:=XP.below hh);(try replace XQ:=XQ.below hh);(try replace Z1:=Z1.below hh);(try replace Z2:=Z2.below hh);(try replace Z3:=Z3.below hh);replace hb:=bend hb hh;obtain ⟨xp0,xp1⟩:=XP.all;obtain ⟨xq0,xq1⟩:=XQ.all;obtain ⟨xu0,xu1⟩:=XU.all;obtain ⟨xv0,xv1⟩:=XV.all
 by_cases heq:den1 q=den1 q2
 · have HL:Hid (den1 q ≠ 0∧mkRat p2 (den1 q2)=mkRat p2 (den1 q)):=⟨den1_ne q,by rw [heq]⟩
   have HC:Hid (cmpZ (den1 q:Int) (den1 q2:Int)=0):=by show _=_;rw [heq];exact cmpZ_self _
   clear heq
   go_upto_region 4 with (first
    | (go_at_call 106;(with_reducible refine (zcmp_zr y v (by omega)).mono ?_);rintro e w_z ⟨rfl,hh⟩
       rw [HC.out];(try replace X:=X.below hh);(try replace Q:=Q.below hh);(try replace Y:=Y.below hh);(try replace R:=R.below hh);(try replace x:=x.below hh);(try replace y:=y.below hh);(try replace u:=u.below hh);(try replace v:=v.below hh);(try replace m1:=m1.below hh);(try replace m2:=m2.below hh);(try replace m3:=m3.below hh);(try replace XA:=XA.below hh);(try replace XB:=XB.below hh);(try replace Z:=Z.below hh);(try replace Z1:=Z1.below hh);(try replace Z2:=Z2.below hh);(try replace Z3:=Z3.below hh);(try replace XP:=XP.below hh);(try replace XQ:=XQ.below hh);(try replace XU:=XU.below hh);(try replace XV:=XV.below hh);replace hb:=bend hb hh;obtain ⟨xp0,xp1⟩:=XP.all;obtain ⟨xq0,xq1⟩:=XQ.all;obtain ⟨xu0,xu1⟩:=XU.all;obtain ⟨xv0,xv1⟩:=XV.all))
   obtain ⟨z0,z1⟩:=Z1.all;have z2:=Z1.f0;have z3:=Z1.f1;obtain ⟨y0,y1⟩:=Z2.all;have y2:=Z2.f0;have y3:=Z2.f1;obtain ⟨t0,t1⟩:=Z3.all;have t2:=Z3.f0;have t3:=Z3.f1
   have Z2o:=Z2.other (k:=w.heap.size+1+1) (by omega) (.bool s_x) (.slice A_x n_x c_x)
   obtain ⟨zo0,zo1⟩:=Z2o.all;have zo2:=Z2o.f0;have zo3:=Z2o.f1
   have Z3o:=Z3.other (k:=w.heap.size+1+1) (by omega) (.bool s_x) (.slice A_x n_x c_x)
   have Z3p:=Z3o.other (k:=w.heap.size+1+1+1) (by omega) (.bool s_u) (.slice A_u n_u c_u)
   obtain ⟨zp0,zp1⟩:=Z3p.all;have zp2:=Z3p.f0;have zp3:=Z3p.f1
   go_region
   go_wp2_with fail
   have G1:=((Z1.set2 (.bool s_x) (.slice A_x n_x c_x)).other (k:=w.heap.size+1+1+1) (by omega) (.bool s_u) (.slice A_u n_u c_u)).other (k:=w.heap.size+1+1+1+1) (by omega) (.bool s_y) (.slice A_y n_y c_y)
   have G2:=((Z2.other (k:=w.heap.size+1+1) (by omega) (.bool s_x) (.slice A_x n_x c_x)).set2 (.bool s_u) (.slice A_u n_u c_u)).other (k:=w.heap.size+1+1+1+1) (by omega) (.bool s_y) (.slice A_y n_y c_y)
   have G3:=((Z3.other (k:=w.heap.size+1+1) (by omega) (.bool s_x) (.slice A_x n_x c_x)).other (k:=w.heap.size+1+1+1) (by omega) (.bool s_u) (.slice A_u n_u c_u)).set2 (.bool s_y) (.slice A_y n_y c_y)
   obtain ⟨g0,g1⟩:=G1.all;have g2:=G2.c0;have g3:=G2.c1;have g4:=G3.c0;have g5:=G3.c1
   have HT:=three_set hb (by omega) (by omega) (by omega) (by omega) (by omega) (by omega) Z1 Z2 Z3 (x.more (show k≤k+k2 by omega)) (u.more (show k2≤k+k2 by omega)) (y.more (show k≤k+k2 by omega)) (.bool s_x) (.slice A_x n_x c_x) (.bool s_u) (.slice A_u n_u c_u) (.bool s_y) (.slice A_y n_y c_y)
   refine bodyPost_ret (v:=.tuple #[.agg #[.bool s_x,.slice A_x n_x c_x],.agg #[.bool s_u,.slice A_u n_u c_u],.agg #[.bool s_y,.slice A_y n_y c_y]]) (by simp [results,Tryz.results132,go_sem,g0,g1,g2,g3,g4,g5]) rfl ?_
   exact ⟨_,_,_,HL.out.1,rfl,HL.out.2,_,_,_,_,_,_,_,_,_,_,_,_,rfl,HT.1.drew,HT.2.1.drew,HT.2.2.1.drew,HT.2.2.2.drew⟩
 · have HL : Hid (den1 q * den1 q2 ≠ 0 ∧ mkRat p (den1 q) = mkRat (p * (den1 q2 : Int)) (den1 q * den1 q2) ∧ mkRat p2 (den1 q2) = mkRat (p2 * (den1 q : Int)) (den1 q * den1 q2)) :=
     ⟨Nat.mul_ne_zero (den1_ne q) (den1_ne q2),(Rat.mkRat_mul_right (den1_ne q2)).symm,by rw [Nat.mul_comm];exact (Rat.mkRat_mul_right (den1_ne q)).symm⟩
   obtain ⟨K,hK,hK0⟩:∃ K,cmpZ (den1 q:Int) (den1 q2:Int)=K∧((K:Int) == 0)=false:=⟨_,rfl,by
    rw [beq_eq_false_iff_ne];intro h;exact heq (by have:=cmpZ_zero h;omega)⟩
   have HC:=Lib.hid hK;clear heq hK
   go_upto_region 5 with (first
    | (go_at_call 106;(with_reducible refine (zcmp_zr y v (by omega)).mono ?_);rintro e w_z ⟨rfl,hh⟩
       rw [HC.out];(try replace X:=X.below hh);(try replace Q:=Q.below hh);(try replace Y:=Y.below hh);(try replace R:=R.below hh);(try replace x:=x.below hh);(try replace y:=y.below hh);(try replace u:=u.below hh);(try replace v:=v.below hh);(try replace m1:=m1.below hh);(try replace m2:=m2.below hh);(try replace m3:=m3.below hh);(try replace XA:=XA.below hh);(try replace XB:=XB.below hh);(try replace Z:=Z.below hh);(try replace Z1:=Z1.below hh);(try replace Z2:=Z2.below hh);(try replace Z3:=Z3.below hh);(try replace XP:=XP.below hh);(try replace XQ:=XQ.below hh);(try replace XU:=XU.below hh);(try replace XV:=XV.below hh);replace hb:=bend hb hh;obtain ⟨xp0,xp1⟩:=XP.all;obtain ⟨xq0,xq1⟩:=XQ.all;obtain ⟨xu0,xu1⟩:=XU.all;obtain ⟨xv0,xv1⟩:=XV.all))
   replace x:=x.below (Below.refl _ _).drew
   replace y:=y.below (Below.refl _ _).drew
   replace u:=u.below (Below.refl _ _).drew
   replace v:=v.below (Below.refl _ _).drew
   replace Z1:=Z1.below (Below.refl _ _).drew
   replace Z2:=Z2.below (Below.refl _ _).drew
   replace Z3:=Z3.below (Below.refl _ _).drew
   replace XP:=XP.below (Below.refl _ _).drew
   replace XQ:=XQ.below (Below.refl _ _).drew
   replace XU:=XU.below (Below.refl _ _).drew
   replace XV:=XV.below (Below.refl _ _).drew
   replace hb:=hb.drew
   go_region_held3 (fun w'=>w'.cell? ⟨w_p.heap.size,0,none⟩=some (.bool s_x)∧w'.cell? ⟨w_p.heap.size,1,none⟩=some (.slice A_x n_x c_x)∧w'.cell? ⟨w_p.heap.size+1,0,none⟩=some (.bool s_y)∧w'.cell? ⟨w_p.heap.size+1,1,none⟩=some (.slice A_y n_y c_y)∧w'.cell? ⟨w_u.heap.size,0,none⟩=some (.bool s_u)∧w'.cell? ⟨w_u.heap.size,1,none⟩=some (.slice A_u n_u c_u)∧w'.cell? ⟨w_u.heap.size+1,0,none⟩=some (.bool s_v)∧w'.cell? ⟨w_u.heap.size+1,1,none⟩=some (.slice A_v n_v c_v))
    (first | with_reducible exact ⟨XP.c0,XP.c1,XQ.c0,XQ.c1,XU.c0,XU.c1,XV.c0,XV.c1⟩ | with_reducible exact ⟨(set2_cell _ _ _ _ _ _ (by omega)).trans (XP.c0),(set2_cell _ _ _ _ _ _ (by omega)).trans (XP.c1),(set2_cell _ _ _ _ _ _ (by omega)).trans (XQ.c0),(set2_cell _ _ _ _ _ _ (by omega)).trans (XQ.c1),(set2_cell _ _ _ _ _ _ (by omega)).trans (XU.c0),(set2_cell _ _ _ _ _ _ (by omega)).trans (XU.c1),(set2_cell _ _ _ _ _ _ (by omega)).trans (XV.c0),(set2_cell _ _ _ _ _ _ (by omega)).trans (XV.c1)⟩ | with_reducible exact ⟨(set2_cell _ _ _ _ _ _ (by omega)).trans ((set2_cell _ _ _ _ _ _ (by omega)).trans (XP.c0)),(set2_cell _ _ _ _ _ _ (by omega)).trans ((set2_cell _ _ _ _ _ _ (by omega)).trans (XP.c1)),(set2_cell _ _ _ _ _ _ (by omega)).trans ((set2_cell _ _ _ _ _ _ (by omega)).trans (XQ.c0)),(set2_cell _ _ _ _ _ _ (by omega)).trans ((set2_cell _ _ _ _ _ _ (by omega)).trans (XQ.c1)),(set2_cell _ _ _ _ _ _ (by omega)).trans ((set2_cell _ _ _ _ _ _ (by omega)).trans (XU.c0)),(set2_cell _ _ _ _ _ _ (by omega)).trans ((set2_cell _ _ _ _ _ _ (by omega)).trans (XU.c1)),(set2_cell _ _ _ _ _ _ (by omega)).trans ((set2_cell _ _ _ _ _ _ (by omega)).trans (XV.c0)),(set2_cell _ _ _ _ _ _ (by omega)).trans ((set2_cell _ _ _ _ _ _ (by omega)).trans (XV.c1))⟩ | with_reducible exact ⟨(set2_cell _ _ _ _ _ _ (by omega)).trans ((set2_cell _ _ _ _ _ _ (by omega)).trans ((set2_cell _ _ _ _ _ _ (by omega)).trans (XP.c0))),(set2_cell _ _ _ _ _ _ (by omega)).trans ((set2_cell _ _ _ _ _ _ (by omega)).trans ((set2_cell _ _ _ _ _ _ (by omega)).trans (XP.c1))),(set2_cell _ _ _ _ _ _ (by omega)).trans ((set2_cell _ _ _ _ _ _ (by omega)).trans ((set2_cell _ _ _ _ _ _ (by omega)).trans (XQ.c0))),(set2_cell _ _ _ _ _ _ (by omega)).trans ((set2_cell _ _ _ _ _ _ (by omega)).trans ((set2_cell _ _ _ _ _ _ (by omega)).trans (XQ.c1))),(set2_cell _ _ _ _ _ _ (by omega)).trans ((set2_cell _ _ _ _ _ _ (by omega)).trans ((set2_cell _ _ _ _ _ _ (by omega)).trans (XU.c0))),(set2_cell _ _ _ _ _ _ (by omega)).trans ((set2_cell _ _ _ _ _ _ (by omega)).trans ((set2_cell _ _ _ _ _ _ (by omega)).trans (XU.c1))),(set2_cell _ _ _ _ _ _ (by omega)).trans ((set2_cell _ _ _ _ _ _ (by omega)).trans ((set2_cell _ _ _ _ _ _ (by omega)).trans (XV.c0))),(set2_cell _ _ _ _ _ _ (by omega)).trans ((set2_cell _ _ _ _ _ _ (by omega)).trans ((set2_cell _ _ _ _ _ _ (by omega)).trans (XV.c1)))⟩)
    (first
    | (go_at_call 26;(with_reducible refine (zmul_zr (k+k2) x v (by omega) (by omega) (by omega)).mono ?_);rintro e w_m1 ⟨s_m1,A_m1,n_m1,c_m1,rfl,m1,hh⟩
       (try replace X:=X.below hh);(try replace Q:=Q.below hh);(try replace Y:=Y.below hh);(try replace R:=R.below hh);(try replace x:=x.below hh);(try replace y:=y.below hh);(try replace u:=u.below hh);(try replace v:=v.below hh);(try replace m2:=m2.below hh);(try replace m3:=m3.below hh);(try replace XA:=XA.below hh);(try replace XB:=XB.below hh);(try replace Z:=Z.below hh);(try replace Z1:=Z1.below hh);(try replace Z2:=Z2.below hh);(try replace Z3:=Z3.below hh);(try replace XP:=XP.below hh);(try replace XQ:=XQ.below hh);(try replace XU:=XU.below hh);(try replace XV:=XV.below hh);replace hb:=bend hb hh)
    | (go_at_call 26;(with_reducible refine (zmul_zr (k+k2) u y (by omega) (by omega) (by omega)).mono ?_);rintro e w_m2 ⟨s_m2,A_m2,n_m2,c_m2,rfl,m2,hh⟩
       (try replace X:=X.below hh);(try replace Q:=Q.below hh);(try replace Y:=Y.below hh);(try replace R:=R.below hh);(try replace x:=x.below hh);(try replace y:=y.below hh);(try replace u:=u.below hh);(try replace v:=v.below hh);(try replace m1:=m1.below hh);(try replace m3:=m3.below hh);(try replace XA:=XA.below hh);(try replace XB:=XB.below hh);(try replace Z:=Z.below hh);(try replace Z1:=Z1.below hh);(try replace Z2:=Z2.below hh);(try replace Z3:=Z3.below hh);(try replace XP:=XP.below hh);(try replace XQ:=XQ.below hh);(try replace XU:=XU.below hh);(try replace XV:=XV.below hh);replace hb:=bend hb hh)
    | (go_at_call 26;(with_reducible refine (zmul_zr (k+k2) y v (by omega) (by omega) (by omega)).mono ?_);rintro e w_m3 ⟨s_m3,A_m3,n_m3,c_m3,rfl,m3,hh⟩
       (try replace X:=X.below hh);(try replace Q:=Q.below hh);(try replace Y:=Y.below hh);(try replace R:=R.below hh);(try replace x:=x.below hh);(try replace y:=y.below hh);(try replace u:=u.below hh);(try replace v:=v.below hh);(try replace m1:=m1.below hh);(try replace m2:=m2.below hh);(try replace XA:=XA.below hh);(try replace XB:=XB.below hh);(try replace Z:=Z.below hh);(try replace Z1:=Z1.below hh);(try replace Z2:=Z2.below hh);(try replace Z3:=Z3.below hh);(try replace XP:=XP.below hh);(try replace XQ:=XQ.below hh);(try replace XU:=XU.below hh);(try replace XV:=XV.below hh);replace hb:=bend hb hh;obtain ⟨z0,z1⟩:=Z1.all;have z2:=Z1.f0;have z3:=Z1.f1;obtain ⟨y0,y1⟩:=Z2.all;have y2:=Z2.f0;have y3:=Z2.f1;obtain ⟨t0,t1⟩:=Z3.all;have t2:=Z3.f0;have t3:=Z3.f1
       have Z2o:=Z2.other (k:=w.heap.size+1+1) (by omega) (.bool s_m1) (.slice A_m1 n_m1 c_m1)
       obtain ⟨zo0,zo1⟩:=Z2o.all;have zo2:=Z2o.f0;have zo3:=Z2o.f1
       have Z3o:=Z3.other (k:=w.heap.size+1+1) (by omega) (.bool s_m1) (.slice A_m1 n_m1 c_m1)
       have Z3p:=Z3o.other (k:=w.heap.size+1+1+1) (by omega) (.bool s_m2) (.slice A_m2 n_m2 c_m2)
       obtain ⟨zp0,zp1⟩:=Z3p.all;have zp2:=Z3p.f0;have zp3:=Z3p.f1))
   go_wp2_with fail
   rw [← Int.natCast_mul] at m3
   have G1:=((Z1.set2 (.bool s_m1) (.slice A_m1 n_m1 c_m1)).other (k:=w.heap.size+1+1+1) (by omega) (.bool s_m2) (.slice A_m2 n_m2 c_m2)).other (k:=w.heap.size+1+1+1+1) (by omega) (.bool s_m3) (.slice A_m3 n_m3 c_m3)
   have G2:=((Z2.other (k:=w.heap.size+1+1) (by omega) (.bool s_m1) (.slice A_m1 n_m1 c_m1)).set2 (.bool s_m2) (.slice A_m2 n_m2 c_m2)).other (k:=w.heap.size+1+1+1+1) (by omega) (.bool s_m3) (.slice A_m3 n_m3 c_m3)
   have G3:=((Z3.other (k:=w.heap.size+1+1) (by omega) (.bool s_m1) (.slice A_m1 n_m1 c_m1)).other (k:=w.heap.size+1+1+1) (by omega) (.bool s_m2) (.slice A_m2 n_m2 c_m2)).set2 (.bool s_m3) (.slice A_m3 n_m3 c_m3)
   obtain ⟨g0,g1⟩:=G1.all;have g2:=G2.c0;have g3:=G2.c1;have g4:=G3.c0;have g5:=G3.c1
   have HT:=three_set hb (by omega) (by omega) (by omega) (by omega) (by omega) (by omega) Z1 Z2 Z3 m1 m2 m3 (.bool s_m1) (.slice A_m1 n_m1 c_m1) (.bool s_m2) (.slice A_m2 n_m2 c_m2) (.bool s_m3) (.slice A_m3 n_m3 c_m3)
   refine bodyPost_ret (v:=.tuple #[.agg #[.bool s_m1,.slice A_m1 n_m1 c_m1],.agg #[.bool s_m2,.slice A_m2 n_m2 c_m2],.agg #[.bool s_m3,.slice A_m3 n_m3 c_m3]]) (by simp [results,Tryz.results132,go_sem,g0,g1,g2,g3,g4,g5]) rfl ?_
   exact ⟨_,_,_,HL.out.1,HL.out.2.1,HL.out.2.2,_,_,_,_,_,_,_,_,_,_,_,_,rfl,HT.1,HT.2.1,HT.2.2.1,HT.2.2.2⟩
end
section
open Go Go.RowKit
def GivesF (w:World) (v:Rat) (k:Nat) (e:Ending) (w':World):Prop :=
 ∃ (f:Int) (L:Nat),L ≠ 0∧v=mkRat f L∧∃ s A n c t B m d,e=.returned (.tuple #[.agg #[.bool s,.slice A n c],.agg #[.bool t,.slice B m d]])∧ZR w' s A n c f k∧ZR w' t B m d (L:Int) k∧Below w.heap.size w w'
theorem rsum_q {s t:Bool} {A A' B B':Option Addr} {n c n' c' m d m' d' k k2:Nat} {v0 u0:Rat} (X0:QR w s A n c A' n' c' v0 k) (Y0:QR w t B m d B' m' d' u0 k2) (hk:k≤400) (hkb:k2≤400) (h40:k≤400 ∨ k2≤400) (hk1:1≤k) (hk3:1≤k2) :
 Calls Tryz.prog 70 #[.agg #[.bool s,.slice A n c,.slice A' n' c'],.agg #[.bool t,.slice B m d,.slice B' m' d']] w (GivesF w (v0+u0) (k+k2+1)):=by
 obtain ⟨p,q,X,Q,rfl⟩:=X0
 obtain ⟨p2,q2,Y,R,rfl⟩:=Y0
 go_enter Tryz.func70,Tryz.ntmps70
 go_wp2_with fail
 generalize hW:World.alloc _ _=W
 obtain ⟨hb,XA,XB,Z1,Z2,hzW⟩:=mkbx12_10 hW;clear hW;replace X:=X.below hb;replace Q:=Q.below hb;replace Y:=Y.below hb;replace R:=R.below hb;obtain ⟨xa0,xa1,xa2⟩:=XA.all;obtain ⟨xb0,xb1,xb2⟩:=XB.all;have zf0:=Z2.c0
 go_upto_region 2 with (first
  | (go_at_call 132;(with_reducible refine (ralike_q X Q Y R hk hkb h40 hk1 hk3).mono ?_);rintro e w_a ⟨f,g,L,hL0,hL1,hL2,s_x,A_x,n_x,c_x,s_y,A_y,n_y,c_y,s_l,A_l,n_l,c_l,rfl,x,y,l,hh⟩
     (try replace X:=X.below hh);(try replace Q:=Q.below hh);(try replace Y:=Y.below hh);(try replace R:=R.below hh);(try replace m1:=m1.below hh);(try replace XA:=XA.below hh);(try replace XB:=XB.below hh);(try replace Z1:=Z1.below hh);(try replace Z2:=Z2.below hh);(try replace XP:=XP.below hh);(try replace XQ:=XQ.below hh);replace hb:=bend hb hh;have HL0:=Lib.hid hL0;have HL1:=Lib.hid hL1;have HL2:=Lib.hid hL2;clear hL0 hL1 hL2
     have Z2b:=(Z2.alloc (Obj.cells #[Value.bool s_x,Value.slice A_x n_x c_x] 24)).alloc (Obj.cells #[Value.bool s_y,Value.slice A_y n_y c_y] 24)
     obtain ⟨zz0,zz1⟩:=Z2b.all;have zz2:=Z2b.f0;have zz3:=Z2b.f1))
 have hp1:=Z2.lt
 generalize hW:World.alloc _ _=W0
 obtain ⟨hh,XP0,XQ0⟩:=mkbx3_6 hW;clear hW;replace x:=x.below hh;replace y:=y.below hh;replace l:=l.below hh;replace Z1:=Z1.below hh;replace Z2:=Z2.below hh;replace hb:=bend hb hh
 generalize hW:(W0.setCell ⟨w.heap.size+1+1+1,0,none⟩ (.bool s_l)).setCell ⟨w.heap.size+1+1+1,1,none⟩ (.slice A_l n_l c_l)=W1
 replace x:ZR W1 s_x A_x n_x c_x f (k+k2):=by subst hW;exact x.set2x Z2 _ _
 replace y:ZR W1 s_y A_y n_y c_y g (k+k2):=by subst hW;exact y.set2x Z2 _ _
 replace l:ZR W1 s_l A_l n_l c_l (L:Int) (k+k2):=by subst hW;exact l.set2x Z2 _ _
 have XP:Bx W1 (w_a.heap.size) (Value.bool s_x) (Value.slice A_x n_x c_x):=by subst hW;exact XP0.other (by omega) _ _
 have XQ:Bx W1 (w_a.heap.size+1) (Value.bool s_y) (Value.slice A_y n_y c_y):=by subst hW;exact XQ0.other (by omega) _ _
 replace Z1:Bx W1 (w.heap.size+1+1) (Value.bool false) (Value.slice none 0 0):=by subst hW;exact Z1.other (by omega) _ _
 replace hb:Below w.heap.size w W1:=by subst hW;exact below_set2 hb (by omega) _ _
 have Z2':Bx W1 (w.heap.size+1+1+1) (Value.bool s_l) (Value.slice A_l n_l c_l):=by subst hW;exact Z2.set2 _ _
 clear hW XP0 XQ0 Z2
 have Z2:=Z2'
 clear Z2'
 replace x:=x.below (Below.refl _ _).drew
 replace y:=y.below (Below.refl _ _).drew
 replace l:=l.below (Below.refl _ _).drew
 replace Z1:=Z1.below (Below.refl _ _).drew
 replace Z2:=Z2.below (Below.refl _ _).drew
 replace XP:=XP.below (Below.refl _ _).drew
 replace XQ:=XQ.below (Below.refl _ _).drew
 replace hb:=hb.drew
 go_region_held3 (fun w'=>w'.cell? ⟨w_a.heap.size,0,none⟩=some (.bool s_x)∧w'.cell? ⟨w_a.heap.size,1,none⟩=some (.slice A_x n_x c_x)∧w'.cell? ⟨w_a.heap.size+1,0,none⟩=some (.bool s_y)∧w'.cell? ⟨w_a.heap.size+1,1,none⟩=some (.slice A_y n_y c_y)∧w'.cell? ⟨w.heap.size+1+1+1,0,none⟩=some (.bool s_l)∧w'.cell? ⟨w.heap.size+1+1+1,1,none⟩=some (.slice A_l n_l c_l))
  (first | with_reducible exact ⟨XP.c0,XP.c1,XQ.c0,XQ.c1,Z2.c0,Z2.c1⟩ | with_reducible exact ⟨(set2_cell _ _ _ _ _ _ (by omega)).trans (XP.c0),(set2_cell _ _ _ _ _ _ (by omega)).trans (XP.c1),(set2_cell _ _ _ _ _ _ (by omega)).trans (XQ.c0),(set2_cell _ _ _ _ _ _ (by omega)).trans (XQ.c1),(set2_cell _ _ _ _ _ _ (by omega)).trans (Z2.c0),(set2_cell _ _ _ _ _ _ (by omega)).trans (Z2.c1)⟩ | with_reducible exact ⟨(set2_cell _ _ _ _ _ _ (by omega)).trans ((set2_cell _ _ _ _ _ _ (by omega)).trans (XP.c0)),(set2_cell _ _ _ _ _ _ (by omega)).trans ((set2_cell _ _ _ _ _ _ (by omega)).trans (XP.c1)),(set2_cell _ _ _ _ _ _ (by omega)).trans ((set2_cell _ _ _ _ _ _ (by omega)).trans (XQ.c0)),(set2_cell _ _ _ _ _ _ (by omega)).trans ((set2_cell _ _ _ _ _ _ (by omega)).trans (XQ.c1)),Z2q.c0,Z2q.c1⟩)
  (first
  | (go_at_call 133;(with_reducible refine (zadd_zr (k+k2+1) x y (by omega) (by omega) (by omega)).mono ?_);rintro e w_m1 ⟨s_m1,A_m1,n_m1,c_m1,rfl,m1,hh⟩
     (try replace X:=X.below hh);(try replace Q:=Q.below hh);(try replace Y:=Y.below hh);(try replace R:=R.below hh);(try replace x:=x.below hh);(try replace y:=y.below hh);(try replace l:=l.below hh);(try replace XA:=XA.below hh);(try replace XB:=XB.below hh);(try replace Z1:=Z1.below hh);(try replace Z2:=Z2.below hh);(try replace XP:=XP.below hh);(try replace XQ:=XQ.below hh);replace hb:=bend hb hh;obtain ⟨z0,z1⟩:=Z1.all;have z2:=Z1.f0;have z3:=Z1.f1;obtain ⟨y0,y1⟩:=Z2.all;have y2:=Z2.f0;have y3:=Z2.f1
     have Z2o:=Z2.other (k:=w.heap.size+1+1) (by omega) (.bool s_m1) (.slice A_m1 n_m1 c_m1)
     obtain ⟨zo0,zo1⟩:=Z2o.all;have zo2:=Z2o.f0;have zo3:=Z2o.f1
     have Z2q:=Z2o.set2 (.bool s_l) (.slice A_l n_l c_l)))
 go_wp2_with fail
 have G1:=(Z1.set2 (.bool s_m1) (.slice A_m1 n_m1 c_m1)).other (k:=w.heap.size+1+1+1) (by omega) (.bool s_l) (.slice A_l n_l c_l)
 have G2:=(Z2.other (k:=w.heap.size+1+1) (by omega) (.bool s_m1) (.slice A_m1 n_m1 c_m1)).set2 (.bool s_l) (.slice A_l n_l c_l)
 obtain ⟨g0,g1⟩:=G1.all;have g2:=G2.c0;have g3:=G2.c1
 have HT:=two_set hb (by omega) (by omega) (by omega) Z1 Z2 m1 (l.more (show k+k2≤k+k2+1 by omega)) (.bool s_m1) (.slice A_m1 n_m1 c_m1) (.bool s_l) (.slice A_l n_l c_l)
 refine bodyPost_ret (v:=.tuple #[.agg #[.bool s_m1,.slice A_m1 n_m1 c_m1],.agg #[.bool s_l,.slice A_l n_l c_l]]) (by simp [results,Tryz.results70,go_sem,g0,g1,g2,g3]) rfl ?_
 exact ⟨_,L,HL0.out,by rw [HL1.out,HL2.out];exact mk_add_same HL0.out,_,_,_,_,_,_,_,_,rfl,HT.1,HT.2.1,HT.2.2⟩
theorem mkbx14_10 {w W:World} {x0 x1 x2 x3 x4 x5 x6 x7 x8:Value} (h:(((w.alloc (Obj.cells #[x0,x1,x2] 26)).alloc (Obj.cells #[x3,x4,x5] 26)).alloc (Obj.cells #[x6,x7,x8] 26))=W):Below w.heap.size w W∧B3 W (w.heap.size) x0 x1 x2∧B3 W (w.heap.size+1) x3 x4 x5∧B3 W (w.heap.size+1+1) x6 x7 x8∧W.heap.size=w.heap.size+3:=by subst h;exact ⟨by exact ((((Below.refl _ _).alloc (Nat.le_refl _) _).alloc (by simp) _).alloc (by simp;omega) _),by exact ((B3.new' _ _ _ _ _ rfl).alloc _).alloc _,by exact (B3.new' _ _ _ _ _ (by simp)).alloc _,by exact B3.new' _ _ _ _ _ (by simp),by simp⟩
theorem radd_q {s t:Bool} {A A' B B':Option Addr} {n c n' c' m d m' d' k k2:Nat} {v0 u0:Rat} (X0:QR w s A n c A' n' c' v0 k) (Y0:QR w t B m d B' m' d' u0 k2) (hk:k≤400) (hkb:k2≤400) (h40:k≤400 ∨ k2≤400) (hk1:1≤k) (hk3:1≤k2) :
 Calls Tryz.prog 18 #[.agg #[.bool s,.slice A n c,.slice A' n' c'],.agg #[.bool t,.slice B m d,.slice B' m' d']] w (GivesQ w (v0+u0) (k+k2+1)):=by
 go_enter Tryz.func18,Tryz.ntmps18
 go_wp2_with fail
 generalize hW:World.alloc _ _=W
 obtain ⟨hb,XA,XB,Z,hzW⟩:=mkbx14_10 hW;clear hW;replace X0:=X0.below hb;replace Y0:=Y0.below hb;obtain ⟨xa0,xa1,xa2⟩:=XA.all;obtain ⟨xb0,xb1,xb2⟩:=XB.all
 go_wp2_with (first
  | (go_at_call 70;(with_reducible refine (rsum_q X0 Y0 hk hkb h40 hk1 hk3).mono ?_);rintro e w_a ⟨f,L,hL0,hL1,s_x,A_x,n_x,c_x,s_y,A_y,n_y,c_y,rfl,x,y,hh⟩
     (try replace X0:=X0.below hh);(try replace Y0:=Y0.below hh);(try replace r:=r.below hh);(try replace XA:=XA.below hh);(try replace XB:=XB.below hh);(try replace Z:=Z.below hh);replace hb:=bend hb hh
     have hL:(L:Int) ≠ 0:=by omega
     have HL0:=Lib.hid hL
     have HL1:Hid (Rat.divInt f (L:Int)=v0+u0):=by show _=_;rw [hL1,Rat.divInt_ofNat]
     clear hL0 hL1 hL)
  | (go_at_call 61;(with_reducible refine (by_zr (k+k2+1) x y (by omega) (by omega) HL0.out (Nat.le_refl _) (Nat.le_refl _)).mono ?_);rintro e w_r ⟨s_r,A_r,n_r,c_r,B_r,m_r,d_r,rfl,r,hh⟩
     rw [HL1.out] at r;(try replace X0:=X0.below hh);(try replace Y0:=Y0.below hh);(try replace x:=x.below hh);(try replace y:=y.below hh);(try replace XA:=XA.below hh);(try replace XB:=XB.below hh);(try replace Z:=Z.below hh);replace hb:=bend hb hh;have zf0:=Z.f0;have zf1:=Z.f1;have zf2:=Z.f2;obtain ⟨z0,z1,z2⟩:=Z.all))
 have Z2:=Z.set3 (.bool s_r) (.slice A_r n_r c_r) (.slice B_r m_r d_r)
 obtain ⟨g0,g1,g2⟩:=Z2.all
 refine bodyPost_ret (v:=.agg #[.bool s_r,.slice A_r n_r c_r,.slice B_r m_r d_r]) (by simp [results,Tryz.results18,go_sem,g0,g1,g2]) rfl ?_
 exact ⟨s_r,A_r,n_r,c_r,B_r,m_r,d_r,rfl,r.set3 Z _ _ _,below_set3 hb (by omega) _ _ _⟩
theorem rdiv_q {s t:Bool} {A A' B B':Option Addr} {n c n' c' m d m' d' k k2:Nat} {v0 u0:Rat} (X0:QR w s A n c A' n' c' v0 k) (Y0:QR w t B m d B' m' d' u0 k2) (hk:k≤400) (hkb:k2≤400) (h40:k≤400 ∨ k2≤400) (hk1:1≤k) (hk3:1≤k2) (hu:u0 ≠ 0) :
 Calls Tryz.prog 47 #[.agg #[.bool s,.slice A n c,.slice A' n' c'],.agg #[.bool t,.slice B m d,.slice B' m' d']] w (GivesQE w (v0 / u0) (k+k2)):=by
 obtain ⟨p,q,X,Q,rfl⟩:=X0
 obtain ⟨p2,q2,Y,R,rfl⟩:=Y0
 have HE:Hid (Rat.divInt (p*(den1 q2:Int)) ((den1 q:Int)*p2)=mkRat p (den1 q) / mkRat p2 (den1 q2)):=(mk_div _ _ _ _).symm
 have HL0:Hid ((den1 q:Int)*p2 ≠ 0):=Int.mul_ne_zero (den1_i q) (fun h=>hu ((mk_zero (den1_ne q2)).2 h))
 clear hu
 go_enter Tryz.func47,Tryz.ntmps47
 go_wp2_with fail
 generalize hW:World.alloc _ _=W
 obtain ⟨hb,XA,XB,Z,hzW⟩:=mkbx14_10 hW;clear hW;replace X:=X.below hb;replace Q:=Q.below hb;replace Y:=Y.below hb;replace R:=R.below hb;obtain ⟨xa0,xa1,xa2⟩:=XA.all;obtain ⟨xb0,xb1,xb2⟩:=XB.all
 go_wp2_with (first
  | (go_at_call 108;(with_reducible refine (rquot_q X Q Y R hk hkb h40 hk1 hk3).mono ?_);rintro e w_a ⟨s_x,A_x,n_x,c_x,s_y,A_y,n_y,c_y,rfl,x,y,hh⟩
     (try replace X:=X.below hh);(try replace Q:=Q.below hh);(try replace Y:=Y.below hh);(try replace R:=R.below hh);(try replace r:=r.below hh);(try replace XA:=XA.below hh);(try replace XB:=XB.below hh);(try replace Z:=Z.below hh);replace hb:=bend hb hh)
  | (go_at_call 25;(with_reducible refine (make_zr (k+k2) x y (by omega) (by omega) HL0.out (Nat.le_refl _) (Nat.le_refl _)).mono ?_);rintro e w_r ⟨s_r,A_r,n_r,c_r,B_r,m_r,d_r,rfl,r,hh⟩
     rw [HE.out] at r;(try replace X:=X.below hh);(try replace Q:=Q.below hh);(try replace Y:=Y.below hh);(try replace R:=R.below hh);(try replace x:=x.below hh);(try replace y:=y.below hh);(try replace XA:=XA.below hh);(try replace XB:=XB.below hh);(try replace Z:=Z.below hh);replace hb:=bend hb hh;have zf0:=Z.f0;have zf1:=Z.f1;have zf2:=Z.f2;obtain ⟨z0,z1,z2⟩:=Z.all))
 have Z2:=Z.set3 (.bool s_r) (.slice A_r n_r c_r) (.slice B_r m_r d_r)
 obtain ⟨g0,g1,g2⟩:=Z2.all
 refine bodyPost_ret (v:=.tuple #[.agg #[.bool s_r,.slice A_r n_r c_r,.slice B_r m_r d_r],.int .i64 0]) (by simp [results,Tryz.results47,go_sem,g0,g1,g2]) rfl ?_
 exact ⟨s_r,A_r,n_r,c_r,B_r,m_r,d_r,rfl,r.set3 Z _ _ _,below_set3 hb (by omega) _ _ _⟩
theorem rdiv_zero {s t:Bool} {A A' B B':Option Addr} {n c n' c' m d m' d' k k2:Nat} {v0 u0:Rat} (X0:QR w s A n c A' n' c' v0 k) (Y0:QR w t B m d B' m' d' u0 k2) (hk:k≤400) (hkb:k2≤400) (h40:k≤400 ∨ k2≤400) (hk1:1≤k) (hk3:1≤k2) (hu:u0=0) :
 Calls Tryz.prog 47 #[.agg #[.bool s,.slice A n c,.slice A' n' c'],.agg #[.bool t,.slice B m d,.slice B' m' d']] w fun e w'=>e=.returned (.tuple #[.agg #[.bool false,.slice none 0 0,.slice none 0 0],.int .i64 12])∧Below w.heap.size w w':=by
 obtain ⟨p,q,X,Q,rfl⟩:=X0
 obtain ⟨p2,q2,Y,R,rfl⟩:=Y0
 have HL0:Hid ((den1 q:Int)*p2=0):=by show _=_;rw [(mk_zero (den1_ne q2)).1 hu,Int.mul_zero]
 clear hu
 go_enter Tryz.func47,Tryz.ntmps47
 go_wp2_with fail
 generalize hW:World.alloc _ _=W
 obtain ⟨hb,XA,XB,Z,hzW⟩:=mkbx14_10 hW;clear hW;replace X:=X.below hb;replace Q:=Q.below hb;replace Y:=Y.below hb;replace R:=R.below hb;obtain ⟨xa0,xa1,xa2⟩:=XA.all;obtain ⟨xb0,xb1,xb2⟩:=XB.all
 go_wp2_with (first
  | (go_at_call 108;(with_reducible refine (rquot_q X Q Y R hk hkb h40 hk1 hk3).mono ?_);rintro e w_a ⟨s_x,A_x,n_x,c_x,s_y,A_y,n_y,c_y,rfl,x,y,hh⟩
     (try replace X:=X.below hh);(try replace Q:=Q.below hh);(try replace Y:=Y.below hh);(try replace R:=R.below hh);(try replace r:=r.below hh);(try replace XA:=XA.below hh);(try replace XB:=XB.below hh);(try replace Z:=Z.below hh);replace hb:=bend hb hh)
  | (go_at_call 25;(with_reducible refine (make_zero y (by omega) HL0.out).mono ?_);rintro e w_r ⟨rfl,hh⟩
     (try replace X:=X.below hh);(try replace Q:=Q.below hh);(try replace Y:=Y.below hh);(try replace R:=R.below hh);(try replace x:=x.below hh);(try replace y:=y.below hh);(try replace r:=r.below hh);(try replace XA:=XA.below hh);(try replace XB:=XB.below hh);(try replace Z:=Z.below hh);replace hb:=bend hb hh;have zf0:=Z.f0;have zf1:=Z.f1;have zf2:=Z.f2;obtain ⟨z0,z1,z2⟩:=Z.all))
 have Z2:=Z.set3 (.bool false) (.slice none 0 0) (.slice none 0 0)
 obtain ⟨g0,g1,g2⟩:=Z2.all
 refine bodyPost_ret (v:=.tuple #[.agg #[.bool false,.slice none 0 0,.slice none 0 0],.int .i64 12]) (by simp [results,Tryz.results47,go_sem,g0,g1,g2]) rfl ?_
 exact ⟨rfl,below_set3 hb (by omega) _ _ _⟩
end
section
open Go.RowKit
theorem txt_room {V k:Nat} (h:V < B32 ^ k) (hk:k≤900):¬ 9223372036854775807 < 1+(txt V).length:=by
 have h2:V < B64 ^ k:=Nat.lt_of_lt_of_le h (Nat.pow_le_pow_left (by decide) k)
 have:=txt_len h2 hk
 omega
theorem mkbx15_10 {w W:World} {x0 x1:Value} (h:(w.alloc (Obj.cells #[x0,x1] 35))=W):Below w.heap.size w W∧By W (w.heap.size) x0 x1∧W.heap.size=w.heap.size+1:=by subst h;exact ⟨by exact ((Below.refl _ _).alloc (Nat.le_refl _) _),by exact By.new w _ _,by simp⟩
theorem rtext2 {s:Bool} {A:Option Addr} {n c k:Nat} {v:Int} (X0:RG w s A n c v k) (hk9:k≤900) :
 Calls Tryz.prog 65 #[.agg #[.bool s,.slice A n c]] w fun e w'=>e=.returned (.string ⟨(ztxt v).toArray⟩)∧Below w.heap.size w w':=by
 obtain ⟨hs,X⟩:=X0
 have hk:k≤2000:=by omega
 have hroom:=txt_room X.lt hk9
 obtain ⟨V,hV⟩:∃ V,V=v.natAbs:=⟨_,rfl⟩
 rw [← hV] at X hroom
 cases s
 · have HZ : Hid (ztxt v = txt V) := by
     have hv:¬ v < 0:=by simpa using hs
     show _=_;rw [ztxt,if_neg hv,hV]
   clear hs hV
   go_enter Tryz.func65,Tryz.ntmps65
   go_wp2_with fail
   generalize hW:World.alloc _ _=W
   obtain ⟨hb,XA,hz⟩:=mkbx15_10 hW;clear hW;replace X:=X.below hb;obtain ⟨xa0,xa1⟩:=XA.all
   go_wp2_with (first
    | (go_at_call 67;(with_reducible refine (rtext_any X hk).mono ?_);rintro e w2 ⟨rfl,hh⟩
       replace hb:=bend hb hh))
   go_ret
   refine ⟨ret_eq ?_,hb⟩
   show Value.string ⟨(txt V).toArray⟩=_
   rw [HZ.out]
 · have HZ : Hid (ztxt v = 45 :: txt V) := by
     have hv:v < 0:=by simpa using hs
     show _=_;rw [ztxt,if_pos hv,hV]
   clear hs hV
   go_enter Tryz.func65,Tryz.ntmps65
   go_wp2_with fail
   generalize hW:World.alloc _ _=W
   obtain ⟨hb,XA,hz⟩:=mkbx15_10 hW;clear hW;replace X:=X.below hb;obtain ⟨xa0,xa1⟩:=XA.all
   go_wp2_with (first
    | (go_at_call 67;(with_reducible refine (rtext_any X hk).mono ?_);rintro e w2 ⟨rfl,hh⟩
       replace hb:=bend hb hh))
   go_ret
   refine ⟨ret_eq ?_,hb⟩
   show Value.string (⟨#[45]⟩ ++ ⟨(txt V).toArray⟩)=_
   rw [HZ.out]
   congr 1
theorem zneg_true {s:ByteArray} (h:zneg s.data.toList=true):∃ hp:0 < s.size,s[0].toNat=45∧(s.extract 1 s.size).data.toList=zdig s.data.toList:=by
 have hz:=Lib.size_eq s
 cases hl:s.data.toList with
 | nil=>rw [hl] at h;cases h
 | cons x l =>
   rw [hl] at h hz
   have hp:0 < s.size:=by rw [hz];simp
   have hx:x=45:=by
    have h2:((45:UInt8) == x && List.isPrefixOf [] l)=true:=h
    simp at h2;exact h2.symm
   subst hx
   have h0:s[0]=45:=by
    have:s.data.toList[0]?=some s[0]:=by rw [List.getElem?_eq_getElem (by rw [hl];simp)];rfl
    rw [hl] at this
    simpa using this.symm
   refine ⟨hp,by rw [h0];rfl,?_⟩
   have e1:zdig (45 :: l)=l:=by simp [zdig,Lib.trimPrefix,Lib.hasPrefix]
   rw [e1,ByteArray.data_extract,Array.toList_extract,hl,List.extract_eq_take_drop,List.drop_succ_cons,List.drop_zero,hz]
   simp
theorem zneg_false {s:ByteArray} (h:zneg s.data.toList=false) (hp:0 < s.size):((s[0].toNat:Int) == 45)=false:=by
 cases hl:s.data.toList with
 | nil =>
   have hz:=Lib.size_eq s;rw [hl] at hz;rw [hz] at hp
   exact absurd hp (by simp)
 | cons x l =>
   have h0:s[0]=x:=by
    have:s.data.toList[0]?=some s[0]:=by rw [List.getElem?_eq_getElem (by rw [hl];simp)];rfl
    rw [hl] at this
    simpa using this.symm
   have hx:x ≠ 45:=by
    intro e
    subst e
    rw [hl] at h
    have h2:((45:UInt8) == 45 && List.isPrefixOf [] l)=false:=h
    simp at h2
   have:s[0].toNat ≠ 45:=fun e=>hx (by rw [← h0];exact UInt8.toNat_inj.1 e)
   simp;omega
theorem zdig_false {l:List UInt8} (h:zneg l=false):zdig l=l:=by
 have:Lib.hasPrefix l [45]=false:=h
 unfold zdig Lib.trimPrefix
 rw [this];rfl
theorem below_set2' {B g:Nat} {w W:World} (h:Below B w W) (hg:B≤g) (x y:Value):Below B w ((W.setCell ⟨g,0,none⟩ x).setCell ⟨g,1,none⟩ y):=(h.setCell hg _).setCell hg _
theorem rparse2_tf (s:ByteArray) (w:World) (hs:s.size≤20000) (hn:zneg s.data.toList=true) (ht:isTextB (zdig s.data.toList)=false) :
 Calls Tryz.prog 56 #[.string s] w fun e w'=>e=.returned (.tuple #[.agg #[.bool false,.slice none 0 0],.int .i64 11])∧Below w.heap.size w w':=by
 obtain ⟨hp,h45,hD⟩:=zneg_true hn
 have e45:((s[0].toNat:Int) == 45)=true:=by simp;omega
 have h1s:(1:Int)≤(s.size:Int):=by omega
 have hDs:(s.extract 1 s.size).size≤20000:=by rw [ByteArray.size_extract];omega
 rw [← hD] at ht;have HT:=Lib.hid ht;clear ht hD hn h45
 go_enter Tryz.func56,Tryz.ntmps56
 go_wp2_with fail
 generalize hW:World.alloc _ _=W
 obtain ⟨hb,Z,hz⟩:=mkbx15_10 hW;clear hW
 go_wp2_with (first
  | (go_at_call 58;(with_reducible refine (rparse_no (s.extract 1 s.size) _ hDs HT.out).mono ?_);rintro e w' ⟨rfl,rfl⟩
     obtain ⟨r0,r1⟩:=Z.all;have r2:=Z.f0;have r3:=Z.f1))
 have hf0:=(Z.set2 (.bool false) (.slice none 0 0)).c0
 have hf1:=(Z.set2 (.bool false) (.slice none 0 0)).c1
 refine bodyPost_ret (v:=.tuple #[.agg #[.bool false,.slice none 0 0],.int .i64 11]) (by simp [results,Tryz.results56,go_sem,hf0,hf1]) rfl ?_
 exact ⟨rfl,below_set2' hb (Nat.le_refl _) _ _⟩
theorem rparse2_tz (s:ByteArray) (w:World) (hs:s.size≤20000) (hn:zneg s.data.toList=true) (ht:isTextB (zdig s.data.toList)=true) (hv:dec (zdig s.data.toList)=0) :
 Calls Tryz.prog 56 #[.string s] w fun e w'=>e=.returned (.tuple #[.agg #[.bool false,.slice none 0 0],.int .i64 11])∧Below w.heap.size w w':=by
 obtain ⟨hp,h45,hD⟩:=zneg_true hn
 have e45:((s[0].toNat:Int) == 45)=true:=by simp;omega
 have h1s:(1:Int)≤(s.size:Int):=by omega
 have hDs:(s.extract 1 s.size).size≤20000:=by rw [ByteArray.size_extract];omega
 rw [← hD] at ht hv
 have HT:=Lib.hid ht;have HV:=Lib.hid hv;clear ht hv hD hn h45
 go_enter Tryz.func56,Tryz.ntmps56
 go_wp2_with fail
 generalize hW:World.alloc _ _=W
 obtain ⟨hb,Z,hz⟩:=mkbx15_10 hW;clear hW
 go_wp2_with (first
  | (go_at_call 58;(with_reducible refine (rparse_yes (s.extract 1 s.size) _ hDs HT.out).mono ?_);rintro e w' ⟨A_x,n_x,c_x,rfl,x,hh⟩
     rw [HV.out] at x
     obtain rfl:n_x=0:=by (have:=x.1.1;rw [limbs_zero] at this;exact this.symm)
     replace Z:=Z.below hh;replace hb:=bend hb hh;obtain ⟨r0,r1⟩:=Z.all;have r2:=Z.f0;have r3:=Z.f1))
 have hf0:=(Z.set2 (.bool false) (.slice none 0 0)).c0
 have hf1:=(Z.set2 (.bool false) (.slice none 0 0)).c1
 refine bodyPost_ret (v:=.tuple #[.agg #[.bool false,.slice none 0 0],.int .i64 11]) (by simp [results,Tryz.results56,go_sem,hf0,hf1]) rfl ?_
 exact ⟨rfl,below_set2' hb (Nat.le_refl _) _ _⟩
theorem rparse2_ff0 (s:ByteArray) (w:World) (hs:s.size≤20000) (hp:¬ 0 < s.size) (ht:isTextB s.data.toList=false) :
 Calls Tryz.prog 56 #[.string s] w fun e w'=>e=.returned (.tuple #[.agg #[.bool false,.slice none 0 0],.int .i64 11])∧Below w.heap.size w w':=by
 have hz:s.size=0:=by omega
 have hDs:=hs;have HT:=Lib.hid ht;clear ht
 go_enter Tryz.func56,Tryz.ntmps56
 go_wp2_with fail
 generalize hW:World.alloc _ _=W
 obtain ⟨hb,Z,hz⟩:=mkbx15_10 hW;clear hW
 go_wp2_with (first
  | (go_at_call 58;(with_reducible refine (rparse_no s _ hDs HT.out).mono ?_);rintro e w' ⟨rfl,rfl⟩
     obtain ⟨r0,r1⟩:=Z.all;have r2:=Z.f0;have r3:=Z.f1))
 have hf0:=(Z.set2 (.bool false) (.slice none 0 0)).c0
 have hf1:=(Z.set2 (.bool false) (.slice none 0 0)).c1
 refine bodyPost_ret (v:=.tuple #[.agg #[.bool false,.slice none 0 0],.int .i64 11]) (by simp [results,Tryz.results56,go_sem,hf0,hf1]) rfl ?_
 exact ⟨rfl,below_set2' hb (Nat.le_refl _) _ _⟩
theorem rparse2_ff1 (s:ByteArray) (w:World) (hs:s.size≤20000) (hn:zneg s.data.toList=false) (hp:0 < s.size) (ht:isTextB s.data.toList=false) :
 Calls Tryz.prog 56 #[.string s] w fun e w'=>e=.returned (.tuple #[.agg #[.bool false,.slice none 0 0],.int .i64 11])∧Below w.heap.size w w':=by
 have e45:=zneg_false hn hp;have hDs:=hs;have HT:=Lib.hid ht;clear ht hn
 go_enter Tryz.func56,Tryz.ntmps56
 go_wp2_with fail
 generalize hW:World.alloc _ _=W
 obtain ⟨hb,Z,hz⟩:=mkbx15_10 hW;clear hW
 go_wp2_with (first
  | (go_at_call 58;(with_reducible refine (rparse_no s _ hDs HT.out).mono ?_);rintro e w' ⟨rfl,rfl⟩
     obtain ⟨r0,r1⟩:=Z.all;have r2:=Z.f0;have r3:=Z.f1))
 have hf0:=(Z.set2 (.bool false) (.slice none 0 0)).c0
 have hf1:=(Z.set2 (.bool false) (.slice none 0 0)).c1
 refine bodyPost_ret (v:=.tuple #[.agg #[.bool false,.slice none 0 0],.int .i64 11]) (by simp [results,Tryz.results56,go_sem,hf0,hf1]) rfl ?_
 exact ⟨rfl,below_set2' hb (Nat.le_refl _) _ _⟩
theorem rparse2_ty (s:ByteArray) (w:World) (hs:s.size≤20000) (hn:zneg s.data.toList=true) (ht:isTextB (zdig s.data.toList)=true) (hv:dec (zdig s.data.toList) ≠ 0) :
 Calls Tryz.prog 56 #[.string s] w fun e w'=>∃ b A n c,e=.returned (.tuple #[.agg #[.bool b,.slice A n c],.int .i64 0])∧RG w' b A n c (iv true (dec (s.extract 1 s.size).data.toList)) 2500∧Below w.heap.size w w':=by
 obtain ⟨hp,h45,hD⟩:=zneg_true hn
 have e45:((s[0].toNat:Int) == 45)=true:=by simp;omega
 have h1s:(1:Int)≤(s.size:Int):=by omega
 have hDs:(s.extract 1 s.size).size≤20000:=by rw [ByteArray.size_extract];omega
 rw [← hD] at ht hv
 have HT:=Lib.hid ht;have HV:=Lib.hid hv;clear ht hv hD hn h45
 go_enter Tryz.func56,Tryz.ntmps56
 go_wp2_with fail
 generalize hW:World.alloc _ _=W
 obtain ⟨hb,Z,hz⟩:=mkbx15_10 hW;clear hW
 go_wp2_with (first
  | (go_at_call 58;(with_reducible refine (rparse_yes (s.extract 1 s.size) _ hDs HT.out).mono ?_);rintro e w' ⟨A_x,n_x,c_x,rfl,x,hh⟩
     have hnp:0 < n_x:=by
      have:=x.1.1
      rw [limbs_pos B32_two HV.out] at this
      simp at this;omega
     have hnz:((n_x:Int) == 0)=false:=by (simp;omega)
     clear hnp;replace Z:=Z.below hh;replace hb:=bend hb hh)
  | (go_at_call 120;(with_reducible refine (made_any _ _ _ _ _).mono ?_);rintro e w_m ⟨rfl,hh⟩
     (try replace X:=X.below hh);(try replace Y:=Y.below hh);(try replace x:=x.below hh);(try replace XA:=XA.below hh);(try replace XB:=XB.below hh);(try replace Z:=Z.below hh);(try replace T:=T.below hh);replace hb:=bend hb hh;obtain ⟨r0,r1⟩:=Z.all;have r2:=Z.f0;have r3:=Z.f1))
 have hf0:=(Z.set2 (.bool (true && decide (0 < n_x))) (.slice A_x n_x c_x)).c0
 have hf1:=(Z.set2 (.bool (true && decide (0 < n_x))) (.slice A_x n_x c_x)).c1
 simp only [Bool.true_and] at hf0 hf1
 refine bodyPost_ret (v:=.tuple #[.agg #[.bool (true && decide (0 < n_x)),.slice A_x n_x c_x],.int .i64 0]) (by simp [results,Tryz.results56,go_sem,hf0,hf1]) rfl ?_
 obtain ⟨b,A1,n1,c1,he,hg,hB⟩:=close_rz (s:=true) (v:=iv true (dec (s.extract 1 s.size).data.toList)) (g:=w.heap.size) hb (Nat.le_refl _) Z x rfl (.bool (true && decide (0 < n_x))) (.slice A_x n_x c_x)
 have e:=Ending.returned.inj he;rw [e]
 exact ⟨b,A1,n1,c1,rfl,by simpa using hg,by simpa using hB⟩
theorem rparse2_fy (s:ByteArray) (w:World) (hs:s.size≤20000) (hn:zneg s.data.toList=false) (hp:0 < s.size) (ht:isTextB s.data.toList=true) :
 Calls Tryz.prog 56 #[.string s] w fun e w'=>∃ b A n c,e=.returned (.tuple #[.agg #[.bool b,.slice A n c],.int .i64 0])∧RG w' b A n c (iv false (dec s.data.toList)) 2500∧Below w.heap.size w w':=by
 have e45:=zneg_false hn hp;have hDs:=hs;have HT:=Lib.hid ht;clear ht hn
 go_enter Tryz.func56,Tryz.ntmps56
 go_wp2_with fail
 generalize hW:World.alloc _ _=W
 obtain ⟨hb,Z,hz⟩:=mkbx15_10 hW;clear hW
 go_wp2_with (first
  | (go_at_call 58;(with_reducible refine (rparse_yes s _ hDs HT.out).mono ?_);rintro e w' ⟨A_x,n_x,c_x,rfl,x,hh⟩
     replace Z:=Z.below hh;replace hb:=bend hb hh)
  | (go_at_call 120;(with_reducible refine (made_any _ _ _ _ _).mono ?_);rintro e w_m ⟨rfl,hh⟩
     (try replace X:=X.below hh);(try replace Y:=Y.below hh);(try replace x:=x.below hh);(try replace XA:=XA.below hh);(try replace XB:=XB.below hh);(try replace Z:=Z.below hh);(try replace T:=T.below hh);replace hb:=bend hb hh;obtain ⟨r0,r1⟩:=Z.all;have r2:=Z.f0;have r3:=Z.f1))
 have hf0:=(Z.set2 (.bool (false && decide (0 < n_x))) (.slice A_x n_x c_x)).c0
 have hf1:=(Z.set2 (.bool (false && decide (0 < n_x))) (.slice A_x n_x c_x)).c1
 simp only [Bool.false_and] at hf0 hf1
 refine bodyPost_ret (v:=.tuple #[.agg #[.bool (false && decide (0 < n_x)),.slice A_x n_x c_x],.int .i64 0]) (by simp [results,Tryz.results56,go_sem,hf0,hf1]) rfl ?_
 obtain ⟨b,A1,n1,c1,he,hg,hB⟩:=close_rz (s:=false) (v:=iv false (dec s.data.toList)) (g:=w.heap.size) hb (Nat.le_refl _) Z x rfl (.bool (false && decide (0 < n_x))) (.slice A_x n_x c_x)
 have e:=Ending.returned.inj he;rw [e]
 exact ⟨b,A1,n1,c1,rfl,by simpa using hg,by simpa using hB⟩
theorem rparse2_no (s:ByteArray) (w:World) (hs:s.size≤20000) (hz:zbad s.data.toList=true) :
 Calls Tryz.prog 56 #[.string s] w fun e w'=>e=.returned (.tuple #[.agg #[.bool false,.slice none 0 0],.int .i64 11])∧Below w.heap.size w w':=by
 unfold zbad at hz
 cases hn:zneg s.data.toList with
 | true =>
   rw [hn] at hz
   cases ht:isTextB (zdig s.data.toList) with
   | false=>exact rparse2_tf s w hs hn ht
   | true=>exact rparse2_tz s w hs hn ht (by rw [ht] at hz;simpa using hz)
 | false =>
   rw [hn,zdig_false hn] at hz
   have ht:isTextB s.data.toList=false:=by cases h:isTextB s.data.toList <;> simp_all
   by_cases hp:0 < s.size
   · exact rparse2_ff1 s w hs hn hp ht
   · exact rparse2_ff0 s w hs hp ht
theorem rparse2_yes (s:ByteArray) (w:World) (hs:s.size≤20000) (hz:zbad s.data.toList=false) :
 Calls Tryz.prog 56 #[.string s] w fun e w'=>∃ b A n c,e=.returned (.tuple #[.agg #[.bool b,.slice A n c],.int .i64 0])∧RG w' b A n c (zval s.data.toList) 2500∧Below w.heap.size w w':=by
 unfold zbad at hz
 unfold zval
 cases hn:zneg s.data.toList with
 | true =>
   rw [hn] at hz
   have ht:isTextB (zdig s.data.toList)=true:=by cases h:isTextB (zdig s.data.toList) <;> simp_all
   obtain ⟨hp,h45,hD⟩:=zneg_true hn
   have h:=rparse2_ty s w hs hn ht (by intro h;rw [ht,h] at hz;simp at hz)
   rw [hD] at h
   exact h
 | false =>
   have h0:=hz
   rw [hn,zdig_false hn] at hz
   have ht:isTextB s.data.toList=true:=by cases h:isTextB s.data.toList <;> simp_all
   have hp:0 < s.size:=by
    refine Nat.pos_of_ne_zero fun h=>?_
    have hl:s.data.toList=[]:=List.eq_nil_of_length_eq_zero (by rw [← Lib.size_eq s];exact h)
    rw [hl] at ht;cases ht
   rw [zdig_false hn]
   exact rparse2_fy s w hs hn hp ht
end
section
open Go Go.RowKit
theorem rof_q (p q:Int) (hp1:-9223372036854775808≤p) (hp2:p < 9223372036854775808) (hq1:-9223372036854775808≤q) (hq2:q < 9223372036854775808) (hq0:((q:Int) == 0)=false) (w:World) :
 Calls Tryz.prog 23 #[.int .i64 p,.int .i64 q] w (GivesQ w (Rat.divInt p q) 1):=by
 have hq:q ≠ 0:=by simpa using hq0
 have HQ:=Lib.hid hq;have H1:=Lib.hid hp1;have H2:=Lib.hid hp2;have H3:=Lib.hid hq1;have H4:=Lib.hid hq2;clear hq hp1 hp2 hq1 hq2
 go_enter Tryz.func23,Tryz.ntmps23
 go_wp2_with fail
 generalize hW:World.alloc _ _=W
 obtain ⟨hb,Z,hzW⟩:=mkbx9_9 hW;clear hW
 go_upto_region 4 with (first
  | (go_at_call 27;(with_reducible refine (zof_zr p H1.out H2.out _).mono ?_);rintro e w_x ⟨s_x,A_x,n_x,c_x,rfl,x,hh⟩
     (try replace y:=y.below hh);(try replace r:=r.below hh);(try replace Z:=Z.below hh);replace hb:=bend hb hh)
  | (go_at_call 27;(with_reducible refine (zof_zr q H3.out H4.out _).mono ?_);rintro e w_y ⟨s_y,A_y,n_y,c_y,rfl,y,hh⟩
     (try replace x:=x.below hh);(try replace r:=r.below hh);(try replace Z:=Z.below hh);replace hb:=bend hb hh)
  | (go_at_call 25;(with_reducible refine (make_zr 1 x y (by omega) (by omega) HQ.out (Nat.le_refl _) (Nat.le_refl _)).mono ?_);rintro e w_r ⟨s_r,A_r,n_r,c_r,B_r,m_r,d_r,rfl,r,hh⟩
     (try replace x:=x.below hh);(try replace y:=y.below hh);(try replace Z:=Z.below hh);replace hb:=bend hb hh))
 generalize hW:World.alloc _ _=W2
 obtain ⟨hh,R,hzW2⟩:=mkbx9_9 hW;clear hW;(try replace r:=r.below hh);(try replace Z:=Z.below hh);replace hb:=bend hb hh;obtain ⟨r0,r1,r2⟩:=R.all;have zf0:=Z.f0;have zf1:=Z.f1;have zf2:=Z.f2;obtain ⟨z0,z1,z2⟩:=Z.all
 go_wp2_with fail
 have Z2:=Z.set3 (.bool s_r) (.slice A_r n_r c_r) (.slice B_r m_r d_r)
 obtain ⟨g0,g1,g2⟩:=Z2.all
 refine bodyPost_ret (v:=.agg #[.bool s_r,.slice A_r n_r c_r,.slice B_r m_r d_r]) (by simp [results,Tryz.results23,go_sem,g0,g1,g2]) rfl ?_
 exact ⟨s_r,A_r,n_r,c_r,B_r,m_r,d_r,rfl,r.set3 Z _ _ _,below_set3 hb (by omega) _ _ _⟩
theorem ba_app3 (a b:List UInt8):((⟨a.toArray⟩ ++ ⟨#[47]⟩) ++ ⟨b.toArray⟩:ByteArray)=⟨(a ++ (47 :: b)).toArray⟩:=by
 apply ByteArray.ext
 simp [ByteArray.data_append]
def qtxt (v:Rat):List UInt8:=if v.den=1 then ztxt v.num else ztxt v.num ++ (47 :: txt v.den)
theorem ztxt_le {v:Int} {k:Nat} (hv:v.natAbs < B64 ^ k) (hk:k≤800):(ztxt v).length≤20001:=by
 have:=txt_len hv (show k≤900 by omega)
 unfold ztxt
 split
 · rw [List.length_cons];omega
 · omega
theorem ZR.nab' {s:Bool} {A:Option Addr} {n c k:Nat} {v:Int} (h:ZR w s A n c v k):v.natAbs < B64 ^ k:=by
 obtain ⟨l,h1,h2,h3,h4,h5,h6⟩:=h
 exact h6
theorem QG.num_lt {s:Bool} {A A':Option Addr} {n c n' c' k:Nat} {v:Rat} (h:QG w s A n c A' n' c' v k):v.num.natAbs < B64 ^ k:=h.1.zr.nab'
theorem QG.den_lt {s:Bool} {A A':Option Addr} {n c n' c' k:Nat} {v:Rat} (h:QG w s A n c A' n' c' v k):v.den < B64 ^ k:=h.2.nr.lt
theorem rtext_one {s:Bool} {A A':Option Addr} {n c n' c' k:Nat} {v:Rat} (X0:QR w s A n c A' n' c' v k) (hk:k≤78) (hk1:1≤k) (hd:v.den=1) :
 Calls Tryz.prog 15 #[.agg #[.bool s,.slice A n c,.slice A' n' c']] w fun e w'=>e=.returned (.string ⟨(qtxt v).toArray⟩)∧Below w.heap.size w w':=by
 obtain ⟨p,q,X,Q,rfl⟩:=X0
 have HE:Hid (Rat.divInt p (den1 q:Int)=mkRat p (den1 q)):=Rat.divInt_ofNat _ _
 have HD:Hid (decide ((mkRat p (den1 q)).den=1)=true):=decide_eq_true hd
 have HQ:Hid (qtxt (mkRat p (den1 q))=ztxt (mkRat p (den1 q)).num):=if_pos hd
 clear hd
 go_enter Tryz.func15,Tryz.ntmps15
 go_wp2_with fail
 generalize hW:World.alloc _ _=W
 obtain ⟨hb,XA,hzW⟩:=mkbx9_9 hW;clear hW;replace X:=X.below hb;replace Q:=Q.below hb;obtain ⟨xa0,xa1,xa2⟩:=XA.all
 go_upto_region 2 with (first
  | (go_at_call 62;(with_reducible refine (parts_any X Q (by omega) hk1).mono ?_);rintro e w_p ⟨s_x,A_x,n_x,c_x,s_y,A_y,n_y,c_y,rfl,x,y,hh⟩
     (try replace X:=X.below hh);(try replace Q:=Q.below hh);(try replace r:=r.below hh);(try replace XA:=XA.below hh);replace hb:=bend hb hh)
  | (go_at_call 61;(with_reducible refine (by_zr k x y (by omega) (by omega) (den1_i q) (Nat.le_refl _) (Nat.le_refl _)).mono ?_);rintro e w_r ⟨s_r,A_r,n_r,c_r,B_r,m_r,d_r,rfl,r,hh⟩
     rw [HE.out] at r;(try replace X:=X.below hh);(try replace Q:=Q.below hh);(try replace x:=x.below hh);(try replace y:=y.below hh);(try replace XA:=XA.below hh);replace hb:=bend hb hh;have zf0:=XA.f0;have zf1:=XA.f1;have zf2:=XA.f2;obtain ⟨z0,z1,z2⟩:=XA.all))
 generalize hW:((w_r.setCell ⟨w.heap.size,0,none⟩ (.bool s_r)).setCell ⟨w.heap.size,1,none⟩ (.slice A_r n_r c_r)).setCell ⟨w.heap.size,2,none⟩ (.slice B_r m_r d_r)=W1
 replace r:QG W1 s_r A_r n_r c_r B_r m_r d_r (mkRat p (den1 q)) k:=by subst hW;exact r.set3 XA _ _ _
 replace hb:Below w.heap.size w W1:=by subst hW;exact below_set3 hb (Nat.le_refl _) _ _ _
 have XA3:B3 W1 w.heap.size (.bool s_r) (.slice A_r n_r c_r) (.slice B_r m_r d_r):=by subst hW;exact XA.set3 _ _ _
 clear hW XA;have XA:=XA3;clear XA3;obtain ⟨xa0,xa1,xa2⟩:=XA.all;have HR2:=Lib.hid r.2.nr;have r1:=r.1.zr
 go_wp2_with (first
  | (go_at_call 63;(with_reducible refine (isone_nr HR2.out (by omega)).mono ?_);rintro e w_o ⟨rfl,rfl⟩;rw [HD.out])
  | (go_at_call 48;(with_reducible refine (ztext_zr r1 (by omega)).mono ?_);rintro e w_z ⟨rfl,hh⟩
     (try replace X:=X.below hh);(try replace Q:=Q.below hh);(try replace x:=x.below hh);(try replace y:=y.below hh);(try replace r:=r.below hh);(try replace XA:=XA.below hh);replace hb:=bend hb hh))
 go_ret;rw [HQ.out];exact ⟨rfl,hb⟩
theorem rtext_frac {s:Bool} {A A':Option Addr} {n c n' c' k:Nat} {v:Rat} (X0:QR w s A n c A' n' c' v k) (hk:k≤78) (hk1:1≤k) (hd:¬ v.den=1) :
 Calls Tryz.prog 15 #[.agg #[.bool s,.slice A n c,.slice A' n' c']] w fun e w'=>e=.returned (.string ⟨(qtxt v).toArray⟩)∧Below w.heap.size w w':=by
 obtain ⟨p,q,X,Q,rfl⟩:=X0
 have HE:Hid (Rat.divInt p (den1 q:Int)=mkRat p (den1 q)):=Rat.divInt_ofNat _ _
 have HD:Hid (decide ((mkRat p (den1 q)).den=1)=false):=decide_eq_false hd
 have HQ:Hid (qtxt (mkRat p (den1 q))=ztxt (mkRat p (den1 q)).num ++ (47 :: txt (mkRat p (den1 q)).den)):=if_neg hd
 clear hd
 go_enter Tryz.func15,Tryz.ntmps15
 go_wp2_with fail
 generalize hW:World.alloc _ _=W
 obtain ⟨hb,XA,hzW⟩:=mkbx9_9 hW;clear hW;replace X:=X.below hb;replace Q:=Q.below hb;obtain ⟨xa0,xa1,xa2⟩:=XA.all
 go_upto_region 2 with (first
  | (go_at_call 62;(with_reducible refine (parts_any X Q (by omega) hk1).mono ?_);rintro e w_p ⟨s_x,A_x,n_x,c_x,s_y,A_y,n_y,c_y,rfl,x,y,hh⟩
     (try replace X:=X.below hh);(try replace Q:=Q.below hh);(try replace r:=r.below hh);(try replace XA:=XA.below hh);replace hb:=bend hb hh)
  | (go_at_call 61;(with_reducible refine (by_zr k x y (by omega) (by omega) (den1_i q) (Nat.le_refl _) (Nat.le_refl _)).mono ?_);rintro e w_r ⟨s_r,A_r,n_r,c_r,B_r,m_r,d_r,rfl,r,hh⟩
     rw [HE.out] at r;(try replace X:=X.below hh);(try replace Q:=Q.below hh);(try replace x:=x.below hh);(try replace y:=y.below hh);(try replace XA:=XA.below hh);replace hb:=bend hb hh;have zf0:=XA.f0;have zf1:=XA.f1;have zf2:=XA.f2;obtain ⟨z0,z1,z2⟩:=XA.all))
 generalize hW:((w_r.setCell ⟨w.heap.size,0,none⟩ (.bool s_r)).setCell ⟨w.heap.size,1,none⟩ (.slice A_r n_r c_r)).setCell ⟨w.heap.size,2,none⟩ (.slice B_r m_r d_r)=W1
 replace r:QG W1 s_r A_r n_r c_r B_r m_r d_r (mkRat p (den1 q)) k:=by subst hW;exact r.set3 XA _ _ _
 replace hb:Below w.heap.size w W1:=by subst hW;exact below_set3 hb (Nat.le_refl _) _ _ _
 have XA3:B3 W1 w.heap.size (.bool s_r) (.slice A_r n_r c_r) (.slice B_r m_r d_r):=by subst hW;exact XA.set3 _ _ _
 clear hW XA;have XA:=XA3;clear XA3;obtain ⟨xa0,xa1,xa2⟩:=XA.all;have HR2:=Lib.hid r.2.nr;have r1:=r.1.zr
 have l1:=ztxt_le r.num_lt (show k≤800 by omega)
 have l2:=txt_len r.den_lt (show k≤900 by omega)
 have hs1:¬ 9223372036854775807 < (ztxt (mkRat p (den1 q)).num).length+1:=by omega
 have hs2:¬ 9223372036854775807 < (ztxt (mkRat p (den1 q)).num).length+1+(txt (mkRat p (den1 q)).den).length:=by omega
 clear l1 l2
 go_upto_region 4 with (first
  | (go_at_call 63;(with_reducible refine (isone_nr HR2.out (by omega)).mono ?_);rintro e w_o ⟨rfl,rfl⟩;rw [HD.out]))
 replace r:=r.below (Below.refl _ _).drew
 replace r1:=r1.below (Below.refl _ _).drew
 replace XA:=XA.below (Below.refl _ _).drew
 have r2:=r.2.nr.more hk;replace hb:=hb.drew
 go_region_held3 (fun w'=>w'.cell? ⟨w.heap.size,0,none⟩=some (.bool s_r)∧w'.cell? ⟨w.heap.size,1,none⟩=some (.slice A_r n_r c_r)∧w'.cell? ⟨w.heap.size,2,none⟩=some (.slice B_r m_r d_r))
  (first | with_reducible exact ⟨XA.c0,XA.c1,XA.c2⟩)
  (first
  | (go_at_call 48;(with_reducible refine (ztext_zr r1 (by omega)).mono ?_);rintro e w_z ⟨rfl,hh⟩
     (try replace r:=r.below hh);(try replace r2:=r2.below hh);(try replace XA:=XA.below hh);replace hb:=bend hb hh)
  | (go_at_call 64;(with_reducible refine (text_nr r2).mono ?_);rintro e w_z ⟨rfl,hh⟩
     (try replace r:=r.below hh);(try replace XA:=XA.below hh);replace hb:=bend hb hh))
 go_wp2_with fail
 go_ret
 refine ⟨?_,hb⟩
 rw [HQ.out]
 refine ret_eq ?_
 show Value.string ((⟨(ztxt (mkRat p (den1 q)).num).toArray⟩ ++ ⟨#[47]⟩) ++ ⟨(txt (mkRat p (den1 q)).den).toArray⟩)=_
 rw [ba_app3]
theorem rtext_q {s:Bool} {A A':Option Addr} {n c n' c' k:Nat} {v:Rat} (X0:QR w s A n c A' n' c' v k) (hk:k≤78) (hk1:1≤k) :
 Calls Tryz.prog 15 #[.agg #[.bool s,.slice A n c,.slice A' n' c']] w fun e w'=>e=.returned (.string ⟨(qtxt v).toArray⟩)∧Below w.heap.size w w':=by
 by_cases hd:v.den=1
 · exact rtext_one X0 hk hk1 hd
 · exact rtext_frac X0 hk hk1 hd
theorem mkbx16_10 {w W:World} {x0 x1:Value} (h:(w.alloc (Obj.cells #[x0,x1] 24))=W):Below w.heap.size w W∧Bx W (w.heap.size) x0 x1∧W.heap.size=w.heap.size+1:=by subst h;exact ⟨by exact ((Below.refl _ _).alloc (Nat.le_refl _) _),by exact Bx.new' _ _ _ _ rfl,by simp⟩
theorem coprime_q {s:Bool} {A B:Option Addr} {n c m d k q:Nat} {p:Int} (X:ZR w s A n c p k) (Y:NR w B m d q k) (hk:k≤1000) :
 Calls Tryz.prog 55 #[.agg #[.bool s,.slice A n c],.slice B m d] w fun e w'=>e=.returned (.bool (decide (Nat.gcd p.natAbs q=1)))∧Below w.heap.size w w':=by
 go_enter Tryz.func55,Tryz.ntmps55
 go_wp2_with fail
 generalize hW:World.alloc _ _=W
 obtain ⟨hb,XA,hzW⟩:=mkbx16_10 hW;clear hW;replace X:=X.below hb;replace Y:=Y.below hb;obtain ⟨xa0,xa1⟩:=XA.all;have X1:=X.nr
 go_wp2_with (first
  | (go_at_call 119;(with_reducible refine (gcd_nr X1 Y (by omega)).mono ?_);rintro e w_g ⟨A_g,n_g,c_g,rfl,g,hh⟩
     (try replace XA:=XA.below hh);replace hb:=bend hb hh)
  | (go_at_call 63;(with_reducible refine (isone_nr g.nr (by omega)).mono ?_);rintro e w_o ⟨rfl,rfl⟩))
 go_ret;exact ⟨rfl,hb⟩
theorem goodZ_good {v:Int}:goodZ (decide (v < 0)) (limbs B64 v.natAbs)=true:=by
 unfold goodZ goodB
 have h1:=limbs_last B64_two v.natAbs
 have h2:(limbs B64 v.natAbs).length=0→v.natAbs=0:=fun h=>by
  have:=limbs_val B64_two (lim_limbs B64_two v.natAbs) h1
  by_cases h0:v.natAbs=0
  · exact h0
  · rw [limbs_pos B64_two h0] at h;simp at h
 have h3:((limbs B64 v.natAbs).getLast? != some 0)=true:=by simpa using h1
 rw [h3,Bool.true_and]
 by_cases h:v < 0
 · have:¬ (limbs B64 v.natAbs).length=0:=fun q=>by have:=h2 q;omega
   simp [h,this]
 · simp [h]
theorem rgood_q {s:Bool} {A A':Option Addr} {n c n' c' k:Nat} {v:Rat} (r:QG w s A n c A' n' c' v k) (hk:k≤900) :
 Calls Tryz.prog 24 #[.agg #[.bool s,.slice A n c,.slice A' n' c']] w fun e w'=>e=.returned (.bool true)∧Below w.heap.size w w':=by
 have hs:s=decide (v.num < 0):=r.1.1
 subst hs
 have HG:Hid (goodZ (decide (v.num < 0)) (limbs B64 v.num.natAbs)=true):=goodZ_good
 have HB:Hid (goodB (limbs B64 v.den)=true):=by show _=true;unfold goodB;simpa using limbs_last B64_two v.den
 have HC:Hid (decide (Nat.gcd v.num.natAbs v.den=1)=true):=decide_eq_true v.reduced
 have hpos:(0:Int) < (n':Int):=by have:=r.2.pos v.den_nz;omega
 have HN1:Hid (n≤maxLen):=by have:=r.1.2.2.2;show n≤maxLen;unfold maxLen;omega
 have HN2:Hid (n'≤maxLen):=by have:=r.2.le;show n'≤maxLen;unfold maxLen;omega
 go_enter Tryz.func24,Tryz.ntmps24
 go_wp2_with fail
 generalize hW:World.alloc _ _=W
 obtain ⟨hb,XA,hzW⟩:=mkbx9_9 hW;clear hW;replace r:=r.below hb;obtain ⟨xa0,xa1,xa2⟩:=XA.all;have r1:=r.1.2.1;have r2:=r.2.rd;have r3:=r.1.zr;have r4:=r.2.nr
 go_wp2_with (first
  | (go_at_call 74;(with_reducible refine (zgood_any _ _ A n c _ r1 HN1.out).mono ?_);rintro e w_z ⟨rfl,hh⟩
     rw [HG.out];(try replace X:=X.below hh);(try replace r:=r.below hh);(try replace r1:=r1.below hh);(try replace r2:=r2.below hh);(try replace r3:=r3.below hh);(try replace r4:=r4.below hh);(try replace XA:=XA.below hh);replace hb:=bend hb hh;obtain ⟨xa0,xa1,xa2⟩:=XA.all)
  | (go_at_call 75;(with_reducible refine (good_any _ A' n' c' _ r2 HN2.out).mono ?_);rintro e w_o ⟨rfl,rfl⟩;rw [HB.out])
  | (go_at_call 55;(with_reducible refine (coprime_q r3 r4 (by omega)).mono ?_);rintro e w_z ⟨rfl,hh⟩
     rw [HC.out];(try replace X:=X.below hh);(try replace r:=r.below hh);(try replace r1:=r1.below hh);(try replace r2:=r2.below hh);(try replace r3:=r3.below hh);(try replace r4:=r4.below hh);(try replace XA:=XA.below hh);replace hb:=bend hb hh;obtain ⟨xa0,xa1,xa2⟩:=XA.all))
 go_ret;exact ⟨rfl,hb⟩
end
section
open Go Go.RowKit
theorem lcut_hit (s:ByteArray) (i:Nat) (hi:Lib.indexByte s.data.toList 47=(i:Int)) (hlt:i < s.size) (hm:s.size≤maxLen) (w:World) :
 Calls Tryz.prog 111 #[.string s,.string ⟨#[47]⟩] w fun e w'=>e=.returned (.tuple #[.string (s.extract 0 i),.string (s.extract (i+1) s.size),.bool true])∧∃ n,w'=w.drewN n:=by
 unfold maxLen at hm
 have c1:(0:Int)≤(i:Int):=by omega
 have c2:(i:Int)≤(s.size:Int):=by omega
 have c3:(0:Int)≤(i:Int)+1:=by omega
 have c4:(i:Int)+1≤(s.size:Int):=by omega
 have c5:IntKind.i64.wrap ((i:Int)+1)=(i:Int)+1:=IntWalk.i64_in _ (by omega)
 have c6:((i:Int)+1).toNat=i+1:=by omega
 have HI:=Lib.hid hi;clear hi
 go_enter Tryz.func111,Tryz.ntmps111
 go_wp2_with (go_at_call 163;((with_reducible refine (Tryz.stringslite_Index_one s 47 _).mono ?_);rintro e w' ⟨rfl,rfl⟩;rw [HI.out]))
 go_region
 go_wp2_with fail
 go_ret3
 exact ⟨rfl,1,rfl⟩
theorem scut_hit (s:ByteArray) (i:Nat) (hi:Lib.indexByte s.data.toList 47=(i:Int)) (hlt:i < s.size) (hm:s.size≤maxLen) (w:World) :
 Calls Tryz.prog 50 #[.string s,.string ⟨#[47]⟩] w fun e w'=>e=.returned (.tuple #[.string (s.extract 0 i),.string (s.extract (i+1) s.size),.bool true])∧∃ n,w'=w.drewN n:=by
 go_enter Tryz.func50,Tryz.ntmps50
 go_wp2_with (go_at_call 111;((with_reducible refine (lcut_hit s i hi hlt hm _).mono ?_);rintro e w' ⟨rfl,n,rfl⟩))
 go_ret3
 exact ⟨rfl,n,rfl⟩
theorem rparse_hit (s:ByteArray) (i k:Nat) (w:World) (hs:s.size≤20000) (hi:Lib.indexByte s.data.toList 47=(i:Int)) (hlt:i < s.size)
 (hz:zbad (s.extract 0 i).data.toList=false) (ht:isTextB (s.extract (i+1) s.size).data.toList=true)
 (p:Int) (hp:zval (s.extract 0 i).data.toList=p) (hpk:p.natAbs < B64 ^ k)
 (q:Nat) (hq:dec (s.extract (i+1) s.size).data.toList=q) (hqk:q < B64 ^ k) (hq2:2≤q) (hg:Nat.gcd p.natAbs q=1) (hs1:(s.extract 0 i).size≤20000) (hs2:(s.extract (i+1) s.size).size≤20000) (hk:k≤900) :
 Calls Tryz.prog 12 #[.string s] w (GivesQE w (mkRat p q) k):=by
 have hle:¬ (20000:Int) < (s.size:Int):=by omega
 have HM:Hid (s.size≤maxLen):=by show s.size≤maxLen;unfold maxLen;omega
 have HI:=Lib.hid hi;have HLT:=Lib.hid hlt;have HZ:=Lib.hid hz;have HT:=Lib.hid ht;have HP:=Lib.hid hp;have HPK:=Lib.hid hpk;have HQ:=Lib.hid hq;have HQK:=Lib.hid hqk
 have HG:Hid (decide (Nat.gcd p.natAbs q=1)=true):=decide_eq_true hg
 have HGG:=Lib.hid hg
 have hbl:¬ ((bl q:Nat):Int) < 2:=by
  have h1:=bl_mono hq2
  rw [show bl 2=2 from bl_eq (k:=1) (by decide) (by decide)] at h1
  omega
 have HB:=Lib.hid hbl
 have HQ0:Hid (q ≠ 0):=by show q ≠ 0;omega
 have HS1:=Lib.hid hs1;have HS2:=Lib.hid hs2
 obtain ⟨u1,hu1⟩:∃ u,s.extract 0 i=u:=⟨_,rfl⟩
 obtain ⟨u2,hu2⟩:∃ u,s.extract (i+1) s.size=u:=⟨_,rfl⟩
 rw [hu1] at HZ HP HS1
 rw [hu2] at HT HQ HS2
 have HU1:=Lib.hid hu1;have HU2:=Lib.hid hu2;clear hs hi hlt hz ht hp hpk hq hqk hq2 hg hbl hs1 hs2 hu1 hu2
 go_enter Tryz.func12,Tryz.ntmps12
 go_wp2_with fail
 generalize hW:World.alloc _ _=W
 obtain ⟨hb,Z,hzW⟩:=mkbx9_9 hW;clear hW
 go_upto_region 5 with (first
  | (go_at_call 50;(with_reducible refine (scut_hit s i HI.out HLT.out HM.out _).mono ?_);rintro e w_c ⟨rfl,nn,rfl⟩
     rw [HU1.out,HU2.out]
     replace Z:=Z.below (below_drawn (Below.refl _ _) nn)
     replace hb:=below_drawn hb nn)
  | (go_at_call 51;(with_reducible refine (zparse_ok u1 _ HS1.out HZ.out k (by rw [HP.out];exact HPK.out)).mono ?_);rintro e w_n ⟨A_x,n_x,c_x,rfl,x0,hxk,xr,hh⟩
     rw [HP.out] at x0 xr
     have x:ZG w_n (decide (p < 0)) A_x n_x c_x p k:=⟨rfl,xr,by obtain ⟨l,_,_,_,p4,_⟩:=x0;exact p4,hxk⟩
     clear x0 xr hxk;rw [HP.out];replace Z:=Z.below hh;replace hb:=bend hb hh))
 generalize hW:World.alloc _ _=W2
 obtain ⟨hh,XN,hzW2⟩:=mkbx16_10 hW;clear hW;(try replace x:=x.below hh);(try replace Z:=Z.below hh);replace hb:=bend hb hh;obtain ⟨xn0,xn1⟩:=XN.all;have hbl:=HB.out;have xz:=x.zr
 go_wp2_with (first
  | (go_at_call 53;(with_reducible refine (parse_nr u2 _ HS2.out HT.out).mono ?_);rintro e w_q ⟨B_y,m_y,d_y,rfl,y0,hh⟩
     rw [HQ.out] at y0;have y:=y0.tight HQK.out;have yr:=y.nr;clear y0;replace x:=x.below hh;replace xz:=xz.below hh;replace XN:=XN.below hh;replace Z:=Z.below hh;replace hb:=bend hb hh;obtain ⟨xn0,xn1⟩:=XN.all)
  | (go_at_call 54;(with_reducible refine (bits_nr yr (by omega)).mono ?_);rintro e w_b ⟨rfl,rfl⟩)
  | (go_at_call 55;(with_reducible refine (coprime_q xz yr (by omega)).mono ?_);rintro e w_z ⟨rfl,hh⟩
     rw [HG.out];replace x:=x.below hh;replace y:=y.below hh;replace XN:=XN.below hh;replace Z:=Z.below hh;replace hb:=bend hb hh;obtain ⟨xn0,xn1⟩:=XN.all;have zf0:=Z.f0;have zf1:=Z.f1;have zf2:=Z.f2;obtain ⟨z0,z1,z2⟩:=Z.all))
 have Z2:=Z.set3 (.bool (decide (p < 0))) (.slice A_x n_x c_x) (.slice B_y m_y d_y)
 obtain ⟨g0,g1,g2⟩:=Z2.all
 refine bodyPost_ret (v:=.tuple #[.agg #[.bool (decide (p < 0)),.slice A_x n_x c_x,.slice B_y m_y d_y],.int .i64 0]) (by simp [results,Tryz.results12,go_sem,g0,g1,g2]) rfl ?_
 have hmk:=mk_cond HQ0.out HGG.out
 have r:QG w_z (decide (p < 0)) A_x n_x c_x B_y m_y d_y (mkRat p q) k:=⟨by rw [hmk.1];exact x,by rw [hmk.2];exact y⟩
 exact ⟨_,A_x,n_x,c_x,B_y,m_y,d_y,rfl,r.set3 Z _ _ _,below_set3 hb (by omega) _ _ _⟩
end
section
open Go Go.RowKit
theorem small_k {s:Bool} {A A':Option Addr} {n c n' c':Nat} (w:World) (L:Bool) (hL:decide (n≤12∧n'≤12)=L) :
 Calls Tryz.prog 38 #[.agg #[.bool s,.slice A n c,.slice A' n' c'],.int .i64 12] w fun e w'=>e=.returned (.bool L)∧Below w.heap.size w w':=by
 have HL:=Lib.hid hL;clear hL
 go_enter Tryz.func38,Tryz.ntmps38
 go_wp2_with fail
 generalize hW:World.alloc _ _=W
 obtain ⟨hb,XA,hzW⟩:=mkbx9_9 hW;clear hW;obtain ⟨xa0,xa1,xa2⟩:=XA.all
 go_wp2_with fail
 · have h:(n:Int)≤12:=by assumption
   go_ret
   refine ⟨?_,by first | assumption | exact (Below.refl _ _).alloc (Nat.le_refl _) _⟩
   show Ending.returned (.bool (decide ((n':Int)≤12)))=_
   rw [← HL.out]
   by_cases h2:n'≤12
   · rw [decide_eq_true (show (n':Int)≤12 by omega),decide_eq_true (show n≤12∧n'≤12 by omega)]
   · rw [decide_eq_false (show ¬ (n':Int)≤12 by omega),decide_eq_false (show ¬ (n≤12∧n'≤12) by omega)]
 · have h:(12:Int) < (n:Int):=by assumption
   go_ret
   refine ⟨?_,by first | assumption | exact (Below.refl _ _).alloc (Nat.le_refl _) _⟩
   show Ending.returned (.bool false)=_
   rw [← HL.out,decide_eq_false (show ¬ (n≤12∧n'≤12) by omega)]
theorem qlarge_any (s:Bool) (A A':Option Addr) (n c n' c':Nat) (w:World) (L:Bool) (hL:decide (n≤12∧n'≤12)=L) :
 Calls Tryz.prog 10 #[.agg #[.bool s,.slice A n c,.slice A' n' c']] w fun e w'=>e=.returned (.bool (!L))∧Below w.heap.size w w':=by
 have HL:=Lib.hid hL;clear hL
 go_enter Tryz.func10,Tryz.ntmps10
 go_wp2_with fail
 generalize hW:World.alloc _ _=W
 obtain ⟨hb,XA,hzW⟩:=mkbx9_9 hW;clear hW;obtain ⟨xa0,xa1,xa2⟩:=XA.all
 go_wp2_with (first
  | (go_at_call 38;(with_reducible refine (small_k _ L HL.out).mono ?_);rintro e w_z ⟨rfl,hh⟩
     (try replace XA:=XA.below hh);replace hb:=bend hb hh))
 go_ret;exact ⟨rfl,hb⟩
theorem qlarge_no (s:Bool) (A A':Option Addr) (n c n' c':Nat) (w:World) (h:n≤12∧n'≤12) :
 Calls Tryz.prog 10 #[.agg #[.bool s,.slice A n c,.slice A' n' c']] w fun e w'=>e=.returned (.bool false)∧Below w.heap.size w w' :=
 qlarge_any s A A' n c n' c' w true (decide_eq_true h)
theorem qlarge_yes (s:Bool) (A A':Option Addr) (n c n' c':Nat) (w:World) (h:¬ (n≤12∧n'≤12)) :
 Calls Tryz.prog 10 #[.agg #[.bool s,.slice A n c,.slice A' n' c']] w fun e w'=>e=.returned (.bool true)∧Below w.heap.size w w' :=
 qlarge_any s A A' n c n' c' w false (decide_eq_false h)
theorem QR.of_rd {s:Bool} {A A':Option Addr} {n c n' c' k:Nat} {l l':List Nat} (h:Rd .u64 w A n l) (hL:Lim B64 l) (hnc:n≤c) (h':Rd .u64 w A' n' l') (hL':Lim B64 l') (hnc':n'≤c') (hk:n≤k) (hk':n'≤k) :
 QR w s A n c A' n' c' (mkRat (iv s (val B64 l)) (den1 (val B64 l'))) k:=⟨_,_,ZR.of_rd h hL hnc hk,⟨l',h',hL',rfl,hnc',hk'⟩,rfl⟩
end
end Go.Proofs.YtmgklaklnaihpaaGreat
