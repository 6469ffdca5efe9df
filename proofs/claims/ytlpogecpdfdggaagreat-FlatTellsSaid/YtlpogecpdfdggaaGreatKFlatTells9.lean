/- FlatTells: part 9. -/
import Derived.IntWalk
import Derived.Orders
import Derived.Test.YtlpogecpdfdggaaGreatProg
import Derived.WalkKit
import Derived.Test.YtlpogecpdfdggaaGreatKFlatTells6
import Derived.Test.YtlpogecpdfdggaaGreatKFlatTells8
set_option linter.unusedVariables false
set_option maxRecDepth 100000
set_option maxHeartbeats 16000000
variable {w:Go.World}
namespace Go.Proofs.YtlpogecpdfdggaaGreat
section
open Go Go.RowKit
theorem mkbx15_9 {w W:World} {x0 x1 x2 x3 x4 x5 x6 x7 x8 x9:Value} (h:((((w.alloc (Obj.cells #[x0,x1,x2] 27)).alloc (Obj.cells #[x3,x4,x5] 27)).alloc (Obj.cells #[x6,x7] 25)).alloc (Obj.cells #[x8,x9] 25))=W):Below w.heap.size w W∧B3 W (w.heap.size) x0 x1 x2∧B3 W (w.heap.size+1) x3 x4 x5∧Bx W (w.heap.size+1+1) x6 x7∧Bx W (w.heap.size+1+1+1) x8 x9∧W.heap.size=w.heap.size+4:=by subst h;exact ⟨by exact (((((Below.refl _ _).alloc (Nat.le_refl _) _).alloc (by simp) _).alloc (by simp;omega) _).alloc (by simp;omega) _),by exact (((B3.new' _ _ _ _ _ rfl).alloc _).alloc _).alloc _,by exact ((B3.new' _ _ _ _ _ (by simp)).alloc _).alloc _,by exact (Bx.new' _ _ _ _ (by simp)).alloc _,by exact Bx.new' _ _ _ _ (by simp),by simp⟩
theorem rprod_q {s t:Bool} {A A' B B':Option Addr} {n c n' c' m d m' d' k k2:Nat} {p p2:Int} {q q2:Nat} (X:ZR w s A n c p k) (Q:NR w A' n' c' q k) (Y:ZR w t B m d p2 k2) (R:NR w B' m' d' q2 k2) (hk:k≤40000) (hkb:k2≤40000) (h40:k≤40000 ∨ k2≤40000) (hk1:1≤k) (hk3:1≤k2) :
 Calls Tryz.prog 60 #[.agg #[.bool s,.slice A n c,.slice A' n' c'],.agg #[.bool t,.slice B m d,.slice B' m' d']] w (GivesP w (p*p2) ((den1 q:Int)*(den1 q2:Int)) (k+k2)):=by
 go_enter Tryz.func60,Tryz.ntmps60
 go_wp2_with fail
 generalize hW:World.alloc _ _=W
 obtain ⟨hb,XA,XB,Z1,Z2,hzW⟩:=mkbx15_9 hW;clear hW;replace X:=X.below hb;replace Q:=Q.below hb;replace Y:=Y.below hb;replace R:=R.below hb;obtain ⟨xa0,xa1,xa2⟩:=XA.all;obtain ⟨xb0,xb1,xb2⟩:=XB.all
 go_upto_region 2 with (first
  | (go_at_call 50;(with_reducible refine (parts_any X Q (by omega) hk1).mono ?_);rintro e w_p ⟨s_x,A_x,n_x,c_x,s_y,A_y,n_y,c_y,rfl,x,y,hh⟩
     (try replace X:=X.below hh);(try replace Q:=Q.below hh);(try replace Y:=Y.below hh);(try replace R:=R.below hh);(try replace u:=u.below hh);(try replace v:=v.below hh);(try replace m1:=m1.below hh);(try replace m2:=m2.below hh);(try replace m3:=m3.below hh);(try replace XA:=XA.below hh);(try replace XB:=XB.below hh);(try replace Z:=Z.below hh);(try replace Z1:=Z1.below hh);(try replace Z2:=Z2.below hh);(try replace Z3:=Z3.below hh);(try replace XP:=XP.below hh);(try replace XQ:=XQ.below hh);(try replace XU:=XU.below hh);(try replace XV:=XV.below hh);replace hb:=bend hb hh))
 have hp1:=Z2.lt
 generalize hW:World.alloc _ _=W2
 obtain ⟨hh,XP,XQ,hzW2⟩:=mkbx8_8 hW;clear hW;(try replace X:=X.below hh);(try replace Q:=Q.below hh);(try replace Y:=Y.below hh);(try replace R:=R.below hh);(try replace x:=x.below hh);(try replace y:=y.below hh);(try replace XA:=XA.below hh);(try replace XB:=XB.below hh);(try replace Z1:=Z1.below hh);(try replace Z2:=Z2.below hh);replace hb:=bend hb hh;obtain ⟨xb0,xb1,xb2⟩:=XB.all
 go_upto_region 3 with (first
  | (go_at_call 50;(with_reducible refine (parts_any Y R (by omega) hk3).mono ?_);rintro e w_u ⟨s_u,A_u,n_u,c_u,s_v,A_v,n_v,c_v,rfl,u,v,hh⟩
     (try replace X:=X.below hh);(try replace Q:=Q.below hh);(try replace Y:=Y.below hh);(try replace R:=R.below hh);(try replace x:=x.below hh);(try replace y:=y.below hh);(try replace m1:=m1.below hh);(try replace m2:=m2.below hh);(try replace m3:=m3.below hh);(try replace XA:=XA.below hh);(try replace XB:=XB.below hh);(try replace Z:=Z.below hh);(try replace Z1:=Z1.below hh);(try replace Z2:=Z2.below hh);(try replace Z3:=Z3.below hh);(try replace XP:=XP.below hh);(try replace XQ:=XQ.below hh);(try replace XU:=XU.below hh);(try replace XV:=XV.below hh);replace hb:=bend hb hh))
 have hu1:=XQ.lt
 generalize hW:World.alloc _ _=W3
 obtain ⟨hh,XU,XV,hzW3⟩:=mkbx8_8 hW;clear hW;(try replace x:=x.below hh);(try replace y:=y.below hh);(try replace u:=u.below hh);(try replace v:=v.below hh);(try replace XP:=XP.below hh);(try replace XQ:=XQ.below hh);(try replace Z1:=Z1.below hh);(try replace Z2:=Z2.below hh);replace hb:=bend hb hh
 replace x:=x.below (Below.refl _ _).drew
 replace y:=y.below (Below.refl _ _).drew
 replace u:=u.below (Below.refl _ _).drew
 replace v:=v.below (Below.refl _ _).drew
 replace Z1:=Z1.below (Below.refl _ _).drew
 replace Z2:=Z2.below (Below.refl _ _).drew
 replace XP:=XP.below (Below.refl _ _).drew
 replace XQ:=XQ.below (Below.refl _ _).drew
 replace XU:=XU.below (Below.refl _ _).drew
 replace XV:=XV.below (Below.refl _ _).drew
 replace hb:=hb.drew
 go_region_held3 (fun w'=>w'.cell? ⟨w_p.heap.size,0,none⟩=some (.bool s_x)∧w'.cell? ⟨w_p.heap.size,1,none⟩=some (.slice A_x n_x c_x)∧w'.cell? ⟨w_p.heap.size+1,0,none⟩=some (.bool s_y)∧w'.cell? ⟨w_p.heap.size+1,1,none⟩=some (.slice A_y n_y c_y)∧w'.cell? ⟨w_u.heap.size,0,none⟩=some (.bool s_u)∧w'.cell? ⟨w_u.heap.size,1,none⟩=some (.slice A_u n_u c_u)∧w'.cell? ⟨w_u.heap.size+1,0,none⟩=some (.bool s_v)∧w'.cell? ⟨w_u.heap.size+1,1,none⟩=some (.slice A_v n_v c_v))
  (first | with_reducible exact ⟨XP.c0,XP.c1,XQ.c0,XQ.c1,XU.c0,XU.c1,XV.c0,XV.c1⟩ | with_reducible exact ⟨(set2_cell _ _ _ _ _ _ (by omega)).trans (XP.c0),(set2_cell _ _ _ _ _ _ (by omega)).trans (XP.c1),(set2_cell _ _ _ _ _ _ (by omega)).trans (XQ.c0),(set2_cell _ _ _ _ _ _ (by omega)).trans (XQ.c1),(set2_cell _ _ _ _ _ _ (by omega)).trans (XU.c0),(set2_cell _ _ _ _ _ _ (by omega)).trans (XU.c1),(set2_cell _ _ _ _ _ _ (by omega)).trans (XV.c0),(set2_cell _ _ _ _ _ _ (by omega)).trans (XV.c1)⟩ | with_reducible exact ⟨(set2_cell _ _ _ _ _ _ (by omega)).trans ((set2_cell _ _ _ _ _ _ (by omega)).trans (XP.c0)),(set2_cell _ _ _ _ _ _ (by omega)).trans ((set2_cell _ _ _ _ _ _ (by omega)).trans (XP.c1)),(set2_cell _ _ _ _ _ _ (by omega)).trans ((set2_cell _ _ _ _ _ _ (by omega)).trans (XQ.c0)),(set2_cell _ _ _ _ _ _ (by omega)).trans ((set2_cell _ _ _ _ _ _ (by omega)).trans (XQ.c1)),(set2_cell _ _ _ _ _ _ (by omega)).trans ((set2_cell _ _ _ _ _ _ (by omega)).trans (XU.c0)),(set2_cell _ _ _ _ _ _ (by omega)).trans ((set2_cell _ _ _ _ _ _ (by omega)).trans (XU.c1)),(set2_cell _ _ _ _ _ _ (by omega)).trans ((set2_cell _ _ _ _ _ _ (by omega)).trans (XV.c0)),(set2_cell _ _ _ _ _ _ (by omega)).trans ((set2_cell _ _ _ _ _ _ (by omega)).trans (XV.c1))⟩)
  (first
  | (go_at_call 52;(with_reducible refine (zmul_zr (k+k2) x u (by omega) (by omega) (by omega)).mono ?_);rintro e w_m1 ⟨s_m1,A_m1,n_m1,c_m1,rfl,m1,hh⟩
     (try replace X:=X.below hh);(try replace Q:=Q.below hh);(try replace Y:=Y.below hh);(try replace R:=R.below hh);(try replace x:=x.below hh);(try replace y:=y.below hh);(try replace u:=u.below hh);(try replace v:=v.below hh);(try replace m2:=m2.below hh);(try replace m3:=m3.below hh);(try replace XA:=XA.below hh);(try replace XB:=XB.below hh);(try replace Z:=Z.below hh);(try replace Z1:=Z1.below hh);(try replace Z2:=Z2.below hh);(try replace Z3:=Z3.below hh);(try replace XP:=XP.below hh);(try replace XQ:=XQ.below hh);(try replace XU:=XU.below hh);(try replace XV:=XV.below hh);replace hb:=bend hb hh)
  | (go_at_call 52;(with_reducible refine (zmul_zr (k+k2) y v (by omega) (by omega) (by omega)).mono ?_);rintro e w_m2 ⟨s_m2,A_m2,n_m2,c_m2,rfl,m2,hh⟩
     (try replace X:=X.below hh);(try replace Q:=Q.below hh);(try replace Y:=Y.below hh);(try replace R:=R.below hh);(try replace x:=x.below hh);(try replace y:=y.below hh);(try replace u:=u.below hh);(try replace v:=v.below hh);(try replace m1:=m1.below hh);(try replace m3:=m3.below hh);(try replace XA:=XA.below hh);(try replace XB:=XB.below hh);(try replace Z:=Z.below hh);(try replace Z1:=Z1.below hh);(try replace Z2:=Z2.below hh);(try replace Z3:=Z3.below hh);(try replace XP:=XP.below hh);(try replace XQ:=XQ.below hh);(try replace XU:=XU.below hh);(try replace XV:=XV.below hh);replace hb:=bend hb hh;obtain ⟨z0,z1⟩:=Z1.all;have z2:=Z1.f0;have z3:=Z1.f1;obtain ⟨y0,y1⟩:=Z2.all;have y2:=Z2.f0;have y3:=Z2.f1
     have Z2o:=Z2.other (k:=w.heap.size+1+1) (by omega) (.bool s_m1) (.slice A_m1 n_m1 c_m1)
     obtain ⟨zo0,zo1⟩:=Z2o.all;have zo2:=Z2o.f0;have zo3:=Z2o.f1))
 go_wp2_with fail
 have G1:=(Z1.set2 (.bool s_m1) (.slice A_m1 n_m1 c_m1)).other (k:=w.heap.size+1+1+1) (by omega) (.bool s_m2) (.slice A_m2 n_m2 c_m2)
 have G2:=(Z2.other (k:=w.heap.size+1+1) (by omega) (.bool s_m1) (.slice A_m1 n_m1 c_m1)).set2 (.bool s_m2) (.slice A_m2 n_m2 c_m2)
 obtain ⟨g0,g1⟩:=G1.all;have g2:=G2.c0;have g3:=G2.c1
 have HT:=two_set hb (by omega) (by omega) (by omega) Z1 Z2 m1 m2 (.bool s_m1) (.slice A_m1 n_m1 c_m1) (.bool s_m2) (.slice A_m2 n_m2 c_m2)
 refine bodyPost_ret (v:=.tuple #[.agg #[.bool s_m1,.slice A_m1 n_m1 c_m1],.agg #[.bool s_m2,.slice A_m2 n_m2 c_m2]]) (by simp [results,Tryz.results60,go_sem,g0,g1,g2,g3]) rfl ?_
 exact ⟨_,_,_,_,_,_,_,_,rfl,HT.1,HT.2.1,HT.2.2⟩
theorem rquot_q {s t:Bool} {A A' B B':Option Addr} {n c n' c' m d m' d' k k2:Nat} {p p2:Int} {q q2:Nat} (X:ZR w s A n c p k) (Q:NR w A' n' c' q k) (Y:ZR w t B m d p2 k2) (R:NR w B' m' d' q2 k2) (hk:k≤40000) (hkb:k2≤40000) (h40:k≤40000 ∨ k2≤40000) (hk1:1≤k) (hk3:1≤k2) :
 Calls Tryz.prog 91 #[.agg #[.bool s,.slice A n c,.slice A' n' c'],.agg #[.bool t,.slice B m d,.slice B' m' d']] w (GivesP w (p*(den1 q2:Int)) ((den1 q:Int)*p2) (k+k2)):=by
 go_enter Tryz.func91,Tryz.ntmps91
 go_wp2_with fail
 generalize hW:World.alloc _ _=W
 obtain ⟨hb,XA,XB,Z1,Z2,hzW⟩:=mkbx15_9 hW;clear hW;replace X:=X.below hb;replace Q:=Q.below hb;replace Y:=Y.below hb;replace R:=R.below hb;obtain ⟨xa0,xa1,xa2⟩:=XA.all;obtain ⟨xb0,xb1,xb2⟩:=XB.all
 go_upto_region 2 with (first
  | (go_at_call 50;(with_reducible refine (parts_any X Q (by omega) hk1).mono ?_);rintro e w_p ⟨s_x,A_x,n_x,c_x,s_y,A_y,n_y,c_y,rfl,x,y,hh⟩
     (try replace X:=X.below hh);(try replace Q:=Q.below hh);(try replace Y:=Y.below hh);(try replace R:=R.below hh);(try replace u:=u.below hh);(try replace v:=v.below hh);(try replace m1:=m1.below hh);(try replace m2:=m2.below hh);(try replace m3:=m3.below hh);(try replace XA:=XA.below hh);(try replace XB:=XB.below hh);(try replace Z:=Z.below hh);(try replace Z1:=Z1.below hh);(try replace Z2:=Z2.below hh);(try replace Z3:=Z3.below hh);(try replace XP:=XP.below hh);(try replace XQ:=XQ.below hh);(try replace XU:=XU.below hh);(try replace XV:=XV.below hh);replace hb:=bend hb hh))
 have hp1:=Z2.lt
 generalize hW:World.alloc _ _=W2
 obtain ⟨hh,XP,XQ,hzW2⟩:=mkbx8_8 hW;clear hW;(try replace X:=X.below hh);(try replace Q:=Q.below hh);(try replace Y:=Y.below hh);(try replace R:=R.below hh);(try replace x:=x.below hh);(try replace y:=y.below hh);(try replace XA:=XA.below hh);(try replace XB:=XB.below hh);(try replace Z1:=Z1.below hh);(try replace Z2:=Z2.below hh);replace hb:=bend hb hh;obtain ⟨xb0,xb1,xb2⟩:=XB.all
 go_upto_region 3 with (first
  | (go_at_call 50;(with_reducible refine (parts_any Y R (by omega) hk3).mono ?_);rintro e w_u ⟨s_u,A_u,n_u,c_u,s_v,A_v,n_v,c_v,rfl,u,v,hh⟩
     (try replace X:=X.below hh);(try replace Q:=Q.below hh);(try replace Y:=Y.below hh);(try replace R:=R.below hh);(try replace x:=x.below hh);(try replace y:=y.below hh);(try replace m1:=m1.below hh);(try replace m2:=m2.below hh);(try replace m3:=m3.below hh);(try replace XA:=XA.below hh);(try replace XB:=XB.below hh);(try replace Z:=Z.below hh);(try replace Z1:=Z1.below hh);(try replace Z2:=Z2.below hh);(try replace Z3:=Z3.below hh);(try replace XP:=XP.below hh);(try replace XQ:=XQ.below hh);(try replace XU:=XU.below hh);(try replace XV:=XV.below hh);replace hb:=bend hb hh))
 have hu1:=XQ.lt
 generalize hW:World.alloc _ _=W3
 obtain ⟨hh,XU,XV,hzW3⟩:=mkbx8_8 hW;clear hW;(try replace x:=x.below hh);(try replace y:=y.below hh);(try replace u:=u.below hh);(try replace v:=v.below hh);(try replace XP:=XP.below hh);(try replace XQ:=XQ.below hh);(try replace Z1:=Z1.below hh);(try replace Z2:=Z2.below hh);replace hb:=bend hb hh
 replace x:=x.below (Below.refl _ _).drew
 replace y:=y.below (Below.refl _ _).drew
 replace u:=u.below (Below.refl _ _).drew
 replace v:=v.below (Below.refl _ _).drew
 replace Z1:=Z1.below (Below.refl _ _).drew
 replace Z2:=Z2.below (Below.refl _ _).drew
 replace XP:=XP.below (Below.refl _ _).drew
 replace XQ:=XQ.below (Below.refl _ _).drew
 replace XU:=XU.below (Below.refl _ _).drew
 replace XV:=XV.below (Below.refl _ _).drew
 replace hb:=hb.drew
 go_region_held3 (fun w'=>w'.cell? ⟨w_p.heap.size,0,none⟩=some (.bool s_x)∧w'.cell? ⟨w_p.heap.size,1,none⟩=some (.slice A_x n_x c_x)∧w'.cell? ⟨w_p.heap.size+1,0,none⟩=some (.bool s_y)∧w'.cell? ⟨w_p.heap.size+1,1,none⟩=some (.slice A_y n_y c_y)∧w'.cell? ⟨w_u.heap.size,0,none⟩=some (.bool s_u)∧w'.cell? ⟨w_u.heap.size,1,none⟩=some (.slice A_u n_u c_u)∧w'.cell? ⟨w_u.heap.size+1,0,none⟩=some (.bool s_v)∧w'.cell? ⟨w_u.heap.size+1,1,none⟩=some (.slice A_v n_v c_v))
  (first | with_reducible exact ⟨XP.c0,XP.c1,XQ.c0,XQ.c1,XU.c0,XU.c1,XV.c0,XV.c1⟩ | with_reducible exact ⟨(set2_cell _ _ _ _ _ _ (by omega)).trans (XP.c0),(set2_cell _ _ _ _ _ _ (by omega)).trans (XP.c1),(set2_cell _ _ _ _ _ _ (by omega)).trans (XQ.c0),(set2_cell _ _ _ _ _ _ (by omega)).trans (XQ.c1),(set2_cell _ _ _ _ _ _ (by omega)).trans (XU.c0),(set2_cell _ _ _ _ _ _ (by omega)).trans (XU.c1),(set2_cell _ _ _ _ _ _ (by omega)).trans (XV.c0),(set2_cell _ _ _ _ _ _ (by omega)).trans (XV.c1)⟩ | with_reducible exact ⟨(set2_cell _ _ _ _ _ _ (by omega)).trans ((set2_cell _ _ _ _ _ _ (by omega)).trans (XP.c0)),(set2_cell _ _ _ _ _ _ (by omega)).trans ((set2_cell _ _ _ _ _ _ (by omega)).trans (XP.c1)),(set2_cell _ _ _ _ _ _ (by omega)).trans ((set2_cell _ _ _ _ _ _ (by omega)).trans (XQ.c0)),(set2_cell _ _ _ _ _ _ (by omega)).trans ((set2_cell _ _ _ _ _ _ (by omega)).trans (XQ.c1)),(set2_cell _ _ _ _ _ _ (by omega)).trans ((set2_cell _ _ _ _ _ _ (by omega)).trans (XU.c0)),(set2_cell _ _ _ _ _ _ (by omega)).trans ((set2_cell _ _ _ _ _ _ (by omega)).trans (XU.c1)),(set2_cell _ _ _ _ _ _ (by omega)).trans ((set2_cell _ _ _ _ _ _ (by omega)).trans (XV.c0)),(set2_cell _ _ _ _ _ _ (by omega)).trans ((set2_cell _ _ _ _ _ _ (by omega)).trans (XV.c1))⟩)
  (first
  | (go_at_call 52;(with_reducible refine (zmul_zr (k+k2) x v (by omega) (by omega) (by omega)).mono ?_);rintro e w_m1 ⟨s_m1,A_m1,n_m1,c_m1,rfl,m1,hh⟩
     (try replace X:=X.below hh);(try replace Q:=Q.below hh);(try replace Y:=Y.below hh);(try replace R:=R.below hh);(try replace x:=x.below hh);(try replace y:=y.below hh);(try replace u:=u.below hh);(try replace v:=v.below hh);(try replace m2:=m2.below hh);(try replace m3:=m3.below hh);(try replace XA:=XA.below hh);(try replace XB:=XB.below hh);(try replace Z:=Z.below hh);(try replace Z1:=Z1.below hh);(try replace Z2:=Z2.below hh);(try replace Z3:=Z3.below hh);(try replace XP:=XP.below hh);(try replace XQ:=XQ.below hh);(try replace XU:=XU.below hh);(try replace XV:=XV.below hh);replace hb:=bend hb hh)
  | (go_at_call 52;(with_reducible refine (zmul_zr (k+k2) y u (by omega) (by omega) (by omega)).mono ?_);rintro e w_m2 ⟨s_m2,A_m2,n_m2,c_m2,rfl,m2,hh⟩
     (try replace X:=X.below hh);(try replace Q:=Q.below hh);(try replace Y:=Y.below hh);(try replace R:=R.below hh);(try replace x:=x.below hh);(try replace y:=y.below hh);(try replace u:=u.below hh);(try replace v:=v.below hh);(try replace m1:=m1.below hh);(try replace m3:=m3.below hh);(try replace XA:=XA.below hh);(try replace XB:=XB.below hh);(try replace Z:=Z.below hh);(try replace Z1:=Z1.below hh);(try replace Z2:=Z2.below hh);(try replace Z3:=Z3.below hh);(try replace XP:=XP.below hh);(try replace XQ:=XQ.below hh);(try replace XU:=XU.below hh);(try replace XV:=XV.below hh);replace hb:=bend hb hh;obtain ⟨z0,z1⟩:=Z1.all;have z2:=Z1.f0;have z3:=Z1.f1;obtain ⟨y0,y1⟩:=Z2.all;have y2:=Z2.f0;have y3:=Z2.f1
     have Z2o:=Z2.other (k:=w.heap.size+1+1) (by omega) (.bool s_m1) (.slice A_m1 n_m1 c_m1)
     obtain ⟨zo0,zo1⟩:=Z2o.all;have zo2:=Z2o.f0;have zo3:=Z2o.f1))
 go_wp2_with fail
 have G1:=(Z1.set2 (.bool s_m1) (.slice A_m1 n_m1 c_m1)).other (k:=w.heap.size+1+1+1) (by omega) (.bool s_m2) (.slice A_m2 n_m2 c_m2)
 have G2:=(Z2.other (k:=w.heap.size+1+1) (by omega) (.bool s_m1) (.slice A_m1 n_m1 c_m1)).set2 (.bool s_m2) (.slice A_m2 n_m2 c_m2)
 obtain ⟨g0,g1⟩:=G1.all;have g2:=G2.c0;have g3:=G2.c1
 have HT:=two_set hb (by omega) (by omega) (by omega) Z1 Z2 m1 m2 (.bool s_m1) (.slice A_m1 n_m1 c_m1) (.bool s_m2) (.slice A_m2 n_m2 c_m2)
 refine bodyPost_ret (v:=.tuple #[.agg #[.bool s_m1,.slice A_m1 n_m1 c_m1],.agg #[.bool s_m2,.slice A_m2 n_m2 c_m2]]) (by simp [results,Tryz.results91,go_sem,g0,g1,g2,g3]) rfl ?_
 exact ⟨_,_,_,_,_,_,_,_,rfl,HT.1,HT.2.1,HT.2.2⟩
theorem three_set {w W:World} {g1 g2 g3 n c m d n3 d3 k n1 c1 n2 c2 n4 c4:Nat} {s t r a b b3:Bool} {A B C A1 A2 A4:Option Addr} {p q l:Int} (hb:Below w.heap.size w W) (h1:w.heap.size≤g1) (h2:w.heap.size≤g2) (h3:w.heap.size≤g3) (hne:g1 ≠ g2) (hne2:g1 ≠ g3) (hne3:g2 ≠ g3)
 (Z1:Bx W g1 (.bool a) (.slice A1 n1 c1)) (Z2:Bx W g2 (.bool b) (.slice A2 n2 c2)) (Z3:Bx W g3 (.bool b3) (.slice A4 n4 c4)) (X:ZR W s A n c p k) (Y:ZR W t B m d q k) (L:ZR W r C n3 d3 l k) (x y z u i j:Value) :
 ZR ((((((W.setCell ⟨g1,0,none⟩ x).setCell ⟨g1,1,none⟩ y).setCell ⟨g2,0,none⟩ z).setCell ⟨g2,1,none⟩ u).setCell ⟨g3,0,none⟩ i).setCell ⟨g3,1,none⟩ j) s A n c p k ∧
 ZR ((((((W.setCell ⟨g1,0,none⟩ x).setCell ⟨g1,1,none⟩ y).setCell ⟨g2,0,none⟩ z).setCell ⟨g2,1,none⟩ u).setCell ⟨g3,0,none⟩ i).setCell ⟨g3,1,none⟩ j) t B m d q k ∧
 ZR ((((((W.setCell ⟨g1,0,none⟩ x).setCell ⟨g1,1,none⟩ y).setCell ⟨g2,0,none⟩ z).setCell ⟨g2,1,none⟩ u).setCell ⟨g3,0,none⟩ i).setCell ⟨g3,1,none⟩ j) r C n3 d3 l k ∧
 Below w.heap.size w ((((((W.setCell ⟨g1,0,none⟩ x).setCell ⟨g1,1,none⟩ y).setCell ⟨g2,0,none⟩ z).setCell ⟨g2,1,none⟩ u).setCell ⟨g3,0,none⟩ i).setCell ⟨g3,1,none⟩ j):=by
 have h:=two_set hb h1 h2 hne Z1 Z2 X Y x y z u
 have h':=two_set hb h1 h2 hne Z1 Z2 L Y x y z u
 have Z4:=(Z3.other (k:=g1) (Ne.symm hne2) x y).other (k:=g2) (Ne.symm hne3) z u
 exact ⟨h.1.set2x Z4 i j,h.2.1.set2x Z4 i j,h'.1.set2x Z4 i j,(h.2.2.setCell h3 _).setCell h3 _⟩
def GivesA (w:World) (v u:Rat) (k:Nat) (e:Ending) (w':World):Prop :=
 ∃ (f g:Int) (L:Nat),L ≠ 0∧v=mkRat f L∧u=mkRat g L∧∃ s A n c t B m d r C n3 d3,e=.returned (.tuple #[.agg #[.bool s,.slice A n c],.agg #[.bool t,.slice B m d],.agg #[.bool r,.slice C n3 d3]]) ∧
  ZR w' s A n c f k∧ZR w' t B m d g k∧ZR w' r C n3 d3 (L:Int) k∧Below w.heap.size w w'
theorem mkbx16_9 {w W:World} {x0 x1 x2 x3 x4 x5 x6 x7 x8 x9 x10 x11:Value} (h:(((((w.alloc (Obj.cells #[x0,x1,x2] 27)).alloc (Obj.cells #[x3,x4,x5] 27)).alloc (Obj.cells #[x6,x7] 25)).alloc (Obj.cells #[x8,x9] 25)).alloc (Obj.cells #[x10,x11] 25))=W):Below w.heap.size w W∧B3 W (w.heap.size) x0 x1 x2∧B3 W (w.heap.size+1) x3 x4 x5∧Bx W (w.heap.size+1+1) x6 x7∧Bx W (w.heap.size+1+1+1) x8 x9∧Bx W (w.heap.size+1+1+1+1) x10 x11∧W.heap.size=w.heap.size+5:=by subst h;exact ⟨by exact ((((((Below.refl _ _).alloc (Nat.le_refl _) _).alloc (by simp) _).alloc (by simp;omega) _).alloc (by simp;omega) _).alloc (by simp;omega) _),by exact ((((B3.new' _ _ _ _ _ rfl).alloc _).alloc _).alloc _).alloc _,by exact (((B3.new' _ _ _ _ _ (by simp)).alloc _).alloc _).alloc _,by exact ((Bx.new' _ _ _ _ (by simp)).alloc _).alloc _,by exact (Bx.new' _ _ _ _ (by simp)).alloc _,by exact Bx.new' _ _ _ _ (by simp),by simp⟩
theorem ralike_q {s t:Bool} {A A' B B':Option Addr} {n c n' c' m d m' d' k k2:Nat} {p p2:Int} {q q2:Nat} (X:ZR w s A n c p k) (Q:NR w A' n' c' q k) (Y:ZR w t B m d p2 k2) (R:NR w B' m' d' q2 k2) (hk:k≤40000) (hkb:k2≤40000) (h40:k≤40000 ∨ k2≤40000) (hk1:1≤k) (hk3:1≤k2) :
 Calls Tryz.prog 100 #[.agg #[.bool s,.slice A n c,.slice A' n' c'],.agg #[.bool t,.slice B m d,.slice B' m' d']] w (GivesA w (mkRat p (den1 q)) (mkRat p2 (den1 q2)) (k+k2)):=by
 go_enter Tryz.func100,Tryz.ntmps100
 go_wp2_with fail
 generalize hW:World.alloc _ _=W
 obtain ⟨hb,XA,XB,Z1,Z2,Z3,hzW⟩:=mkbx16_9 hW;clear hW;replace X:=X.below hb;replace Q:=Q.below hb;replace Y:=Y.below hb;replace R:=R.below hb;obtain ⟨xa0,xa1,xa2⟩:=XA.all;obtain ⟨xb0,xb1,xb2⟩:=XB.all
 go_upto_region 2 with (first
  | (go_at_call 50;(with_reducible refine (parts_any X Q (by omega) hk1).mono ?_);rintro e w_p ⟨s_x,A_x,n_x,c_x,s_y,A_y,n_y,c_y,rfl,x,y,hh⟩
     (try replace X:=X.below hh);(try replace Q:=Q.below hh);(try replace Y:=Y.below hh);(try replace R:=R.below hh);(try replace u:=u.below hh);(try replace v:=v.below hh);(try replace m1:=m1.below hh);(try replace m2:=m2.below hh);(try replace m3:=m3.below hh);(try replace XA:=XA.below hh);(try replace XB:=XB.below hh);(try replace Z:=Z.below hh);(try replace Z1:=Z1.below hh);(try replace Z2:=Z2.below hh);(try replace Z3:=Z3.below hh);(try replace XP:=XP.below hh);(try replace XQ:=XQ.below hh);(try replace XU:=XU.below hh);(try replace XV:=XV.below hh);replace hb:=bend hb hh))
 have hp1:=Z3.lt
 generalize hW:World.alloc _ _=W2
 obtain ⟨hh,XP,XQ,hzW2⟩:=mkbx8_8 hW;clear hW;(try replace X:=X.below hh);(try replace Q:=Q.below hh);(try replace Y:=Y.below hh);(try replace R:=R.below hh);(try replace x:=x.below hh);(try replace y:=y.below hh);(try replace XA:=XA.below hh);(try replace XB:=XB.below hh);(try replace Z1:=Z1.below hh);(try replace Z2:=Z2.below hh);(try replace Z3:=Z3.below hh);replace hb:=bend hb hh;obtain ⟨xb0,xb1,xb2⟩:=XB.all
 go_upto_region 3 with (first
  | (go_at_call 50;(with_reducible refine (parts_any Y R (by omega) hk3).mono ?_);rintro e w_u ⟨s_u,A_u,n_u,c_u,s_v,A_v,n_v,c_v,rfl,u,v,hh⟩
     (try replace X:=X.below hh);(try replace Q:=Q.below hh);(try replace Y:=Y.below hh);(try replace R:=R.below hh);(try replace x:=x.below hh);(try replace y:=y.below hh);(try replace m1:=m1.below hh);(try replace m2:=m2.below hh);(try replace m3:=m3.below hh);(try replace XA:=XA.below hh);(try replace XB:=XB.below hh);(try replace Z:=Z.below hh);(try replace Z1:=Z1.below hh);(try replace Z2:=Z2.below hh);(try replace Z3:=Z3.below hh);(try replace XP:=XP.below hh);(try replace XQ:=XQ.below hh);(try replace XU:=XU.below hh);(try replace XV:=XV.below hh);replace hb:=bend hb hh))
 have hu1:=XQ.lt
 generalize hW:World.alloc _ _=W3
 obtain ⟨hh,XU,XV,hzW3⟩:=mkbx8_8 hW;clear hW;(try replace x:=x.below hh);(try replace y:=y.below hh);(try replace u:=u.below hh);(try replace v:=v.below hh);(try replace XP:=XP.below hh);(try replace XQ:=XQ.below hh);(try replace Z1:=Z1.below hh);(try replace Z2:=Z2.below hh);(try replace Z3:=Z3.below hh);replace hb:=bend hb hh;obtain ⟨xp0,xp1⟩:=XP.all;obtain ⟨xq0,xq1⟩:=XQ.all;obtain ⟨xu0,xu1⟩:=XU.all;obtain ⟨xv0,xv1⟩:=XV.all
 by_cases heq:den1 q=den1 q2
 · have HL:Hid (den1 q ≠ 0∧mkRat p2 (den1 q2)=mkRat p2 (den1 q)):=⟨den1_ne q,by rw [heq]⟩
   have HC:Hid (cmpZ (den1 q:Int) (den1 q2:Int)=0):=by show _=_;rw [heq];exact cmpZ_self _
   clear heq
   go_upto_region 4 with (first
    | (go_at_call 51;(with_reducible refine (zcmp_zr y v (by omega)).mono ?_);rintro e w_z ⟨rfl,hh⟩
       rw [HC.out];(try replace X:=X.below hh);(try replace Q:=Q.below hh);(try replace Y:=Y.below hh);(try replace R:=R.below hh);(try replace x:=x.below hh);(try replace y:=y.below hh);(try replace u:=u.below hh);(try replace v:=v.below hh);(try replace m1:=m1.below hh);(try replace m2:=m2.below hh);(try replace m3:=m3.below hh);(try replace XA:=XA.below hh);(try replace XB:=XB.below hh);(try replace Z:=Z.below hh);(try replace Z1:=Z1.below hh);(try replace Z2:=Z2.below hh);(try replace Z3:=Z3.below hh);(try replace XP:=XP.below hh);(try replace XQ:=XQ.below hh);(try replace XU:=XU.below hh);(try replace XV:=XV.below hh);replace hb:=bend hb hh;obtain ⟨xp0,xp1⟩:=XP.all;obtain ⟨xq0,xq1⟩:=XQ.all;obtain ⟨xu0,xu1⟩:=XU.all;obtain ⟨xv0,xv1⟩:=XV.all))
   obtain ⟨z0,z1⟩:=Z1.all;have z2:=Z1.f0;have z3:=Z1.f1;obtain ⟨y0,y1⟩:=Z2.all;have y2:=Z2.f0;have y3:=Z2.f1;obtain ⟨t0,t1⟩:=Z3.all;have t2:=Z3.f0;have t3:=Z3.f1
   have Z2o:=Z2.other (k:=w.heap.size+1+1) (by omega) (.bool s_x) (.slice A_x n_x c_x)
   obtain ⟨zo0,zo1⟩:=Z2o.all;have zo2:=Z2o.f0;have zo3:=Z2o.f1
   have Z3o:=Z3.other (k:=w.heap.size+1+1) (by omega) (.bool s_x) (.slice A_x n_x c_x)
   have Z3p:=Z3o.other (k:=w.heap.size+1+1+1) (by omega) (.bool s_u) (.slice A_u n_u c_u)
   obtain ⟨zp0,zp1⟩:=Z3p.all;have zp2:=Z3p.f0;have zp3:=Z3p.f1
   go_region
   go_wp2_with fail
   have G1:=((Z1.set2 (.bool s_x) (.slice A_x n_x c_x)).other (k:=w.heap.size+1+1+1) (by omega) (.bool s_u) (.slice A_u n_u c_u)).other (k:=w.heap.size+1+1+1+1) (by omega) (.bool s_y) (.slice A_y n_y c_y)
   have G2:=((Z2.other (k:=w.heap.size+1+1) (by omega) (.bool s_x) (.slice A_x n_x c_x)).set2 (.bool s_u) (.slice A_u n_u c_u)).other (k:=w.heap.size+1+1+1+1) (by omega) (.bool s_y) (.slice A_y n_y c_y)
   have G3:=((Z3.other (k:=w.heap.size+1+1) (by omega) (.bool s_x) (.slice A_x n_x c_x)).other (k:=w.heap.size+1+1+1) (by omega) (.bool s_u) (.slice A_u n_u c_u)).set2 (.bool s_y) (.slice A_y n_y c_y)
   obtain ⟨g0,g1⟩:=G1.all;have g2:=G2.c0;have g3:=G2.c1;have g4:=G3.c0;have g5:=G3.c1
   have HT:=three_set hb (by omega) (by omega) (by omega) (by omega) (by omega) (by omega) Z1 Z2 Z3 (x.more (show k≤k+k2 by omega)) (u.more (show k2≤k+k2 by omega)) (y.more (show k≤k+k2 by omega)) (.bool s_x) (.slice A_x n_x c_x) (.bool s_u) (.slice A_u n_u c_u) (.bool s_y) (.slice A_y n_y c_y)
   refine bodyPost_ret (v:=.tuple #[.agg #[.bool s_x,.slice A_x n_x c_x],.agg #[.bool s_u,.slice A_u n_u c_u],.agg #[.bool s_y,.slice A_y n_y c_y]]) (by simp [results,Tryz.results100,go_sem,g0,g1,g2,g3,g4,g5]) rfl ?_
   exact ⟨_,_,_,HL.out.1,rfl,HL.out.2,_,_,_,_,_,_,_,_,_,_,_,_,rfl,HT.1.drew,HT.2.1.drew,HT.2.2.1.drew,HT.2.2.2.drew⟩
 · have HL : Hid (den1 q * den1 q2 ≠ 0 ∧ mkRat p (den1 q) = mkRat (p * (den1 q2 : Int)) (den1 q * den1 q2) ∧ mkRat p2 (den1 q2) = mkRat (p2 * (den1 q : Int)) (den1 q * den1 q2)) :=
     ⟨Nat.mul_ne_zero (den1_ne q) (den1_ne q2),(Rat.mkRat_mul_right (den1_ne q2)).symm,by rw [Nat.mul_comm];exact (Rat.mkRat_mul_right (den1_ne q)).symm⟩
   obtain ⟨K,hK,hK0⟩:∃ K,cmpZ (den1 q:Int) (den1 q2:Int)=K∧((K:Int) == 0)=false:=⟨_,rfl,by
    rw [beq_eq_false_iff_ne];intro h;exact heq (by have:=cmpZ_zero h;omega)⟩
   have HC:=Lib.hid hK;clear heq hK
   go_upto_region 5 with (first
    | (go_at_call 51;(with_reducible refine (zcmp_zr y v (by omega)).mono ?_);rintro e w_z ⟨rfl,hh⟩
       rw [HC.out];(try replace X:=X.below hh);(try replace Q:=Q.below hh);(try replace Y:=Y.below hh);(try replace R:=R.below hh);(try replace x:=x.below hh);(try replace y:=y.below hh);(try replace u:=u.below hh);(try replace v:=v.below hh);(try replace m1:=m1.below hh);(try replace m2:=m2.below hh);(try replace m3:=m3.below hh);(try replace XA:=XA.below hh);(try replace XB:=XB.below hh);(try replace Z:=Z.below hh);(try replace Z1:=Z1.below hh);(try replace Z2:=Z2.below hh);(try replace Z3:=Z3.below hh);(try replace XP:=XP.below hh);(try replace XQ:=XQ.below hh);(try replace XU:=XU.below hh);(try replace XV:=XV.below hh);replace hb:=bend hb hh;obtain ⟨xp0,xp1⟩:=XP.all;obtain ⟨xq0,xq1⟩:=XQ.all;obtain ⟨xu0,xu1⟩:=XU.all;obtain ⟨xv0,xv1⟩:=XV.all))
   replace x:=x.below (Below.refl _ _).drew
   replace y:=y.below (Below.refl _ _).drew
   replace u:=u.below (Below.refl _ _).drew
   replace v:=v.below (Below.refl _ _).drew
   replace Z1:=Z1.below (Below.refl _ _).drew
   replace Z2:=Z2.below (Below.refl _ _).drew
   replace Z3:=Z3.below (Below.refl _ _).drew
   replace XP:=XP.below (Below.refl _ _).drew
   replace XQ:=XQ.below (Below.refl _ _).drew
   replace XU:=XU.below (Below.refl _ _).drew
   replace XV:=XV.below (Below.refl _ _).drew
   replace hb:=hb.drew
   go_region_held3 (fun w'=>w'.cell? ⟨w_p.heap.size,0,none⟩=some (.bool s_x)∧w'.cell? ⟨w_p.heap.size,1,none⟩=some (.slice A_x n_x c_x)∧w'.cell? ⟨w_p.heap.size+1,0,none⟩=some (.bool s_y)∧w'.cell? ⟨w_p.heap.size+1,1,none⟩=some (.slice A_y n_y c_y)∧w'.cell? ⟨w_u.heap.size,0,none⟩=some (.bool s_u)∧w'.cell? ⟨w_u.heap.size,1,none⟩=some (.slice A_u n_u c_u)∧w'.cell? ⟨w_u.heap.size+1,0,none⟩=some (.bool s_v)∧w'.cell? ⟨w_u.heap.size+1,1,none⟩=some (.slice A_v n_v c_v))
    (first | with_reducible exact ⟨XP.c0,XP.c1,XQ.c0,XQ.c1,XU.c0,XU.c1,XV.c0,XV.c1⟩ | with_reducible exact ⟨(set2_cell _ _ _ _ _ _ (by omega)).trans (XP.c0),(set2_cell _ _ _ _ _ _ (by omega)).trans (XP.c1),(set2_cell _ _ _ _ _ _ (by omega)).trans (XQ.c0),(set2_cell _ _ _ _ _ _ (by omega)).trans (XQ.c1),(set2_cell _ _ _ _ _ _ (by omega)).trans (XU.c0),(set2_cell _ _ _ _ _ _ (by omega)).trans (XU.c1),(set2_cell _ _ _ _ _ _ (by omega)).trans (XV.c0),(set2_cell _ _ _ _ _ _ (by omega)).trans (XV.c1)⟩ | with_reducible exact ⟨(set2_cell _ _ _ _ _ _ (by omega)).trans ((set2_cell _ _ _ _ _ _ (by omega)).trans (XP.c0)),(set2_cell _ _ _ _ _ _ (by omega)).trans ((set2_cell _ _ _ _ _ _ (by omega)).trans (XP.c1)),(set2_cell _ _ _ _ _ _ (by omega)).trans ((set2_cell _ _ _ _ _ _ (by omega)).trans (XQ.c0)),(set2_cell _ _ _ _ _ _ (by omega)).trans ((set2_cell _ _ _ _ _ _ (by omega)).trans (XQ.c1)),(set2_cell _ _ _ _ _ _ (by omega)).trans ((set2_cell _ _ _ _ _ _ (by omega)).trans (XU.c0)),(set2_cell _ _ _ _ _ _ (by omega)).trans ((set2_cell _ _ _ _ _ _ (by omega)).trans (XU.c1)),(set2_cell _ _ _ _ _ _ (by omega)).trans ((set2_cell _ _ _ _ _ _ (by omega)).trans (XV.c0)),(set2_cell _ _ _ _ _ _ (by omega)).trans ((set2_cell _ _ _ _ _ _ (by omega)).trans (XV.c1))⟩ | with_reducible exact ⟨(set2_cell _ _ _ _ _ _ (by omega)).trans ((set2_cell _ _ _ _ _ _ (by omega)).trans ((set2_cell _ _ _ _ _ _ (by omega)).trans (XP.c0))),(set2_cell _ _ _ _ _ _ (by omega)).trans ((set2_cell _ _ _ _ _ _ (by omega)).trans ((set2_cell _ _ _ _ _ _ (by omega)).trans (XP.c1))),(set2_cell _ _ _ _ _ _ (by omega)).trans ((set2_cell _ _ _ _ _ _ (by omega)).trans ((set2_cell _ _ _ _ _ _ (by omega)).trans (XQ.c0))),(set2_cell _ _ _ _ _ _ (by omega)).trans ((set2_cell _ _ _ _ _ _ (by omega)).trans ((set2_cell _ _ _ _ _ _ (by omega)).trans (XQ.c1))),(set2_cell _ _ _ _ _ _ (by omega)).trans ((set2_cell _ _ _ _ _ _ (by omega)).trans ((set2_cell _ _ _ _ _ _ (by omega)).trans (XU.c0))),(set2_cell _ _ _ _ _ _ (by omega)).trans ((set2_cell _ _ _ _ _ _ (by omega)).trans ((set2_cell _ _ _ _ _ _ (by omega)).trans (XU.c1))),(set2_cell _ _ _ _ _ _ (by omega)).trans ((set2_cell _ _ _ _ _ _ (by omega)).trans ((set2_cell _ _ _ _ _ _ (by omega)).trans (XV.c0))),(set2_cell _ _ _ _ _ _ (by omega)).trans ((set2_cell _ _ _ _ _ _ (by omega)).trans ((set2_cell _ _ _ _ _ _ (by omega)).trans (XV.c1)))⟩)
    (first
    | (go_at_call 52;(with_reducible refine (zmul_zr (k+k2) x v (by omega) (by omega) (by omega)).mono ?_);rintro e w_m1 ⟨s_m1,A_m1,n_m1,c_m1,rfl,m1,hh⟩
       (try replace X:=X.below hh);(try replace Q:=Q.below hh);(try replace Y:=Y.below hh);(try replace R:=R.below hh);(try replace x:=x.below hh);(try replace y:=y.below hh);(try replace u:=u.below hh);(try replace v:=v.below hh);(try replace m2:=m2.below hh);(try replace m3:=m3.below hh);(try replace XA:=XA.below hh);(try replace XB:=XB.below hh);(try replace Z:=Z.below hh);(try replace Z1:=Z1.below hh);(try replace Z2:=Z2.below hh);(try replace Z3:=Z3.below hh);(try replace XP:=XP.below hh);(try replace XQ:=XQ.below hh);(try replace XU:=XU.below hh);(try replace XV:=XV.below hh);replace hb:=bend hb hh)
    | (go_at_call 52;(with_reducible refine (zmul_zr (k+k2) u y (by omega) (by omega) (by omega)).mono ?_);rintro e w_m2 ⟨s_m2,A_m2,n_m2,c_m2,rfl,m2,hh⟩
       (try replace X:=X.below hh);(try replace Q:=Q.below hh);(try replace Y:=Y.below hh);(try replace R:=R.below hh);(try replace x:=x.below hh);(try replace y:=y.below hh);(try replace u:=u.below hh);(try replace v:=v.below hh);(try replace m1:=m1.below hh);(try replace m3:=m3.below hh);(try replace XA:=XA.below hh);(try replace XB:=XB.below hh);(try replace Z:=Z.below hh);(try replace Z1:=Z1.below hh);(try replace Z2:=Z2.below hh);(try replace Z3:=Z3.below hh);(try replace XP:=XP.below hh);(try replace XQ:=XQ.below hh);(try replace XU:=XU.below hh);(try replace XV:=XV.below hh);replace hb:=bend hb hh)
    | (go_at_call 52;(with_reducible refine (zmul_zr (k+k2) y v (by omega) (by omega) (by omega)).mono ?_);rintro e w_m3 ⟨s_m3,A_m3,n_m3,c_m3,rfl,m3,hh⟩
       (try replace X:=X.below hh);(try replace Q:=Q.below hh);(try replace Y:=Y.below hh);(try replace R:=R.below hh);(try replace x:=x.below hh);(try replace y:=y.below hh);(try replace u:=u.below hh);(try replace v:=v.below hh);(try replace m1:=m1.below hh);(try replace m2:=m2.below hh);(try replace XA:=XA.below hh);(try replace XB:=XB.below hh);(try replace Z:=Z.below hh);(try replace Z1:=Z1.below hh);(try replace Z2:=Z2.below hh);(try replace Z3:=Z3.below hh);(try replace XP:=XP.below hh);(try replace XQ:=XQ.below hh);(try replace XU:=XU.below hh);(try replace XV:=XV.below hh);replace hb:=bend hb hh;obtain ⟨z0,z1⟩:=Z1.all;have z2:=Z1.f0;have z3:=Z1.f1;obtain ⟨y0,y1⟩:=Z2.all;have y2:=Z2.f0;have y3:=Z2.f1;obtain ⟨t0,t1⟩:=Z3.all;have t2:=Z3.f0;have t3:=Z3.f1
       have Z2o:=Z2.other (k:=w.heap.size+1+1) (by omega) (.bool s_m1) (.slice A_m1 n_m1 c_m1)
       obtain ⟨zo0,zo1⟩:=Z2o.all;have zo2:=Z2o.f0;have zo3:=Z2o.f1
       have Z3o:=Z3.other (k:=w.heap.size+1+1) (by omega) (.bool s_m1) (.slice A_m1 n_m1 c_m1)
       have Z3p:=Z3o.other (k:=w.heap.size+1+1+1) (by omega) (.bool s_m2) (.slice A_m2 n_m2 c_m2)
       obtain ⟨zp0,zp1⟩:=Z3p.all;have zp2:=Z3p.f0;have zp3:=Z3p.f1))
   go_wp2_with fail
   rw [← Int.natCast_mul] at m3
   have G1:=((Z1.set2 (.bool s_m1) (.slice A_m1 n_m1 c_m1)).other (k:=w.heap.size+1+1+1) (by omega) (.bool s_m2) (.slice A_m2 n_m2 c_m2)).other (k:=w.heap.size+1+1+1+1) (by omega) (.bool s_m3) (.slice A_m3 n_m3 c_m3)
   have G2:=((Z2.other (k:=w.heap.size+1+1) (by omega) (.bool s_m1) (.slice A_m1 n_m1 c_m1)).set2 (.bool s_m2) (.slice A_m2 n_m2 c_m2)).other (k:=w.heap.size+1+1+1+1) (by omega) (.bool s_m3) (.slice A_m3 n_m3 c_m3)
   have G3:=((Z3.other (k:=w.heap.size+1+1) (by omega) (.bool s_m1) (.slice A_m1 n_m1 c_m1)).other (k:=w.heap.size+1+1+1) (by omega) (.bool s_m2) (.slice A_m2 n_m2 c_m2)).set2 (.bool s_m3) (.slice A_m3 n_m3 c_m3)
   obtain ⟨g0,g1⟩:=G1.all;have g2:=G2.c0;have g3:=G2.c1;have g4:=G3.c0;have g5:=G3.c1
   have HT:=three_set hb (by omega) (by omega) (by omega) (by omega) (by omega) (by omega) Z1 Z2 Z3 m1 m2 m3 (.bool s_m1) (.slice A_m1 n_m1 c_m1) (.bool s_m2) (.slice A_m2 n_m2 c_m2) (.bool s_m3) (.slice A_m3 n_m3 c_m3)
   refine bodyPost_ret (v:=.tuple #[.agg #[.bool s_m1,.slice A_m1 n_m1 c_m1],.agg #[.bool s_m2,.slice A_m2 n_m2 c_m2],.agg #[.bool s_m3,.slice A_m3 n_m3 c_m3]]) (by simp [results,Tryz.results100,go_sem,g0,g1,g2,g3,g4,g5]) rfl ?_
   exact ⟨_,_,_,HL.out.1,HL.out.2.1,HL.out.2.2,_,_,_,_,_,_,_,_,_,_,_,_,rfl,HT.1,HT.2.1,HT.2.2.1,HT.2.2.2⟩
end
section
open Go Go.RowKit
def GivesF (w:World) (v:Rat) (k:Nat) (e:Ending) (w':World):Prop :=
 ∃ (f:Int) (L:Nat),L ≠ 0∧v=mkRat f L∧∃ s A n c t B m d,e=.returned (.tuple #[.agg #[.bool s,.slice A n c],.agg #[.bool t,.slice B m d]])∧ZR w' s A n c f k∧ZR w' t B m d (L:Int) k∧Below w.heap.size w w'
theorem rsum_q {s t:Bool} {A A' B B':Option Addr} {n c n' c' m d m' d' k k2:Nat} {v0 u0:Rat} (X0:QR w s A n c A' n' c' v0 k) (Y0:QR w t B m d B' m' d' u0 k2) (hk:k≤40000) (hkb:k2≤40000) (h40:k≤40000 ∨ k2≤40000) (hk1:1≤k) (hk3:1≤k2) :
 Calls Tryz.prog 59 #[.agg #[.bool s,.slice A n c,.slice A' n' c'],.agg #[.bool t,.slice B m d,.slice B' m' d']] w (GivesF w (v0+u0) (k+k2+1)):=by
 obtain ⟨p,q,X,Q,rfl⟩:=X0
 obtain ⟨p2,q2,Y,R,rfl⟩:=Y0
 go_enter Tryz.func59,Tryz.ntmps59
 go_wp2_with fail
 generalize hW:World.alloc _ _=W
 obtain ⟨hb,XA,XB,Z1,Z2,hzW⟩:=mkbx15_9 hW;clear hW;replace X:=X.below hb;replace Q:=Q.below hb;replace Y:=Y.below hb;replace R:=R.below hb;obtain ⟨xa0,xa1,xa2⟩:=XA.all;obtain ⟨xb0,xb1,xb2⟩:=XB.all;have zf0:=Z2.c0
 go_upto_region 2 with (first
  | (go_at_call 100;(with_reducible refine (ralike_q X Q Y R hk hkb h40 hk1 hk3).mono ?_);rintro e w_a ⟨f,g,L,hL0,hL1,hL2,s_x,A_x,n_x,c_x,s_y,A_y,n_y,c_y,s_l,A_l,n_l,c_l,rfl,x,y,l,hh⟩
     (try replace X:=X.below hh);(try replace Q:=Q.below hh);(try replace Y:=Y.below hh);(try replace R:=R.below hh);(try replace m1:=m1.below hh);(try replace XA:=XA.below hh);(try replace XB:=XB.below hh);(try replace Z1:=Z1.below hh);(try replace Z2:=Z2.below hh);(try replace XP:=XP.below hh);(try replace XQ:=XQ.below hh);replace hb:=bend hb hh;have HL0:=Lib.hid hL0;have HL1:=Lib.hid hL1;have HL2:=Lib.hid hL2;clear hL0 hL1 hL2
     have Z2b:=(Z2.alloc (Obj.cells #[Value.bool s_x,Value.slice A_x n_x c_x] 25)).alloc (Obj.cells #[Value.bool s_y,Value.slice A_y n_y c_y] 25)
     obtain ⟨zz0,zz1⟩:=Z2b.all;have zz2:=Z2b.f0;have zz3:=Z2b.f1))
 have hp1:=Z2.lt
 generalize hW:World.alloc _ _=W0
 obtain ⟨hh,XP0,XQ0⟩:=mkbx4_6 hW;clear hW;replace x:=x.below hh;replace y:=y.below hh;replace l:=l.below hh;replace Z1:=Z1.below hh;replace Z2:=Z2.below hh;replace hb:=bend hb hh
 generalize hW:(W0.setCell ⟨w.heap.size+1+1+1,0,none⟩ (.bool s_l)).setCell ⟨w.heap.size+1+1+1,1,none⟩ (.slice A_l n_l c_l)=W1
 replace x:ZR W1 s_x A_x n_x c_x f (k+k2):=by subst hW;exact x.set2x Z2 _ _
 replace y:ZR W1 s_y A_y n_y c_y g (k+k2):=by subst hW;exact y.set2x Z2 _ _
 replace l:ZR W1 s_l A_l n_l c_l (L:Int) (k+k2):=by subst hW;exact l.set2x Z2 _ _
 have XP:Bx W1 (w_a.heap.size) (Value.bool s_x) (Value.slice A_x n_x c_x):=by subst hW;exact XP0.other (by omega) _ _
 have XQ:Bx W1 (w_a.heap.size+1) (Value.bool s_y) (Value.slice A_y n_y c_y):=by subst hW;exact XQ0.other (by omega) _ _
 replace Z1:Bx W1 (w.heap.size+1+1) (Value.bool false) (Value.slice none 0 0):=by subst hW;exact Z1.other (by omega) _ _
 replace hb:Below w.heap.size w W1:=by subst hW;exact below_set2 hb (by omega) _ _
 have Z2':Bx W1 (w.heap.size+1+1+1) (Value.bool s_l) (Value.slice A_l n_l c_l):=by subst hW;exact Z2.set2 _ _
 clear hW XP0 XQ0 Z2
 have Z2:=Z2'
 clear Z2'
 replace x:=x.below (Below.refl _ _).drew
 replace y:=y.below (Below.refl _ _).drew
 replace l:=l.below (Below.refl _ _).drew
 replace Z1:=Z1.below (Below.refl _ _).drew
 replace Z2:=Z2.below (Below.refl _ _).drew
 replace XP:=XP.below (Below.refl _ _).drew
 replace XQ:=XQ.below (Below.refl _ _).drew
 replace hb:=hb.drew
 go_region_held3 (fun w'=>w'.cell? ⟨w_a.heap.size,0,none⟩=some (.bool s_x)∧w'.cell? ⟨w_a.heap.size,1,none⟩=some (.slice A_x n_x c_x)∧w'.cell? ⟨w_a.heap.size+1,0,none⟩=some (.bool s_y)∧w'.cell? ⟨w_a.heap.size+1,1,none⟩=some (.slice A_y n_y c_y)∧w'.cell? ⟨w.heap.size+1+1+1,0,none⟩=some (.bool s_l)∧w'.cell? ⟨w.heap.size+1+1+1,1,none⟩=some (.slice A_l n_l c_l))
  (first | with_reducible exact ⟨XP.c0,XP.c1,XQ.c0,XQ.c1,Z2.c0,Z2.c1⟩ | with_reducible exact ⟨(set2_cell _ _ _ _ _ _ (by omega)).trans (XP.c0),(set2_cell _ _ _ _ _ _ (by omega)).trans (XP.c1),(set2_cell _ _ _ _ _ _ (by omega)).trans (XQ.c0),(set2_cell _ _ _ _ _ _ (by omega)).trans (XQ.c1),(set2_cell _ _ _ _ _ _ (by omega)).trans (Z2.c0),(set2_cell _ _ _ _ _ _ (by omega)).trans (Z2.c1)⟩ | with_reducible exact ⟨(set2_cell _ _ _ _ _ _ (by omega)).trans ((set2_cell _ _ _ _ _ _ (by omega)).trans (XP.c0)),(set2_cell _ _ _ _ _ _ (by omega)).trans ((set2_cell _ _ _ _ _ _ (by omega)).trans (XP.c1)),(set2_cell _ _ _ _ _ _ (by omega)).trans ((set2_cell _ _ _ _ _ _ (by omega)).trans (XQ.c0)),(set2_cell _ _ _ _ _ _ (by omega)).trans ((set2_cell _ _ _ _ _ _ (by omega)).trans (XQ.c1)),Z2q.c0,Z2q.c1⟩)
  (first
  | (go_at_call 101;(with_reducible refine (zadd_zr (k+k2+1) x y (by omega) (by omega) (by omega)).mono ?_);rintro e w_m1 ⟨s_m1,A_m1,n_m1,c_m1,rfl,m1,hh⟩
     (try replace X:=X.below hh);(try replace Q:=Q.below hh);(try replace Y:=Y.below hh);(try replace R:=R.below hh);(try replace x:=x.below hh);(try replace y:=y.below hh);(try replace l:=l.below hh);(try replace XA:=XA.below hh);(try replace XB:=XB.below hh);(try replace Z1:=Z1.below hh);(try replace Z2:=Z2.below hh);(try replace XP:=XP.below hh);(try replace XQ:=XQ.below hh);replace hb:=bend hb hh;obtain ⟨z0,z1⟩:=Z1.all;have z2:=Z1.f0;have z3:=Z1.f1;obtain ⟨y0,y1⟩:=Z2.all;have y2:=Z2.f0;have y3:=Z2.f1
     have Z2o:=Z2.other (k:=w.heap.size+1+1) (by omega) (.bool s_m1) (.slice A_m1 n_m1 c_m1)
     obtain ⟨zo0,zo1⟩:=Z2o.all;have zo2:=Z2o.f0;have zo3:=Z2o.f1
     have Z2q:=Z2o.set2 (.bool s_l) (.slice A_l n_l c_l)))
 go_wp2_with fail
 have G1:=(Z1.set2 (.bool s_m1) (.slice A_m1 n_m1 c_m1)).other (k:=w.heap.size+1+1+1) (by omega) (.bool s_l) (.slice A_l n_l c_l)
 have G2:=(Z2.other (k:=w.heap.size+1+1) (by omega) (.bool s_m1) (.slice A_m1 n_m1 c_m1)).set2 (.bool s_l) (.slice A_l n_l c_l)
 obtain ⟨g0,g1⟩:=G1.all;have g2:=G2.c0;have g3:=G2.c1
 have HT:=two_set hb (by omega) (by omega) (by omega) Z1 Z2 m1 (l.more (show k+k2≤k+k2+1 by omega)) (.bool s_m1) (.slice A_m1 n_m1 c_m1) (.bool s_l) (.slice A_l n_l c_l)
 refine bodyPost_ret (v:=.tuple #[.agg #[.bool s_m1,.slice A_m1 n_m1 c_m1],.agg #[.bool s_l,.slice A_l n_l c_l]]) (by simp [results,Tryz.results59,go_sem,g0,g1,g2,g3]) rfl ?_
 exact ⟨_,L,HL0.out,by rw [HL1.out,HL2.out];exact mk_add_same HL0.out,_,_,_,_,_,_,_,_,rfl,HT.1,HT.2.1,HT.2.2⟩
theorem rdiff_q {s t:Bool} {A A' B B':Option Addr} {n c n' c' m d m' d' k k2:Nat} {v0 u0:Rat} (X0:QR w s A n c A' n' c' v0 k) (Y0:QR w t B m d B' m' d' u0 k2) (hk:k≤40000) (hkb:k2≤40000) (h40:k≤40000 ∨ k2≤40000) (hk1:1≤k) (hk3:1≤k2) :
 Calls Tryz.prog 125 #[.agg #[.bool s,.slice A n c,.slice A' n' c'],.agg #[.bool t,.slice B m d,.slice B' m' d']] w (GivesF w (v0 - u0) (k+k2+1)):=by
 obtain ⟨p,q,X,Q,rfl⟩:=X0
 obtain ⟨p2,q2,Y,R,rfl⟩:=Y0
 go_enter Tryz.func125,Tryz.ntmps125
 go_wp2_with fail
 generalize hW:World.alloc _ _=W
 obtain ⟨hb,XA,XB,Z1,Z2,hzW⟩:=mkbx15_9 hW;clear hW;replace X:=X.below hb;replace Q:=Q.below hb;replace Y:=Y.below hb;replace R:=R.below hb;obtain ⟨xa0,xa1,xa2⟩:=XA.all;obtain ⟨xb0,xb1,xb2⟩:=XB.all;have zf0:=Z2.c0
 go_upto_region 2 with (first
  | (go_at_call 100;(with_reducible refine (ralike_q X Q Y R hk hkb h40 hk1 hk3).mono ?_);rintro e w_a ⟨f,g,L,hL0,hL1,hL2,s_x,A_x,n_x,c_x,s_y,A_y,n_y,c_y,s_l,A_l,n_l,c_l,rfl,x,y,l,hh⟩
     (try replace X:=X.below hh);(try replace Q:=Q.below hh);(try replace Y:=Y.below hh);(try replace R:=R.below hh);(try replace m1:=m1.below hh);(try replace XA:=XA.below hh);(try replace XB:=XB.below hh);(try replace Z1:=Z1.below hh);(try replace Z2:=Z2.below hh);(try replace XP:=XP.below hh);(try replace XQ:=XQ.below hh);replace hb:=bend hb hh;have HL0:=Lib.hid hL0;have HL1:=Lib.hid hL1;have HL2:=Lib.hid hL2;clear hL0 hL1 hL2
     have Z2b:=(Z2.alloc (Obj.cells #[Value.bool s_x,Value.slice A_x n_x c_x] 25)).alloc (Obj.cells #[Value.bool s_y,Value.slice A_y n_y c_y] 25)
     obtain ⟨zz0,zz1⟩:=Z2b.all;have zz2:=Z2b.f0;have zz3:=Z2b.f1))
 have hp1:=Z2.lt
 generalize hW:World.alloc _ _=W0
 obtain ⟨hh,XP0,XQ0⟩:=mkbx4_6 hW;clear hW;replace x:=x.below hh;replace y:=y.below hh;replace l:=l.below hh;replace Z1:=Z1.below hh;replace Z2:=Z2.below hh;replace hb:=bend hb hh
 generalize hW:(W0.setCell ⟨w.heap.size+1+1+1,0,none⟩ (.bool s_l)).setCell ⟨w.heap.size+1+1+1,1,none⟩ (.slice A_l n_l c_l)=W1
 replace x:ZR W1 s_x A_x n_x c_x f (k+k2):=by subst hW;exact x.set2x Z2 _ _
 replace y:ZR W1 s_y A_y n_y c_y g (k+k2):=by subst hW;exact y.set2x Z2 _ _
 replace l:ZR W1 s_l A_l n_l c_l (L:Int) (k+k2):=by subst hW;exact l.set2x Z2 _ _
 have XP:Bx W1 (w_a.heap.size) (Value.bool s_x) (Value.slice A_x n_x c_x):=by subst hW;exact XP0.other (by omega) _ _
 have XQ:Bx W1 (w_a.heap.size+1) (Value.bool s_y) (Value.slice A_y n_y c_y):=by subst hW;exact XQ0.other (by omega) _ _
 replace Z1:Bx W1 (w.heap.size+1+1) (Value.bool false) (Value.slice none 0 0):=by subst hW;exact Z1.other (by omega) _ _
 replace hb:Below w.heap.size w W1:=by subst hW;exact below_set2 hb (by omega) _ _
 have Z2':Bx W1 (w.heap.size+1+1+1) (Value.bool s_l) (Value.slice A_l n_l c_l):=by subst hW;exact Z2.set2 _ _
 clear hW XP0 XQ0 Z2
 have Z2:=Z2'
 clear Z2'
 replace x:=x.below (Below.refl _ _).drew
 replace y:=y.below (Below.refl _ _).drew
 replace l:=l.below (Below.refl _ _).drew
 replace Z1:=Z1.below (Below.refl _ _).drew
 replace Z2:=Z2.below (Below.refl _ _).drew
 replace XP:=XP.below (Below.refl _ _).drew
 replace XQ:=XQ.below (Below.refl _ _).drew
 replace hb:=hb.drew
 go_region_held3 (fun w'=>w'.cell? ⟨w_a.heap.size,0,none⟩=some (.bool s_x)∧w'.cell? ⟨w_a.heap.size,1,none⟩=some (.slice A_x n_x c_x)∧w'.cell? ⟨w_a.heap.size+1,0,none⟩=some (.bool s_y)∧w'.cell? ⟨w_a.heap.size+1,1,none⟩=some (.slice A_y n_y c_y)∧w'.cell? ⟨w.heap.size+1+1+1,0,none⟩=some (.bool s_l)∧w'.cell? ⟨w.heap.size+1+1+1,1,none⟩=some (.slice A_l n_l c_l))
  (first | with_reducible exact ⟨XP.c0,XP.c1,XQ.c0,XQ.c1,Z2.c0,Z2.c1⟩ | with_reducible exact ⟨(set2_cell _ _ _ _ _ _ (by omega)).trans (XP.c0),(set2_cell _ _ _ _ _ _ (by omega)).trans (XP.c1),(set2_cell _ _ _ _ _ _ (by omega)).trans (XQ.c0),(set2_cell _ _ _ _ _ _ (by omega)).trans (XQ.c1),(set2_cell _ _ _ _ _ _ (by omega)).trans (Z2.c0),(set2_cell _ _ _ _ _ _ (by omega)).trans (Z2.c1)⟩ | with_reducible exact ⟨(set2_cell _ _ _ _ _ _ (by omega)).trans ((set2_cell _ _ _ _ _ _ (by omega)).trans (XP.c0)),(set2_cell _ _ _ _ _ _ (by omega)).trans ((set2_cell _ _ _ _ _ _ (by omega)).trans (XP.c1)),(set2_cell _ _ _ _ _ _ (by omega)).trans ((set2_cell _ _ _ _ _ _ (by omega)).trans (XQ.c0)),(set2_cell _ _ _ _ _ _ (by omega)).trans ((set2_cell _ _ _ _ _ _ (by omega)).trans (XQ.c1)),Z2q.c0,Z2q.c1⟩)
  (first
  | (go_at_call 148;(with_reducible refine (zsub_zr (k+k2+1) x y (by omega) (by omega) (by omega)).mono ?_);rintro e w_m1 ⟨s_m1,A_m1,n_m1,c_m1,rfl,m1,hh⟩
     (try replace X:=X.below hh);(try replace Q:=Q.below hh);(try replace Y:=Y.below hh);(try replace R:=R.below hh);(try replace x:=x.below hh);(try replace y:=y.below hh);(try replace l:=l.below hh);(try replace XA:=XA.below hh);(try replace XB:=XB.below hh);(try replace Z1:=Z1.below hh);(try replace Z2:=Z2.below hh);(try replace XP:=XP.below hh);(try replace XQ:=XQ.below hh);replace hb:=bend hb hh;obtain ⟨z0,z1⟩:=Z1.all;have z2:=Z1.f0;have z3:=Z1.f1;obtain ⟨y0,y1⟩:=Z2.all;have y2:=Z2.f0;have y3:=Z2.f1
     have Z2o:=Z2.other (k:=w.heap.size+1+1) (by omega) (.bool s_m1) (.slice A_m1 n_m1 c_m1)
     obtain ⟨zo0,zo1⟩:=Z2o.all;have zo2:=Z2o.f0;have zo3:=Z2o.f1
     have Z2q:=Z2o.set2 (.bool s_l) (.slice A_l n_l c_l)))
 go_wp2_with fail
 have G1:=(Z1.set2 (.bool s_m1) (.slice A_m1 n_m1 c_m1)).other (k:=w.heap.size+1+1+1) (by omega) (.bool s_l) (.slice A_l n_l c_l)
 have G2:=(Z2.other (k:=w.heap.size+1+1) (by omega) (.bool s_m1) (.slice A_m1 n_m1 c_m1)).set2 (.bool s_l) (.slice A_l n_l c_l)
 obtain ⟨g0,g1⟩:=G1.all;have g2:=G2.c0;have g3:=G2.c1
 have HT:=two_set hb (by omega) (by omega) (by omega) Z1 Z2 m1 (l.more (show k+k2≤k+k2+1 by omega)) (.bool s_m1) (.slice A_m1 n_m1 c_m1) (.bool s_l) (.slice A_l n_l c_l)
 refine bodyPost_ret (v:=.tuple #[.agg #[.bool s_m1,.slice A_m1 n_m1 c_m1],.agg #[.bool s_l,.slice A_l n_l c_l]]) (by simp [results,Tryz.results125,go_sem,g0,g1,g2,g3]) rfl ?_
 exact ⟨_,L,HL0.out,by rw [HL1.out,HL2.out];exact mk_sub_same HL0.out,_,_,_,_,_,_,_,_,rfl,HT.1,HT.2.1,HT.2.2⟩
theorem mkbx17_9 {w W:World} {x0 x1 x2 x3 x4 x5 x6 x7 x8:Value} (h:(((w.alloc (Obj.cells #[x0,x1,x2] 27)).alloc (Obj.cells #[x3,x4,x5] 27)).alloc (Obj.cells #[x6,x7,x8] 27))=W):Below w.heap.size w W∧B3 W (w.heap.size) x0 x1 x2∧B3 W (w.heap.size+1) x3 x4 x5∧B3 W (w.heap.size+1+1) x6 x7 x8∧W.heap.size=w.heap.size+3:=by subst h;exact ⟨by exact ((((Below.refl _ _).alloc (Nat.le_refl _) _).alloc (by simp) _).alloc (by simp;omega) _),by exact ((B3.new' _ _ _ _ _ rfl).alloc _).alloc _,by exact (B3.new' _ _ _ _ _ (by simp)).alloc _,by exact B3.new' _ _ _ _ _ (by simp),by simp⟩
theorem radd_q {s t:Bool} {A A' B B':Option Addr} {n c n' c' m d m' d' k k2:Nat} {v0 u0:Rat} (X0:QR w s A n c A' n' c' v0 k) (Y0:QR w t B m d B' m' d' u0 k2) (hk:k≤40000) (hkb:k2≤40000) (h40:k≤40000 ∨ k2≤40000) (hk1:1≤k) (hk3:1≤k2) :
 Calls Tryz.prog 22 #[.agg #[.bool s,.slice A n c,.slice A' n' c'],.agg #[.bool t,.slice B m d,.slice B' m' d']] w (GivesQ w (v0+u0) (k+k2+1)):=by
 go_enter Tryz.func22,Tryz.ntmps22
 go_wp2_with fail
 generalize hW:World.alloc _ _=W
 obtain ⟨hb,XA,XB,Z,hzW⟩:=mkbx17_9 hW;clear hW;replace X0:=X0.below hb;replace Y0:=Y0.below hb;obtain ⟨xa0,xa1,xa2⟩:=XA.all;obtain ⟨xb0,xb1,xb2⟩:=XB.all
 go_wp2_with (first
  | (go_at_call 59;(with_reducible refine (rsum_q X0 Y0 hk hkb h40 hk1 hk3).mono ?_);rintro e w_a ⟨f,L,hL0,hL1,s_x,A_x,n_x,c_x,s_y,A_y,n_y,c_y,rfl,x,y,hh⟩
     (try replace X0:=X0.below hh);(try replace Y0:=Y0.below hh);(try replace r:=r.below hh);(try replace XA:=XA.below hh);(try replace XB:=XB.below hh);(try replace Z:=Z.below hh);replace hb:=bend hb hh
     have hL:(L:Int) ≠ 0:=by omega
     have HL0:=Lib.hid hL
     have HL1:Hid (Rat.divInt f (L:Int)=v0+u0):=by show _=_;rw [hL1,Rat.divInt_ofNat]
     clear hL0 hL1 hL)
  | (go_at_call 58;(with_reducible refine (by_zr (k+k2+1) x y (by omega) (by omega) HL0.out (Nat.le_refl _) (Nat.le_refl _)).mono ?_);rintro e w_r ⟨s_r,A_r,n_r,c_r,B_r,m_r,d_r,rfl,r,hh⟩
     rw [HL1.out] at r;(try replace X0:=X0.below hh);(try replace Y0:=Y0.below hh);(try replace x:=x.below hh);(try replace y:=y.below hh);(try replace XA:=XA.below hh);(try replace XB:=XB.below hh);(try replace Z:=Z.below hh);replace hb:=bend hb hh;have zf0:=Z.f0;have zf1:=Z.f1;have zf2:=Z.f2;obtain ⟨z0,z1,z2⟩:=Z.all))
 have Z2:=Z.set3 (.bool s_r) (.slice A_r n_r c_r) (.slice B_r m_r d_r)
 obtain ⟨g0,g1,g2⟩:=Z2.all
 refine bodyPost_ret (v:=.agg #[.bool s_r,.slice A_r n_r c_r,.slice B_r m_r d_r]) (by simp [results,Tryz.results22,go_sem,g0,g1,g2]) rfl ?_
 exact ⟨s_r,A_r,n_r,c_r,B_r,m_r,d_r,rfl,r.set3 Z _ _ _,below_set3 hb (by omega) _ _ _⟩
theorem rsub_q {s t:Bool} {A A' B B':Option Addr} {n c n' c' m d m' d' k k2:Nat} {v0 u0:Rat} (X0:QR w s A n c A' n' c' v0 k) (Y0:QR w t B m d B' m' d' u0 k2) (hk:k≤40000) (hkb:k2≤40000) (h40:k≤40000 ∨ k2≤40000) (hk1:1≤k) (hk3:1≤k2) :
 Calls Tryz.prog 98 #[.agg #[.bool s,.slice A n c,.slice A' n' c'],.agg #[.bool t,.slice B m d,.slice B' m' d']] w (GivesQ w (v0 - u0) (k+k2+1)):=by
 go_enter Tryz.func98,Tryz.ntmps98
 go_wp2_with fail
 generalize hW:World.alloc _ _=W
 obtain ⟨hb,XA,XB,Z,hzW⟩:=mkbx17_9 hW;clear hW;replace X0:=X0.below hb;replace Y0:=Y0.below hb;obtain ⟨xa0,xa1,xa2⟩:=XA.all;obtain ⟨xb0,xb1,xb2⟩:=XB.all
 go_wp2_with (first
  | (go_at_call 125;(with_reducible refine (rdiff_q X0 Y0 hk hkb h40 hk1 hk3).mono ?_);rintro e w_a ⟨f,L,hL0,hL1,s_x,A_x,n_x,c_x,s_y,A_y,n_y,c_y,rfl,x,y,hh⟩
     (try replace X0:=X0.below hh);(try replace Y0:=Y0.below hh);(try replace r:=r.below hh);(try replace XA:=XA.below hh);(try replace XB:=XB.below hh);(try replace Z:=Z.below hh);replace hb:=bend hb hh
     have hL:(L:Int) ≠ 0:=by omega
     have HL0:=Lib.hid hL
     have HL1:Hid (Rat.divInt f (L:Int)=v0 - u0):=by show _=_;rw [hL1,Rat.divInt_ofNat]
     clear hL0 hL1 hL)
  | (go_at_call 58;(with_reducible refine (by_zr (k+k2+1) x y (by omega) (by omega) HL0.out (Nat.le_refl _) (Nat.le_refl _)).mono ?_);rintro e w_r ⟨s_r,A_r,n_r,c_r,B_r,m_r,d_r,rfl,r,hh⟩
     rw [HL1.out] at r;(try replace X0:=X0.below hh);(try replace Y0:=Y0.below hh);(try replace x:=x.below hh);(try replace y:=y.below hh);(try replace XA:=XA.below hh);(try replace XB:=XB.below hh);(try replace Z:=Z.below hh);replace hb:=bend hb hh;have zf0:=Z.f0;have zf1:=Z.f1;have zf2:=Z.f2;obtain ⟨z0,z1,z2⟩:=Z.all))
 have Z2:=Z.set3 (.bool s_r) (.slice A_r n_r c_r) (.slice B_r m_r d_r)
 obtain ⟨g0,g1,g2⟩:=Z2.all
 refine bodyPost_ret (v:=.agg #[.bool s_r,.slice A_r n_r c_r,.slice B_r m_r d_r]) (by simp [results,Tryz.results98,go_sem,g0,g1,g2]) rfl ?_
 exact ⟨s_r,A_r,n_r,c_r,B_r,m_r,d_r,rfl,r.set3 Z _ _ _,below_set3 hb (by omega) _ _ _⟩
theorem rmul_q {s t:Bool} {A A' B B':Option Addr} {n c n' c' m d m' d' k k2:Nat} {v0 u0:Rat} (X0:QR w s A n c A' n' c' v0 k) (Y0:QR w t B m d B' m' d' u0 k2) (hk:k≤40000) (hkb:k2≤40000) (h40:k≤40000 ∨ k2≤40000) (hk1:1≤k) (hk3:1≤k2) :
 Calls Tryz.prog 23 #[.agg #[.bool s,.slice A n c,.slice A' n' c'],.agg #[.bool t,.slice B m d,.slice B' m' d']] w (GivesQ w (v0*u0) (k+k2)):=by
 obtain ⟨p,q,X,Q,rfl⟩:=X0
 obtain ⟨p2,q2,Y,R,rfl⟩:=Y0
 have HE:Hid (Rat.divInt (p*p2) ((den1 q:Int)*(den1 q2:Int))=mkRat p (den1 q)*mkRat p2 (den1 q2)):=by show _=_;rw [mk_mul,← Int.natCast_mul,Rat.divInt_ofNat]
 have HL0:Hid ((den1 q:Int)*(den1 q2:Int) ≠ 0):=Int.mul_ne_zero (den1_i q) (den1_i q2)
 go_enter Tryz.func23,Tryz.ntmps23
 go_wp2_with fail
 generalize hW:World.alloc _ _=W
 obtain ⟨hb,XA,XB,Z,hzW⟩:=mkbx17_9 hW;clear hW;replace X:=X.below hb;replace Q:=Q.below hb;replace Y:=Y.below hb;replace R:=R.below hb;obtain ⟨xa0,xa1,xa2⟩:=XA.all;obtain ⟨xb0,xb1,xb2⟩:=XB.all
 go_wp2_with (first
  | (go_at_call 60;(with_reducible refine (rprod_q X Q Y R hk hkb h40 hk1 hk3).mono ?_);rintro e w_a ⟨s_x,A_x,n_x,c_x,s_y,A_y,n_y,c_y,rfl,x,y,hh⟩
     (try replace X:=X.below hh);(try replace Q:=Q.below hh);(try replace Y:=Y.below hh);(try replace R:=R.below hh);(try replace r:=r.below hh);(try replace XA:=XA.below hh);(try replace XB:=XB.below hh);(try replace Z:=Z.below hh);replace hb:=bend hb hh)
  | (go_at_call 58;(with_reducible refine (by_zr (k+k2) x y (by omega) (by omega) HL0.out (Nat.le_refl _) (Nat.le_refl _)).mono ?_);rintro e w_r ⟨s_r,A_r,n_r,c_r,B_r,m_r,d_r,rfl,r,hh⟩
     rw [HE.out] at r;(try replace X:=X.below hh);(try replace Q:=Q.below hh);(try replace Y:=Y.below hh);(try replace R:=R.below hh);(try replace x:=x.below hh);(try replace y:=y.below hh);(try replace XA:=XA.below hh);(try replace XB:=XB.below hh);(try replace Z:=Z.below hh);replace hb:=bend hb hh;have zf0:=Z.f0;have zf1:=Z.f1;have zf2:=Z.f2;obtain ⟨z0,z1,z2⟩:=Z.all))
 have Z2:=Z.set3 (.bool s_r) (.slice A_r n_r c_r) (.slice B_r m_r d_r)
 obtain ⟨g0,g1,g2⟩:=Z2.all
 refine bodyPost_ret (v:=.agg #[.bool s_r,.slice A_r n_r c_r,.slice B_r m_r d_r]) (by simp [results,Tryz.results23,go_sem,g0,g1,g2]) rfl ?_
 exact ⟨s_r,A_r,n_r,c_r,B_r,m_r,d_r,rfl,r.set3 Z _ _ _,below_set3 hb (by omega) _ _ _⟩
theorem rdiv_q {s t:Bool} {A A' B B':Option Addr} {n c n' c' m d m' d' k k2:Nat} {v0 u0:Rat} (X0:QR w s A n c A' n' c' v0 k) (Y0:QR w t B m d B' m' d' u0 k2) (hk:k≤40000) (hkb:k2≤40000) (h40:k≤40000 ∨ k2≤40000) (hk1:1≤k) (hk3:1≤k2) (hu:u0 ≠ 0) :
 Calls Tryz.prog 48 #[.agg #[.bool s,.slice A n c,.slice A' n' c'],.agg #[.bool t,.slice B m d,.slice B' m' d']] w (GivesQE w (v0 / u0) (k+k2)):=by
 obtain ⟨p,q,X,Q,rfl⟩:=X0
 obtain ⟨p2,q2,Y,R,rfl⟩:=Y0
 have HE:Hid (Rat.divInt (p*(den1 q2:Int)) ((den1 q:Int)*p2)=mkRat p (den1 q) / mkRat p2 (den1 q2)):=(mk_div _ _ _ _).symm
 have HL0:Hid ((den1 q:Int)*p2 ≠ 0):=Int.mul_ne_zero (den1_i q) (fun h=>hu ((mk_zero (den1_ne q2)).2 h))
 clear hu
 go_enter Tryz.func48,Tryz.ntmps48
 go_wp2_with fail
 generalize hW:World.alloc _ _=W
 obtain ⟨hb,XA,XB,Z,hzW⟩:=mkbx17_9 hW;clear hW;replace X:=X.below hb;replace Q:=Q.below hb;replace Y:=Y.below hb;replace R:=R.below hb;obtain ⟨xa0,xa1,xa2⟩:=XA.all;obtain ⟨xb0,xb1,xb2⟩:=XB.all
 go_wp2_with (first
  | (go_at_call 91;(with_reducible refine (rquot_q X Q Y R hk hkb h40 hk1 hk3).mono ?_);rintro e w_a ⟨s_x,A_x,n_x,c_x,s_y,A_y,n_y,c_y,rfl,x,y,hh⟩
     (try replace X:=X.below hh);(try replace Q:=Q.below hh);(try replace Y:=Y.below hh);(try replace R:=R.below hh);(try replace r:=r.below hh);(try replace XA:=XA.below hh);(try replace XB:=XB.below hh);(try replace Z:=Z.below hh);replace hb:=bend hb hh)
  | (go_at_call 46;(with_reducible refine (make_zr (k+k2) x y (by omega) (by omega) HL0.out (Nat.le_refl _) (Nat.le_refl _)).mono ?_);rintro e w_r ⟨s_r,A_r,n_r,c_r,B_r,m_r,d_r,rfl,r,hh⟩
     rw [HE.out] at r;(try replace X:=X.below hh);(try replace Q:=Q.below hh);(try replace Y:=Y.below hh);(try replace R:=R.below hh);(try replace x:=x.below hh);(try replace y:=y.below hh);(try replace XA:=XA.below hh);(try replace XB:=XB.below hh);(try replace Z:=Z.below hh);replace hb:=bend hb hh;have zf0:=Z.f0;have zf1:=Z.f1;have zf2:=Z.f2;obtain ⟨z0,z1,z2⟩:=Z.all))
 have Z2:=Z.set3 (.bool s_r) (.slice A_r n_r c_r) (.slice B_r m_r d_r)
 obtain ⟨g0,g1,g2⟩:=Z2.all
 refine bodyPost_ret (v:=.tuple #[.agg #[.bool s_r,.slice A_r n_r c_r,.slice B_r m_r d_r],.int .i64 0]) (by simp [results,Tryz.results48,go_sem,g0,g1,g2]) rfl ?_
 exact ⟨s_r,A_r,n_r,c_r,B_r,m_r,d_r,rfl,r.set3 Z _ _ _,below_set3 hb (by omega) _ _ _⟩
end
section
open Go.RowKit
theorem below_set2' {B g:Nat} {w W:World} (h:Below B w W) (hg:B≤g) (x y:Value):Below B w ((W.setCell ⟨g,0,none⟩ x).setCell ⟨g,1,none⟩ y):=(h.setCell hg _).setCell hg _
end
section
open Go Go.RowKit
theorem rof_q (p q:Int) (hp1:-9223372036854775808≤p) (hp2:p < 9223372036854775808) (hq1:-9223372036854775808≤q) (hq2:q < 9223372036854775808) (hq0:((q:Int) == 0)=false) (w:World) :
 Calls Tryz.prog 18 #[.int .i64 p,.int .i64 q] w (GivesQ w (Rat.divInt p q) 1):=by
 have hq:q ≠ 0:=by simpa using hq0
 have HQ:=Lib.hid hq;have H1:=Lib.hid hp1;have H2:=Lib.hid hp2;have H3:=Lib.hid hq1;have H4:=Lib.hid hq2;clear hq hp1 hp2 hq1 hq2
 go_enter Tryz.func18,Tryz.ntmps18
 go_wp2_with fail
 generalize hW:World.alloc _ _=W
 obtain ⟨hb,Z,hzW⟩:=mkbx13_8 hW;clear hW
 go_upto_region 4 with (first
  | (go_at_call 47;(with_reducible refine (zof_zr p H1.out H2.out _).mono ?_);rintro e w_x ⟨s_x,A_x,n_x,c_x,rfl,x,hh⟩
     (try replace y:=y.below hh);(try replace r:=r.below hh);(try replace Z:=Z.below hh);replace hb:=bend hb hh)
  | (go_at_call 47;(with_reducible refine (zof_zr q H3.out H4.out _).mono ?_);rintro e w_y ⟨s_y,A_y,n_y,c_y,rfl,y,hh⟩
     (try replace x:=x.below hh);(try replace r:=r.below hh);(try replace Z:=Z.below hh);replace hb:=bend hb hh)
  | (go_at_call 46;(with_reducible refine (make_zr 1 x y (by omega) (by omega) HQ.out (Nat.le_refl _) (Nat.le_refl _)).mono ?_);rintro e w_r ⟨s_r,A_r,n_r,c_r,B_r,m_r,d_r,rfl,r,hh⟩
     (try replace x:=x.below hh);(try replace y:=y.below hh);(try replace Z:=Z.below hh);replace hb:=bend hb hh))
 generalize hW:World.alloc _ _=W2
 obtain ⟨hh,R,hzW2⟩:=mkbx13_8 hW;clear hW;(try replace r:=r.below hh);(try replace Z:=Z.below hh);replace hb:=bend hb hh;obtain ⟨r0,r1,r2⟩:=R.all;have zf0:=Z.f0;have zf1:=Z.f1;have zf2:=Z.f2;obtain ⟨z0,z1,z2⟩:=Z.all
 go_wp2_with fail
 have Z2:=Z.set3 (.bool s_r) (.slice A_r n_r c_r) (.slice B_r m_r d_r)
 obtain ⟨g0,g1,g2⟩:=Z2.all
 refine bodyPost_ret (v:=.agg #[.bool s_r,.slice A_r n_r c_r,.slice B_r m_r d_r]) (by simp [results,Tryz.results18,go_sem,g0,g1,g2]) rfl ?_
 exact ⟨s_r,A_r,n_r,c_r,B_r,m_r,d_r,rfl,r.set3 Z _ _ _,below_set3 hb (by omega) _ _ _⟩
theorem ba_app3 (a b:List UInt8):((⟨a.toArray⟩ ++ ⟨#[47]⟩) ++ ⟨b.toArray⟩:ByteArray)=⟨(a ++ (47 :: b)).toArray⟩:=by
 apply ByteArray.ext
 simp [ByteArray.data_append]
def qtxt (v:Rat):List UInt8:=if v.den=1 then ztxt v.num else ztxt v.num ++ (47 :: txt v.den)
theorem ztxt_le {v:Int} {k:Nat} (hv:v.natAbs < B64 ^ k) (hk:k≤800):(ztxt v).length≤20001:=by
 have:=txt_len hv (show k≤900 by omega)
 unfold ztxt
 split
 · rw [List.length_cons];omega
 · omega
theorem ZR.nab' {s:Bool} {A:Option Addr} {n c k:Nat} {v:Int} (h:ZR w s A n c v k):v.natAbs < B64 ^ k:=by
 obtain ⟨l,h1,h2,h3,h4,h5,h6⟩:=h
 exact h6
theorem QG.num_lt {s:Bool} {A A':Option Addr} {n c n' c' k:Nat} {v:Rat} (h:QG w s A n c A' n' c' v k):v.num.natAbs < B64 ^ k:=h.1.zr.nab'
theorem QG.den_lt {s:Bool} {A A':Option Addr} {n c n' c' k:Nat} {v:Rat} (h:QG w s A n c A' n' c' v k):v.den < B64 ^ k:=h.2.nr.lt
theorem rtext_one {s:Bool} {A A':Option Addr} {n c n' c' k:Nat} {v:Rat} (X0:QR w s A n c A' n' c' v k) (hk:k≤78) (hk1:1≤k) (hd:v.den=1) :
 Calls Tryz.prog 27 #[.agg #[.bool s,.slice A n c,.slice A' n' c']] w fun e w'=>e=.returned (.string ⟨(qtxt v).toArray⟩)∧Below w.heap.size w w':=by
 obtain ⟨p,q,X,Q,rfl⟩:=X0
 have HE:Hid (Rat.divInt p (den1 q:Int)=mkRat p (den1 q)):=Rat.divInt_ofNat _ _
 have HD:Hid (decide ((mkRat p (den1 q)).den=1)=true):=decide_eq_true hd
 have HQ:Hid (qtxt (mkRat p (den1 q))=ztxt (mkRat p (den1 q)).num):=if_pos hd
 clear hd
 go_enter Tryz.func27,Tryz.ntmps27
 go_wp2_with fail
 generalize hW:World.alloc _ _=W
 obtain ⟨hb,XA,hzW⟩:=mkbx13_8 hW;clear hW;replace X:=X.below hb;replace Q:=Q.below hb;obtain ⟨xa0,xa1,xa2⟩:=XA.all
 go_upto_region 2 with (first
  | (go_at_call 50;(with_reducible refine (parts_any X Q (by omega) hk1).mono ?_);rintro e w_p ⟨s_x,A_x,n_x,c_x,s_y,A_y,n_y,c_y,rfl,x,y,hh⟩
     (try replace X:=X.below hh);(try replace Q:=Q.below hh);(try replace r:=r.below hh);(try replace XA:=XA.below hh);replace hb:=bend hb hh)
  | (go_at_call 58;(with_reducible refine (by_zr k x y (by omega) (by omega) (den1_i q) (Nat.le_refl _) (Nat.le_refl _)).mono ?_);rintro e w_r ⟨s_r,A_r,n_r,c_r,B_r,m_r,d_r,rfl,r,hh⟩
     rw [HE.out] at r;(try replace X:=X.below hh);(try replace Q:=Q.below hh);(try replace x:=x.below hh);(try replace y:=y.below hh);(try replace XA:=XA.below hh);replace hb:=bend hb hh;have zf0:=XA.f0;have zf1:=XA.f1;have zf2:=XA.f2;obtain ⟨z0,z1,z2⟩:=XA.all))
 generalize hW:((w_r.setCell ⟨w.heap.size,0,none⟩ (.bool s_r)).setCell ⟨w.heap.size,1,none⟩ (.slice A_r n_r c_r)).setCell ⟨w.heap.size,2,none⟩ (.slice B_r m_r d_r)=W1
 replace r:QG W1 s_r A_r n_r c_r B_r m_r d_r (mkRat p (den1 q)) k:=by subst hW;exact r.set3 XA _ _ _
 replace hb:Below w.heap.size w W1:=by subst hW;exact below_set3 hb (Nat.le_refl _) _ _ _
 have XA3:B3 W1 w.heap.size (.bool s_r) (.slice A_r n_r c_r) (.slice B_r m_r d_r):=by subst hW;exact XA.set3 _ _ _
 clear hW XA;have XA:=XA3;clear XA3;obtain ⟨xa0,xa1,xa2⟩:=XA.all;have HR2:=Lib.hid r.2.nr;have r1:=r.1.zr
 go_wp2_with (first
  | (go_at_call 64;(with_reducible refine (isone_nr HR2.out (by omega)).mono ?_);rintro e w_o ⟨rfl,rfl⟩;rw [HD.out])
  | (go_at_call 65;(with_reducible refine (ztext_zr r1 (by omega)).mono ?_);rintro e w_z ⟨rfl,hh⟩
     (try replace X:=X.below hh);(try replace Q:=Q.below hh);(try replace x:=x.below hh);(try replace y:=y.below hh);(try replace r:=r.below hh);(try replace XA:=XA.below hh);replace hb:=bend hb hh))
 go_ret;rw [HQ.out];exact ⟨rfl,hb⟩
theorem rtext_frac {s:Bool} {A A':Option Addr} {n c n' c' k:Nat} {v:Rat} (X0:QR w s A n c A' n' c' v k) (hk:k≤78) (hk1:1≤k) (hd:¬ v.den=1) :
 Calls Tryz.prog 27 #[.agg #[.bool s,.slice A n c,.slice A' n' c']] w fun e w'=>e=.returned (.string ⟨(qtxt v).toArray⟩)∧Below w.heap.size w w':=by
 obtain ⟨p,q,X,Q,rfl⟩:=X0
 have HE:Hid (Rat.divInt p (den1 q:Int)=mkRat p (den1 q)):=Rat.divInt_ofNat _ _
 have HD:Hid (decide ((mkRat p (den1 q)).den=1)=false):=decide_eq_false hd
 have HQ:Hid (qtxt (mkRat p (den1 q))=ztxt (mkRat p (den1 q)).num ++ (47 :: txt (mkRat p (den1 q)).den)):=if_neg hd
 clear hd
 go_enter Tryz.func27,Tryz.ntmps27
 go_wp2_with fail
 generalize hW:World.alloc _ _=W
 obtain ⟨hb,XA,hzW⟩:=mkbx13_8 hW;clear hW;replace X:=X.below hb;replace Q:=Q.below hb;obtain ⟨xa0,xa1,xa2⟩:=XA.all
 go_upto_region 2 with (first
  | (go_at_call 50;(with_reducible refine (parts_any X Q (by omega) hk1).mono ?_);rintro e w_p ⟨s_x,A_x,n_x,c_x,s_y,A_y,n_y,c_y,rfl,x,y,hh⟩
     (try replace X:=X.below hh);(try replace Q:=Q.below hh);(try replace r:=r.below hh);(try replace XA:=XA.below hh);replace hb:=bend hb hh)
  | (go_at_call 58;(with_reducible refine (by_zr k x y (by omega) (by omega) (den1_i q) (Nat.le_refl _) (Nat.le_refl _)).mono ?_);rintro e w_r ⟨s_r,A_r,n_r,c_r,B_r,m_r,d_r,rfl,r,hh⟩
     rw [HE.out] at r;(try replace X:=X.below hh);(try replace Q:=Q.below hh);(try replace x:=x.below hh);(try replace y:=y.below hh);(try replace XA:=XA.below hh);replace hb:=bend hb hh;have zf0:=XA.f0;have zf1:=XA.f1;have zf2:=XA.f2;obtain ⟨z0,z1,z2⟩:=XA.all))
 generalize hW:((w_r.setCell ⟨w.heap.size,0,none⟩ (.bool s_r)).setCell ⟨w.heap.size,1,none⟩ (.slice A_r n_r c_r)).setCell ⟨w.heap.size,2,none⟩ (.slice B_r m_r d_r)=W1
 replace r:QG W1 s_r A_r n_r c_r B_r m_r d_r (mkRat p (den1 q)) k:=by subst hW;exact r.set3 XA _ _ _
 replace hb:Below w.heap.size w W1:=by subst hW;exact below_set3 hb (Nat.le_refl _) _ _ _
 have XA3:B3 W1 w.heap.size (.bool s_r) (.slice A_r n_r c_r) (.slice B_r m_r d_r):=by subst hW;exact XA.set3 _ _ _
 clear hW XA;have XA:=XA3;clear XA3;obtain ⟨xa0,xa1,xa2⟩:=XA.all;have HR2:=Lib.hid r.2.nr;have r1:=r.1.zr
 have l1:=ztxt_le r.num_lt (show k≤800 by omega)
 have l2:=txt_len r.den_lt (show k≤900 by omega)
 have hs1:¬ 9223372036854775807 < (ztxt (mkRat p (den1 q)).num).length+1:=by omega
 have hs2:¬ 9223372036854775807 < (ztxt (mkRat p (den1 q)).num).length+1+(txt (mkRat p (den1 q)).den).length:=by omega
 clear l1 l2
 go_upto_region 4 with (first
  | (go_at_call 64;(with_reducible refine (isone_nr HR2.out (by omega)).mono ?_);rintro e w_o ⟨rfl,rfl⟩;rw [HD.out]))
 replace r:=r.below (Below.refl _ _).drew
 replace r1:=r1.below (Below.refl _ _).drew
 replace XA:=XA.below (Below.refl _ _).drew
 have r2:=r.2.nr.more hk;replace hb:=hb.drew
 go_region_held3 (fun w'=>w'.cell? ⟨w.heap.size,0,none⟩=some (.bool s_r)∧w'.cell? ⟨w.heap.size,1,none⟩=some (.slice A_r n_r c_r)∧w'.cell? ⟨w.heap.size,2,none⟩=some (.slice B_r m_r d_r))
  (first | with_reducible exact ⟨XA.c0,XA.c1,XA.c2⟩)
  (first
  | (go_at_call 65;(with_reducible refine (ztext_zr r1 (by omega)).mono ?_);rintro e w_z ⟨rfl,hh⟩
     (try replace r:=r.below hh);(try replace r2:=r2.below hh);(try replace XA:=XA.below hh);replace hb:=bend hb hh)
  | (go_at_call 66;(with_reducible refine (text_nr r2).mono ?_);rintro e w_z ⟨rfl,hh⟩
     (try replace r:=r.below hh);(try replace XA:=XA.below hh);replace hb:=bend hb hh))
 go_wp2_with fail
 go_ret
 refine ⟨?_,hb⟩
 rw [HQ.out]
 refine ret_eq ?_
 show Value.string ((⟨(ztxt (mkRat p (den1 q)).num).toArray⟩ ++ ⟨#[47]⟩) ++ ⟨(txt (mkRat p (den1 q)).den).toArray⟩)=_
 rw [ba_app3]
theorem rtext_q {s:Bool} {A A':Option Addr} {n c n' c' k:Nat} {v:Rat} (X0:QR w s A n c A' n' c' v k) (hk:k≤78) (hk1:1≤k) :
 Calls Tryz.prog 27 #[.agg #[.bool s,.slice A n c,.slice A' n' c']] w fun e w'=>e=.returned (.string ⟨(qtxt v).toArray⟩)∧Below w.heap.size w w':=by
 by_cases hd:v.den=1
 · exact rtext_one X0 hk hk1 hd
 · exact rtext_frac X0 hk hk1 hd
end
section
open Go
def upd {α:Type} (f:Nat→α) (d:Nat) (x:α):Nat→α:=fun k=>if k=d then x else f k
theorem upd_same {α:Type} (f:Nat→α) (d:Nat) (x:α):upd f d x d=x:=by simp [upd]
theorem upd_ne {α:Type} (f:Nat→α) {d k:Nat} (x:α) (h:k ≠ d):upd f d x k=f k:=by simp [upd,h]
def putAll (a:Act):List Nat→(Nat→Value)→Act
 | [],_=>a
 | d :: l,v=>putAll (a.put (some d) (v d)) l v
theorem put_put (a:Act) (d:Nat) (x y:Value):(a.put (some d) x).put (some d) y=a.put (some d) y:=by
 simp [Act.put]
theorem putAll_comm (x:Value) (d:Nat) (v:Nat→Value):∀ (l:List Nat) (a:Act),d ∉ l→(putAll a l v).put (some d) x=putAll (a.put (some d) x) l v
 | [],_,_=>rfl
 | e :: l,a,h=>by
   have h1:e ≠ d:=fun k=>h (by simp [k])
   have h2:d ∉ l:=fun k=>h (by simp [k])
   rw [putAll,putAll_comm x d v l _ h2,putAll]
   congr 1
   simp [Act.put,Array.setIfInBounds_comm _ _ h1]
theorem putAll_congr {v u:Nat→Value}:∀ (l:List Nat) (a:Act),(∀ d ∈ l,v d=u d)→putAll a l v=putAll a l u
 | [],_,_=>rfl
 | e :: l,a,h=>by
   rw [putAll,putAll,h e (by simp)]
   exact putAll_congr l _ fun d hd=>h d (by simp [hd])
theorem putAll_put (x:Value) (d:Nat) (v:Nat→Value):∀ (l:List Nat) (a:Act),l.Nodup→d ∈ l→(putAll a l v).put (some d) x=putAll a l (upd v d x)
 | [],_,_,h=>by cases h
 | e :: l,a,hn,h=>by
   have hn':=List.nodup_cons.1 hn
   by_cases hd:e=d
   · subst hd
     rw [putAll,putAll_comm x e v l _ hn'.1,put_put,putAll,upd_same]
     exact putAll_congr l _ fun k hk=>(upd_ne v x (fun q=>by subst q;exact hn'.1 hk)).symm
   · have hm : d ∈ l := by
       cases h with
       | head=>exact absurd rfl hd
       | tail _ h=>exact h
     rw [putAll,putAll_put x d v l _ hn'.2 hm,putAll,upd_ne v x hd]
theorem put_self (a:Act) (d:Nat):a.put (some d) (a.tmps.getD d undef)=a:=by
 cases a with
 | mk tmps defers =>
   simp only [Act.put]
   congr 1
   apply Array.ext
   · simp
   · intro i h1 h2
     simp only [Array.getElem_setIfInBounds h2]
     split
     · rename_i h;subst h;simp [h2]
     · rfl
theorem putAll_self (a:Act):∀ (l:List Nat),putAll a l (fun d=>a.tmps.getD d undef)=a
 | []=>rfl
 | d :: l=>by rw [putAll,put_self];exact putAll_self a l
section
variable {P:Program} {ops:Array Oper} {Q:Exit→Act→World→Prop}
def backB (ops:Array Oper):Bool:=(List.range ops.size).all fun i=>((ops[i]?).map fun o=>o.after.all fun e=>!Region.binds .any e || decide (e.on < i)).getD true
theorem all_listed {listed:Array Bool} (hs:listed.size=ops.size) (hb:backB ops=true) (hr:Region.ready .any ops listed=[]):∀ i,i < ops.size→listed.getD i false=true:=by
 intro i
 induction i using Nat.strongRecOn with
 | ind i ih =>
   intro hi
   cases hl:listed.getD i false with
   | true=>rfl
   | false =>
     exfalso
     have hm:i ∈ Region.ready .any ops listed:=by
      unfold Region.ready
      rw [List.mem_filter]
      refine ⟨by simpa using hi,?_⟩
      have h1:listed.getD i true=false:=by
       simp only [Array.getD_eq_getD_getElem?,Array.getElem?_eq_getElem (show i < listed.size by omega),Option.getD_some] at hl ⊢;exact hl
      rw [h1,Array.getElem?_eq_getElem hi]
      simp only [Bool.not_false,Option.map_some,Option.getD_some,Bool.true_and]
      rw [Array.all_eq_true]
      intro j hj
      have h2:=List.all_eq_true.1 hb i (by simpa using hi)
      rw [Array.getElem?_eq_getElem hi] at h2
      simp only [Option.map_some,Option.getD_some] at h2
      have h3:=Array.all_eq_true.1 h2 j hj
      cases hbd:Region.binds .any (ops[i].after[j]) with
      | false=>simp
      | true =>
        rw [hbd] at h3
        have h4:(ops[i].after[j]).on < i:=of_decide_eq_true (by simpa using h3)
        rw [ih _ h4 (by omega)]
        simp
     rw [hr] at hm;cases hm
theorem wpAny_inv (J:(Nat→Bool)→Act→World→Prop) (hb:backB ops=true)
 (hstep:∀ (i:Nat) (o:Oper) (D:Nat→Bool) (a:Act) (w:World),ops[i]?=some o→D i=false→(∀ e ∈ o.after,Region.binds .any e=true→D e.on=true)→J D a w →
  wpOp P ops Q i (fun a' w'=>J (upd D i true) a' w') a w)
 (hend:∀ (D:Nat→Bool) (a:Act) (w:World),(∀ i,i < ops.size→D i=true)→J D a w→Q .normal a w)
 (hcong:∀ D D' a w,(∀ i,i < ops.size→D i=D' i)→J D a w→J D' a w) :
 ∀ (fuel:Nat) (listed:Array Bool) (a:Act) (w:World),listed.size=ops.size→listed.toList.count false≤fuel→J (fun i=>listed.getD i false) a w→wpAny P .any ops Q fuel listed a w
 | 0,listed,a,w,hs,hf,hJ=>by
   have hall:∀ i,i < ops.size→listed.getD i false=true:=by
    intro i hi
    have h0:listed.toList.count false=0:=by omega
    have hi':i < listed.size:=by omega
    have:=List.count_eq_zero.1 h0
    simp only [Array.getD_eq_getD_getElem?,Array.getElem?_eq_getElem hi',Option.getD_some]
    cases h:listed[i] with
    | true=>rfl
    | false=>exact absurd (by rw [← h];exact Array.mem_toList_iff.2 (Array.getElem_mem hi')) this
   refine ⟨?_,hend _ _ _ hall hJ⟩
   unfold Region.ready
   rw [List.filter_eq_nil_iff]
   intro i hi
   have hi2:i < ops.size:=by simpa using hi
   have h2:listed.getD i true=true:=by
    have h:=hall i hi2
    have hi':i < listed.size:=by omega
    simp only [Array.getD_eq_getD_getElem?,Array.getElem?_eq_getElem hi',Option.getD_some] at h ⊢;exact h
   simp [h2]
 | fuel+1,listed,a,w,hs,hf,hJ=>by
   refine ⟨fun hr=>hend _ _ _ (all_listed hs hb hr) hJ,fun i hi=>?_⟩
   obtain ⟨hjun,o,ho,hall⟩:=mem_ready.1 hi
   have hi1:i < ops.size:=by
    rcases Nat.lt_or_ge i ops.size with h | h
    · exact h
    · rw [Array.getElem?_eq_none h] at ho;cases ho
   have hi':i < listed.size:=by omega
   have hl:listed[i]=false:=by
    simp only [Array.getD_eq_getD_getElem?,Array.getElem?_eq_getElem hi',Option.getD_some] at hjun;exact hjun
   have hD:listed.getD i false=false:=by
    simp only [Array.getD_eq_getD_getElem?,Array.getElem?_eq_getElem hi',Option.getD_some];exact hl
   refine wpOp_mono (fun a' w' h=>wpAny_inv J hb hstep hend hcong fuel _ a' w' (by simpa using hs) ?_ (hcong _ _ _ _ (fun j hj=>?_) h)) (hstep i o _ a w ho hD hall hJ)
   · rw [Array.toList_setIfInBounds,List.count_set (by simpa using hi')]
     have:listed.toList[i]'(by simpa using hi')=false:=by simpa using hl
     rw [this]
     show listed.toList.count false - 1+0≤fuel
     omega
   · by_cases hji:j=i
     · subst hji
       rw [upd_same]
       simp [hi']
     · rw [upd_ne _ _ hji]
       simp [Array.getD_eq_getD_getElem?,Ne.symm hji]
theorem wp_region_inv {id:Nat} {a:Act} (l:List Nat) (J:(Nat→Bool)→(Nat→Value)→World→Prop) (hm:P.follows .mixedOrders=true) (hb:backB ops=true)
 (h0:J (fun _=>false) (fun d=>a.tmps.getD d undef) w.drew)
 (hcong:∀ D D' v w,(∀ i,i < ops.size→D i=D' i)→J D v w→J D' v w)
 (hstep:∀ (i:Nat) (o:Oper) (D:Nat→Bool) (v:Nat→Value) (w:World),ops[i]?=some o→D i=false→(∀ e ∈ o.after,Region.binds .any e=true→D e.on=true)→J D v w →
  wpOp P ops Q i (fun a' w'=>∃ v',a'=putAll a l v'∧J (upd D i true) v' w') (putAll a l v) w)
 (hend:∀ (D:Nat→Bool) (v:Nat→Value) (w:World),(∀ i,i < ops.size→D i=true)→J D v w→Q .normal (putAll a l v) w) :
 (Code.region id ops true).wp P Q a w:=by
 refine wp_region_any hm (wpAny_inv (fun D a' w'=>∃ v,a'=putAll a l v∧J D v w') hb ?_ ?_ ?_ _ _ _ _ (by simp) (by simp) ?_)
 · rintro i o D a' w' ho hD hall ⟨v,rfl,hJ⟩
   exact hstep i o D v w' ho hD hall hJ
 · rintro D a' w' hall ⟨v,rfl,hJ⟩
   exact hend D v w' hall hJ
 · rintro D D' a' w' h ⟨v,e,hJ⟩
   exact ⟨v,e,hcong D D' v w' h hJ⟩
 · refine ⟨_,(putAll_self a l).symm,hcong _ _ _ _ (fun i hi=>?_) h0⟩
   simp [hi]
end
end
section
open Go Go.RowKit
theorem run_storeR {e:Operand→Value} {x z:Operand} {d:Option Tmp} {y g:Nat} {pos:String} {af:Array Edge} {s:Bool} {A:Option Addr} {n c:Nat} {u0 v0:Value} (h:e x=.pointer (some ⟨g,0,none⟩)) (hz:e z=.agg #[.bool s,.slice A n c]) (h0:w.cell? ⟨g,0,none⟩=some u0) (h1:w.cell? ⟨g,1,none⟩=some v0) (f0:w.frozen? ⟨g,0,none⟩=false) (f1:w.frozen? ⟨g,1,none⟩=false) :
 (execOp e ⟨d,.store 41 x z,y,pos,af,none⟩).run Tryz.prog w=.ok .skip ((w.setCell ⟨g,0,none⟩ (.bool s)).setCell ⟨g,1,none⟩ (.slice A n c)):=by
 go_simp
theorem run_allocR {e:Operand→Value} {d:Option Tmp} {y:Nat} {pos:String} {af:Array Edge} :
 (execOp e ⟨d,.alloc 41,y,pos,af,none⟩).run Tryz.prog w=.ok (.value (.pointer (some ⟨w.heap.size,0,none⟩))) (w.alloc (.cells #[.bool false,.slice none 0 0] 41)):=by
 go_simp
end
section
open Go Go.RowKit
theorem put_none (a:Act) (x:Value):a.put none x=a:=rfl
theorem eval_putAll_not {t:Nat} {v:Nat→Value}:∀ (l:List Nat) (a:Act),t ∉ l→(putAll a l v).eval (.tmp t)=a.eval (.tmp t)
 | [],_,_=>rfl
 | d :: l,a,h=>by
   rw [putAll,eval_putAll_not l _ (fun q=>h (by simp [q]))]
   have hne:d ≠ t:=fun q=>h (by simp [q])
   simp [Act.eval,Act.put,Array.getD_eq_getD_getElem?,hne]
theorem eval_putAll_mem {t:Nat} {v:Nat→Value}:∀ (l:List Nat) (a:Act),l.Nodup→t ∈ l→t < a.tmps.size→(putAll a l v).eval (.tmp t)=v t
 | [],_,_,h,_=>by cases h
 | d :: l,a,hn,h,hs=>by
   have hn':=List.nodup_cons.1 hn
   rw [putAll]
   by_cases hd:d=t
   · subst hd
     rw [eval_putAll_not l _ hn'.1]
     simp [Act.eval,Act.put,hs]
   · have hm : t ∈ l := by
       cases h with
       | head=>exact absurd rfl hd
       | tail _ h=>exact h
     exact eval_putAll_mem l _ hn'.2 hm (by simpa [Act.put] using hs)
def IsG (w:World) (v:Value) (x:Int) (k:Nat):Prop:=∃ s A n c,v=.agg #[.bool s,.slice A n c]∧RG w s A n c x k
def IsBox (w:World) (base:Nat) (p cont:Value) (full:Bool):Prop:=∃ g s A n c,p=.pointer (some ⟨g,0,none⟩)∧base≤g∧By w g (.bool s) (.slice A n c)∧(full=true→cont=.agg #[.bool s,.slice A n c])
theorem IsG.below {w w':World} {v:Value} {x:Int} {k:Nat} (h:IsG w v x k) (hb:Below w.heap.size w w'):IsG w' v x k:=by
 obtain ⟨s,A,n,c,h1,h2⟩:=h;exact ⟨s,A,n,c,h1,h2.below hb⟩
theorem IsBox.below {w w':World} {base:Nat} {p cont:Value} {full:Bool} (h:IsBox w base p cont full) (hb:Below w.heap.size w w'):IsBox w' base p cont full:=by
 obtain ⟨g,s,A,n,c,h1,h2,h3,h4⟩:=h;exact ⟨g,s,A,n,c,h1,h2,h3.below hb,h4⟩
theorem IsG.store {v:Value} {x:Int} {k g n0 c0:Nat} {s0:Bool} {A0:Option Addr} (h:IsG w v x k) (Z:By w g (.bool s0) (.slice A0 n0 c0)) (y z:Value):IsG ((w.setCell ⟨g,0,none⟩ y).setCell ⟨g,1,none⟩ z) v x k:=by
 obtain ⟨s,A,n,c,h1,h2⟩:=h;exact ⟨s,A,n,c,h1,h2.set2 Z y z⟩
theorem IsBox.other {base g:Nat} {p cont:Value} {full:Bool} (h:IsBox w base p cont full) (hne:p ≠ .pointer (some ⟨g,0,none⟩)) (y z:Value):IsBox ((w.setCell ⟨g,0,none⟩ y).setCell ⟨g,1,none⟩ z) base p cont full:=by
 obtain ⟨g',s,A,n,c,h1,h2,h3,h4⟩:=h
 refine ⟨g',s,A,n,c,h1,h2,h3.other (fun q=>hne (by rw [h1,q])) y z,h4⟩
end
section
open Go Go.RowKit
theorem run_loadQ {e:Operand→Value} {x:Operand} {d:Option Tmp} {y g:Nat} {pos:String} {af:Array Edge} {u v z:Value} (h:e x=.pointer (some ⟨g,0,none⟩)) (h0:w.cell? ⟨g,0,none⟩=some u) (h1:w.cell? ⟨g,1,none⟩=some v) (h2:w.cell? ⟨g,2,none⟩=some z) :
 (execOp e ⟨d,.load 27 x,y,pos,af,none⟩).run Tryz.prog w=.ok (.value (.agg #[u,v,z])) w:=by
 go_simp
theorem run_storeQ {e:Operand→Value} {x z:Operand} {d:Option Tmp} {y g:Nat} {pos:String} {af:Array Edge} {s:Bool} {A B:Option Addr} {n c m k:Nat} {u0 v0 z0:Value} (h:e x=.pointer (some ⟨g,0,none⟩)) (hz:e z=.agg #[.bool s,.slice A n c,.slice B m k]) (h0:w.cell? ⟨g,0,none⟩=some u0) (h1:w.cell? ⟨g,1,none⟩=some v0) (h2:w.cell? ⟨g,2,none⟩=some z0) (f0:w.frozen? ⟨g,0,none⟩=false) (f1:w.frozen? ⟨g,1,none⟩=false) (f2:w.frozen? ⟨g,2,none⟩=false) :
 (execOp e ⟨d,.store 27 x z,y,pos,af,none⟩).run Tryz.prog w=.ok .skip (((w.setCell ⟨g,0,none⟩ (.bool s)).setCell ⟨g,1,none⟩ (.slice A n c)).setCell ⟨g,2,none⟩ (.slice B m k)):=by
 go_simp
theorem run_allocQ {e:Operand→Value} {d:Option Tmp} {y:Nat} {pos:String} {af:Array Edge} :
 (execOp e ⟨d,.alloc 27,y,pos,af,none⟩).run Tryz.prog w=.ok (.value (.pointer (some ⟨w.heap.size,0,none⟩))) (w.alloc (.cells #[.bool false,.slice none 0 0,.slice none 0 0] 27)):=by
 go_simp
theorem run_move {e:Operand→Value} {x:Operand} {d:Option Tmp} {y:Nat} {pos:String} {af:Array Edge} {u:Value} (h:e x=u) :
 (execOp e ⟨d,.move x,y,pos,af,none⟩).run Tryz.prog w=.ok (.value u) w:=by
 subst h;go_simp
theorem run_assign {e:Operand→Value} {x:Operand} {d:Option Tmp} {y:Nat} {pos:String} {af:Array Edge} {u:Value} (h:e x=u) :
 (execOp e ⟨d,.assign x,y,pos,af,none⟩).run Tryz.prog w=.ok (.value u) w:=by
 subst h;go_simp
theorem run_ext0 {e:Operand→Value} {x:Operand} {d:Option Tmp} {y:Nat} {pos:String} {af:Array Edge} {u v:Value} (h:e x=.tuple #[u,v]) :
 (execOp e ⟨d,.extract x 0,y,pos,af,none⟩).run Tryz.prog w=.ok (.value u) w:=by
 go_simp
theorem run_ext1 {e:Operand→Value} {x:Operand} {d:Option Tmp} {y:Nat} {pos:String} {af:Array Edge} {u v:Value} (h:e x=.tuple #[u,v]) :
 (execOp e ⟨d,.extract x 1,y,pos,af,none⟩).run Tryz.prog w=.ok (.value v) w:=by
 go_simp
def IsQ (w:World) (v:Value) (x:Rat) (k:Nat):Prop:=∃ s A n c A' n' c',v=.agg #[.bool s,.slice A n c,.slice A' n' c']∧QG w s A n c A' n' c' x k
theorem IsQ.below {w w':World} {v:Value} {x:Rat} {k:Nat} (h:IsQ w v x k) (hb:Below w.heap.size w w'):IsQ w' v x k:=by
 obtain ⟨s,A,n,c,A',n',c',h1,h2⟩:=h;exact ⟨s,A,n,c,A',n',c',h1,h2.below hb⟩
def HasBox (w:World) (base:Nat) (p:Value):Prop:=∃ g s A n c A' n' c',p=.pointer (some ⟨g,0,none⟩)∧base≤g∧B3 w g (.bool s) (.slice A n c) (.slice A' n' c')
theorem HasBox.below {w w':World} {b:Nat} {p:Value} (h:HasBox w b p) (hb:Below w.heap.size w w'):HasBox w' b p:=by
 obtain ⟨g,s,A,n,c,A',n',c',h1,h2,h3⟩:=h;exact ⟨g,s,A,n,c,A',n',c',h1,h2,h3.below hb⟩
end
section
open Go Go.RowKit
theorem QR.more {s:Bool} {A A':Option Addr} {n c n' c' k k1:Nat} {v:Rat} (h:QR w s A n c A' n' c' v k) (hk:k≤k1):QR w s A n c A' n' c' v k1:=by
 obtain ⟨p,q,h1,h2,h3⟩:=h
 exact ⟨p,q,h1.more hk,h2.more hk,h3⟩
end
end Go.Proofs.YtlpogecpdfdggaaGreat
