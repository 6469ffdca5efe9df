/- RatLowest: part 8. -/
import Derived.IntWalk
import Derived.Orders
import Derived.Test.YtmgklaklnaihpaaGreatProg
import Derived.WalkKit
import Derived.Test.YtmgklaklnaihpaaGreatKRatLowest6
import Derived.Test.YtmgklaklnaihpaaGreatKRatLowest7
set_option linter.unusedVariables false
set_option maxRecDepth 100000
set_option maxHeartbeats 16000000
variable {w:Go.World}
namespace Go.Proofs.YtmgklaklnaihpaaGreat
section
open Go Go.RowKit
def GivesF (w:World) (v:Rat) (k:Nat) (e:Ending) (w':World):Prop :=
 ∃ (f:Int) (L:Nat),L ≠ 0∧v=mkRat f L∧∃ s A n c t B m d,e=.returned (.tuple #[.agg #[.bool s,.slice A n c],.agg #[.bool t,.slice B m d]])∧ZR w' s A n c f k∧ZR w' t B m d (L:Int) k∧Below w.heap.size w w'
theorem rsum_q {s t:Bool} {A A' B B':Option Addr} {n c n' c' m d m' d' k k2:Nat} {v0 u0:Rat} (X0:QR w s A n c A' n' c' v0 k) (Y0:QR w t B m d B' m' d' u0 k2) (hk:k≤400) (hkb:k2≤400) (h40:k≤400 ∨ k2≤400) (hk1:1≤k) (hk3:1≤k2) :
 Calls Tryz.prog 70 #[.agg #[.bool s,.slice A n c,.slice A' n' c'],.agg #[.bool t,.slice B m d,.slice B' m' d']] w (GivesF w (v0+u0) (k+k2+1)):=by
 obtain ⟨p,q,X,Q,rfl⟩:=X0
 obtain ⟨p2,q2,Y,R,rfl⟩:=Y0
 go_enter Tryz.func70,Tryz.ntmps70
 go_wp2_with fail
 generalize hW:World.alloc _ _=W
 obtain ⟨hb,XA,XB,Z1,Z2,hzW⟩:=mkbx12_7 hW;clear hW;replace X:=X.below hb;replace Q:=Q.below hb;replace Y:=Y.below hb;replace R:=R.below hb;obtain ⟨xa0,xa1,xa2⟩:=XA.all;obtain ⟨xb0,xb1,xb2⟩:=XB.all;have zf0:=Z2.c0
 go_upto_region 2 with (first
  | (go_at_call 132;(with_reducible refine (ralike_q X Q Y R hk hkb h40 hk1 hk3).mono ?_);rintro e w_a ⟨f,g,L,hL0,hL1,hL2,s_x,A_x,n_x,c_x,s_y,A_y,n_y,c_y,s_l,A_l,n_l,c_l,rfl,x,y,l,hh⟩
     (try replace X:=X.below hh);(try replace Q:=Q.below hh);(try replace Y:=Y.below hh);(try replace R:=R.below hh);(try replace m1:=m1.below hh);(try replace XA:=XA.below hh);(try replace XB:=XB.below hh);(try replace Z1:=Z1.below hh);(try replace Z2:=Z2.below hh);(try replace XP:=XP.below hh);(try replace XQ:=XQ.below hh);replace hb:=bend hb hh;have HL0:=Lib.hid hL0;have HL1:=Lib.hid hL1;have HL2:=Lib.hid hL2;clear hL0 hL1 hL2
     have Z2b:=(Z2.alloc (Obj.cells #[Value.bool s_x,Value.slice A_x n_x c_x] 24)).alloc (Obj.cells #[Value.bool s_y,Value.slice A_y n_y c_y] 24)
     obtain ⟨zz0,zz1⟩:=Z2b.all;have zz2:=Z2b.f0;have zz3:=Z2b.f1))
 have hp1:=Z2.lt
 generalize hW:World.alloc _ _=W0
 obtain ⟨hh,XP0,XQ0⟩:=mkbx5_6 hW;clear hW;replace x:=x.below hh;replace y:=y.below hh;replace l:=l.below hh;replace Z1:=Z1.below hh;replace Z2:=Z2.below hh;replace hb:=bend hb hh
 generalize hW:(W0.setCell ⟨w.heap.size+1+1+1,0,none⟩ (.bool s_l)).setCell ⟨w.heap.size+1+1+1,1,none⟩ (.slice A_l n_l c_l)=W1
 replace x:ZR W1 s_x A_x n_x c_x f (k+k2):=by subst hW;exact x.set2x Z2 _ _
 replace y:ZR W1 s_y A_y n_y c_y g (k+k2):=by subst hW;exact y.set2x Z2 _ _
 replace l:ZR W1 s_l A_l n_l c_l (L:Int) (k+k2):=by subst hW;exact l.set2x Z2 _ _
 have XP:Bx W1 (w_a.heap.size) (Value.bool s_x) (Value.slice A_x n_x c_x):=by subst hW;exact XP0.other (by omega) _ _
 have XQ:Bx W1 (w_a.heap.size+1) (Value.bool s_y) (Value.slice A_y n_y c_y):=by subst hW;exact XQ0.other (by omega) _ _
 replace Z1:Bx W1 (w.heap.size+1+1) (Value.bool false) (Value.slice none 0 0):=by subst hW;exact Z1.other (by omega) _ _
 replace hb:Below w.heap.size w W1:=by subst hW;exact below_set2 hb (by omega) _ _
 have Z2':Bx W1 (w.heap.size+1+1+1) (Value.bool s_l) (Value.slice A_l n_l c_l):=by subst hW;exact Z2.set2 _ _
 clear hW XP0 XQ0 Z2
 have Z2:=Z2'
 clear Z2'
 replace x:=x.below (Below.refl _ _).drew
 replace y:=y.below (Below.refl _ _).drew
 replace l:=l.below (Below.refl _ _).drew
 replace Z1:=Z1.below (Below.refl _ _).drew
 replace Z2:=Z2.below (Below.refl _ _).drew
 replace XP:=XP.below (Below.refl _ _).drew
 replace XQ:=XQ.below (Below.refl _ _).drew
 replace hb:=hb.drew
 go_region_held3 (fun w'=>w'.cell? ⟨w_a.heap.size,0,none⟩=some (.bool s_x)∧w'.cell? ⟨w_a.heap.size,1,none⟩=some (.slice A_x n_x c_x)∧w'.cell? ⟨w_a.heap.size+1,0,none⟩=some (.bool s_y)∧w'.cell? ⟨w_a.heap.size+1,1,none⟩=some (.slice A_y n_y c_y)∧w'.cell? ⟨w.heap.size+1+1+1,0,none⟩=some (.bool s_l)∧w'.cell? ⟨w.heap.size+1+1+1,1,none⟩=some (.slice A_l n_l c_l))
  (first | with_reducible exact ⟨XP.c0,XP.c1,XQ.c0,XQ.c1,Z2.c0,Z2.c1⟩ | with_reducible exact ⟨(set2_cell _ _ _ _ _ _ (by omega)).trans (XP.c0),(set2_cell _ _ _ _ _ _ (by omega)).trans (XP.c1),(set2_cell _ _ _ _ _ _ (by omega)).trans (XQ.c0),(set2_cell _ _ _ _ _ _ (by omega)).trans (XQ.c1),(set2_cell _ _ _ _ _ _ (by omega)).trans (Z2.c0),(set2_cell _ _ _ _ _ _ (by omega)).trans (Z2.c1)⟩ | with_reducible exact ⟨(set2_cell _ _ _ _ _ _ (by omega)).trans ((set2_cell _ _ _ _ _ _ (by omega)).trans (XP.c0)),(set2_cell _ _ _ _ _ _ (by omega)).trans ((set2_cell _ _ _ _ _ _ (by omega)).trans (XP.c1)),(set2_cell _ _ _ _ _ _ (by omega)).trans ((set2_cell _ _ _ _ _ _ (by omega)).trans (XQ.c0)),(set2_cell _ _ _ _ _ _ (by omega)).trans ((set2_cell _ _ _ _ _ _ (by omega)).trans (XQ.c1)),Z2q.c0,Z2q.c1⟩)
  (first
  | (go_at_call 133;(with_reducible refine (zadd_zr (k+k2+1) x y (by omega) (by omega) (by omega)).mono ?_);rintro e w_m1 ⟨s_m1,A_m1,n_m1,c_m1,rfl,m1,hh⟩
     (try replace X:=X.below hh);(try replace Q:=Q.below hh);(try replace Y:=Y.below hh);(try replace R:=R.below hh);(try replace x:=x.below hh);(try replace y:=y.below hh);(try replace l:=l.below hh);(try replace XA:=XA.below hh);(try replace XB:=XB.below hh);(try replace Z1:=Z1.below hh);(try replace Z2:=Z2.below hh);(try replace XP:=XP.below hh);(try replace XQ:=XQ.below hh);replace hb:=bend hb hh;obtain ⟨z0,z1⟩:=Z1.all;have z2:=Z1.f0;have z3:=Z1.f1;obtain ⟨y0,y1⟩:=Z2.all;have y2:=Z2.f0;have y3:=Z2.f1
     have Z2o:=Z2.other (k:=w.heap.size+1+1) (by omega) (.bool s_m1) (.slice A_m1 n_m1 c_m1)
     obtain ⟨zo0,zo1⟩:=Z2o.all;have zo2:=Z2o.f0;have zo3:=Z2o.f1
     have Z2q:=Z2o.set2 (.bool s_l) (.slice A_l n_l c_l)))
 go_wp2_with fail
 have G1:=(Z1.set2 (.bool s_m1) (.slice A_m1 n_m1 c_m1)).other (k:=w.heap.size+1+1+1) (by omega) (.bool s_l) (.slice A_l n_l c_l)
 have G2:=(Z2.other (k:=w.heap.size+1+1) (by omega) (.bool s_m1) (.slice A_m1 n_m1 c_m1)).set2 (.bool s_l) (.slice A_l n_l c_l)
 obtain ⟨g0,g1⟩:=G1.all;have g2:=G2.c0;have g3:=G2.c1
 have HT:=two_set hb (by omega) (by omega) (by omega) Z1 Z2 m1 (l.more (show k+k2≤k+k2+1 by omega)) (.bool s_m1) (.slice A_m1 n_m1 c_m1) (.bool s_l) (.slice A_l n_l c_l)
 refine bodyPost_ret (v:=.tuple #[.agg #[.bool s_m1,.slice A_m1 n_m1 c_m1],.agg #[.bool s_l,.slice A_l n_l c_l]]) (by simp [results,Tryz.results70,go_sem,g0,g1,g2,g3]) rfl ?_
 exact ⟨_,L,HL0.out,by rw [HL1.out,HL2.out];exact mk_add_same HL0.out,_,_,_,_,_,_,_,_,rfl,HT.1,HT.2.1,HT.2.2⟩
theorem rdiff_q {s t:Bool} {A A' B B':Option Addr} {n c n' c' m d m' d' k k2:Nat} {v0 u0:Rat} (X0:QR w s A n c A' n' c' v0 k) (Y0:QR w t B m d B' m' d' u0 k2) (hk:k≤400) (hkb:k2≤400) (h40:k≤400 ∨ k2≤400) (hk1:1≤k) (hk3:1≤k2) :
 Calls Tryz.prog 71 #[.agg #[.bool s,.slice A n c,.slice A' n' c'],.agg #[.bool t,.slice B m d,.slice B' m' d']] w (GivesF w (v0 - u0) (k+k2+1)):=by
 obtain ⟨p,q,X,Q,rfl⟩:=X0
 obtain ⟨p2,q2,Y,R,rfl⟩:=Y0
 go_enter Tryz.func71,Tryz.ntmps71
 go_wp2_with fail
 generalize hW:World.alloc _ _=W
 obtain ⟨hb,XA,XB,Z1,Z2,hzW⟩:=mkbx12_7 hW;clear hW;replace X:=X.below hb;replace Q:=Q.below hb;replace Y:=Y.below hb;replace R:=R.below hb;obtain ⟨xa0,xa1,xa2⟩:=XA.all;obtain ⟨xb0,xb1,xb2⟩:=XB.all;have zf0:=Z2.c0
 go_upto_region 2 with (first
  | (go_at_call 132;(with_reducible refine (ralike_q X Q Y R hk hkb h40 hk1 hk3).mono ?_);rintro e w_a ⟨f,g,L,hL0,hL1,hL2,s_x,A_x,n_x,c_x,s_y,A_y,n_y,c_y,s_l,A_l,n_l,c_l,rfl,x,y,l,hh⟩
     (try replace X:=X.below hh);(try replace Q:=Q.below hh);(try replace Y:=Y.below hh);(try replace R:=R.below hh);(try replace m1:=m1.below hh);(try replace XA:=XA.below hh);(try replace XB:=XB.below hh);(try replace Z1:=Z1.below hh);(try replace Z2:=Z2.below hh);(try replace XP:=XP.below hh);(try replace XQ:=XQ.below hh);replace hb:=bend hb hh;have HL0:=Lib.hid hL0;have HL1:=Lib.hid hL1;have HL2:=Lib.hid hL2;clear hL0 hL1 hL2
     have Z2b:=(Z2.alloc (Obj.cells #[Value.bool s_x,Value.slice A_x n_x c_x] 24)).alloc (Obj.cells #[Value.bool s_y,Value.slice A_y n_y c_y] 24)
     obtain ⟨zz0,zz1⟩:=Z2b.all;have zz2:=Z2b.f0;have zz3:=Z2b.f1))
 have hp1:=Z2.lt
 generalize hW:World.alloc _ _=W0
 obtain ⟨hh,XP0,XQ0⟩:=mkbx5_6 hW;clear hW;replace x:=x.below hh;replace y:=y.below hh;replace l:=l.below hh;replace Z1:=Z1.below hh;replace Z2:=Z2.below hh;replace hb:=bend hb hh
 generalize hW:(W0.setCell ⟨w.heap.size+1+1+1,0,none⟩ (.bool s_l)).setCell ⟨w.heap.size+1+1+1,1,none⟩ (.slice A_l n_l c_l)=W1
 replace x:ZR W1 s_x A_x n_x c_x f (k+k2):=by subst hW;exact x.set2x Z2 _ _
 replace y:ZR W1 s_y A_y n_y c_y g (k+k2):=by subst hW;exact y.set2x Z2 _ _
 replace l:ZR W1 s_l A_l n_l c_l (L:Int) (k+k2):=by subst hW;exact l.set2x Z2 _ _
 have XP:Bx W1 (w_a.heap.size) (Value.bool s_x) (Value.slice A_x n_x c_x):=by subst hW;exact XP0.other (by omega) _ _
 have XQ:Bx W1 (w_a.heap.size+1) (Value.bool s_y) (Value.slice A_y n_y c_y):=by subst hW;exact XQ0.other (by omega) _ _
 replace Z1:Bx W1 (w.heap.size+1+1) (Value.bool false) (Value.slice none 0 0):=by subst hW;exact Z1.other (by omega) _ _
 replace hb:Below w.heap.size w W1:=by subst hW;exact below_set2 hb (by omega) _ _
 have Z2':Bx W1 (w.heap.size+1+1+1) (Value.bool s_l) (Value.slice A_l n_l c_l):=by subst hW;exact Z2.set2 _ _
 clear hW XP0 XQ0 Z2
 have Z2:=Z2'
 clear Z2'
 replace x:=x.below (Below.refl _ _).drew
 replace y:=y.below (Below.refl _ _).drew
 replace l:=l.below (Below.refl _ _).drew
 replace Z1:=Z1.below (Below.refl _ _).drew
 replace Z2:=Z2.below (Below.refl _ _).drew
 replace XP:=XP.below (Below.refl _ _).drew
 replace XQ:=XQ.below (Below.refl _ _).drew
 replace hb:=hb.drew
 go_region_held3 (fun w'=>w'.cell? ⟨w_a.heap.size,0,none⟩=some (.bool s_x)∧w'.cell? ⟨w_a.heap.size,1,none⟩=some (.slice A_x n_x c_x)∧w'.cell? ⟨w_a.heap.size+1,0,none⟩=some (.bool s_y)∧w'.cell? ⟨w_a.heap.size+1,1,none⟩=some (.slice A_y n_y c_y)∧w'.cell? ⟨w.heap.size+1+1+1,0,none⟩=some (.bool s_l)∧w'.cell? ⟨w.heap.size+1+1+1,1,none⟩=some (.slice A_l n_l c_l))
  (first | with_reducible exact ⟨XP.c0,XP.c1,XQ.c0,XQ.c1,Z2.c0,Z2.c1⟩ | with_reducible exact ⟨(set2_cell _ _ _ _ _ _ (by omega)).trans (XP.c0),(set2_cell _ _ _ _ _ _ (by omega)).trans (XP.c1),(set2_cell _ _ _ _ _ _ (by omega)).trans (XQ.c0),(set2_cell _ _ _ _ _ _ (by omega)).trans (XQ.c1),(set2_cell _ _ _ _ _ _ (by omega)).trans (Z2.c0),(set2_cell _ _ _ _ _ _ (by omega)).trans (Z2.c1)⟩ | with_reducible exact ⟨(set2_cell _ _ _ _ _ _ (by omega)).trans ((set2_cell _ _ _ _ _ _ (by omega)).trans (XP.c0)),(set2_cell _ _ _ _ _ _ (by omega)).trans ((set2_cell _ _ _ _ _ _ (by omega)).trans (XP.c1)),(set2_cell _ _ _ _ _ _ (by omega)).trans ((set2_cell _ _ _ _ _ _ (by omega)).trans (XQ.c0)),(set2_cell _ _ _ _ _ _ (by omega)).trans ((set2_cell _ _ _ _ _ _ (by omega)).trans (XQ.c1)),Z2q.c0,Z2q.c1⟩)
  (first
  | (go_at_call 134;(with_reducible refine (zsub_zr (k+k2+1) x y (by omega) (by omega) (by omega)).mono ?_);rintro e w_m1 ⟨s_m1,A_m1,n_m1,c_m1,rfl,m1,hh⟩
     (try replace X:=X.below hh);(try replace Q:=Q.below hh);(try replace Y:=Y.below hh);(try replace R:=R.below hh);(try replace x:=x.below hh);(try replace y:=y.below hh);(try replace l:=l.below hh);(try replace XA:=XA.below hh);(try replace XB:=XB.below hh);(try replace Z1:=Z1.below hh);(try replace Z2:=Z2.below hh);(try replace XP:=XP.below hh);(try replace XQ:=XQ.below hh);replace hb:=bend hb hh;obtain ⟨z0,z1⟩:=Z1.all;have z2:=Z1.f0;have z3:=Z1.f1;obtain ⟨y0,y1⟩:=Z2.all;have y2:=Z2.f0;have y3:=Z2.f1
     have Z2o:=Z2.other (k:=w.heap.size+1+1) (by omega) (.bool s_m1) (.slice A_m1 n_m1 c_m1)
     obtain ⟨zo0,zo1⟩:=Z2o.all;have zo2:=Z2o.f0;have zo3:=Z2o.f1
     have Z2q:=Z2o.set2 (.bool s_l) (.slice A_l n_l c_l)))
 go_wp2_with fail
 have G1:=(Z1.set2 (.bool s_m1) (.slice A_m1 n_m1 c_m1)).other (k:=w.heap.size+1+1+1) (by omega) (.bool s_l) (.slice A_l n_l c_l)
 have G2:=(Z2.other (k:=w.heap.size+1+1) (by omega) (.bool s_m1) (.slice A_m1 n_m1 c_m1)).set2 (.bool s_l) (.slice A_l n_l c_l)
 obtain ⟨g0,g1⟩:=G1.all;have g2:=G2.c0;have g3:=G2.c1
 have HT:=two_set hb (by omega) (by omega) (by omega) Z1 Z2 m1 (l.more (show k+k2≤k+k2+1 by omega)) (.bool s_m1) (.slice A_m1 n_m1 c_m1) (.bool s_l) (.slice A_l n_l c_l)
 refine bodyPost_ret (v:=.tuple #[.agg #[.bool s_m1,.slice A_m1 n_m1 c_m1],.agg #[.bool s_l,.slice A_l n_l c_l]]) (by simp [results,Tryz.results71,go_sem,g0,g1,g2,g3]) rfl ?_
 exact ⟨_,L,HL0.out,by rw [HL1.out,HL2.out];exact mk_sub_same HL0.out,_,_,_,_,_,_,_,_,rfl,HT.1,HT.2.1,HT.2.2⟩
theorem mkbx14_8 {w W:World} {x0 x1 x2 x3 x4 x5 x6 x7 x8:Value} (h:(((w.alloc (Obj.cells #[x0,x1,x2] 26)).alloc (Obj.cells #[x3,x4,x5] 26)).alloc (Obj.cells #[x6,x7,x8] 26))=W):Below w.heap.size w W∧B3 W (w.heap.size) x0 x1 x2∧B3 W (w.heap.size+1) x3 x4 x5∧B3 W (w.heap.size+1+1) x6 x7 x8∧W.heap.size=w.heap.size+3:=by subst h;exact ⟨by exact ((((Below.refl _ _).alloc (Nat.le_refl _) _).alloc (by simp) _).alloc (by simp;omega) _),by exact ((B3.new' _ _ _ _ _ rfl).alloc _).alloc _,by exact (B3.new' _ _ _ _ _ (by simp)).alloc _,by exact B3.new' _ _ _ _ _ (by simp),by simp⟩
theorem radd_q {s t:Bool} {A A' B B':Option Addr} {n c n' c' m d m' d' k k2:Nat} {v0 u0:Rat} (X0:QR w s A n c A' n' c' v0 k) (Y0:QR w t B m d B' m' d' u0 k2) (hk:k≤400) (hkb:k2≤400) (h40:k≤400 ∨ k2≤400) (hk1:1≤k) (hk3:1≤k2) :
 Calls Tryz.prog 18 #[.agg #[.bool s,.slice A n c,.slice A' n' c'],.agg #[.bool t,.slice B m d,.slice B' m' d']] w (GivesQ w (v0+u0) (k+k2+1)):=by
 go_enter Tryz.func18,Tryz.ntmps18
 go_wp2_with fail
 generalize hW:World.alloc _ _=W
 obtain ⟨hb,XA,XB,Z,hzW⟩:=mkbx14_8 hW;clear hW;replace X0:=X0.below hb;replace Y0:=Y0.below hb;obtain ⟨xa0,xa1,xa2⟩:=XA.all;obtain ⟨xb0,xb1,xb2⟩:=XB.all
 go_wp2_with (first
  | (go_at_call 70;(with_reducible refine (rsum_q X0 Y0 hk hkb h40 hk1 hk3).mono ?_);rintro e w_a ⟨f,L,hL0,hL1,s_x,A_x,n_x,c_x,s_y,A_y,n_y,c_y,rfl,x,y,hh⟩
     (try replace X0:=X0.below hh);(try replace Y0:=Y0.below hh);(try replace r:=r.below hh);(try replace XA:=XA.below hh);(try replace XB:=XB.below hh);(try replace Z:=Z.below hh);replace hb:=bend hb hh
     have hL:(L:Int) ≠ 0:=by omega
     have HL0:=Lib.hid hL
     have HL1:Hid (Rat.divInt f (L:Int)=v0+u0):=by show _=_;rw [hL1,Rat.divInt_ofNat]
     clear hL0 hL1 hL)
  | (go_at_call 61;(with_reducible refine (by_zr (k+k2+1) x y (by omega) (by omega) HL0.out (Nat.le_refl _) (Nat.le_refl _)).mono ?_);rintro e w_r ⟨s_r,A_r,n_r,c_r,B_r,m_r,d_r,rfl,r,hh⟩
     rw [HL1.out] at r;(try replace X0:=X0.below hh);(try replace Y0:=Y0.below hh);(try replace x:=x.below hh);(try replace y:=y.below hh);(try replace XA:=XA.below hh);(try replace XB:=XB.below hh);(try replace Z:=Z.below hh);replace hb:=bend hb hh;have zf0:=Z.f0;have zf1:=Z.f1;have zf2:=Z.f2;obtain ⟨z0,z1,z2⟩:=Z.all))
 have Z2:=Z.set3 (.bool s_r) (.slice A_r n_r c_r) (.slice B_r m_r d_r)
 obtain ⟨g0,g1,g2⟩:=Z2.all
 refine bodyPost_ret (v:=.agg #[.bool s_r,.slice A_r n_r c_r,.slice B_r m_r d_r]) (by simp [results,Tryz.results18,go_sem,g0,g1,g2]) rfl ?_
 exact ⟨s_r,A_r,n_r,c_r,B_r,m_r,d_r,rfl,r.set3 Z _ _ _,below_set3 hb (by omega) _ _ _⟩
theorem rsub_q {s t:Bool} {A A' B B':Option Addr} {n c n' c' m d m' d' k k2:Nat} {v0 u0:Rat} (X0:QR w s A n c A' n' c' v0 k) (Y0:QR w t B m d B' m' d' u0 k2) (hk:k≤400) (hkb:k2≤400) (h40:k≤400 ∨ k2≤400) (hk1:1≤k) (hk3:1≤k2) :
 Calls Tryz.prog 19 #[.agg #[.bool s,.slice A n c,.slice A' n' c'],.agg #[.bool t,.slice B m d,.slice B' m' d']] w (GivesQ w (v0 - u0) (k+k2+1)):=by
 go_enter Tryz.func19,Tryz.ntmps19
 go_wp2_with fail
 generalize hW:World.alloc _ _=W
 obtain ⟨hb,XA,XB,Z,hzW⟩:=mkbx14_8 hW;clear hW;replace X0:=X0.below hb;replace Y0:=Y0.below hb;obtain ⟨xa0,xa1,xa2⟩:=XA.all;obtain ⟨xb0,xb1,xb2⟩:=XB.all
 go_wp2_with (first
  | (go_at_call 71;(with_reducible refine (rdiff_q X0 Y0 hk hkb h40 hk1 hk3).mono ?_);rintro e w_a ⟨f,L,hL0,hL1,s_x,A_x,n_x,c_x,s_y,A_y,n_y,c_y,rfl,x,y,hh⟩
     (try replace X0:=X0.below hh);(try replace Y0:=Y0.below hh);(try replace r:=r.below hh);(try replace XA:=XA.below hh);(try replace XB:=XB.below hh);(try replace Z:=Z.below hh);replace hb:=bend hb hh
     have hL:(L:Int) ≠ 0:=by omega
     have HL0:=Lib.hid hL
     have HL1:Hid (Rat.divInt f (L:Int)=v0 - u0):=by show _=_;rw [hL1,Rat.divInt_ofNat]
     clear hL0 hL1 hL)
  | (go_at_call 61;(with_reducible refine (by_zr (k+k2+1) x y (by omega) (by omega) HL0.out (Nat.le_refl _) (Nat.le_refl _)).mono ?_);rintro e w_r ⟨s_r,A_r,n_r,c_r,B_r,m_r,d_r,rfl,r,hh⟩
     rw [HL1.out] at r;(try replace X0:=X0.below hh);(try replace Y0:=Y0.below hh);(try replace x:=x.below hh);(try replace y:=y.below hh);(try replace XA:=XA.below hh);(try replace XB:=XB.below hh);(try replace Z:=Z.below hh);replace hb:=bend hb hh;have zf0:=Z.f0;have zf1:=Z.f1;have zf2:=Z.f2;obtain ⟨z0,z1,z2⟩:=Z.all))
 have Z2:=Z.set3 (.bool s_r) (.slice A_r n_r c_r) (.slice B_r m_r d_r)
 obtain ⟨g0,g1,g2⟩:=Z2.all
 refine bodyPost_ret (v:=.agg #[.bool s_r,.slice A_r n_r c_r,.slice B_r m_r d_r]) (by simp [results,Tryz.results19,go_sem,g0,g1,g2]) rfl ?_
 exact ⟨s_r,A_r,n_r,c_r,B_r,m_r,d_r,rfl,r.set3 Z _ _ _,below_set3 hb (by omega) _ _ _⟩
theorem rmul_q {s t:Bool} {A A' B B':Option Addr} {n c n' c' m d m' d' k k2:Nat} {v0 u0:Rat} (X0:QR w s A n c A' n' c' v0 k) (Y0:QR w t B m d B' m' d' u0 k2) (hk:k≤400) (hkb:k2≤400) (h40:k≤400 ∨ k2≤400) (hk1:1≤k) (hk3:1≤k2) :
 Calls Tryz.prog 20 #[.agg #[.bool s,.slice A n c,.slice A' n' c'],.agg #[.bool t,.slice B m d,.slice B' m' d']] w (GivesQ w (v0*u0) (k+k2)):=by
 obtain ⟨p,q,X,Q,rfl⟩:=X0
 obtain ⟨p2,q2,Y,R,rfl⟩:=Y0
 have HE:Hid (Rat.divInt (p*p2) ((den1 q:Int)*(den1 q2:Int))=mkRat p (den1 q)*mkRat p2 (den1 q2)):=by show _=_;rw [mk_mul,← Int.natCast_mul,Rat.divInt_ofNat]
 have HL0:Hid ((den1 q:Int)*(den1 q2:Int) ≠ 0):=Int.mul_ne_zero (den1_i q) (den1_i q2)
 go_enter Tryz.func20,Tryz.ntmps20
 go_wp2_with fail
 generalize hW:World.alloc _ _=W
 obtain ⟨hb,XA,XB,Z,hzW⟩:=mkbx14_8 hW;clear hW;replace X:=X.below hb;replace Q:=Q.below hb;replace Y:=Y.below hb;replace R:=R.below hb;obtain ⟨xa0,xa1,xa2⟩:=XA.all;obtain ⟨xb0,xb1,xb2⟩:=XB.all
 go_wp2_with (first
  | (go_at_call 72;(with_reducible refine (rprod_q X Q Y R hk hkb h40 hk1 hk3).mono ?_);rintro e w_a ⟨s_x,A_x,n_x,c_x,s_y,A_y,n_y,c_y,rfl,x,y,hh⟩
     (try replace X:=X.below hh);(try replace Q:=Q.below hh);(try replace Y:=Y.below hh);(try replace R:=R.below hh);(try replace r:=r.below hh);(try replace XA:=XA.below hh);(try replace XB:=XB.below hh);(try replace Z:=Z.below hh);replace hb:=bend hb hh)
  | (go_at_call 61;(with_reducible refine (by_zr (k+k2) x y (by omega) (by omega) HL0.out (Nat.le_refl _) (Nat.le_refl _)).mono ?_);rintro e w_r ⟨s_r,A_r,n_r,c_r,B_r,m_r,d_r,rfl,r,hh⟩
     rw [HE.out] at r;(try replace X:=X.below hh);(try replace Q:=Q.below hh);(try replace Y:=Y.below hh);(try replace R:=R.below hh);(try replace x:=x.below hh);(try replace y:=y.below hh);(try replace XA:=XA.below hh);(try replace XB:=XB.below hh);(try replace Z:=Z.below hh);replace hb:=bend hb hh;have zf0:=Z.f0;have zf1:=Z.f1;have zf2:=Z.f2;obtain ⟨z0,z1,z2⟩:=Z.all))
 have Z2:=Z.set3 (.bool s_r) (.slice A_r n_r c_r) (.slice B_r m_r d_r)
 obtain ⟨g0,g1,g2⟩:=Z2.all
 refine bodyPost_ret (v:=.agg #[.bool s_r,.slice A_r n_r c_r,.slice B_r m_r d_r]) (by simp [results,Tryz.results20,go_sem,g0,g1,g2]) rfl ?_
 exact ⟨s_r,A_r,n_r,c_r,B_r,m_r,d_r,rfl,r.set3 Z _ _ _,below_set3 hb (by omega) _ _ _⟩
theorem rdiv_q {s t:Bool} {A A' B B':Option Addr} {n c n' c' m d m' d' k k2:Nat} {v0 u0:Rat} (X0:QR w s A n c A' n' c' v0 k) (Y0:QR w t B m d B' m' d' u0 k2) (hk:k≤400) (hkb:k2≤400) (h40:k≤400 ∨ k2≤400) (hk1:1≤k) (hk3:1≤k2) (hu:u0 ≠ 0) :
 Calls Tryz.prog 47 #[.agg #[.bool s,.slice A n c,.slice A' n' c'],.agg #[.bool t,.slice B m d,.slice B' m' d']] w (GivesQE w (v0 / u0) (k+k2)):=by
 obtain ⟨p,q,X,Q,rfl⟩:=X0
 obtain ⟨p2,q2,Y,R,rfl⟩:=Y0
 have HE:Hid (Rat.divInt (p*(den1 q2:Int)) ((den1 q:Int)*p2)=mkRat p (den1 q) / mkRat p2 (den1 q2)):=(mk_div _ _ _ _).symm
 have HL0:Hid ((den1 q:Int)*p2 ≠ 0):=Int.mul_ne_zero (den1_i q) (fun h=>hu ((mk_zero (den1_ne q2)).2 h))
 clear hu
 go_enter Tryz.func47,Tryz.ntmps47
 go_wp2_with fail
 generalize hW:World.alloc _ _=W
 obtain ⟨hb,XA,XB,Z,hzW⟩:=mkbx14_8 hW;clear hW;replace X:=X.below hb;replace Q:=Q.below hb;replace Y:=Y.below hb;replace R:=R.below hb;obtain ⟨xa0,xa1,xa2⟩:=XA.all;obtain ⟨xb0,xb1,xb2⟩:=XB.all
 go_wp2_with (first
  | (go_at_call 108;(with_reducible refine (rquot_q X Q Y R hk hkb h40 hk1 hk3).mono ?_);rintro e w_a ⟨s_x,A_x,n_x,c_x,s_y,A_y,n_y,c_y,rfl,x,y,hh⟩
     (try replace X:=X.below hh);(try replace Q:=Q.below hh);(try replace Y:=Y.below hh);(try replace R:=R.below hh);(try replace r:=r.below hh);(try replace XA:=XA.below hh);(try replace XB:=XB.below hh);(try replace Z:=Z.below hh);replace hb:=bend hb hh)
  | (go_at_call 25;(with_reducible refine (make_zr (k+k2) x y (by omega) (by omega) HL0.out (Nat.le_refl _) (Nat.le_refl _)).mono ?_);rintro e w_r ⟨s_r,A_r,n_r,c_r,B_r,m_r,d_r,rfl,r,hh⟩
     rw [HE.out] at r;(try replace X:=X.below hh);(try replace Q:=Q.below hh);(try replace Y:=Y.below hh);(try replace R:=R.below hh);(try replace x:=x.below hh);(try replace y:=y.below hh);(try replace XA:=XA.below hh);(try replace XB:=XB.below hh);(try replace Z:=Z.below hh);replace hb:=bend hb hh;have zf0:=Z.f0;have zf1:=Z.f1;have zf2:=Z.f2;obtain ⟨z0,z1,z2⟩:=Z.all))
 have Z2:=Z.set3 (.bool s_r) (.slice A_r n_r c_r) (.slice B_r m_r d_r)
 obtain ⟨g0,g1,g2⟩:=Z2.all
 refine bodyPost_ret (v:=.tuple #[.agg #[.bool s_r,.slice A_r n_r c_r,.slice B_r m_r d_r],.int .i64 0]) (by simp [results,Tryz.results47,go_sem,g0,g1,g2]) rfl ?_
 exact ⟨s_r,A_r,n_r,c_r,B_r,m_r,d_r,rfl,r.set3 Z _ _ _,below_set3 hb (by omega) _ _ _⟩
theorem rdiv_zero {s t:Bool} {A A' B B':Option Addr} {n c n' c' m d m' d' k k2:Nat} {v0 u0:Rat} (X0:QR w s A n c A' n' c' v0 k) (Y0:QR w t B m d B' m' d' u0 k2) (hk:k≤400) (hkb:k2≤400) (h40:k≤400 ∨ k2≤400) (hk1:1≤k) (hk3:1≤k2) (hu:u0=0) :
 Calls Tryz.prog 47 #[.agg #[.bool s,.slice A n c,.slice A' n' c'],.agg #[.bool t,.slice B m d,.slice B' m' d']] w fun e w'=>e=.returned (.tuple #[.agg #[.bool false,.slice none 0 0,.slice none 0 0],.int .i64 12])∧Below w.heap.size w w':=by
 obtain ⟨p,q,X,Q,rfl⟩:=X0
 obtain ⟨p2,q2,Y,R,rfl⟩:=Y0
 have HL0:Hid ((den1 q:Int)*p2=0):=by show _=_;rw [(mk_zero (den1_ne q2)).1 hu,Int.mul_zero]
 clear hu
 go_enter Tryz.func47,Tryz.ntmps47
 go_wp2_with fail
 generalize hW:World.alloc _ _=W
 obtain ⟨hb,XA,XB,Z,hzW⟩:=mkbx14_8 hW;clear hW;replace X:=X.below hb;replace Q:=Q.below hb;replace Y:=Y.below hb;replace R:=R.below hb;obtain ⟨xa0,xa1,xa2⟩:=XA.all;obtain ⟨xb0,xb1,xb2⟩:=XB.all
 go_wp2_with (first
  | (go_at_call 108;(with_reducible refine (rquot_q X Q Y R hk hkb h40 hk1 hk3).mono ?_);rintro e w_a ⟨s_x,A_x,n_x,c_x,s_y,A_y,n_y,c_y,rfl,x,y,hh⟩
     (try replace X:=X.below hh);(try replace Q:=Q.below hh);(try replace Y:=Y.below hh);(try replace R:=R.below hh);(try replace r:=r.below hh);(try replace XA:=XA.below hh);(try replace XB:=XB.below hh);(try replace Z:=Z.below hh);replace hb:=bend hb hh)
  | (go_at_call 25;(with_reducible refine (make_zero y (by omega) HL0.out).mono ?_);rintro e w_r ⟨rfl,hh⟩
     (try replace X:=X.below hh);(try replace Q:=Q.below hh);(try replace Y:=Y.below hh);(try replace R:=R.below hh);(try replace x:=x.below hh);(try replace y:=y.below hh);(try replace r:=r.below hh);(try replace XA:=XA.below hh);(try replace XB:=XB.below hh);(try replace Z:=Z.below hh);replace hb:=bend hb hh;have zf0:=Z.f0;have zf1:=Z.f1;have zf2:=Z.f2;obtain ⟨z0,z1,z2⟩:=Z.all))
 have Z2:=Z.set3 (.bool false) (.slice none 0 0) (.slice none 0 0)
 obtain ⟨g0,g1,g2⟩:=Z2.all
 refine bodyPost_ret (v:=.tuple #[.agg #[.bool false,.slice none 0 0,.slice none 0 0],.int .i64 12]) (by simp [results,Tryz.results47,go_sem,g0,g1,g2]) rfl ?_
 exact ⟨rfl,below_set3 hb (by omega) _ _ _⟩
end
section
open Go Go.RowKit
theorem rof_q (p q:Int) (hp1:-9223372036854775808≤p) (hp2:p < 9223372036854775808) (hq1:-9223372036854775808≤q) (hq2:q < 9223372036854775808) (hq0:((q:Int) == 0)=false) (w:World) :
 Calls Tryz.prog 23 #[.int .i64 p,.int .i64 q] w (GivesQ w (Rat.divInt p q) 1):=by
 have hq:q ≠ 0:=by simpa using hq0
 have HQ:=Lib.hid hq;have H1:=Lib.hid hp1;have H2:=Lib.hid hp2;have H3:=Lib.hid hq1;have H4:=Lib.hid hq2;clear hq hp1 hp2 hq1 hq2
 go_enter Tryz.func23,Tryz.ntmps23
 go_wp2_with fail
 generalize hW:World.alloc _ _=W
 obtain ⟨hb,Z,hzW⟩:=mkbx9_7 hW;clear hW
 go_upto_region 4 with (first
  | (go_at_call 27;(with_reducible refine (zof_zr p H1.out H2.out _).mono ?_);rintro e w_x ⟨s_x,A_x,n_x,c_x,rfl,x,hh⟩
     (try replace y:=y.below hh);(try replace r:=r.below hh);(try replace Z:=Z.below hh);replace hb:=bend hb hh)
  | (go_at_call 27;(with_reducible refine (zof_zr q H3.out H4.out _).mono ?_);rintro e w_y ⟨s_y,A_y,n_y,c_y,rfl,y,hh⟩
     (try replace x:=x.below hh);(try replace r:=r.below hh);(try replace Z:=Z.below hh);replace hb:=bend hb hh)
  | (go_at_call 25;(with_reducible refine (make_zr 1 x y (by omega) (by omega) HQ.out (Nat.le_refl _) (Nat.le_refl _)).mono ?_);rintro e w_r ⟨s_r,A_r,n_r,c_r,B_r,m_r,d_r,rfl,r,hh⟩
     (try replace x:=x.below hh);(try replace y:=y.below hh);(try replace Z:=Z.below hh);replace hb:=bend hb hh))
 generalize hW:World.alloc _ _=W2
 obtain ⟨hh,R,hzW2⟩:=mkbx9_7 hW;clear hW;(try replace r:=r.below hh);(try replace Z:=Z.below hh);replace hb:=bend hb hh;obtain ⟨r0,r1,r2⟩:=R.all;have zf0:=Z.f0;have zf1:=Z.f1;have zf2:=Z.f2;obtain ⟨z0,z1,z2⟩:=Z.all
 go_wp2_with fail
 have Z2:=Z.set3 (.bool s_r) (.slice A_r n_r c_r) (.slice B_r m_r d_r)
 obtain ⟨g0,g1,g2⟩:=Z2.all
 refine bodyPost_ret (v:=.agg #[.bool s_r,.slice A_r n_r c_r,.slice B_r m_r d_r]) (by simp [results,Tryz.results23,go_sem,g0,g1,g2]) rfl ?_
 exact ⟨s_r,A_r,n_r,c_r,B_r,m_r,d_r,rfl,r.set3 Z _ _ _,below_set3 hb (by omega) _ _ _⟩
theorem ba_app3 (a b:List UInt8):((⟨a.toArray⟩ ++ ⟨#[47]⟩) ++ ⟨b.toArray⟩:ByteArray)=⟨(a ++ (47 :: b)).toArray⟩:=by
 apply ByteArray.ext
 simp [ByteArray.data_append]
def qtxt (v:Rat):List UInt8:=if v.den=1 then ztxt v.num else ztxt v.num ++ (47 :: txt v.den)
theorem ztxt_le {v:Int} {k:Nat} (hv:v.natAbs < B64 ^ k) (hk:k≤800):(ztxt v).length≤20001:=by
 have:=txt_len hv (show k≤900 by omega)
 unfold ztxt
 split
 · rw [List.length_cons];omega
 · omega
theorem ZR.nab' {s:Bool} {A:Option Addr} {n c k:Nat} {v:Int} (h:ZR w s A n c v k):v.natAbs < B64 ^ k:=by
 obtain ⟨l,h1,h2,h3,h4,h5,h6⟩:=h
 exact h6
theorem QG.num_lt {s:Bool} {A A':Option Addr} {n c n' c' k:Nat} {v:Rat} (h:QG w s A n c A' n' c' v k):v.num.natAbs < B64 ^ k:=h.1.zr.nab'
theorem QG.den_lt {s:Bool} {A A':Option Addr} {n c n' c' k:Nat} {v:Rat} (h:QG w s A n c A' n' c' v k):v.den < B64 ^ k:=h.2.nr.lt
theorem rtext_one {s:Bool} {A A':Option Addr} {n c n' c' k:Nat} {v:Rat} (X0:QR w s A n c A' n' c' v k) (hk:k≤78) (hk1:1≤k) (hd:v.den=1) :
 Calls Tryz.prog 15 #[.agg #[.bool s,.slice A n c,.slice A' n' c']] w fun e w'=>e=.returned (.string ⟨(qtxt v).toArray⟩)∧Below w.heap.size w w':=by
 obtain ⟨p,q,X,Q,rfl⟩:=X0
 have HE:Hid (Rat.divInt p (den1 q:Int)=mkRat p (den1 q)):=Rat.divInt_ofNat _ _
 have HD:Hid (decide ((mkRat p (den1 q)).den=1)=true):=decide_eq_true hd
 have HQ:Hid (qtxt (mkRat p (den1 q))=ztxt (mkRat p (den1 q)).num):=if_pos hd
 clear hd
 go_enter Tryz.func15,Tryz.ntmps15
 go_wp2_with fail
 generalize hW:World.alloc _ _=W
 obtain ⟨hb,XA,hzW⟩:=mkbx9_7 hW;clear hW;replace X:=X.below hb;replace Q:=Q.below hb;obtain ⟨xa0,xa1,xa2⟩:=XA.all
 go_upto_region 2 with (first
  | (go_at_call 62;(with_reducible refine (parts_any X Q (by omega) hk1).mono ?_);rintro e w_p ⟨s_x,A_x,n_x,c_x,s_y,A_y,n_y,c_y,rfl,x,y,hh⟩
     (try replace X:=X.below hh);(try replace Q:=Q.below hh);(try replace r:=r.below hh);(try replace XA:=XA.below hh);replace hb:=bend hb hh)
  | (go_at_call 61;(with_reducible refine (by_zr k x y (by omega) (by omega) (den1_i q) (Nat.le_refl _) (Nat.le_refl _)).mono ?_);rintro e w_r ⟨s_r,A_r,n_r,c_r,B_r,m_r,d_r,rfl,r,hh⟩
     rw [HE.out] at r;(try replace X:=X.below hh);(try replace Q:=Q.below hh);(try replace x:=x.below hh);(try replace y:=y.below hh);(try replace XA:=XA.below hh);replace hb:=bend hb hh;have zf0:=XA.f0;have zf1:=XA.f1;have zf2:=XA.f2;obtain ⟨z0,z1,z2⟩:=XA.all))
 generalize hW:((w_r.setCell ⟨w.heap.size,0,none⟩ (.bool s_r)).setCell ⟨w.heap.size,1,none⟩ (.slice A_r n_r c_r)).setCell ⟨w.heap.size,2,none⟩ (.slice B_r m_r d_r)=W1
 replace r:QG W1 s_r A_r n_r c_r B_r m_r d_r (mkRat p (den1 q)) k:=by subst hW;exact r.set3 XA _ _ _
 replace hb:Below w.heap.size w W1:=by subst hW;exact below_set3 hb (Nat.le_refl _) _ _ _
 have XA3:B3 W1 w.heap.size (.bool s_r) (.slice A_r n_r c_r) (.slice B_r m_r d_r):=by subst hW;exact XA.set3 _ _ _
 clear hW XA;have XA:=XA3;clear XA3;obtain ⟨xa0,xa1,xa2⟩:=XA.all;have HR2:=Lib.hid r.2.nr;have r1:=r.1.zr
 go_wp2_with (first
  | (go_at_call 63;(with_reducible refine (isone_nr HR2.out (by omega)).mono ?_);rintro e w_o ⟨rfl,rfl⟩;rw [HD.out])
  | (go_at_call 48;(with_reducible refine (ztext_zr r1 (by omega)).mono ?_);rintro e w_z ⟨rfl,hh⟩
     (try replace X:=X.below hh);(try replace Q:=Q.below hh);(try replace x:=x.below hh);(try replace y:=y.below hh);(try replace r:=r.below hh);(try replace XA:=XA.below hh);replace hb:=bend hb hh))
 go_ret;rw [HQ.out];exact ⟨rfl,hb⟩
theorem rtext_frac {s:Bool} {A A':Option Addr} {n c n' c' k:Nat} {v:Rat} (X0:QR w s A n c A' n' c' v k) (hk:k≤78) (hk1:1≤k) (hd:¬ v.den=1) :
 Calls Tryz.prog 15 #[.agg #[.bool s,.slice A n c,.slice A' n' c']] w fun e w'=>e=.returned (.string ⟨(qtxt v).toArray⟩)∧Below w.heap.size w w':=by
 obtain ⟨p,q,X,Q,rfl⟩:=X0
 have HE:Hid (Rat.divInt p (den1 q:Int)=mkRat p (den1 q)):=Rat.divInt_ofNat _ _
 have HD:Hid (decide ((mkRat p (den1 q)).den=1)=false):=decide_eq_false hd
 have HQ:Hid (qtxt (mkRat p (den1 q))=ztxt (mkRat p (den1 q)).num ++ (47 :: txt (mkRat p (den1 q)).den)):=if_neg hd
 clear hd
 go_enter Tryz.func15,Tryz.ntmps15
 go_wp2_with fail
 generalize hW:World.alloc _ _=W
 obtain ⟨hb,XA,hzW⟩:=mkbx9_7 hW;clear hW;replace X:=X.below hb;replace Q:=Q.below hb;obtain ⟨xa0,xa1,xa2⟩:=XA.all
 go_upto_region 2 with (first
  | (go_at_call 62;(with_reducible refine (parts_any X Q (by omega) hk1).mono ?_);rintro e w_p ⟨s_x,A_x,n_x,c_x,s_y,A_y,n_y,c_y,rfl,x,y,hh⟩
     (try replace X:=X.below hh);(try replace Q:=Q.below hh);(try replace r:=r.below hh);(try replace XA:=XA.below hh);replace hb:=bend hb hh)
  | (go_at_call 61;(with_reducible refine (by_zr k x y (by omega) (by omega) (den1_i q) (Nat.le_refl _) (Nat.le_refl _)).mono ?_);rintro e w_r ⟨s_r,A_r,n_r,c_r,B_r,m_r,d_r,rfl,r,hh⟩
     rw [HE.out] at r;(try replace X:=X.below hh);(try replace Q:=Q.below hh);(try replace x:=x.below hh);(try replace y:=y.below hh);(try replace XA:=XA.below hh);replace hb:=bend hb hh;have zf0:=XA.f0;have zf1:=XA.f1;have zf2:=XA.f2;obtain ⟨z0,z1,z2⟩:=XA.all))
 generalize hW:((w_r.setCell ⟨w.heap.size,0,none⟩ (.bool s_r)).setCell ⟨w.heap.size,1,none⟩ (.slice A_r n_r c_r)).setCell ⟨w.heap.size,2,none⟩ (.slice B_r m_r d_r)=W1
 replace r:QG W1 s_r A_r n_r c_r B_r m_r d_r (mkRat p (den1 q)) k:=by subst hW;exact r.set3 XA _ _ _
 replace hb:Below w.heap.size w W1:=by subst hW;exact below_set3 hb (Nat.le_refl _) _ _ _
 have XA3:B3 W1 w.heap.size (.bool s_r) (.slice A_r n_r c_r) (.slice B_r m_r d_r):=by subst hW;exact XA.set3 _ _ _
 clear hW XA;have XA:=XA3;clear XA3;obtain ⟨xa0,xa1,xa2⟩:=XA.all;have HR2:=Lib.hid r.2.nr;have r1:=r.1.zr
 have l1:=ztxt_le r.num_lt (show k≤800 by omega)
 have l2:=txt_len r.den_lt (show k≤900 by omega)
 have hs1:¬ 9223372036854775807 < (ztxt (mkRat p (den1 q)).num).length+1:=by omega
 have hs2:¬ 9223372036854775807 < (ztxt (mkRat p (den1 q)).num).length+1+(txt (mkRat p (den1 q)).den).length:=by omega
 clear l1 l2
 go_upto_region 4 with (first
  | (go_at_call 63;(with_reducible refine (isone_nr HR2.out (by omega)).mono ?_);rintro e w_o ⟨rfl,rfl⟩;rw [HD.out]))
 replace r:=r.below (Below.refl _ _).drew
 replace r1:=r1.below (Below.refl _ _).drew
 replace XA:=XA.below (Below.refl _ _).drew
 have r2:=r.2.nr.more hk;replace hb:=hb.drew
 go_region_held3 (fun w'=>w'.cell? ⟨w.heap.size,0,none⟩=some (.bool s_r)∧w'.cell? ⟨w.heap.size,1,none⟩=some (.slice A_r n_r c_r)∧w'.cell? ⟨w.heap.size,2,none⟩=some (.slice B_r m_r d_r))
  (first | with_reducible exact ⟨XA.c0,XA.c1,XA.c2⟩)
  (first
  | (go_at_call 48;(with_reducible refine (ztext_zr r1 (by omega)).mono ?_);rintro e w_z ⟨rfl,hh⟩
     (try replace r:=r.below hh);(try replace r2:=r2.below hh);(try replace XA:=XA.below hh);replace hb:=bend hb hh)
  | (go_at_call 64;(with_reducible refine (text_nr r2).mono ?_);rintro e w_z ⟨rfl,hh⟩
     (try replace r:=r.below hh);(try replace XA:=XA.below hh);replace hb:=bend hb hh))
 go_wp2_with fail
 go_ret
 refine ⟨?_,hb⟩
 rw [HQ.out]
 refine ret_eq ?_
 show Value.string ((⟨(ztxt (mkRat p (den1 q)).num).toArray⟩ ++ ⟨#[47]⟩) ++ ⟨(txt (mkRat p (den1 q)).den).toArray⟩)=_
 rw [ba_app3]
theorem rtext_q {s:Bool} {A A':Option Addr} {n c n' c' k:Nat} {v:Rat} (X0:QR w s A n c A' n' c' v k) (hk:k≤78) (hk1:1≤k) :
 Calls Tryz.prog 15 #[.agg #[.bool s,.slice A n c,.slice A' n' c']] w fun e w'=>e=.returned (.string ⟨(qtxt v).toArray⟩)∧Below w.heap.size w w':=by
 by_cases hd:v.den=1
 · exact rtext_one X0 hk hk1 hd
 · exact rtext_frac X0 hk hk1 hd
theorem mkbx15_8 {w W:World} {x0 x1:Value} (h:(w.alloc (Obj.cells #[x0,x1] 24))=W):Below w.heap.size w W∧Bx W (w.heap.size) x0 x1∧W.heap.size=w.heap.size+1:=by subst h;exact ⟨by exact ((Below.refl _ _).alloc (Nat.le_refl _) _),by exact Bx.new' _ _ _ _ rfl,by simp⟩
theorem coprime_q {s:Bool} {A B:Option Addr} {n c m d k q:Nat} {p:Int} (X:ZR w s A n c p k) (Y:NR w B m d q k) (hk:k≤1000) :
 Calls Tryz.prog 55 #[.agg #[.bool s,.slice A n c],.slice B m d] w fun e w'=>e=.returned (.bool (decide (Nat.gcd p.natAbs q=1)))∧Below w.heap.size w w':=by
 go_enter Tryz.func55,Tryz.ntmps55
 go_wp2_with fail
 generalize hW:World.alloc _ _=W
 obtain ⟨hb,XA,hzW⟩:=mkbx15_8 hW;clear hW;replace X:=X.below hb;replace Y:=Y.below hb;obtain ⟨xa0,xa1⟩:=XA.all;have X1:=X.nr
 go_wp2_with (first
  | (go_at_call 119;(with_reducible refine (gcd_nr X1 Y (by omega)).mono ?_);rintro e w_g ⟨A_g,n_g,c_g,rfl,g,hh⟩
     (try replace XA:=XA.below hh);replace hb:=bend hb hh)
  | (go_at_call 63;(with_reducible refine (isone_nr g.nr (by omega)).mono ?_);rintro e w_o ⟨rfl,rfl⟩))
 go_ret;exact ⟨rfl,hb⟩
theorem goodZ_good {v:Int}:goodZ (decide (v < 0)) (limbs B64 v.natAbs)=true:=by
 unfold goodZ goodB
 have h1:=limbs_last B64_two v.natAbs
 have h2:(limbs B64 v.natAbs).length=0→v.natAbs=0:=fun h=>by
  have:=limbs_val B64_two (lim_limbs B64_two v.natAbs) h1
  by_cases h0:v.natAbs=0
  · exact h0
  · rw [limbs_pos B64_two h0] at h;simp at h
 have h3:((limbs B64 v.natAbs).getLast? != some 0)=true:=by simpa using h1
 rw [h3,Bool.true_and]
 by_cases h:v < 0
 · have:¬ (limbs B64 v.natAbs).length=0:=fun q=>by have:=h2 q;omega
   simp [h,this]
 · simp [h]
theorem rgood_q {s:Bool} {A A':Option Addr} {n c n' c' k:Nat} {v:Rat} (r:QG w s A n c A' n' c' v k) (hk:k≤900) :
 Calls Tryz.prog 24 #[.agg #[.bool s,.slice A n c,.slice A' n' c']] w fun e w'=>e=.returned (.bool true)∧Below w.heap.size w w':=by
 have hs:s=decide (v.num < 0):=r.1.1
 subst hs
 have HG:Hid (goodZ (decide (v.num < 0)) (limbs B64 v.num.natAbs)=true):=goodZ_good
 have HB:Hid (goodB (limbs B64 v.den)=true):=by show _=true;unfold goodB;simpa using limbs_last B64_two v.den
 have HC:Hid (decide (Nat.gcd v.num.natAbs v.den=1)=true):=decide_eq_true v.reduced
 have hpos:(0:Int) < (n':Int):=by have:=r.2.pos v.den_nz;omega
 have HN1:Hid (n≤maxLen):=by have:=r.1.2.2.2;show n≤maxLen;unfold maxLen;omega
 have HN2:Hid (n'≤maxLen):=by have:=r.2.le;show n'≤maxLen;unfold maxLen;omega
 go_enter Tryz.func24,Tryz.ntmps24
 go_wp2_with fail
 generalize hW:World.alloc _ _=W
 obtain ⟨hb,XA,hzW⟩:=mkbx9_7 hW;clear hW;replace r:=r.below hb;obtain ⟨xa0,xa1,xa2⟩:=XA.all;have r1:=r.1.2.1;have r2:=r.2.rd;have r3:=r.1.zr;have r4:=r.2.nr
 go_wp2_with (first
  | (go_at_call 74;(with_reducible refine (zgood_any _ _ A n c _ r1 HN1.out).mono ?_);rintro e w_z ⟨rfl,hh⟩
     rw [HG.out];(try replace X:=X.below hh);(try replace r:=r.below hh);(try replace r1:=r1.below hh);(try replace r2:=r2.below hh);(try replace r3:=r3.below hh);(try replace r4:=r4.below hh);(try replace XA:=XA.below hh);replace hb:=bend hb hh;obtain ⟨xa0,xa1,xa2⟩:=XA.all)
  | (go_at_call 75;(with_reducible refine (good_any _ A' n' c' _ r2 HN2.out).mono ?_);rintro e w_o ⟨rfl,rfl⟩;rw [HB.out])
  | (go_at_call 55;(with_reducible refine (coprime_q r3 r4 (by omega)).mono ?_);rintro e w_z ⟨rfl,hh⟩
     rw [HC.out];(try replace X:=X.below hh);(try replace r:=r.below hh);(try replace r1:=r1.below hh);(try replace r2:=r2.below hh);(try replace r3:=r3.below hh);(try replace r4:=r4.below hh);(try replace XA:=XA.below hh);replace hb:=bend hb hh;obtain ⟨xa0,xa1,xa2⟩:=XA.all))
 go_ret;exact ⟨rfl,hb⟩
end
section
open Go Go.RowKit
theorem lcut_hit (s:ByteArray) (i:Nat) (hi:Lib.indexByte s.data.toList 47=(i:Int)) (hlt:i < s.size) (hm:s.size≤maxLen) (w:World) :
 Calls Tryz.prog 111 #[.string s,.string ⟨#[47]⟩] w fun e w'=>e=.returned (.tuple #[.string (s.extract 0 i),.string (s.extract (i+1) s.size),.bool true])∧∃ n,w'=w.drewN n:=by
 unfold maxLen at hm
 have c1:(0:Int)≤(i:Int):=by omega
 have c2:(i:Int)≤(s.size:Int):=by omega
 have c3:(0:Int)≤(i:Int)+1:=by omega
 have c4:(i:Int)+1≤(s.size:Int):=by omega
 have c5:IntKind.i64.wrap ((i:Int)+1)=(i:Int)+1:=IntWalk.i64_in _ (by omega)
 have c6:((i:Int)+1).toNat=i+1:=by omega
 have HI:=Lib.hid hi;clear hi
 go_enter Tryz.func111,Tryz.ntmps111
 go_wp2_with (go_at_call 163;((with_reducible refine (Tryz.stringslite_Index_one s 47 _).mono ?_);rintro e w' ⟨rfl,rfl⟩;rw [HI.out]))
 go_region
 go_wp2_with fail
 go_ret3
 exact ⟨rfl,1,rfl⟩
theorem scut_hit (s:ByteArray) (i:Nat) (hi:Lib.indexByte s.data.toList 47=(i:Int)) (hlt:i < s.size) (hm:s.size≤maxLen) (w:World) :
 Calls Tryz.prog 50 #[.string s,.string ⟨#[47]⟩] w fun e w'=>e=.returned (.tuple #[.string (s.extract 0 i),.string (s.extract (i+1) s.size),.bool true])∧∃ n,w'=w.drewN n:=by
 go_enter Tryz.func50,Tryz.ntmps50
 go_wp2_with (go_at_call 111;((with_reducible refine (lcut_hit s i hi hlt hm _).mono ?_);rintro e w' ⟨rfl,n,rfl⟩))
 go_ret3
 exact ⟨rfl,n,rfl⟩
theorem rparse_hit (s:ByteArray) (i k:Nat) (w:World) (hs:s.size≤20000) (hi:Lib.indexByte s.data.toList 47=(i:Int)) (hlt:i < s.size)
 (hz:zbad (s.extract 0 i).data.toList=false) (ht:isTextB (s.extract (i+1) s.size).data.toList=true)
 (p:Int) (hp:zval (s.extract 0 i).data.toList=p) (hpk:p.natAbs < B64 ^ k)
 (q:Nat) (hq:dec (s.extract (i+1) s.size).data.toList=q) (hqk:q < B64 ^ k) (hq2:2≤q) (hg:Nat.gcd p.natAbs q=1) (hs1:(s.extract 0 i).size≤20000) (hs2:(s.extract (i+1) s.size).size≤20000) (hk:k≤900) :
 Calls Tryz.prog 12 #[.string s] w (GivesQE w (mkRat p q) k):=by
 have hle:¬ (20000:Int) < (s.size:Int):=by omega
 have HM:Hid (s.size≤maxLen):=by show s.size≤maxLen;unfold maxLen;omega
 have HI:=Lib.hid hi;have HLT:=Lib.hid hlt;have HZ:=Lib.hid hz;have HT:=Lib.hid ht;have HP:=Lib.hid hp;have HPK:=Lib.hid hpk;have HQ:=Lib.hid hq;have HQK:=Lib.hid hqk
 have HG:Hid (decide (Nat.gcd p.natAbs q=1)=true):=decide_eq_true hg
 have HGG:=Lib.hid hg
 have hbl:¬ ((bl q:Nat):Int) < 2:=by
  have h1:=bl_mono hq2
  rw [show bl 2=2 from bl_eq (k:=1) (by decide) (by decide)] at h1
  omega
 have HB:=Lib.hid hbl
 have HQ0:Hid (q ≠ 0):=by show q ≠ 0;omega
 have HS1:=Lib.hid hs1;have HS2:=Lib.hid hs2
 obtain ⟨u1,hu1⟩:∃ u,s.extract 0 i=u:=⟨_,rfl⟩
 obtain ⟨u2,hu2⟩:∃ u,s.extract (i+1) s.size=u:=⟨_,rfl⟩
 rw [hu1] at HZ HP HS1
 rw [hu2] at HT HQ HS2
 have HU1:=Lib.hid hu1;have HU2:=Lib.hid hu2;clear hs hi hlt hz ht hp hpk hq hqk hq2 hg hbl hs1 hs2 hu1 hu2
 go_enter Tryz.func12,Tryz.ntmps12
 go_wp2_with fail
 generalize hW:World.alloc _ _=W
 obtain ⟨hb,Z,hzW⟩:=mkbx9_7 hW;clear hW
 go_upto_region 5 with (first
  | (go_at_call 50;(with_reducible refine (scut_hit s i HI.out HLT.out HM.out _).mono ?_);rintro e w_c ⟨rfl,nn,rfl⟩
     rw [HU1.out,HU2.out]
     replace Z:=Z.below (below_drawn (Below.refl _ _) nn)
     replace hb:=below_drawn hb nn)
  | (go_at_call 51;(with_reducible refine (zparse_ok u1 _ HS1.out HZ.out k (by rw [HP.out];exact HPK.out)).mono ?_);rintro e w_n ⟨A_x,n_x,c_x,rfl,x0,hxk,xr,hh⟩
     rw [HP.out] at x0 xr
     have x:ZG w_n (decide (p < 0)) A_x n_x c_x p k:=⟨rfl,xr,by obtain ⟨l,_,_,_,p4,_⟩:=x0;exact p4,hxk⟩
     clear x0 xr hxk;rw [HP.out];replace Z:=Z.below hh;replace hb:=bend hb hh))
 generalize hW:World.alloc _ _=W2
 obtain ⟨hh,XN,hzW2⟩:=mkbx15_8 hW;clear hW;(try replace x:=x.below hh);(try replace Z:=Z.below hh);replace hb:=bend hb hh;obtain ⟨xn0,xn1⟩:=XN.all;have hbl:=HB.out;have xz:=x.zr
 go_wp2_with (first
  | (go_at_call 53;(with_reducible refine (parse_nr u2 _ HS2.out HT.out).mono ?_);rintro e w_q ⟨B_y,m_y,d_y,rfl,y0,hh⟩
     rw [HQ.out] at y0;have y:=y0.tight HQK.out;have yr:=y.nr;clear y0;replace x:=x.below hh;replace xz:=xz.below hh;replace XN:=XN.below hh;replace Z:=Z.below hh;replace hb:=bend hb hh;obtain ⟨xn0,xn1⟩:=XN.all)
  | (go_at_call 54;(with_reducible refine (bits_nr yr (by omega)).mono ?_);rintro e w_b ⟨rfl,rfl⟩)
  | (go_at_call 55;(with_reducible refine (coprime_q xz yr (by omega)).mono ?_);rintro e w_z ⟨rfl,hh⟩
     rw [HG.out];replace x:=x.below hh;replace y:=y.below hh;replace XN:=XN.below hh;replace Z:=Z.below hh;replace hb:=bend hb hh;obtain ⟨xn0,xn1⟩:=XN.all;have zf0:=Z.f0;have zf1:=Z.f1;have zf2:=Z.f2;obtain ⟨z0,z1,z2⟩:=Z.all))
 have Z2:=Z.set3 (.bool (decide (p < 0))) (.slice A_x n_x c_x) (.slice B_y m_y d_y)
 obtain ⟨g0,g1,g2⟩:=Z2.all
 refine bodyPost_ret (v:=.tuple #[.agg #[.bool (decide (p < 0)),.slice A_x n_x c_x,.slice B_y m_y d_y],.int .i64 0]) (by simp [results,Tryz.results12,go_sem,g0,g1,g2]) rfl ?_
 have hmk:=mk_cond HQ0.out HGG.out
 have r:QG w_z (decide (p < 0)) A_x n_x c_x B_y m_y d_y (mkRat p q) k:=⟨by rw [hmk.1];exact x,by rw [hmk.2];exact y⟩
 exact ⟨_,A_x,n_x,c_x,B_y,m_y,d_y,rfl,r.set3 Z _ _ _,below_set3 hb (by omega) _ _ _⟩
end
section
open Go
def upd {α:Type} (f:Nat→α) (d:Nat) (x:α):Nat→α:=fun k=>if k=d then x else f k
theorem upd_same {α:Type} (f:Nat→α) (d:Nat) (x:α):upd f d x d=x:=by simp [upd]
theorem upd_ne {α:Type} (f:Nat→α) {d k:Nat} (x:α) (h:k ≠ d):upd f d x k=f k:=by simp [upd,h]
def putAll (a:Act):List Nat→(Nat→Value)→Act
 | [],_=>a
 | d :: l,v=>putAll (a.put (some d) (v d)) l v
theorem put_put (a:Act) (d:Nat) (x y:Value):(a.put (some d) x).put (some d) y=a.put (some d) y:=by
 simp [Act.put]
theorem putAll_comm (x:Value) (d:Nat) (v:Nat→Value):∀ (l:List Nat) (a:Act),d ∉ l→(putAll a l v).put (some d) x=putAll (a.put (some d) x) l v
 | [],_,_=>rfl
 | e :: l,a,h=>by
   have h1:e ≠ d:=fun k=>h (by simp [k])
   have h2:d ∉ l:=fun k=>h (by simp [k])
   rw [putAll,putAll_comm x d v l _ h2,putAll]
   congr 1
   simp [Act.put,Array.setIfInBounds_comm _ _ h1]
theorem putAll_congr {v u:Nat→Value}:∀ (l:List Nat) (a:Act),(∀ d ∈ l,v d=u d)→putAll a l v=putAll a l u
 | [],_,_=>rfl
 | e :: l,a,h=>by
   rw [putAll,putAll,h e (by simp)]
   exact putAll_congr l _ fun d hd=>h d (by simp [hd])
theorem putAll_put (x:Value) (d:Nat) (v:Nat→Value):∀ (l:List Nat) (a:Act),l.Nodup→d ∈ l→(putAll a l v).put (some d) x=putAll a l (upd v d x)
 | [],_,_,h=>by cases h
 | e :: l,a,hn,h=>by
   have hn':=List.nodup_cons.1 hn
   by_cases hd:e=d
   · subst hd
     rw [putAll,putAll_comm x e v l _ hn'.1,put_put,putAll,upd_same]
     exact putAll_congr l _ fun k hk=>(upd_ne v x (fun q=>by subst q;exact hn'.1 hk)).symm
   · have hm : d ∈ l := by
       cases h with
       | head=>exact absurd rfl hd
       | tail _ h=>exact h
     rw [putAll,putAll_put x d v l _ hn'.2 hm,putAll,upd_ne v x hd]
theorem put_self (a:Act) (d:Nat):a.put (some d) (a.tmps.getD d undef)=a:=by
 cases a with
 | mk tmps defers =>
   simp only [Act.put]
   congr 1
   apply Array.ext
   · simp
   · intro i h1 h2
     simp only [Array.getElem_setIfInBounds h2]
     split
     · rename_i h;subst h;simp [h2]
     · rfl
theorem putAll_self (a:Act):∀ (l:List Nat),putAll a l (fun d=>a.tmps.getD d undef)=a
 | []=>rfl
 | d :: l=>by rw [putAll,put_self];exact putAll_self a l
section
variable {P:Program} {ops:Array Oper} {Q:Exit→Act→World→Prop}
def backB (ops:Array Oper):Bool:=(List.range ops.size).all fun i=>((ops[i]?).map fun o=>o.after.all fun e=>!Region.binds .any e || decide (e.on < i)).getD true
theorem all_listed {listed:Array Bool} (hs:listed.size=ops.size) (hb:backB ops=true) (hr:Region.ready .any ops listed=[]):∀ i,i < ops.size→listed.getD i false=true:=by
 intro i
 induction i using Nat.strongRecOn with
 | ind i ih =>
   intro hi
   cases hl:listed.getD i false with
   | true=>rfl
   | false =>
     exfalso
     have hm:i ∈ Region.ready .any ops listed:=by
      unfold Region.ready
      rw [List.mem_filter]
      refine ⟨by simpa using hi,?_⟩
      have h1:listed.getD i true=false:=by
       simp only [Array.getD_eq_getD_getElem?,Array.getElem?_eq_getElem (show i < listed.size by omega),Option.getD_some] at hl ⊢;exact hl
      rw [h1,Array.getElem?_eq_getElem hi]
      simp only [Bool.not_false,Option.map_some,Option.getD_some,Bool.true_and]
      rw [Array.all_eq_true]
      intro j hj
      have h2:=List.all_eq_true.1 hb i (by simpa using hi)
      rw [Array.getElem?_eq_getElem hi] at h2
      simp only [Option.map_some,Option.getD_some] at h2
      have h3:=Array.all_eq_true.1 h2 j hj
      cases hbd:Region.binds .any (ops[i].after[j]) with
      | false=>simp
      | true =>
        rw [hbd] at h3
        have h4:(ops[i].after[j]).on < i:=of_decide_eq_true (by simpa using h3)
        rw [ih _ h4 (by omega)]
        simp
     rw [hr] at hm;cases hm
theorem wpAny_inv (J:(Nat→Bool)→Act→World→Prop) (hb:backB ops=true)
 (hstep:∀ (i:Nat) (o:Oper) (D:Nat→Bool) (a:Act) (w:World),ops[i]?=some o→D i=false→(∀ e ∈ o.after,Region.binds .any e=true→D e.on=true)→J D a w →
  wpOp P ops Q i (fun a' w'=>J (upd D i true) a' w') a w)
 (hend:∀ (D:Nat→Bool) (a:Act) (w:World),(∀ i,i < ops.size→D i=true)→J D a w→Q .normal a w)
 (hcong:∀ D D' a w,(∀ i,i < ops.size→D i=D' i)→J D a w→J D' a w) :
 ∀ (fuel:Nat) (listed:Array Bool) (a:Act) (w:World),listed.size=ops.size→listed.toList.count false≤fuel→J (fun i=>listed.getD i false) a w→wpAny P .any ops Q fuel listed a w
 | 0,listed,a,w,hs,hf,hJ=>by
   have hall:∀ i,i < ops.size→listed.getD i false=true:=by
    intro i hi
    have h0:listed.toList.count false=0:=by omega
    have hi':i < listed.size:=by omega
    have:=List.count_eq_zero.1 h0
    simp only [Array.getD_eq_getD_getElem?,Array.getElem?_eq_getElem hi',Option.getD_some]
    cases h:listed[i] with
    | true=>rfl
    | false=>exact absurd (by rw [← h];exact Array.mem_toList_iff.2 (Array.getElem_mem hi')) this
   refine ⟨?_,hend _ _ _ hall hJ⟩
   unfold Region.ready
   rw [List.filter_eq_nil_iff]
   intro i hi
   have hi2:i < ops.size:=by simpa using hi
   have h2:listed.getD i true=true:=by
    have h:=hall i hi2
    have hi':i < listed.size:=by omega
    simp only [Array.getD_eq_getD_getElem?,Array.getElem?_eq_getElem hi',Option.getD_some] at h ⊢;exact h
   simp [h2]
 | fuel+1,listed,a,w,hs,hf,hJ=>by
   refine ⟨fun hr=>hend _ _ _ (all_listed hs hb hr) hJ,fun i hi=>?_⟩
   obtain ⟨hjun,o,ho,hall⟩:=mem_ready.1 hi
   have hi1:i < ops.size:=by
    rcases Nat.lt_or_ge i ops.size with h | h
    · exact h
    · rw [Array.getElem?_eq_none h] at ho;cases ho
   have hi':i < listed.size:=by omega
   have hl:listed[i]=false:=by
    simp only [Array.getD_eq_getD_getElem?,Array.getElem?_eq_getElem hi',Option.getD_some] at hjun;exact hjun
   have hD:listed.getD i false=false:=by
    simp only [Array.getD_eq_getD_getElem?,Array.getElem?_eq_getElem hi',Option.getD_some];exact hl
   refine wpOp_mono (fun a' w' h=>wpAny_inv J hb hstep hend hcong fuel _ a' w' (by simpa using hs) ?_ (hcong _ _ _ _ (fun j hj=>?_) h)) (hstep i o _ a w ho hD hall hJ)
   · rw [Array.toList_setIfInBounds,List.count_set (by simpa using hi')]
     have:listed.toList[i]'(by simpa using hi')=false:=by simpa using hl
     rw [this]
     show listed.toList.count false - 1+0≤fuel
     omega
   · by_cases hji:j=i
     · subst hji
       rw [upd_same]
       simp [hi']
     · rw [upd_ne _ _ hji]
       simp [Array.getD_eq_getD_getElem?,Ne.symm hji]
theorem wp_region_inv {id:Nat} {a:Act} (l:List Nat) (J:(Nat→Bool)→(Nat→Value)→World→Prop) (hm:P.follows .mixedOrders=true) (hb:backB ops=true)
 (h0:J (fun _=>false) (fun d=>a.tmps.getD d undef) w.drew)
 (hcong:∀ D D' v w,(∀ i,i < ops.size→D i=D' i)→J D v w→J D' v w)
 (hstep:∀ (i:Nat) (o:Oper) (D:Nat→Bool) (v:Nat→Value) (w:World),ops[i]?=some o→D i=false→(∀ e ∈ o.after,Region.binds .any e=true→D e.on=true)→J D v w →
  wpOp P ops Q i (fun a' w'=>∃ v',a'=putAll a l v'∧J (upd D i true) v' w') (putAll a l v) w)
 (hend:∀ (D:Nat→Bool) (v:Nat→Value) (w:World),(∀ i,i < ops.size→D i=true)→J D v w→Q .normal (putAll a l v) w) :
 (Code.region id ops true).wp P Q a w:=by
 refine wp_region_any hm (wpAny_inv (fun D a' w'=>∃ v,a'=putAll a l v∧J D v w') hb ?_ ?_ ?_ _ _ _ _ (by simp) (by simp) ?_)
 · rintro i o D a' w' ho hD hall ⟨v,rfl,hJ⟩
   exact hstep i o D v w' ho hD hall hJ
 · rintro D a' w' hall ⟨v,rfl,hJ⟩
   exact hend D v w' hall hJ
 · rintro D D' a' w' h ⟨v,e,hJ⟩
   exact ⟨v,e,hcong D D' v w' h hJ⟩
 · refine ⟨_,(putAll_self a l).symm,hcong _ _ _ _ (fun i hi=>?_) h0⟩
   simp [hi]
end
end
section
open Go Go.RowKit
theorem wpOp_plain {P:Program} {ops:Array Oper} {Q:Exit→Act→World→Prop} {i:Nat} {o:Oper} {K:Act→World→Prop} {a:Act} (hi:ops[i]?=some o) (hg:Region.wanted o (yielded ops a.tmps)=true) (h:o.wp P a w K Q):wpOp P ops Q i K a w:=by
 unfold wpOp
 simp only [hi,hg,if_true]
 exact .inl h
theorem put_none (a:Act) (x:Value):a.put none x=a:=rfl
theorem eval_putAll_not {t:Nat} {v:Nat→Value}:∀ (l:List Nat) (a:Act),t ∉ l→(putAll a l v).eval (.tmp t)=a.eval (.tmp t)
 | [],_,_=>rfl
 | d :: l,a,h=>by
   rw [putAll,eval_putAll_not l _ (fun q=>h (by simp [q]))]
   have hne:d ≠ t:=fun q=>h (by simp [q])
   simp [Act.eval,Act.put,Array.getD_eq_getD_getElem?,hne]
theorem eval_putAll_mem {t:Nat} {v:Nat→Value}:∀ (l:List Nat) (a:Act),l.Nodup→t ∈ l→t < a.tmps.size→(putAll a l v).eval (.tmp t)=v t
 | [],_,_,h,_=>by cases h
 | d :: l,a,hn,h,hs=>by
   have hn':=List.nodup_cons.1 hn
   rw [putAll]
   by_cases hd:d=t
   · subst hd
     rw [eval_putAll_not l _ hn'.1]
     simp [Act.eval,Act.put,hs]
   · have hm : t ∈ l := by
       cases h with
       | head=>exact absurd rfl hd
       | tail _ h=>exact h
     exact eval_putAll_mem l _ hn'.2 hm (by simpa [Act.put] using hs)
def IsG (w:World) (v:Value) (x:Int) (k:Nat):Prop:=∃ s A n c,v=.agg #[.bool s,.slice A n c]∧RG w s A n c x k
def IsBox (w:World) (base:Nat) (p cont:Value) (full:Bool):Prop:=∃ g s A n c,p=.pointer (some ⟨g,0,none⟩)∧base≤g∧By w g (.bool s) (.slice A n c)∧(full=true→cont=.agg #[.bool s,.slice A n c])
theorem IsG.below {w w':World} {v:Value} {x:Int} {k:Nat} (h:IsG w v x k) (hb:Below w.heap.size w w'):IsG w' v x k:=by
 obtain ⟨s,A,n,c,h1,h2⟩:=h;exact ⟨s,A,n,c,h1,h2.below hb⟩
theorem IsBox.below {w w':World} {base:Nat} {p cont:Value} {full:Bool} (h:IsBox w base p cont full) (hb:Below w.heap.size w w'):IsBox w' base p cont full:=by
 obtain ⟨g,s,A,n,c,h1,h2,h3,h4⟩:=h;exact ⟨g,s,A,n,c,h1,h2,h3.below hb,h4⟩
theorem IsG.store {v:Value} {x:Int} {k g n0 c0:Nat} {s0:Bool} {A0:Option Addr} (h:IsG w v x k) (Z:By w g (.bool s0) (.slice A0 n0 c0)) (y z:Value):IsG ((w.setCell ⟨g,0,none⟩ y).setCell ⟨g,1,none⟩ z) v x k:=by
 obtain ⟨s,A,n,c,h1,h2⟩:=h;exact ⟨s,A,n,c,h1,h2.set2 Z y z⟩
theorem IsBox.other {base g:Nat} {p cont:Value} {full:Bool} (h:IsBox w base p cont full) (hne:p ≠ .pointer (some ⟨g,0,none⟩)) (y z:Value):IsBox ((w.setCell ⟨g,0,none⟩ y).setCell ⟨g,1,none⟩ z) base p cont full:=by
 obtain ⟨g',s,A,n,c,h1,h2,h3,h4⟩:=h
 refine ⟨g',s,A,n,c,h1,h2,h3.other (fun q=>hne (by rw [h1,q])) y z,h4⟩
end
section
open Go.RowKit
theorem z_lit {V d:Nat} (h:0 < d) (h2:d < 10) (hV:V=d):txt V=[UInt8.ofNat (48+d)]:=by
 subst hV
 rw [txt,if_neg (by omega),limbs_small (by omega) h2 (by omega)]
 rfl
end
section
open Go Go.RowKit
theorem run_loadQ {e:Operand→Value} {x:Operand} {d:Option Tmp} {y g:Nat} {pos:String} {af:Array Edge} {u v z:Value} (h:e x=.pointer (some ⟨g,0,none⟩)) (h0:w.cell? ⟨g,0,none⟩=some u) (h1:w.cell? ⟨g,1,none⟩=some v) (h2:w.cell? ⟨g,2,none⟩=some z) :
 (execOp e ⟨d,.load 26 x,y,pos,af,none⟩).run Tryz.prog w=.ok (.value (.agg #[u,v,z])) w:=by
 go_simp
theorem run_storeQ {e:Operand→Value} {x z:Operand} {d:Option Tmp} {y g:Nat} {pos:String} {af:Array Edge} {s:Bool} {A B:Option Addr} {n c m k:Nat} {u0 v0 z0:Value} (h:e x=.pointer (some ⟨g,0,none⟩)) (hz:e z=.agg #[.bool s,.slice A n c,.slice B m k]) (h0:w.cell? ⟨g,0,none⟩=some u0) (h1:w.cell? ⟨g,1,none⟩=some v0) (h2:w.cell? ⟨g,2,none⟩=some z0) (f0:w.frozen? ⟨g,0,none⟩=false) (f1:w.frozen? ⟨g,1,none⟩=false) (f2:w.frozen? ⟨g,2,none⟩=false) :
 (execOp e ⟨d,.store 26 x z,y,pos,af,none⟩).run Tryz.prog w=.ok .skip (((w.setCell ⟨g,0,none⟩ (.bool s)).setCell ⟨g,1,none⟩ (.slice A n c)).setCell ⟨g,2,none⟩ (.slice B m k)):=by
 go_simp
theorem run_allocQ {e:Operand→Value} {d:Option Tmp} {y:Nat} {pos:String} {af:Array Edge} :
 (execOp e ⟨d,.alloc 26,y,pos,af,none⟩).run Tryz.prog w=.ok (.value (.pointer (some ⟨w.heap.size,0,none⟩))) (w.alloc (.cells #[.bool false,.slice none 0 0,.slice none 0 0] 26)):=by
 go_simp
theorem run_move {e:Operand→Value} {x:Operand} {d:Option Tmp} {y:Nat} {pos:String} {af:Array Edge} {u:Value} (h:e x=u) :
 (execOp e ⟨d,.move x,y,pos,af,none⟩).run Tryz.prog w=.ok (.value u) w:=by
 subst h;go_simp
theorem run_assign {e:Operand→Value} {x:Operand} {d:Option Tmp} {y:Nat} {pos:String} {af:Array Edge} {u:Value} (h:e x=u) :
 (execOp e ⟨d,.assign x,y,pos,af,none⟩).run Tryz.prog w=.ok (.value u) w:=by
 subst h;go_simp
theorem run_ext0 {e:Operand→Value} {x:Operand} {d:Option Tmp} {y:Nat} {pos:String} {af:Array Edge} {u v:Value} (h:e x=.tuple #[u,v]) :
 (execOp e ⟨d,.extract x 0,y,pos,af,none⟩).run Tryz.prog w=.ok (.value u) w:=by
 go_simp
theorem run_ext1 {e:Operand→Value} {x:Operand} {d:Option Tmp} {y:Nat} {pos:String} {af:Array Edge} {u v:Value} (h:e x=.tuple #[u,v]) :
 (execOp e ⟨d,.extract x 1,y,pos,af,none⟩).run Tryz.prog w=.ok (.value v) w:=by
 go_simp
theorem run_callOf {e:Operand→Value} {d:Option Tmp} {y:Nat} {pos:String} {af:Array Edge} {i j:Int} (h1:e (.const (.int .i64 i))=.int .i64 i) (h2:e (.const (.int .i64 j))=.int .i64 j) (h3:e (.func 23)=.func (.func 23) #[] #[]) :
 (execOp e ⟨d,.call ⟨.value (.func 23),#[.const (.int .i64 i),.const (.int .i64 j)],#[2,2]⟩,y,pos,af,none⟩).run Tryz.prog w=.ok (.enter 23 #[.int .i64 i,.int .i64 j]) w:=by
 go_simp
theorem run_callDiv {e:Operand→Value} {x z:Operand} {d:Option Tmp} {y:Nat} {pos:String} {af:Array Edge} {u v:Value} (h1:e x=u) (h2:e z=v) (h3:e (.func 47)=.func (.func 47) #[] #[]) :
 (execOp e ⟨d,.call ⟨.value (.func 47),#[x,z],#[26,26]⟩,y,pos,af,none⟩).run Tryz.prog w=.ok (.enter 47 #[u,v]) w:=by
 go_simp
def IsQ (w:World) (v:Value) (x:Rat) (k:Nat):Prop:=∃ s A n c A' n' c',v=.agg #[.bool s,.slice A n c,.slice A' n' c']∧QG w s A n c A' n' c' x k
theorem IsQ.below {w w':World} {v:Value} {x:Rat} {k:Nat} (h:IsQ w v x k) (hb:Below w.heap.size w w'):IsQ w' v x k:=by
 obtain ⟨s,A,n,c,A',n',c',h1,h2⟩:=h;exact ⟨s,A,n,c,A',n',c',h1,h2.below hb⟩
def HasBox (w:World) (base:Nat) (p:Value):Prop:=∃ g s A n c A' n' c',p=.pointer (some ⟨g,0,none⟩)∧base≤g∧B3 w g (.bool s) (.slice A n c) (.slice A' n' c')
theorem HasBox.below {w w':World} {b:Nat} {p:Value} (h:HasBox w b p) (hb:Below w.heap.size w w'):HasBox w' b p:=by
 obtain ⟨g,s,A,n,c,A',n',c',h1,h2,h3⟩:=h;exact ⟨g,s,A,n,c,A',n',c',h1,h2,h3.below hb⟩
def ErrT:Value:=.tuple #[.agg #[.bool false,.slice none 0 0,.slice none 0 0],.int .i64 12]
def JW (w:World) (V:Value) (D:Nat→Bool) (v:Nat→Value) (w':World):Prop :=
 Below w.heap.size w w'∧(D 0=true→v 18=V)∧(D 1=true∧D 2=false→IsQ w' (v 19) (Rat.divInt 0 1) 1)∧(D 2=true→v 20=ErrT)∧(D 3=true→v 17=ErrT) ∧
 (D 4=true→v 21=.agg #[.bool false,.slice none 0 0,.slice none 0 0])∧(D 5=true→v 22=.int .i64 12)∧(D 6=true→HasBox w' w.heap.size (v 5))∧(D 8=true→v 6=.int .i64 12)
theorem wk_region {id:Nat} {a:Act} {Q:Exit→Act→World→Prop} {g1:Nat} {s:Bool} {A A':Option Addr} {n c n' c':Nat} {va:Rat}
 (hsz:22 < a.tmps.size) (e1:a.eval (.tmp 1)=.pointer (some ⟨g1,0,none⟩)) (XA:B3 w g1 (.bool s) (.slice A n c) (.slice A' n' c')) (X:QR w s A n c A' n' c' va 1)
 (hend:∀ (v:Nat→Value) (w':World),v 6=.int .i64 12→Below w.heap.size w w'→Q .normal (putAll a [18,19,20,17,21,22,5,6] v) w') :
 (Code.region id #[⟨some 18,.load 26 (.tmp 1),26, "law.go:19",#[],none⟩,
  ⟨some 19,.call ⟨.value (.func 23),#[.const (Value.int IntKind.i64 0),.const (Value.int IntKind.i64 1)],#[2,2]⟩,26, "law.go:19",#[],none⟩,
  ⟨some 20,.call ⟨.value (.func 47),#[.tmp 18,.tmp 19],#[26,26]⟩,30, "law.go:19",#[⟨0,.data⟩,⟨1,.data⟩,⟨1,.chain⟩],none⟩,
  ⟨some 17,.move (.tmp 20),30, "law.go:19",#[⟨2,.data⟩],none⟩,
  ⟨some 21,.extract (.tmp 17) 0,26, "law.go:19",#[⟨3,.data⟩],none⟩,
  ⟨some 22,.extract (.tmp 17) 1,29, "law.go:19",#[⟨3,.data⟩,⟨7,.gcOnly .lateStores⟩],none⟩,
  ⟨some 5,.alloc 26,0, "law.go:19",#[],none⟩,
  ⟨none,.store 26 (.tmp 5) (.tmp 21),0, "law.go:19",#[⟨6,.data⟩,⟨4,.data⟩,⟨2,.chain⟩,⟨0,.phase⟩,⟨1,.phase⟩,⟨2,.phase⟩,⟨3,.phase⟩,⟨4,.phase⟩,⟨5,.textOnly .lateStores⟩,⟨6,.phase⟩],none⟩,
  ⟨some 6,.assign (.tmp 22),29, "law.go:19",#[⟨5,.data⟩,⟨7,.chain⟩,⟨0,.phase⟩,⟨1,.phase⟩,⟨2,.phase⟩,⟨3,.phase⟩,⟨4,.phase⟩,⟨5,.phase⟩,⟨6,.phase⟩,⟨7,.phase⟩],none⟩] true).wp Tryz.prog Q a w:=by
 have hnd:[18,19,20,17,21,22,5,6].Nodup:=by decide
 refine wp_region_inv [18,19,20,17,21,22,5,6] (JW w (.agg #[.bool s,.slice A n c,.slice A' n' c'])) rfl (by kernel_rfl) ?_ ?_ ?_ ?_
 · refine ⟨(Below.refl _ _).drew,?_,?_,?_,?_,?_,?_,?_,?_⟩ <;> intro h <;> first | (exact absurd h (by decide)) | (exact absurd h.1 (by decide))
 · intro D D' v w' hD h
   unfold JW at h ⊢
   rw [← hD 0 (by show 0 < 9;omega),← hD 1 (by show 1 < 9;omega),← hD 2 (by show 2 < 9;omega),← hD 3 (by show 3 < 9;omega),← hD 4 (by show 4 < 9;omega),← hD 5 (by show 5 < 9;omega),← hD 6 (by show 6 < 9;omega),← hD 8 (by show 8 < 9;omega)]
   exact h
 · intro i o D v w' ho hDi hall hJ
   obtain ⟨J0,J1,J2,J3,J4,J5,J6,J7,J8⟩:=hJ
   have E1:=(eval_putAll_not (v:=v) [18,19,20,17,21,22,5,6] a (show 1 ∉ _ by decide)).trans e1
   have F:∀ t,t ∈ [18,19,20,17,21,22,5,6]→t≤22→(putAll a [18,19,20,17,21,22,5,6] v).eval (.tmp t)=v t:=fun t ht h=>eval_putAll_mem (t:=t) [18,19,20,17,21,22,5,6] a hnd ht (Nat.lt_of_le_of_lt h hsz)
   have X':=X.below J0
   have XA':=XA.below J0
   match i,ho with
   | 0,ho =>
     have hall':∀ e ∈ (⟨some 18,.load 26 (.tmp 1),26, "law.go:19",#[],none⟩:Oper).after,Region.binds .any e=true→D e.on=true:=by cases ho;exact hall
     refine wpOp_plain (o:=⟨some 18,.load 26 (.tmp 1),26, "law.go:19",#[],none⟩) rfl rfl ?_
     unfold Oper.wp
     rw [run_loadQ E1 XA'.c0 XA'.c1 XA'.c2,Oper.upon_value]
     have J2K:upd D 0 true 1=true∧upd D 0 true 2=false→IsQ w' (v 19) (Rat.divInt 0 1) 1:=fun h=>J2 ⟨h.1,h.2⟩
     refine ⟨_,putAll_put _ _ _ _ _ hnd (by decide),J0,?_,?_,?_,?_,?_,?_,?_,?_⟩
     · exact fun _=>upd_same _ _ _
     · rw [upd_ne _ _ (by decide)];exact J2K
     · rw [upd_ne _ _ (by decide)];exact J3
     · rw [upd_ne _ _ (by decide)];exact J4
     · rw [upd_ne _ _ (by decide)];exact J5
     · rw [upd_ne _ _ (by decide)];exact J6
     · rw [upd_ne _ _ (by decide)];exact J7
     · rw [upd_ne _ _ (by decide)];exact J8
   | 1,ho =>
     have hall':∀ e ∈ (⟨some 19,.call ⟨.value (.func 23),#[.const (Value.int IntKind.i64 0),.const (Value.int IntKind.i64 1)],#[2,2]⟩,26, "law.go:19",#[],none⟩:Oper).after,Region.binds .any e=true→D e.on=true:=by cases ho;exact hall
     refine wpOp_plain (o:=⟨some 19,.call ⟨.value (.func 23),#[.const (Value.int IntKind.i64 0),.const (Value.int IntKind.i64 1)],#[2,2]⟩,26, "law.go:19",#[],none⟩) rfl rfl ?_
     unfold Oper.wp
     rw [run_callOf rfl rfl rfl,Oper.upon_enter]
     refine (rof_q 0 1 (by decide) (by decide) (by decide) (by decide) (by decide) _).mono ?_
     rintro e w1 ⟨s1,A1,n1,c1,B1,m1,d1,rfl,hg,hb⟩
     refine ⟨_,putAll_put _ _ _ _ _ hnd (by decide),bend J0 hb,?_,?_,?_,?_,?_,?_,?_,?_⟩
     · rw [upd_ne _ _ (by decide)];exact J1
     · intro _;rw [upd_same];exact ⟨s1,A1,n1,c1,B1,m1,d1,rfl,hg⟩
     · rw [upd_ne _ _ (by decide)];exact J3
     · rw [upd_ne _ _ (by decide)];exact J4
     · rw [upd_ne _ _ (by decide)];exact J5
     · rw [upd_ne _ _ (by decide)];exact J6
     · rw [upd_ne _ _ (by decide)];exact fun h=>(J7 h).below hb
     · rw [upd_ne _ _ (by decide)];exact J8
   | 2,ho =>
     have hall':∀ e ∈ (⟨some 20,.call ⟨.value (.func 47),#[.tmp 18,.tmp 19],#[26,26]⟩,30, "law.go:19",#[⟨0,.data⟩,⟨1,.data⟩,⟨1,.chain⟩],none⟩:Oper).after,Region.binds .any e=true→D e.on=true:=by cases ho;exact hall
     refine wpOp_plain (o:=⟨some 20,.call ⟨.value (.func 47),#[.tmp 18,.tmp 19],#[26,26]⟩,30, "law.go:19",#[⟨0,.data⟩,⟨1,.data⟩,⟨1,.chain⟩],none⟩) rfl rfl ?_
     unfold Oper.wp
     have h0:=J1 (hall' ⟨0,.data⟩ (by simp) rfl)
     obtain ⟨s1,A1,n1,c1,B1,m1,d1,u1,u2⟩:=J2 ⟨hall' ⟨1,.data⟩ (by simp) rfl,hDi⟩
     rw [run_callDiv ((F 18 (by decide) (by decide)).trans h0) ((F 19 (by decide) (by decide)).trans u1) rfl,Oper.upon_enter]
     refine (rdiv_zero X' u2.qr (by decide) (by decide) (by decide) (by decide) (by decide) (by decide +kernel)).mono ?_
     rintro e w1 ⟨rfl,hb⟩
     refine ⟨_,putAll_put _ _ _ _ _ hnd (by decide),bend J0 hb,?_,?_,?_,?_,?_,?_,?_,?_⟩
     · rw [upd_ne _ _ (by decide)];exact J1
     · exact fun h=>absurd h.2 (by rw [upd_same];decide)
     · exact fun _=>upd_same _ _ _
     · rw [upd_ne _ _ (by decide)];exact J4
     · rw [upd_ne _ _ (by decide)];exact J5
     · rw [upd_ne _ _ (by decide)];exact J6
     · rw [upd_ne _ _ (by decide)];exact fun h=>(J7 h).below hb
     · rw [upd_ne _ _ (by decide)];exact J8
   | 3,ho =>
     have hall':∀ e ∈ (⟨some 17,.move (.tmp 20),30, "law.go:19",#[⟨2,.data⟩],none⟩:Oper).after,Region.binds .any e=true→D e.on=true:=by cases ho;exact hall
     refine wpOp_plain (o:=⟨some 17,.move (.tmp 20),30, "law.go:19",#[⟨2,.data⟩],none⟩) rfl rfl ?_
     unfold Oper.wp
     have h0:=J3 (hall' ⟨2,.data⟩ (by simp) rfl)
     rw [run_move ((F 20 (by decide) (by decide)).trans h0),Oper.upon_value]
     have J2K:upd D 3 true 1=true∧upd D 3 true 2=false→IsQ w' (v 19) (Rat.divInt 0 1) 1:=fun h=>J2 ⟨h.1,h.2⟩
     refine ⟨_,putAll_put _ _ _ _ _ hnd (by decide),J0,?_,?_,?_,?_,?_,?_,?_,?_⟩
     · rw [upd_ne _ _ (by decide)];exact J1
     · rw [upd_ne _ _ (by decide)];exact J2K
     · rw [upd_ne _ _ (by decide)];exact J3
     · exact fun _=>upd_same _ _ _
     · rw [upd_ne _ _ (by decide)];exact J5
     · rw [upd_ne _ _ (by decide)];exact J6
     · rw [upd_ne _ _ (by decide)];exact J7
     · rw [upd_ne _ _ (by decide)];exact J8
   | 4,ho =>
     have hall':∀ e ∈ (⟨some 21,.extract (.tmp 17) 0,26, "law.go:19",#[⟨3,.data⟩],none⟩:Oper).after,Region.binds .any e=true→D e.on=true:=by cases ho;exact hall
     refine wpOp_plain (o:=⟨some 21,.extract (.tmp 17) 0,26, "law.go:19",#[⟨3,.data⟩],none⟩) rfl rfl ?_
     unfold Oper.wp
     have h0:=J4 (hall' ⟨3,.data⟩ (by simp) rfl)
     rw [run_ext0 ((F 17 (by decide) (by decide)).trans h0),Oper.upon_value]
     have J2K:upd D 4 true 1=true∧upd D 4 true 2=false→IsQ w' (v 19) (Rat.divInt 0 1) 1:=fun h=>J2 ⟨h.1,h.2⟩
     refine ⟨_,putAll_put _ _ _ _ _ hnd (by decide),J0,?_,?_,?_,?_,?_,?_,?_,?_⟩
     · rw [upd_ne _ _ (by decide)];exact J1
     · rw [upd_ne _ _ (by decide)];exact J2K
     · rw [upd_ne _ _ (by decide)];exact J3
     · rw [upd_ne _ _ (by decide)];exact J4
     · exact fun _=>upd_same _ _ _
     · rw [upd_ne _ _ (by decide)];exact J6
     · rw [upd_ne _ _ (by decide)];exact J7
     · rw [upd_ne _ _ (by decide)];exact J8
   | 5,ho =>
     have hall':∀ e ∈ (⟨some 22,.extract (.tmp 17) 1,29, "law.go:19",#[⟨3,.data⟩,⟨7,.gcOnly .lateStores⟩],none⟩:Oper).after,Region.binds .any e=true→D e.on=true:=by cases ho;exact hall
     refine wpOp_plain (o:=⟨some 22,.extract (.tmp 17) 1,29, "law.go:19",#[⟨3,.data⟩,⟨7,.gcOnly .lateStores⟩],none⟩) rfl rfl ?_
     unfold Oper.wp
     have h0:=J4 (hall' ⟨3,.data⟩ (by simp) rfl)
     rw [run_ext1 ((F 17 (by decide) (by decide)).trans h0),Oper.upon_value]
     have J2K:upd D 5 true 1=true∧upd D 5 true 2=false→IsQ w' (v 19) (Rat.divInt 0 1) 1:=fun h=>J2 ⟨h.1,h.2⟩
     refine ⟨_,putAll_put _ _ _ _ _ hnd (by decide),J0,?_,?_,?_,?_,?_,?_,?_,?_⟩
     · rw [upd_ne _ _ (by decide)];exact J1
     · rw [upd_ne _ _ (by decide)];exact J2K
     · rw [upd_ne _ _ (by decide)];exact J3
     · rw [upd_ne _ _ (by decide)];exact J4
     · rw [upd_ne _ _ (by decide)];exact J5
     · exact fun _=>upd_same _ _ _
     · rw [upd_ne _ _ (by decide)];exact J7
     · rw [upd_ne _ _ (by decide)];exact J8
   | 6,ho =>
     have hall':∀ e ∈ (⟨some 5,.alloc 26,0, "law.go:19",#[],none⟩:Oper).after,Region.binds .any e=true→D e.on=true:=by cases ho;exact hall
     refine wpOp_plain (o:=⟨some 5,.alloc 26,0, "law.go:19",#[],none⟩) rfl rfl ?_
     unfold Oper.wp
     rw [run_allocQ,Oper.upon_value]
     have hb:=(Below.refl w'.heap.size w').alloc (Nat.le_refl _) (.cells #[.bool false,.slice none 0 0,.slice none 0 0] 26)
     refine ⟨_,putAll_put _ _ _ _ _ hnd (by decide),bend J0 hb,?_,?_,?_,?_,?_,?_,?_,?_⟩
     · rw [upd_ne _ _ (by decide)];exact J1
     · rw [upd_ne _ _ (by decide)];exact fun h=>(J2 ⟨h.1,h.2⟩).below hb
     · rw [upd_ne _ _ (by decide)];exact J3
     · rw [upd_ne _ _ (by decide)];exact J4
     · rw [upd_ne _ _ (by decide)];exact J5
     · rw [upd_ne _ _ (by decide)];exact J6
     · intro _;rw [upd_same];exact ⟨_,_,_,_,_,_,_,_,rfl,J0.size,B3.new' w' _ _ _ _ rfl⟩
     · rw [upd_ne _ _ (by decide)];exact J8
   | 7,ho =>
     have hall':∀ e ∈ (⟨none,.store 26 (.tmp 5) (.tmp 21),0, "law.go:19",#[⟨6,.data⟩,⟨4,.data⟩,⟨2,.chain⟩,⟨0,.phase⟩,⟨1,.phase⟩,⟨2,.phase⟩,⟨3,.phase⟩,⟨4,.phase⟩,⟨5,.textOnly .lateStores⟩,⟨6,.phase⟩],none⟩:Oper).after,Region.binds .any e=true→D e.on=true:=by cases ho;exact hall
     obtain ⟨g,s0,A0,n0,c0,B0,m0,d0,p1,p2,p3⟩:=J7 (hall' ⟨6,.data⟩ (by simp) rfl)
     have h0:=J5 (hall' ⟨4,.data⟩ (by simp) rfl)
     refine wpOp_plain (o:=⟨none,.store 26 (.tmp 5) (.tmp 21),0, "law.go:19",#[⟨6,.data⟩,⟨4,.data⟩,⟨2,.chain⟩,⟨0,.phase⟩,⟨1,.phase⟩,⟨2,.phase⟩,⟨3,.phase⟩,⟨4,.phase⟩,⟨5,.textOnly .lateStores⟩,⟨6,.phase⟩],none⟩) rfl rfl ?_
     unfold Oper.wp
     rw [run_storeQ ((F 5 (by decide) (by decide)).trans p1) ((F 21 (by decide) (by decide)).trans h0) p3.c0 p3.c1 p3.c2 p3.f0 p3.f1 p3.f2,Oper.upon_skip]
     have D0:upd D 7 true 0=D 0:=rfl
     have D1:upd D 7 true 1=D 1:=rfl
     have D2:upd D 7 true 2=D 2:=rfl
     have D3:upd D 7 true 3=D 3:=rfl
     have D4:upd D 7 true 4=D 4:=rfl
     have D5:upd D 7 true 5=D 5:=rfl
     have D6:upd D 7 true 6=D 6:=rfl
     have D8:upd D 7 true 8=D 8:=rfl
     refine ⟨v,put_none _ _,?_⟩
     unfold JW
     rw [D0,D1,D2,D3,D4,D5,D6,D8]
     refine ⟨below_set3 J0 p2 _ _ _,J1,?_,J3,J4,J5,J6,?_,J8⟩
     · intro h
       obtain ⟨s1,A1,n1,c1,B1,m1,d1,u1,u2⟩:=J2 ⟨h.1,h.2⟩
       exact ⟨s1,A1,n1,c1,B1,m1,d1,u1,u2.set3 p3 _ _ _⟩
     · intro _;exact ⟨g,_,_,_,_,_,_,_,p1,p2,p3.set3 _ _ _⟩
   | 8,ho =>
     have hall':∀ e ∈ (⟨some 6,.assign (.tmp 22),29, "law.go:19",#[⟨5,.data⟩,⟨7,.chain⟩,⟨0,.phase⟩,⟨1,.phase⟩,⟨2,.phase⟩,⟨3,.phase⟩,⟨4,.phase⟩,⟨5,.phase⟩,⟨6,.phase⟩,⟨7,.phase⟩],none⟩:Oper).after,Region.binds .any e=true→D e.on=true:=by cases ho;exact hall
     refine wpOp_plain (o:=⟨some 6,.assign (.tmp 22),29, "law.go:19",#[⟨5,.data⟩,⟨7,.chain⟩,⟨0,.phase⟩,⟨1,.phase⟩,⟨2,.phase⟩,⟨3,.phase⟩,⟨4,.phase⟩,⟨5,.phase⟩,⟨6,.phase⟩,⟨7,.phase⟩],none⟩) rfl rfl ?_
     unfold Oper.wp
     have h0:=J6 (hall' ⟨5,.data⟩ (by simp) rfl)
     rw [run_assign ((F 22 (by decide) (by decide)).trans h0),Oper.upon_value]
     have J2K:upd D 8 true 1=true∧upd D 8 true 2=false→IsQ w' (v 19) (Rat.divInt 0 1) 1:=fun h=>J2 ⟨h.1,h.2⟩
     refine ⟨_,putAll_put _ _ _ _ _ hnd (by decide),J0,?_,?_,?_,?_,?_,?_,?_,?_⟩
     · rw [upd_ne _ _ (by decide)];exact J1
     · rw [upd_ne _ _ (by decide)];exact J2K
     · rw [upd_ne _ _ (by decide)];exact J3
     · rw [upd_ne _ _ (by decide)];exact J4
     · rw [upd_ne _ _ (by decide)];exact J5
     · rw [upd_ne _ _ (by decide)];exact J6
     · rw [upd_ne _ _ (by decide)];exact J7
     · exact fun _=>upd_same _ _ _
   | i+9,ho=>cases ho
 · intro D v w' hall hJ
   exact hend v w' (hJ.2.2.2.2.2.2.2.2 (hall 8 (by show 8 < 9;omega))) hJ.1
end
section
open Go Go.RowKit
theorem QR.more {s:Bool} {A A':Option Addr} {n c n' c' k k1:Nat} {v:Rat} (h:QR w s A n c A' n' c' v k) (hk:k≤k1):QR w s A n c A' n' c' v k1:=by
 obtain ⟨p,q,h1,h2,h3⟩:=h
 exact ⟨p,q,h1.more hk,h2.more hk,h3⟩
theorem lit_txt {V d:Nat} (h:0 < d) (h2:d < 10) (hV:V=d):txt V=[UInt8.ofNat (48+d)]:=z_lit h h2 hV
theorem q_txt {v:Rat} {a b:Nat} (hn:v.num=-(a:Int)) (hd:v.den=b) (ha:0 < a) (ha2:a < 10) (hb:1 < b) (hb2:b < 10):qtxt v=[45,UInt8.ofNat (48+a),47,UInt8.ofNat (48+b)]:=by
 unfold qtxt
 rw [if_neg (by omega),hn,hd]
 unfold ztxt
 rw [if_pos (by omega),show (-(a:Int)).natAbs=a by omega,lit_txt ha ha2 rfl,lit_txt (by omega) hb2 rfl]
 rfl
theorem q_a:(⟨(qtxt (Rat.divInt 6 (-4))).toArray⟩:ByteArray)=⟨#[45,51,47,50]⟩:=by
 rw [q_txt (a:=3) (b:=2) (by decide +kernel) (by decide +kernel) (by decide) (by decide) (by decide) (by decide)];rfl
theorem q_d:(⟨(qtxt ((Rat.divInt 6 (-4)) / (Rat.divInt 1 3))).toArray⟩:ByteArray)=⟨#[45,57,47,50]⟩:=by
 rw [q_txt (a:=9) (b:=2) (by decide +kernel) (by decide +kernel) (by decide) (by decide) (by decide) (by decide)];rfl
theorem q_f:(⟨(ztxt (Rat.divInt 6 (-4)).floor).toArray⟩:ByteArray)=⟨#[45,50]⟩:=by
 rw [show (Rat.divInt 6 (-4)).floor=-2 by decide +kernel,ztxt,if_pos (by omega),show ((-2:Int).natAbs)=2 from rfl,z_lit (d:=2) (by omega) (by omega) rfl];rfl
theorem q_s:cmpQ ((Rat.divInt 6 (-4))+(Rat.divInt 1 3)) (mkRat (-7) 6)=0:=cmpQ_eq (by decide +kernel)
theorem lit_dec:dec [54]=6:=by
 have h:=(txt_dec 6).1
 rw [lit_txt (d:=6) (by omega) (by omega) rfl] at h
 exact h
theorem parse_lit (w:World):Calls Tryz.prog 12 #[.string ⟨#[45,55,47,54]⟩] w (GivesQE w (mkRat (-7) 6) 1):=by
 have e1:(⟨#[45,55,47,54]⟩:ByteArray).extract 0 2=⟨(ztxt (-7)).toArray⟩:=by
  rw [ztxt,if_pos (by omega),show ((-7:Int).natAbs)=7 from rfl,z_lit (d:=7) (by omega) (by omega) rfl];rfl
 have e2:(⟨#[45,55,47,54]⟩:ByteArray).extract (2+1) (⟨#[45,55,47,54]⟩:ByteArray).size=⟨(txt 6).toArray⟩:=by
  rw [lit_txt (d:=6) (by omega) (by omega) rfl];rfl
 have e3:=ztxt_num (-7)
 have e4:txt 6=[54]:=lit_txt (by omega) (by omega) rfl
 have e5:ztxt (-7)=[45,55]:=by rw [ztxt,if_pos (by omega),show ((-7:Int).natAbs)=7 from rfl,z_lit (d:=7) (by omega) (by omega) rfl];rfl
 refine rparse_hit _ 2 1 w (by decide) (by decide +kernel) (by decide) ?_ ?_ (-7) ?_ ?_ 6 ?_ ?_ (by decide) (by decide) ?_ ?_ (by decide)
 · rw [e1];simpa using e3.1
 · rw [e2,e4];decide +kernel
 · rw [e1];simpa using e3.2
 · rw [Nat.pow_one];unfold B64;decide
 · rw [e2,e4];exact lit_dec
 · rw [Nat.pow_one];unfold B64;decide
 · rw [e1,e5];decide
 · rw [e2,e4];decide
theorem qwakes_any (w:World):Calls Tryz.prog 11 #[] w fun e w'=>e=.returned (.bool true)∧Below w.heap.size w w':=by
 have hb:Below w.heap.size w w:=Below.refl _ _
 go_enter Tryz.func11,Tryz.ntmps11
 go_upto_region 2 with (first
  | (go_at_call 23;(with_reducible refine (rof_q 6 (-4) (by decide) (by decide) (by decide) (by decide) (by decide) _).mono ?_);rintro e w_a ⟨s_a,A_a,n_a,c_a,B_a,m_a,d_a,rfl,a,hh⟩
     (try replace b:=b.below hh);(try replace dd:=dd.below hh);(try replace pp:=pp.below hh);(try replace sm:=sm.below hh);(try replace fl:=fl.below hh);(try replace XA:=XA.below hh);(try replace XB:=XB.below hh);(try replace XD:=XD.below hh);(try replace XP:=XP.below hh);replace hb:=bend hb hh)
  | (go_at_call 23;(with_reducible refine (rof_q 1 3 (by decide) (by decide) (by decide) (by decide) (by decide) _).mono ?_);rintro e w_b ⟨s_b,A_b,n_b,c_b,B_b,m_b,d_b,rfl,b,hh⟩
     (try replace a:=a.below hh);(try replace dd:=dd.below hh);(try replace pp:=pp.below hh);(try replace sm:=sm.below hh);(try replace fl:=fl.below hh);(try replace XA:=XA.below hh);(try replace XB:=XB.below hh);(try replace XD:=XD.below hh);(try replace XP:=XP.below hh);replace hb:=bend hb hh))
 generalize hW:World.alloc _ _=W1
 obtain ⟨hh,XA,XB,hzW1⟩:=mkbx10_7 hW;clear hW;(try replace a:=a.below hh);(try replace b:=b.below hh);replace hb:=bend hb hh;obtain ⟨xa0,xa1,xa2⟩:=XA.all;obtain ⟨xb0,xb1,xb2⟩:=XB.all
 go_upto_region 3 with (first
  | (go_at_call 47;(with_reducible refine (rdiv_q a.qr b.qr (by decide) (by decide) (by decide) (by decide) (by decide) (by decide +kernel)).mono ?_);rintro e w_dd ⟨s_dd,A_dd,n_dd,c_dd,B_dd,m_dd,d_dd,rfl,dd,hh⟩
     (try replace a:=a.below hh);(try replace b:=b.below hh);(try replace pp:=pp.below hh);(try replace sm:=sm.below hh);(try replace fl:=fl.below hh);(try replace XA:=XA.below hh);(try replace XB:=XB.below hh);(try replace XD:=XD.below hh);(try replace XP:=XP.below hh);replace hb:=bend hb hh))
 generalize hW:World.alloc _ _=W2
 obtain ⟨hh,XD,hzW2⟩:=mkbx9_7 hW;clear hW;(try replace a:=a.below hh);(try replace b:=b.below hh);(try replace dd:=dd.below hh);(try replace XA:=XA.below hh);(try replace XB:=XB.below hh);replace hb:=bend hb hh
 refine wk_region (by simp) rfl XA a.qr ?_
 intro V w_x hv1 hh
 simp only [putAll,Act.put,List.setIfInBounds_toArray,List.set_cons_zero,List.set_cons_succ,hv1]
 clear hv1;replace a:=a.below hh;replace b:=b.below hh;replace dd:=dd.below hh;replace XA:=XA.below hh;replace XB:=XB.below hh;replace XD:=XD.below hh;replace hb:=bend hb hh
 go_upto_region 5 with (first
  | (go_at_call 12;(with_reducible refine (parse_lit _).mono ?_);rintro e w_pp ⟨s_pp,A_pp,n_pp,c_pp,B_pp,m_pp,d_pp,rfl,pp,hh⟩
     (try replace a:=a.below hh);(try replace b:=b.below hh);(try replace dd:=dd.below hh);(try replace sm:=sm.below hh);(try replace fl:=fl.below hh);(try replace XA:=XA.below hh);(try replace XB:=XB.below hh);(try replace XD:=XD.below hh);(try replace XP:=XP.below hh);replace hb:=bend hb hh))
 generalize hW:World.alloc _ _=W3
 obtain ⟨hh,XP,hzW3⟩:=mkbx9_7 hW;clear hW;(try replace a:=a.below hh);(try replace b:=b.below hh);(try replace dd:=dd.below hh);(try replace pp:=pp.below hh);(try replace XA:=XA.below hh);(try replace XB:=XB.below hh);(try replace XD:=XD.below hh);replace hb:=bend hb hh
 replace a:=a.below (Below.refl _ _).drew
 replace b:=b.below (Below.refl _ _).drew
 replace dd:=dd.below (Below.refl _ _).drew
 replace pp:=pp.below (Below.refl _ _).drew
 replace XA:=XA.below (Below.refl _ _).drew
 replace XB:=XB.below (Below.refl _ _).drew
 replace XD:=XD.below (Below.refl _ _).drew
 replace XP:=XP.below (Below.refl _ _).drew
 have aq:=a.qr;have bq:=b.qr;have dq:=dd.qr;have pq:=pp.qr;replace hb:=hb.drew
 go_region_held3 (fun w'=>w'.cell? ⟨w_b.heap.size,0,none⟩=some (.bool s_a)∧w'.cell? ⟨w_b.heap.size,1,none⟩=some (.slice A_a n_a c_a)∧w'.cell? ⟨w_b.heap.size,2,none⟩=some (.slice B_a m_a d_a)∧w'.cell? ⟨w_b.heap.size+1,0,none⟩=some (.bool s_b)∧w'.cell? ⟨w_b.heap.size+1,1,none⟩=some (.slice A_b n_b c_b)∧w'.cell? ⟨w_b.heap.size+1,2,none⟩=some (.slice B_b m_b d_b)∧w'.cell? ⟨w_dd.heap.size,0,none⟩=some (.bool s_dd)∧w'.cell? ⟨w_dd.heap.size,1,none⟩=some (.slice A_dd n_dd c_dd)∧w'.cell? ⟨w_dd.heap.size,2,none⟩=some (.slice B_dd m_dd d_dd)∧w'.cell? ⟨w_pp.heap.size,0,none⟩=some (.bool s_pp)∧w'.cell? ⟨w_pp.heap.size,1,none⟩=some (.slice A_pp n_pp c_pp)∧w'.cell? ⟨w_pp.heap.size,2,none⟩=some (.slice B_pp m_pp d_pp))
  (first | with_reducible exact ⟨XA.c0,XA.c1,XA.c2,XB.c0,XB.c1,XB.c2,XD.c0,XD.c1,XD.c2,XP.c0,XP.c1,XP.c2⟩)
  (first
  | (go_at_call 15;(with_reducible refine (rtext_q aq (by decide) (by decide)).mono ?_);rintro e w_z ⟨rfl,hh⟩
     rw [q_a];(try replace a:=a.below hh);(try replace aq:=aq.below hh);(try replace bq:=bq.below hh);(try replace dq:=dq.below hh);(try replace pq:=pq.below hh);(try replace sm:=sm.below hh);(try replace fl:=fl.below hh);(try replace XA:=XA.below hh);(try replace XB:=XB.below hh);(try replace XD:=XD.below hh);(try replace XP:=XP.below hh);replace hb:=bend hb hh)
  | (go_at_call 15;(with_reducible refine (rtext_q dq (by decide) (by decide)).mono ?_);rintro e w_z ⟨rfl,hh⟩
     rw [q_d];(try replace a:=a.below hh);(try replace aq:=aq.below hh);(try replace bq:=bq.below hh);(try replace dq:=dq.below hh);(try replace pq:=pq.below hh);(try replace sm:=sm.below hh);(try replace fl:=fl.below hh);(try replace XA:=XA.below hh);(try replace XB:=XB.below hh);(try replace XD:=XD.below hh);(try replace XP:=XP.below hh);replace hb:=bend hb hh)
  | (go_at_call 18;(with_reducible refine (radd_q aq bq (by decide) (by decide) (by decide) (by decide) (by decide)).mono ?_);rintro e w_sm ⟨s_sm,A_sm,n_sm,c_sm,B_sm,m_sm,d_sm,rfl,sm,hh⟩
     (try replace a:=a.below hh);(try replace aq:=aq.below hh);(try replace bq:=bq.below hh);(try replace dq:=dq.below hh);(try replace pq:=pq.below hh);(try replace fl:=fl.below hh);(try replace XA:=XA.below hh);(try replace XB:=XB.below hh);(try replace XD:=XD.below hh);(try replace XP:=XP.below hh);replace hb:=bend hb hh)
  | (go_at_call 45;(with_reducible refine (rcmp_q sm.qr pq (by decide) (by decide) (by decide) (by decide) (by decide)).mono ?_);rintro e w_z ⟨rfl,hh⟩
     rw [q_s];(try replace a:=a.below hh);(try replace aq:=aq.below hh);(try replace bq:=bq.below hh);(try replace dq:=dq.below hh);(try replace pq:=pq.below hh);(try replace sm:=sm.below hh);(try replace fl:=fl.below hh);(try replace XA:=XA.below hh);(try replace XB:=XB.below hh);(try replace XD:=XD.below hh);(try replace XP:=XP.below hh);replace hb:=bend hb hh)
  | (go_at_call 49;(with_reducible refine (rfloor_q aq (by decide) (by decide)).mono ?_);rintro e w_fl ⟨s_fl,A_fl,n_fl,c_fl,rfl,fl,hh⟩
     (try replace a:=a.below hh);(try replace aq:=aq.below hh);(try replace bq:=bq.below hh);(try replace dq:=dq.below hh);(try replace pq:=pq.below hh);(try replace sm:=sm.below hh);(try replace XA:=XA.below hh);(try replace XB:=XB.below hh);(try replace XD:=XD.below hh);(try replace XP:=XP.below hh);replace hb:=bend hb hh)
  | (go_at_call 48;(with_reducible refine (ztext_zr fl.zr (by decide)).mono ?_);rintro e w_z ⟨rfl,hh⟩
     rw [q_f];(try replace a:=a.below hh);(try replace aq:=aq.below hh);(try replace bq:=bq.below hh);(try replace dq:=dq.below hh);(try replace pq:=pq.below hh);(try replace sm:=sm.below hh);(try replace fl:=fl.below hh);(try replace XA:=XA.below hh);(try replace XB:=XB.below hh);(try replace XD:=XD.below hh);(try replace XP:=XP.below hh);replace hb:=bend hb hh)
  | (go_at_call 24;(with_reducible refine (rgood_q a (by decide)).mono ?_);rintro e w_z ⟨rfl,hh⟩
     (try replace a:=a.below hh);(try replace aq:=aq.below hh);(try replace bq:=bq.below hh);(try replace dq:=dq.below hh);(try replace pq:=pq.below hh);(try replace sm:=sm.below hh);(try replace fl:=fl.below hh);(try replace XA:=XA.below hh);(try replace XB:=XB.below hh);(try replace XD:=XD.below hh);(try replace XP:=XP.below hh);replace hb:=bend hb hh))
 go_wp2_with fail
 go_ret;exact ⟨rfl,hb⟩
end
section
open Go Go.RowKit
def B6 (W:World) (g:Nat) (x y z u v t:Value):Prop:=W.heap[g]?=some (.cells #[x,y,z,u,v,t] 56 (0,0))
section
variable {W W':World} {g:Nat} {x y z u v t:Value}
theorem B6.c0 (h:B6 W g x y z u v t):W.cell? ⟨g,0,none⟩=some x:=by rw [cell_of_row W g 0 _ _ (0,0) h];rfl
theorem B6.c1 (h:B6 W g x y z u v t):W.cell? ⟨g,1,none⟩=some y:=by rw [cell_of_row W g 1 _ _ (0,0) h];rfl
theorem B6.c2 (h:B6 W g x y z u v t):W.cell? ⟨g,2,none⟩=some z:=by rw [cell_of_row W g 2 _ _ (0,0) h];rfl
theorem B6.c3 (h:B6 W g x y z u v t):W.cell? ⟨g,3,none⟩=some u:=by rw [cell_of_row W g 3 _ _ (0,0) h];rfl
theorem B6.c4 (h:B6 W g x y z u v t):W.cell? ⟨g,4,none⟩=some v:=by rw [cell_of_row W g 4 _ _ (0,0) h];rfl
theorem B6.c5 (h:B6 W g x y z u v t):W.cell? ⟨g,5,none⟩=some t:=by rw [cell_of_row W g 5 _ _ (0,0) h];rfl
theorem B6.all (h:B6 W g x y z u v t):W.cell? ⟨g,0,none⟩=some x∧W.cell? ⟨g,1,none⟩=some y∧W.cell? ⟨g,2,none⟩=some z∧W.cell? ⟨g,3,none⟩=some u∧W.cell? ⟨g,4,none⟩=some v∧W.cell? ⟨g,5,none⟩=some t:=⟨h.c0,h.c1,h.c2,h.c3,h.c4,h.c5⟩
theorem B6.f0 (h:B6 W g x y z u v t):W.frozen? ⟨g,0,none⟩=false:=frozen_of_row W g 0 _ _ h
theorem B6.f1 (h:B6 W g x y z u v t):W.frozen? ⟨g,1,none⟩=false:=frozen_of_row W g 1 _ _ h
theorem B6.f2 (h:B6 W g x y z u v t):W.frozen? ⟨g,2,none⟩=false:=frozen_of_row W g 2 _ _ h
theorem B6.f3 (h:B6 W g x y z u v t):W.frozen? ⟨g,3,none⟩=false:=frozen_of_row W g 3 _ _ h
theorem B6.f4 (h:B6 W g x y z u v t):W.frozen? ⟨g,4,none⟩=false:=frozen_of_row W g 4 _ _ h
theorem B6.lt (h:B6 W g x y z u v t):g < W.heap.size:=World.block_lt_of_cell? W _ h.c0
theorem B6.below (h:B6 W g x y z u v t) (hb:Below W.heap.size W W'):B6 W' g x y z u v t:=(hb.block g h.lt).trans h
theorem B6.alloc (h:B6 W g x y z u v t) (o:Obj):B6 (W.alloc o) g x y z u v t:=(Below.heap_alloc W o g h.lt).trans h
theorem B6.new' (W:World) (x y z u v t:Value) (g:Nat) (hg:g=W.heap.size):B6 (W.alloc (.cells #[x,y,z,u,v,t] 56)) g x y z u v t:=by subst hg;exact heap_alloc_new W _
end
def PR (w:World) (s:Bool) (A:Option Addr) (n c:Nat) (B:Option Addr) (m d:Nat) (t:Bool) (E:Option Addr) (i e:Nat) (F:Option Addr) (j f:Nat) (x y:Rat) (k:Nat):Prop:=QR w s A n c B m d x k∧QR w t E i e F j f y k
def PG (w:World) (s:Bool) (A:Option Addr) (n c:Nat) (B:Option Addr) (m d:Nat) (t:Bool) (E:Option Addr) (i e:Nat) (F:Option Addr) (j f:Nat) (x y:Rat) (k:Nat):Prop:=QG w s A n c B m d x k∧QG w t E i e F j f y k
section
variable {w w':World} {s t:Bool} {A B E F:Option Addr} {n c m d i e j f k k1:Nat} {x y:Rat}
theorem PR.below (h:PR w s A n c B m d t E i e F j f x y k) (hb:Below w.heap.size w w'):PR w' s A n c B m d t E i e F j f x y k:=⟨h.1.below hb,h.2.below hb⟩
theorem PG.below (h:PG w s A n c B m d t E i e F j f x y k) (hb:Below w.heap.size w w'):PG w' s A n c B m d t E i e F j f x y k:=⟨h.1.below hb,h.2.below hb⟩
theorem QG.more (h:QG w s A n c B m d x k) (hk:k≤k1):QG w s A n c B m d x k1:=⟨⟨h.1.1,h.1.2.1,h.1.2.2.1,Nat.le_trans h.1.2.2.2 hk⟩,h.2.more hk⟩
theorem PG.more (h:PG w s A n c B m d t E i e F j f x y k) (hk:k≤k1):PG w s A n c B m d t E i e F j f x y k1:=⟨h.1.more hk,h.2.more hk⟩
theorem PR.more (h:PR w s A n c B m d t E i e F j f x y k) (hk:k≤k1):PR w s A n c B m d t E i e F j f x y k1:=⟨h.1.more hk,h.2.more hk⟩
end
end
section
open Go Go.RowKit
theorem B3.rest {W W':World} {g k:Nat} {x y z:Value} (h:B3 W g x y z) (hne:g ≠ k) (ho:Only k W W'):B3 W' g x y z:=(ho.block g h.lt hne).trans h
end
section
open Go Go.RowKit
def IsZ (w:World) (v:Value) (x:Int) (k:Nat):Prop:=∃ s A n c,v=.agg #[.bool s,.slice A n c]∧ZR w s A n c x k
def IsDM (w:World) (v:Value) (x:Int) (k:Nat):Prop:=∃ s A n c s' A' n' c',v=.tuple #[.agg #[.bool s,.slice A n c],.agg #[.bool s',.slice A' n' c'],.int .i64 0]∧ZG w s A n c x k
def IBox (w:World) (base:Nat) (p cont:Value) (full:Bool):Prop:=∃ g s A n c,p=.pointer (some ⟨g,0,none⟩)∧base≤g∧Bx w g (.bool s) (.slice A n c)∧(full=true→cont=.agg #[.bool s,.slice A n c])
theorem IsZ.below {w w':World} {v:Value} {x:Int} {k:Nat} (h:IsZ w v x k) (hb:Below w.heap.size w w'):IsZ w' v x k:=by
 obtain ⟨s,A,n,c,h1,h2⟩:=h;exact ⟨s,A,n,c,h1,h2.below hb⟩
theorem IsDM.below {w w':World} {v:Value} {x:Int} {k:Nat} (h:IsDM w v x k) (hb:Below w.heap.size w w'):IsDM w' v x k:=by
 obtain ⟨s,A,n,c,s',A',n',c',h1,h2⟩:=h;exact ⟨s,A,n,c,s',A',n',c',h1,h2.below hb⟩
theorem IBox.below {w w':World} {base:Nat} {p cont:Value} {full:Bool} (h:IBox w base p cont full) (hb:Below w.heap.size w w'):IBox w' base p cont full:=by
 obtain ⟨g,s,A,n,c,h1,h2,h3,h4⟩:=h;exact ⟨g,s,A,n,c,h1,h2,h3.below hb,h4⟩
theorem IsZ.store {v:Value} {x:Int} {k g n0 c0:Nat} {s0:Bool} {A0:Option Addr} (h:IsZ w v x k) (Z:Bx w g (.bool s0) (.slice A0 n0 c0)) (y z:Value):IsZ ((w.setCell ⟨g,0,none⟩ y).setCell ⟨g,1,none⟩ z) v x k:=by
 obtain ⟨s,A,n,c,h1,h2⟩:=h;exact ⟨s,A,n,c,h1,h2.set2x Z y z⟩
theorem IsDM.store {v:Value} {x:Int} {k g n0 c0:Nat} {s0:Bool} {A0:Option Addr} (h:IsDM w v x k) (Z:Bx w g (.bool s0) (.slice A0 n0 c0)) (y z:Value):IsDM ((w.setCell ⟨g,0,none⟩ y).setCell ⟨g,1,none⟩ z) v x k:=by
 obtain ⟨s,A,n,c,s',A',n',c',h1,h2⟩:=h;exact ⟨s,A,n,c,s',A',n',c',h1,h2.set2x Z y z⟩
theorem IBox.other {base g:Nat} {p cont:Value} {full:Bool} (h:IBox w base p cont full) (hne:p ≠ .pointer (some ⟨g,0,none⟩)) (y z:Value):IBox ((w.setCell ⟨g,0,none⟩ y).setCell ⟨g,1,none⟩ z) base p cont full:=by
 obtain ⟨g',s,A,n,c,h1,h2,h3,h4⟩:=h
 exact ⟨g',s,A,n,c,h1,h2,h3.other (fun q=>hne (by rw [h1,q])) y z,h4⟩
end
end Go.Proofs.YtmgklaklnaihpaaGreat
