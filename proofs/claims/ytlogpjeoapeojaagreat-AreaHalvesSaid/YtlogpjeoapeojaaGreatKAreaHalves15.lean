/- AreaHalves: part 15. -/
import Derived.Test.YtlogpjeoapeojaaGreatKAreaHalves12
import Derived.Test.YtlogpjeoapeojaaGreatKAreaHalves14
set_option linter.unusedVariables false
set_option maxRecDepth 100000
set_option maxHeartbeats 16000000
variable {w:Go.World}
variable {s_p t_p:Bool} {A_p B_p E_p F_p:Option Go.Addr} {n_p c_p m_p d_p i_p e_p j_p f_p:Nat}
variable {s_q t_q:Bool} {A_q B_q E_q F_q:Option Go.Addr} {n_q c_q m_q d_q i_q e_q j_q f_q:Nat}
namespace Go.Proofs.YtlogpjeoapeojaaGreat
section
open Go Go.RowKit
theorem mkbx35_15 {w W:World} {x0 x1 x2 x3 x4 x5 x6 x7 x8 x9 x10 x11:Value} (h:((w.alloc (Obj.cells #[x0,x1,x2,x3,x4,x5] 29)).alloc (Obj.cells #[x6,x7,x8,x9,x10,x11] 45))=W):Below w.heap.size w W∧B6 W (w.heap.size) x0 x1 x2 x3 x4 x5∧B6R W (w.heap.size+1) x6 x7 x8 x9 x10 x11∧W.heap.size=w.heap.size+2:=by subst h;exact ⟨by exact (((Below.refl _ _).alloc (Nat.le_refl _) _).alloc (by simp) _),by exact (B6.new' _ _ _ _ _ _ _ _ rfl).alloc _,by exact B6R.new' _ _ _ _ _ _ _ _ (by simp),by simp⟩
theorem rin6 {k:Nat} {x y:Rat} (p:PR w s_p A_p n_p c_p B_p m_p d_p t_p E_p i_p e_p F_p j_p f_p x y k) (hk:k≤1000) (h1:1≤k) :
 Calls Tryz.prog 21 #[.agg #[.bool s_p,.slice A_p n_p c_p,.slice B_p m_p d_p,.bool t_p,.slice E_p i_p e_p,.slice F_p j_p f_p]] w (GivesRP w x y (2*k)):=by
 go_enter Tryz.func21,Tryz.ntmps21
 go_upto_region 1 with (fail)
 generalize hW:World.alloc _ _=W
 obtain ⟨hb,XA,Z,hzW⟩:=mkbx35_15 hW;clear hW;replace p:=p.below hb
 replace p:=p.below (Below.refl _ _).drew
 replace XA:=XA.below (Below.refl _ _).drew
 replace Z:=Z.below (Below.refl _ _).drew
 replace hb:=hb.drew
 go_region_held3 (fun w'=>w'.cell? ⟨w.heap.size,0,none⟩=some (.bool s_p)∧w'.cell? ⟨w.heap.size,1,none⟩=some (.slice A_p n_p c_p)∧w'.cell? ⟨w.heap.size,2,none⟩=some (.slice B_p m_p d_p)∧w'.cell? ⟨w.heap.size,3,none⟩=some (.bool t_p)∧w'.cell? ⟨w.heap.size,4,none⟩=some (.slice E_p i_p e_p)∧w'.cell? ⟨w.heap.size,5,none⟩=some (.slice F_p j_p f_p))
  (first | with_reducible exact ⟨XA.c0,XA.c1,XA.c2,XA.c3,XA.c4,XA.c5⟩ | with_reducible exact ⟨(set6_cell _ _ _ _ _ _ _ _ _ _ (by omega)).trans XA.c0,(set6_cell _ _ _ _ _ _ _ _ _ _ (by omega)).trans XA.c1,(set6_cell _ _ _ _ _ _ _ _ _ _ (by omega)).trans XA.c2,(set6_cell _ _ _ _ _ _ _ _ _ _ (by omega)).trans XA.c3,(set6_cell _ _ _ _ _ _ _ _ _ _ (by omega)).trans XA.c4,(set6_cell _ _ _ _ _ _ _ _ _ _ (by omega)).trans XA.c5⟩)
  (first
  | (go_at_call 60;(with_reducible refine (rin3 p.qx hk h1).mono ?_);rintro e w_r ⟨s_r,A_r,n_r,c_r,B_r,m_r,d_r,rfl,r,hh⟩
     (try replace p:=p.below hh);(try replace XA:=XA.below hh);(try replace Z:=Z.below hh);replace hb:=bend hb hh)
  | (go_at_call 60;(with_reducible refine (rin3 p.qy hk h1).mono ?_);rintro e w_u ⟨s_u,A_u,n_u,c_u,B_u,m_u,d_u,rfl,u,hh⟩
     (try replace p:=p.below hh);(try replace r:=r.below hh);(try replace XA:=XA.below hh);(try replace Z:=Z.below hh);replace hb:=bend hb hh;have zg0:=Z.f0;have zg1:=Z.f1;have zg2:=Z.f2;have zg3:=Z.f3;have zg4:=Z.f4;have zg5:=Z.f5;obtain ⟨zc0,zc1,zc2,zc3,zc4,zc5⟩:=Z.all))
 go_wp2_with fail
 have Z2:=Z.set6 (.bool s_r) (.slice A_r n_r c_r) (.slice B_r m_r d_r) (.bool s_u) (.slice A_u n_u c_u) (.slice B_u m_u d_u)
 obtain ⟨g0,g1,g2,g3,g4,g5⟩:=Z2.all
 refine bodyPost_ret (v:=.agg #[.bool s_r,.slice A_r n_r c_r,.slice B_r m_r d_r,.bool s_u,.slice A_u n_u c_u,.slice B_u m_u d_u]) (by simp [results,Tryz.results21,go_sem,g0,g1,g2,g3,g4,g5]) rfl ?_
 exact ⟨_,_,_,_,_,_,_,_,_,_,_,_,_,_,rfl,(show RP _ _ _ _ _ _ _ _ _ _ _ _ _ _ _ _ _ _ from ⟨r,u⟩).set6 Z _ _ _ _ _ _,below_set6 hb (by omega) _ _ _ _ _ _⟩
theorem mkbx36_15 {w W:World} {x0 x1 x2 x3 x4 x5 x6 x7 x8 x9 x10 x11 x12 x13 x14 x15 x16 x17:Value} (h:(((w.alloc (Obj.cells #[x0,x1,x2,x3,x4,x5] 45)).alloc (Obj.cells #[x6,x7,x8,x9,x10,x11] 45)).alloc (Obj.cells #[x12,x13,x14,x15,x16,x17] 45))=W):Below w.heap.size w W∧B6R W (w.heap.size) x0 x1 x2 x3 x4 x5∧B6R W (w.heap.size+1) x6 x7 x8 x9 x10 x11∧B6R W (w.heap.size+1+1) x12 x13 x14 x15 x16 x17∧W.heap.size=w.heap.size+3:=by subst h;exact ⟨by exact ((((Below.refl _ _).alloc (Nat.le_refl _) _).alloc (by simp) _).alloc (by simp;omega) _),by exact ((B6R.new' _ _ _ _ _ _ _ _ rfl).alloc _).alloc _,by exact (B6R.new' _ _ _ _ _ _ _ _ (by simp)).alloc _,by exact B6R.new' _ _ _ _ _ _ _ _ (by simp),by simp⟩
theorem radd6 {k k2:Nat} {x y x2 y2:Rat} (p:RP w s_p A_p n_p c_p B_p m_p d_p t_p E_p i_p e_p F_p j_p f_p x y k) (q:RP w s_q A_q n_q c_q B_q m_q d_q t_q E_q i_q e_q F_q j_q f_q x2 y2 k2) (hk:k≤3000) (hk2:k2≤3000) :
 Calls Tryz.prog 106 #[.agg #[.bool s_p,.slice A_p n_p c_p,.slice B_p m_p d_p,.bool t_p,.slice E_p i_p e_p,.slice F_p j_p f_p],.agg #[.bool s_q,.slice A_q n_q c_q,.slice B_q m_q d_q,.bool t_q,.slice E_q i_q e_q,.slice F_q j_q f_q]] w (GivesRP w (x+x2) (y+y2) (k+k2+1)):=by
 go_enter Tryz.func106,Tryz.ntmps106
 go_upto_region 1 with (fail)
 generalize hW:World.alloc _ _=W
 obtain ⟨hb,XA,XB,Z,hzW⟩:=mkbx36_15 hW;clear hW;replace p:=p.below hb;replace q:=q.below hb
 replace p:=p.below (Below.refl _ _).drew
 replace q:=q.below (Below.refl _ _).drew
 replace XA:=XA.below (Below.refl _ _).drew
 replace XB:=XB.below (Below.refl _ _).drew
 replace Z:=Z.below (Below.refl _ _).drew
 replace hb:=hb.drew
 go_region_held3 (fun w'=>w'.cell? ⟨w.heap.size,0,none⟩=some (.bool s_p)∧w'.cell? ⟨w.heap.size,1,none⟩=some (.slice A_p n_p c_p)∧w'.cell? ⟨w.heap.size,2,none⟩=some (.slice B_p m_p d_p)∧w'.cell? ⟨w.heap.size,3,none⟩=some (.bool t_p)∧w'.cell? ⟨w.heap.size,4,none⟩=some (.slice E_p i_p e_p)∧w'.cell? ⟨w.heap.size,5,none⟩=some (.slice F_p j_p f_p)∧w'.cell? ⟨w.heap.size+1,0,none⟩=some (.bool s_q)∧w'.cell? ⟨w.heap.size+1,1,none⟩=some (.slice A_q n_q c_q)∧w'.cell? ⟨w.heap.size+1,2,none⟩=some (.slice B_q m_q d_q)∧w'.cell? ⟨w.heap.size+1,3,none⟩=some (.bool t_q)∧w'.cell? ⟨w.heap.size+1,4,none⟩=some (.slice E_q i_q e_q)∧w'.cell? ⟨w.heap.size+1,5,none⟩=some (.slice F_q j_q f_q))
  (first | with_reducible exact ⟨XA.c0,XA.c1,XA.c2,XA.c3,XA.c4,XA.c5,XB.c0,XB.c1,XB.c2,XB.c3,XB.c4,XB.c5⟩ | with_reducible exact ⟨(set6_cell _ _ _ _ _ _ _ _ _ _ (by omega)).trans XA.c0,(set6_cell _ _ _ _ _ _ _ _ _ _ (by omega)).trans XA.c1,(set6_cell _ _ _ _ _ _ _ _ _ _ (by omega)).trans XA.c2,(set6_cell _ _ _ _ _ _ _ _ _ _ (by omega)).trans XA.c3,(set6_cell _ _ _ _ _ _ _ _ _ _ (by omega)).trans XA.c4,(set6_cell _ _ _ _ _ _ _ _ _ _ (by omega)).trans XA.c5,(set6_cell _ _ _ _ _ _ _ _ _ _ (by omega)).trans XB.c0,(set6_cell _ _ _ _ _ _ _ _ _ _ (by omega)).trans XB.c1,(set6_cell _ _ _ _ _ _ _ _ _ _ (by omega)).trans XB.c2,(set6_cell _ _ _ _ _ _ _ _ _ _ (by omega)).trans XB.c3,(set6_cell _ _ _ _ _ _ _ _ _ _ (by omega)).trans XB.c4,(set6_cell _ _ _ _ _ _ _ _ _ _ (by omega)).trans XB.c5⟩)
  (first
  | (go_at_call 53;(with_reducible refine (radd3 p.qx q.qx (by omega) (by omega)).mono ?_);rintro e w_r ⟨s_r,A_r,n_r,c_r,B_r,m_r,d_r,rfl,r,hh⟩
     (try replace p:=p.below hh);(try replace q:=q.below hh);(try replace XA:=XA.below hh);(try replace XB:=XB.below hh);(try replace Z:=Z.below hh);replace hb:=bend hb hh)
  | (go_at_call 53;(with_reducible refine (radd3 p.qy q.qy (by omega) (by omega)).mono ?_);rintro e w_u ⟨s_u,A_u,n_u,c_u,B_u,m_u,d_u,rfl,u,hh⟩
     (try replace p:=p.below hh);(try replace q:=q.below hh);(try replace r:=r.below hh);(try replace XA:=XA.below hh);(try replace XB:=XB.below hh);(try replace Z:=Z.below hh);replace hb:=bend hb hh;have zg0:=Z.f0;have zg1:=Z.f1;have zg2:=Z.f2;have zg3:=Z.f3;have zg4:=Z.f4;have zg5:=Z.f5;obtain ⟨zc0,zc1,zc2,zc3,zc4,zc5⟩:=Z.all))
 go_wp2_with fail
 have Z2:=Z.set6 (.bool s_r) (.slice A_r n_r c_r) (.slice B_r m_r d_r) (.bool s_u) (.slice A_u n_u c_u) (.slice B_u m_u d_u)
 obtain ⟨g0,g1,g2,g3,g4,g5⟩:=Z2.all
 refine bodyPost_ret (v:=.agg #[.bool s_r,.slice A_r n_r c_r,.slice B_r m_r d_r,.bool s_u,.slice A_u n_u c_u,.slice B_u m_u d_u]) (by simp [results,Tryz.results106,go_sem,g0,g1,g2,g3,g4,g5]) rfl ?_
 exact ⟨_,_,_,_,_,_,_,_,_,_,_,_,_,_,rfl,(show RP _ _ _ _ _ _ _ _ _ _ _ _ _ _ _ _ _ _ from ⟨r,u⟩).set6 Z _ _ _ _ _ _,below_set6 hb (by omega) _ _ _ _ _ _⟩
theorem rsub6 {k k2:Nat} {x y x2 y2:Rat} (p:RP w s_p A_p n_p c_p B_p m_p d_p t_p E_p i_p e_p F_p j_p f_p x y k) (q:RP w s_q A_q n_q c_q B_q m_q d_q t_q E_q i_q e_q F_q j_q f_q x2 y2 k2) (hk:k≤3000) (hk2:k2≤3000) :
 Calls Tryz.prog 64 #[.agg #[.bool s_p,.slice A_p n_p c_p,.slice B_p m_p d_p,.bool t_p,.slice E_p i_p e_p,.slice F_p j_p f_p],.agg #[.bool s_q,.slice A_q n_q c_q,.slice B_q m_q d_q,.bool t_q,.slice E_q i_q e_q,.slice F_q j_q f_q]] w (GivesRP w (x - x2) (y - y2) (k+k2+1)):=by
 go_enter Tryz.func64,Tryz.ntmps64
 go_upto_region 1 with (fail)
 generalize hW:World.alloc _ _=W
 obtain ⟨hb,XA,XB,Z,hzW⟩:=mkbx36_15 hW;clear hW;replace p:=p.below hb;replace q:=q.below hb
 replace p:=p.below (Below.refl _ _).drew
 replace q:=q.below (Below.refl _ _).drew
 replace XA:=XA.below (Below.refl _ _).drew
 replace XB:=XB.below (Below.refl _ _).drew
 replace Z:=Z.below (Below.refl _ _).drew
 replace hb:=hb.drew
 go_region_held3 (fun w'=>w'.cell? ⟨w.heap.size,0,none⟩=some (.bool s_p)∧w'.cell? ⟨w.heap.size,1,none⟩=some (.slice A_p n_p c_p)∧w'.cell? ⟨w.heap.size,2,none⟩=some (.slice B_p m_p d_p)∧w'.cell? ⟨w.heap.size,3,none⟩=some (.bool t_p)∧w'.cell? ⟨w.heap.size,4,none⟩=some (.slice E_p i_p e_p)∧w'.cell? ⟨w.heap.size,5,none⟩=some (.slice F_p j_p f_p)∧w'.cell? ⟨w.heap.size+1,0,none⟩=some (.bool s_q)∧w'.cell? ⟨w.heap.size+1,1,none⟩=some (.slice A_q n_q c_q)∧w'.cell? ⟨w.heap.size+1,2,none⟩=some (.slice B_q m_q d_q)∧w'.cell? ⟨w.heap.size+1,3,none⟩=some (.bool t_q)∧w'.cell? ⟨w.heap.size+1,4,none⟩=some (.slice E_q i_q e_q)∧w'.cell? ⟨w.heap.size+1,5,none⟩=some (.slice F_q j_q f_q))
  (first | with_reducible exact ⟨XA.c0,XA.c1,XA.c2,XA.c3,XA.c4,XA.c5,XB.c0,XB.c1,XB.c2,XB.c3,XB.c4,XB.c5⟩ | with_reducible exact ⟨(set6_cell _ _ _ _ _ _ _ _ _ _ (by omega)).trans XA.c0,(set6_cell _ _ _ _ _ _ _ _ _ _ (by omega)).trans XA.c1,(set6_cell _ _ _ _ _ _ _ _ _ _ (by omega)).trans XA.c2,(set6_cell _ _ _ _ _ _ _ _ _ _ (by omega)).trans XA.c3,(set6_cell _ _ _ _ _ _ _ _ _ _ (by omega)).trans XA.c4,(set6_cell _ _ _ _ _ _ _ _ _ _ (by omega)).trans XA.c5,(set6_cell _ _ _ _ _ _ _ _ _ _ (by omega)).trans XB.c0,(set6_cell _ _ _ _ _ _ _ _ _ _ (by omega)).trans XB.c1,(set6_cell _ _ _ _ _ _ _ _ _ _ (by omega)).trans XB.c2,(set6_cell _ _ _ _ _ _ _ _ _ _ (by omega)).trans XB.c3,(set6_cell _ _ _ _ _ _ _ _ _ _ (by omega)).trans XB.c4,(set6_cell _ _ _ _ _ _ _ _ _ _ (by omega)).trans XB.c5⟩)
  (first
  | (go_at_call 68;(with_reducible refine (rsub3 p.qx q.qx (by omega) (by omega)).mono ?_);rintro e w_r ⟨s_r,A_r,n_r,c_r,B_r,m_r,d_r,rfl,r,hh⟩
     (try replace p:=p.below hh);(try replace q:=q.below hh);(try replace XA:=XA.below hh);(try replace XB:=XB.below hh);(try replace Z:=Z.below hh);replace hb:=bend hb hh)
  | (go_at_call 68;(with_reducible refine (rsub3 p.qy q.qy (by omega) (by omega)).mono ?_);rintro e w_u ⟨s_u,A_u,n_u,c_u,B_u,m_u,d_u,rfl,u,hh⟩
     (try replace p:=p.below hh);(try replace q:=q.below hh);(try replace r:=r.below hh);(try replace XA:=XA.below hh);(try replace XB:=XB.below hh);(try replace Z:=Z.below hh);replace hb:=bend hb hh;have zg0:=Z.f0;have zg1:=Z.f1;have zg2:=Z.f2;have zg3:=Z.f3;have zg4:=Z.f4;have zg5:=Z.f5;obtain ⟨zc0,zc1,zc2,zc3,zc4,zc5⟩:=Z.all))
 go_wp2_with fail
 have Z2:=Z.set6 (.bool s_r) (.slice A_r n_r c_r) (.slice B_r m_r d_r) (.bool s_u) (.slice A_u n_u c_u) (.slice B_u m_u d_u)
 obtain ⟨g0,g1,g2,g3,g4,g5⟩:=Z2.all
 refine bodyPost_ret (v:=.agg #[.bool s_r,.slice A_r n_r c_r,.slice B_r m_r d_r,.bool s_u,.slice A_u n_u c_u,.slice B_u m_u d_u]) (by simp [results,Tryz.results64,go_sem,g0,g1,g2,g3,g4,g5]) rfl ?_
 exact ⟨_,_,_,_,_,_,_,_,_,_,_,_,_,_,rfl,(show RP _ _ _ _ _ _ _ _ _ _ _ _ _ _ _ _ _ _ from ⟨r,u⟩).set6 Z _ _ _ _ _ _,below_set6 hb (by omega) _ _ _ _ _ _⟩
theorem mkbx37_15 {w W:World} {x0 x1 x2 x3 x4 x5 x6 x7 x8 x9 x10 x11 x12 x13 x14:Value} (h:(((w.alloc (Obj.cells #[x0,x1,x2,x3,x4,x5] 45)).alloc (Obj.cells #[x6,x7,x8] 43)).alloc (Obj.cells #[x9,x10,x11,x12,x13,x14] 45))=W):Below w.heap.size w W∧B6R W (w.heap.size) x0 x1 x2 x3 x4 x5∧B3R W (w.heap.size+1) x6 x7 x8∧B6R W (w.heap.size+1+1) x9 x10 x11 x12 x13 x14∧W.heap.size=w.heap.size+3:=by subst h;exact ⟨by exact ((((Below.refl _ _).alloc (Nat.le_refl _) _).alloc (by simp) _).alloc (by simp;omega) _),by exact ((B6R.new' _ _ _ _ _ _ _ _ rfl).alloc _).alloc _,by exact (B3R.new' _ _ _ _ _ (by simp)).alloc _,by exact B6R.new' _ _ _ _ _ _ _ _ (by simp),by simp⟩
theorem rscale6 {k k2:Nat} {x y t:Rat} {s:Bool} {A A':Option Addr} {n c n' c':Nat} (p:RP w s_p A_p n_p c_p B_p m_p d_p t_p E_p i_p e_p F_p j_p f_p x y k) (v:RQ w s A n c A' n' c' t k2) (hk:k≤3000) (hk2:k2≤3000) :
 Calls Tryz.prog 107 #[.agg #[.bool s_p,.slice A_p n_p c_p,.slice B_p m_p d_p,.bool t_p,.slice E_p i_p e_p,.slice F_p j_p f_p],.agg #[.bool s,.slice A n c,.slice A' n' c']] w (GivesRP w (x*t) (y*t) (k+k2)):=by
 go_enter Tryz.func107,Tryz.ntmps107
 go_upto_region 1 with (fail)
 generalize hW:World.alloc _ _=W
 obtain ⟨hb,XA,XB,Z,hzW⟩:=mkbx37_15 hW;clear hW;replace p:=p.below hb;replace v:=v.below hb
 replace p:=p.below (Below.refl _ _).drew
 replace v:=v.below (Below.refl _ _).drew
 replace XA:=XA.below (Below.refl _ _).drew
 replace XB:=XB.below (Below.refl _ _).drew
 replace Z:=Z.below (Below.refl _ _).drew
 replace hb:=hb.drew
 go_region_held3 (fun w'=>w'.cell? ⟨w.heap.size,0,none⟩=some (.bool s_p)∧w'.cell? ⟨w.heap.size,1,none⟩=some (.slice A_p n_p c_p)∧w'.cell? ⟨w.heap.size,2,none⟩=some (.slice B_p m_p d_p)∧w'.cell? ⟨w.heap.size,3,none⟩=some (.bool t_p)∧w'.cell? ⟨w.heap.size,4,none⟩=some (.slice E_p i_p e_p)∧w'.cell? ⟨w.heap.size,5,none⟩=some (.slice F_p j_p f_p)∧w'.cell? ⟨w.heap.size+1,0,none⟩=some (.bool s)∧w'.cell? ⟨w.heap.size+1,1,none⟩=some (.slice A n c)∧w'.cell? ⟨w.heap.size+1,2,none⟩=some (.slice A' n' c'))
  (first | with_reducible exact ⟨XA.c0,XA.c1,XA.c2,XA.c3,XA.c4,XA.c5,XB.c0,XB.c1,XB.c2⟩ | with_reducible exact ⟨(set6_cell _ _ _ _ _ _ _ _ _ _ (by omega)).trans XA.c0,(set6_cell _ _ _ _ _ _ _ _ _ _ (by omega)).trans XA.c1,(set6_cell _ _ _ _ _ _ _ _ _ _ (by omega)).trans XA.c2,(set6_cell _ _ _ _ _ _ _ _ _ _ (by omega)).trans XA.c3,(set6_cell _ _ _ _ _ _ _ _ _ _ (by omega)).trans XA.c4,(set6_cell _ _ _ _ _ _ _ _ _ _ (by omega)).trans XA.c5,(set6_cell _ _ _ _ _ _ _ _ _ _ (by omega)).trans XB.c0,(set6_cell _ _ _ _ _ _ _ _ _ _ (by omega)).trans XB.c1,(set6_cell _ _ _ _ _ _ _ _ _ _ (by omega)).trans XB.c2⟩)
  (first
  | (go_at_call 55;(with_reducible refine (rmul3 p.qx v (by omega) (by omega)).mono ?_);rintro e w_r ⟨s_r,A_r,n_r,c_r,B_r,m_r,d_r,rfl,r,hh⟩
     (try replace p:=p.below hh);(try replace v:=v.below hh);(try replace XA:=XA.below hh);(try replace XB:=XB.below hh);(try replace Z:=Z.below hh);replace hb:=bend hb hh)
  | (go_at_call 55;(with_reducible refine (rmul3 p.qy v (by omega) (by omega)).mono ?_);rintro e w_u ⟨s_u,A_u,n_u,c_u,B_u,m_u,d_u,rfl,u,hh⟩
     (try replace p:=p.below hh);(try replace v:=v.below hh);(try replace r:=r.below hh);(try replace XA:=XA.below hh);(try replace XB:=XB.below hh);(try replace Z:=Z.below hh);replace hb:=bend hb hh;have zg0:=Z.f0;have zg1:=Z.f1;have zg2:=Z.f2;have zg3:=Z.f3;have zg4:=Z.f4;have zg5:=Z.f5;obtain ⟨zc0,zc1,zc2,zc3,zc4,zc5⟩:=Z.all))
 go_wp2_with fail
 have Z2:=Z.set6 (.bool s_r) (.slice A_r n_r c_r) (.slice B_r m_r d_r) (.bool s_u) (.slice A_u n_u c_u) (.slice B_u m_u d_u)
 obtain ⟨g0,g1,g2,g3,g4,g5⟩:=Z2.all
 refine bodyPost_ret (v:=.agg #[.bool s_r,.slice A_r n_r c_r,.slice B_r m_r d_r,.bool s_u,.slice A_u n_u c_u,.slice B_u m_u d_u]) (by simp [results,Tryz.results107,go_sem,g0,g1,g2,g3,g4,g5]) rfl ?_
 exact ⟨_,_,_,_,_,_,_,_,_,_,_,_,_,_,rfl,(show RP _ _ _ _ _ _ _ _ _ _ _ _ _ _ _ _ _ _ from ⟨r,u⟩).set6 Z _ _ _ _ _ _,below_set6 hb (by omega) _ _ _ _ _ _⟩
theorem mkbx38_15 {w W:World} {x0 x1 x2 x3 x4 x5 x6 x7 x8 x9 x10 x11 x12 x13 x14 x15 x16 x17 x18 x19 x20:Value} (h:((((w.alloc (Obj.cells #[x0,x1,x2,x3,x4,x5] 45)).alloc (Obj.cells #[x6,x7,x8,x9,x10,x11] 45)).alloc (Obj.cells #[x12,x13,x14] 43)).alloc (Obj.cells #[x15,x16,x17,x18,x19,x20] 45))=W):Below w.heap.size w W∧B6R W (w.heap.size) x0 x1 x2 x3 x4 x5∧B6R W (w.heap.size+1) x6 x7 x8 x9 x10 x11∧B3R W (w.heap.size+1+1) x12 x13 x14∧B6R W (w.heap.size+1+1+1) x15 x16 x17 x18 x19 x20∧W.heap.size=w.heap.size+4:=by subst h;exact ⟨by exact (((((Below.refl _ _).alloc (Nat.le_refl _) _).alloc (by simp) _).alloc (by simp;omega) _).alloc (by simp;omega) _),by exact (((B6R.new' _ _ _ _ _ _ _ _ rfl).alloc _).alloc _).alloc _,by exact ((B6R.new' _ _ _ _ _ _ _ _ (by simp)).alloc _).alloc _,by exact (B3R.new' _ _ _ _ _ (by simp)).alloc _,by exact B6R.new' _ _ _ _ _ _ _ _ (by simp),by simp⟩
theorem rmix6 {k k2 k3:Nat} {x y x2 y2 t:Rat} {s:Bool} {A A':Option Addr} {n c n' c':Nat} (p:RP w s_p A_p n_p c_p B_p m_p d_p t_p E_p i_p e_p F_p j_p f_p x y k) (q:RP w s_q A_q n_q c_q B_q m_q d_q t_q E_q i_q e_q F_q j_q f_q x2 y2 k2) (v:RQ w s A n c A' n' c' t k3) (hk:k≤300) (hk2:k2≤300) (hk3:k3≤2000) :
 Calls Tryz.prog 66 #[.agg #[.bool s_p,.slice A_p n_p c_p,.slice B_p m_p d_p,.bool t_p,.slice E_p i_p e_p,.slice F_p j_p f_p],.agg #[.bool s_q,.slice A_q n_q c_q,.slice B_q m_q d_q,.bool t_q,.slice E_q i_q e_q,.slice F_q j_q f_q],.agg #[.bool s,.slice A n c,.slice A' n' c']] w (GivesRP w (x+(x2 - x)*t) (y+(y2 - y)*t) (k+(k2+k+1+k3)+1)):=by
 go_enter Tryz.func66,Tryz.ntmps66
 go_upto_region 1 with (fail)
 generalize hW:World.alloc _ _=W
 obtain ⟨hb,XA,XB,XC,Z,hzW⟩:=mkbx38_15 hW;clear hW;replace p:=p.below hb;replace q:=q.below hb;replace v:=v.below hb
 replace p:=p.below (Below.refl _ _).drew
 replace q:=q.below (Below.refl _ _).drew
 replace v:=v.below (Below.refl _ _).drew
 replace XA:=XA.below (Below.refl _ _).drew
 replace XB:=XB.below (Below.refl _ _).drew
 replace XC:=XC.below (Below.refl _ _).drew
 replace Z:=Z.below (Below.refl _ _).drew
 replace hb:=hb.drew
 go_region_held3 (fun w'=>w'.cell? ⟨w.heap.size,0,none⟩=some (.bool s_p)∧w'.cell? ⟨w.heap.size,1,none⟩=some (.slice A_p n_p c_p)∧w'.cell? ⟨w.heap.size,2,none⟩=some (.slice B_p m_p d_p)∧w'.cell? ⟨w.heap.size,3,none⟩=some (.bool t_p)∧w'.cell? ⟨w.heap.size,4,none⟩=some (.slice E_p i_p e_p)∧w'.cell? ⟨w.heap.size,5,none⟩=some (.slice F_p j_p f_p)∧w'.cell? ⟨w.heap.size+1,0,none⟩=some (.bool s_q)∧w'.cell? ⟨w.heap.size+1,1,none⟩=some (.slice A_q n_q c_q)∧w'.cell? ⟨w.heap.size+1,2,none⟩=some (.slice B_q m_q d_q)∧w'.cell? ⟨w.heap.size+1,3,none⟩=some (.bool t_q)∧w'.cell? ⟨w.heap.size+1,4,none⟩=some (.slice E_q i_q e_q)∧w'.cell? ⟨w.heap.size+1,5,none⟩=some (.slice F_q j_q f_q)∧w'.cell? ⟨w.heap.size+1+1,0,none⟩=some (.bool s)∧w'.cell? ⟨w.heap.size+1+1,1,none⟩=some (.slice A n c)∧w'.cell? ⟨w.heap.size+1+1,2,none⟩=some (.slice A' n' c'))
  (first | with_reducible exact ⟨XA.c0,XA.c1,XA.c2,XA.c3,XA.c4,XA.c5,XB.c0,XB.c1,XB.c2,XB.c3,XB.c4,XB.c5,XC.c0,XC.c1,XC.c2⟩ | with_reducible exact ⟨(set6_cell _ _ _ _ _ _ _ _ _ _ (by omega)).trans XA.c0,(set6_cell _ _ _ _ _ _ _ _ _ _ (by omega)).trans XA.c1,(set6_cell _ _ _ _ _ _ _ _ _ _ (by omega)).trans XA.c2,(set6_cell _ _ _ _ _ _ _ _ _ _ (by omega)).trans XA.c3,(set6_cell _ _ _ _ _ _ _ _ _ _ (by omega)).trans XA.c4,(set6_cell _ _ _ _ _ _ _ _ _ _ (by omega)).trans XA.c5,(set6_cell _ _ _ _ _ _ _ _ _ _ (by omega)).trans XB.c0,(set6_cell _ _ _ _ _ _ _ _ _ _ (by omega)).trans XB.c1,(set6_cell _ _ _ _ _ _ _ _ _ _ (by omega)).trans XB.c2,(set6_cell _ _ _ _ _ _ _ _ _ _ (by omega)).trans XB.c3,(set6_cell _ _ _ _ _ _ _ _ _ _ (by omega)).trans XB.c4,(set6_cell _ _ _ _ _ _ _ _ _ _ (by omega)).trans XB.c5,(set6_cell _ _ _ _ _ _ _ _ _ _ (by omega)).trans XC.c0,(set6_cell _ _ _ _ _ _ _ _ _ _ (by omega)).trans XC.c1,(set6_cell _ _ _ _ _ _ _ _ _ _ (by omega)).trans XC.c2⟩)
  (first
  | (go_at_call 64;(with_reducible refine (rsub6 q p (by omega) (by omega)).mono ?_);rintro e w_a ⟨s_a,A_a,n_a,c_a,B_a,m_a,d_a,t_a,E_a,i_a,e_a,F_a,j_a,f_a,rfl,a,hh⟩
     (try replace p:=p.below hh);(try replace q:=q.below hh);(try replace v:=v.below hh);(try replace XA:=XA.below hh);(try replace XB:=XB.below hh);(try replace XC:=XC.below hh);(try replace Z:=Z.below hh);replace hb:=bend hb hh)
  | (go_at_call 107;(with_reducible refine (rscale6 a v (by omega) (by omega)).mono ?_);rintro e w_b ⟨s_b,A_b,n_b,c_b,B_b,m_b,d_b,t_b,E_b,i_b,e_b,F_b,j_b,f_b,rfl,b,hh⟩
     (try replace p:=p.below hh);(try replace q:=q.below hh);(try replace v:=v.below hh);(try replace XA:=XA.below hh);(try replace XB:=XB.below hh);(try replace XC:=XC.below hh);(try replace Z:=Z.below hh);replace hb:=bend hb hh)
  | (go_at_call 106;(with_reducible refine (radd6 p b (by omega) (by omega)).mono ?_);rintro e w_r ⟨s_r,A_r,n_r,c_r,B_r,m_r,d_r,t_r,E_r,i_r,e_r,F_r,j_r,f_r,rfl,r,hh⟩
     (try replace XA:=XA.below hh);(try replace XB:=XB.below hh);(try replace XC:=XC.below hh);(try replace Z:=Z.below hh);replace hb:=bend hb hh;have zg0:=Z.f0;have zg1:=Z.f1;have zg2:=Z.f2;have zg3:=Z.f3;have zg4:=Z.f4;have zg5:=Z.f5;obtain ⟨zc0,zc1,zc2,zc3,zc4,zc5⟩:=Z.all))
 go_wp2_with fail
 have Z2:=Z.set6 (.bool s_r) (.slice A_r n_r c_r) (.slice B_r m_r d_r) (.bool t_r) (.slice E_r i_r e_r) (.slice F_r j_r f_r)
 obtain ⟨g0,g1,g2,g3,g4,g5⟩:=Z2.all
 refine bodyPost_ret (v:=.agg #[.bool s_r,.slice A_r n_r c_r,.slice B_r m_r d_r,.bool t_r,.slice E_r i_r e_r,.slice F_r j_r f_r]) (by simp [results,Tryz.results66,go_sem,g0,g1,g2,g3,g4,g5]) rfl ?_
 exact ⟨s_r,A_r,n_r,c_r,B_r,m_r,d_r,t_r,E_r,i_r,e_r,F_r,j_r,f_r,rfl,r.set6 Z _ _ _ _ _ _,below_set6 hb (by omega) _ _ _ _ _ _⟩
theorem mkbx39_15 {w W:World} {x0 x1 x2 x3 x4 x5 x6 x7 x8 x9 x10 x11 x12 x13 x14:Value} (h:(((w.alloc (Obj.cells #[x0,x1,x2,x3,x4,x5] 45)).alloc (Obj.cells #[x6,x7,x8,x9,x10,x11] 45)).alloc (Obj.cells #[x12,x13,x14] 43))=W):Below w.heap.size w W∧B6R W (w.heap.size) x0 x1 x2 x3 x4 x5∧B6R W (w.heap.size+1) x6 x7 x8 x9 x10 x11∧B3R W (w.heap.size+1+1) x12 x13 x14∧W.heap.size=w.heap.size+3:=by subst h;exact ⟨by exact ((((Below.refl _ _).alloc (Nat.le_refl _) _).alloc (by simp) _).alloc (by simp;omega) _),by exact ((B6R.new' _ _ _ _ _ _ _ _ rfl).alloc _).alloc _,by exact (B6R.new' _ _ _ _ _ _ _ _ (by simp)).alloc _,by exact B3R.new' _ _ _ _ _ (by simp),by simp⟩
theorem rcross6 {k k2:Nat} {x y x2 y2:Rat} (p:RP w s_p A_p n_p c_p B_p m_p d_p t_p E_p i_p e_p F_p j_p f_p x y k) (q:RP w s_q A_q n_q c_q B_q m_q d_q t_q E_q i_q e_q F_q j_q f_q x2 y2 k2) (hk:k≤3000) (hk2:k2≤3000) :
 Calls Tryz.prog 54 #[.agg #[.bool s_p,.slice A_p n_p c_p,.slice B_p m_p d_p,.bool t_p,.slice E_p i_p e_p,.slice F_p j_p f_p],.agg #[.bool s_q,.slice A_q n_q c_q,.slice B_q m_q d_q,.bool t_q,.slice E_q i_q e_q,.slice F_q j_q f_q]] w (GivesRQ w (x*y2 - y*x2) (k+k2+(k+k2)+1)):=by
 go_enter Tryz.func54,Tryz.ntmps54
 go_upto_region 1 with (fail)
 generalize hW:World.alloc _ _=W
 obtain ⟨hb,XA,XB,Z,hzW⟩:=mkbx39_15 hW;clear hW;replace p:=p.below hb;replace q:=q.below hb
 replace p:=p.below (Below.refl _ _).drew
 replace q:=q.below (Below.refl _ _).drew
 replace XA:=XA.below (Below.refl _ _).drew
 replace XB:=XB.below (Below.refl _ _).drew
 replace Z:=Z.below (Below.refl _ _).drew
 replace hb:=hb.drew
 go_region_held3 (fun w'=>w'.cell? ⟨w.heap.size,0,none⟩=some (.bool s_p)∧w'.cell? ⟨w.heap.size,1,none⟩=some (.slice A_p n_p c_p)∧w'.cell? ⟨w.heap.size,2,none⟩=some (.slice B_p m_p d_p)∧w'.cell? ⟨w.heap.size,3,none⟩=some (.bool t_p)∧w'.cell? ⟨w.heap.size,4,none⟩=some (.slice E_p i_p e_p)∧w'.cell? ⟨w.heap.size,5,none⟩=some (.slice F_p j_p f_p)∧w'.cell? ⟨w.heap.size+1,0,none⟩=some (.bool s_q)∧w'.cell? ⟨w.heap.size+1,1,none⟩=some (.slice A_q n_q c_q)∧w'.cell? ⟨w.heap.size+1,2,none⟩=some (.slice B_q m_q d_q)∧w'.cell? ⟨w.heap.size+1,3,none⟩=some (.bool t_q)∧w'.cell? ⟨w.heap.size+1,4,none⟩=some (.slice E_q i_q e_q)∧w'.cell? ⟨w.heap.size+1,5,none⟩=some (.slice F_q j_q f_q))
  (first | with_reducible exact ⟨XA.c0,XA.c1,XA.c2,XA.c3,XA.c4,XA.c5,XB.c0,XB.c1,XB.c2,XB.c3,XB.c4,XB.c5⟩ | with_reducible exact ⟨(set3_cell _ _ _ _ _ _ _ (by omega)).trans XA.c0,(set3_cell _ _ _ _ _ _ _ (by omega)).trans XA.c1,(set3_cell _ _ _ _ _ _ _ (by omega)).trans XA.c2,(set3_cell _ _ _ _ _ _ _ (by omega)).trans XA.c3,(set3_cell _ _ _ _ _ _ _ (by omega)).trans XA.c4,(set3_cell _ _ _ _ _ _ _ (by omega)).trans XA.c5,(set3_cell _ _ _ _ _ _ _ (by omega)).trans XB.c0,(set3_cell _ _ _ _ _ _ _ (by omega)).trans XB.c1,(set3_cell _ _ _ _ _ _ _ (by omega)).trans XB.c2,(set3_cell _ _ _ _ _ _ _ (by omega)).trans XB.c3,(set3_cell _ _ _ _ _ _ _ (by omega)).trans XB.c4,(set3_cell _ _ _ _ _ _ _ (by omega)).trans XB.c5⟩)
  (first
  | (go_at_call 55;(with_reducible refine (rmul3 p.qx q.qy (by omega) (by omega)).mono ?_);rintro e w_r ⟨s_r,A_r,n_r,c_r,B_r,m_r,d_r,rfl,r,hh⟩
     (try replace p:=p.below hh);(try replace q:=q.below hh);(try replace XA:=XA.below hh);(try replace XB:=XB.below hh);(try replace Z:=Z.below hh);replace hb:=bend hb hh)
  | (go_at_call 55;(with_reducible refine (rmul3 p.qy q.qx (by omega) (by omega)).mono ?_);rintro e w_u ⟨s_u,A_u,n_u,c_u,B_u,m_u,d_u,rfl,u,hh⟩
     (try replace p:=p.below hh);(try replace q:=q.below hh);(try replace r:=r.below hh);(try replace XA:=XA.below hh);(try replace XB:=XB.below hh);(try replace Z:=Z.below hh);replace hb:=bend hb hh)
  | (go_at_call 68;(with_reducible refine (rsub3 r u (by omega) (by omega)).mono ?_);rintro e w_v ⟨s_v,A_v,n_v,c_v,B_v,m_v,d_v,rfl,v,hh⟩
     (try replace XA:=XA.below hh);(try replace XB:=XB.below hh);(try replace Z:=Z.below hh);replace hb:=bend hb hh;have zf0:=Z.f0;have zf1:=Z.f1;have zf2:=Z.f2;obtain ⟨z0,z1,z2⟩:=Z.all))
 go_wp2_with fail
 have Z2:=Z.set3 (.bool s_v) (.slice A_v n_v c_v) (.slice B_v m_v d_v)
 obtain ⟨g0,g1,g2⟩:=Z2.all
 refine bodyPost_ret (v:=.agg #[.bool s_v,.slice A_v n_v c_v,.slice B_v m_v d_v]) (by simp [results,Tryz.results54,go_sem,g0,g1,g2]) rfl ?_
 exact ⟨s_v,A_v,n_v,c_v,B_v,m_v,d_v,rfl,v.set3 Z _ _ _,below_set3 hb (by omega) _ _ _⟩
theorem mkbx40_15 {w W:World} {x0 x1 x2 x3 x4 x5 x6 x7 x8 x9 x10 x11:Value} (h:((w.alloc (Obj.cells #[x0,x1,x2,x3,x4,x5] 45)).alloc (Obj.cells #[x6,x7,x8,x9,x10,x11] 45))=W):Below w.heap.size w W∧B6R W (w.heap.size) x0 x1 x2 x3 x4 x5∧B6R W (w.heap.size+1) x6 x7 x8 x9 x10 x11∧W.heap.size=w.heap.size+2:=by subst h;exact ⟨by exact (((Below.refl _ _).alloc (Nat.le_refl _) _).alloc (by simp) _),by exact (B6R.new' _ _ _ _ _ _ _ _ rfl).alloc _,by exact B6R.new' _ _ _ _ _ _ _ _ (by simp),by simp⟩
theorem rsame6_ne {k k2:Nat} {x y x2 y2:Rat} (p:RP w s_p A_p n_p c_p B_p m_p d_p t_p E_p i_p e_p F_p j_p f_p x y k) (q:RP w s_q A_q n_q c_q B_q m_q d_q t_q E_q i_q e_q F_q j_q f_q x2 y2 k2) (hk:k≤3000) (hk2:k2≤3000) (hx:x ≠ x2) :
 Calls Tryz.prog 26 #[.agg #[.bool s_p,.slice A_p n_p c_p,.slice B_p m_p d_p,.bool t_p,.slice E_p i_p e_p,.slice F_p j_p f_p],.agg #[.bool s_q,.slice A_q n_q c_q,.slice B_q m_q d_q,.bool t_q,.slice E_q i_q e_q,.slice F_q j_q f_q]] w fun e w'=>e=.returned (.bool (false))∧Below w.heap.size w w':=by
 obtain ⟨K,hK,hK0⟩:∃ K,cmpQ x x2=K∧((K:Int) == 0)=false:=⟨_,rfl,by simpa using fun q=>hx (cmpQ_nul.1 q)⟩
 have HK:=Lib.hid hK;clear hK hx
 go_enter Tryz.func26,Tryz.ntmps26
 go_wp2_with fail
 generalize hW:World.alloc _ _=W
 obtain ⟨hb,XA,XB,hzW⟩:=mkbx40_15 hW;clear hW;replace p:=p.below hb;replace q:=q.below hb;obtain ⟨xa0,xa1,xa2,xa3,xa4,xa5⟩:=XA.all;obtain ⟨xb0,xb1,xb2,xb3,xb4,xb5⟩:=XB.all
 go_wp2_with (first
  | (go_at_call 69;(with_reducible refine (rcmp3 p.qx q.qx (by omega) (by omega)).mono ?_);rintro e w_z ⟨rfl,hh⟩
     rw [HK.out];(try replace p:=p.below hh);(try replace q:=q.below hh);(try replace XA:=XA.below hh);(try replace XB:=XB.below hh);replace hb:=bend hb hh;obtain ⟨xa0,xa1,xa2,xa3,xa4,xa5⟩:=XA.all;obtain ⟨xb0,xb1,xb2,xb3,xb4,xb5⟩:=XB.all))
 go_ret;exact ⟨rfl,hb⟩
theorem rsame6_eq {k k2:Nat} {x y x2 y2:Rat} (p:RP w s_p A_p n_p c_p B_p m_p d_p t_p E_p i_p e_p F_p j_p f_p x y k) (q:RP w s_q A_q n_q c_q B_q m_q d_q t_q E_q i_q e_q F_q j_q f_q x2 y2 k2) (hk:k≤3000) (hk2:k2≤3000) (hx:x=x2) :
 Calls Tryz.prog 26 #[.agg #[.bool s_p,.slice A_p n_p c_p,.slice B_p m_p d_p,.bool t_p,.slice E_p i_p e_p,.slice F_p j_p f_p],.agg #[.bool s_q,.slice A_q n_q c_q,.slice B_q m_q d_q,.bool t_q,.slice E_q i_q e_q,.slice F_q j_q f_q]] w fun e w'=>e=.returned (.bool (cmpQ y y2 == 0))∧Below w.heap.size w w':=by
 have HK:Hid (cmpQ x x2=0):=cmpQ_nul.2 hx
 obtain ⟨M,hM⟩:∃ M,cmpQ y y2=M:=⟨_,rfl⟩
 have HM:=Lib.hid hM;clear hM hx
 go_enter Tryz.func26,Tryz.ntmps26
 go_wp2_with fail
 generalize hW:World.alloc _ _=W
 obtain ⟨hb,XA,XB,hzW⟩:=mkbx40_15 hW;clear hW;replace p:=p.below hb;replace q:=q.below hb;obtain ⟨xa0,xa1,xa2,xa3,xa4,xa5⟩:=XA.all;obtain ⟨xb0,xb1,xb2,xb3,xb4,xb5⟩:=XB.all
 go_wp2_with (first
  | (go_at_call 69;(with_reducible refine (rcmp3 p.qx q.qx (by omega) (by omega)).mono ?_);rintro e w_z ⟨rfl,hh⟩
     rw [HK.out];(try replace p:=p.below hh);(try replace q:=q.below hh);(try replace XA:=XA.below hh);(try replace XB:=XB.below hh);replace hb:=bend hb hh;obtain ⟨xa0,xa1,xa2,xa3,xa4,xa5⟩:=XA.all;obtain ⟨xb0,xb1,xb2,xb3,xb4,xb5⟩:=XB.all)
  | (go_at_call 69;(with_reducible refine (rcmp3 p.qy q.qy (by omega) (by omega)).mono ?_);rintro e w_z ⟨rfl,hh⟩
     rw [HM.out];(try replace p:=p.below hh);(try replace q:=q.below hh);(try replace XA:=XA.below hh);(try replace XB:=XB.below hh);replace hb:=bend hb hh;obtain ⟨xa0,xa1,xa2,xa3,xa4,xa5⟩:=XA.all;obtain ⟨xb0,xb1,xb2,xb3,xb4,xb5⟩:=XB.all))
 go_ret
 exact ⟨by rw [HM.out];first | rfl | simp,hb⟩
theorem rsame6 {k k2:Nat} {x y x2 y2:Rat} (p:RP w s_p A_p n_p c_p B_p m_p d_p t_p E_p i_p e_p F_p j_p f_p x y k) (q:RP w s_q A_q n_q c_q B_q m_q d_q t_q E_q i_q e_q F_q j_q f_q x2 y2 k2) (hk:k≤3000) (hk2:k2≤3000) (R:Bool) (hR:decide (x=x2∧y=y2)=R) :
 Calls Tryz.prog 26 #[.agg #[.bool s_p,.slice A_p n_p c_p,.slice B_p m_p d_p,.bool t_p,.slice E_p i_p e_p,.slice F_p j_p f_p],.agg #[.bool s_q,.slice A_q n_q c_q,.slice B_q m_q d_q,.bool t_q,.slice E_q i_q e_q,.slice F_q j_q f_q]] w fun e w'=>e=.returned (.bool R)∧Below w.heap.size w w':=by
 subst hR
 by_cases h:x=x2
 · have:=rsame6_eq p q hk hk2 h
   rwa [show (cmpQ y y2 == 0)=decide (x=x2∧y=y2) from by
    by_cases h':y=y2
    · rw [decide_eq_true ⟨h,h'⟩,cmpQ_nul.2 h'];rfl
    · rw [decide_eq_false (fun q=>h' q.2)];simpa using fun q=>h' (cmpQ_nul.1 q)] at this
 · have:=rsame6_ne p q hk hk2 h
   rwa [show false=decide (x=x2∧y=y2) from (decide_eq_false (fun q=>h q.1)).symm] at this
def GivesKP (w:World) (s t:Bool) (l1 l2 l3 l4:List Nat) (en:Ending) (w':World):Prop :=
 ∃ A n c B m d E i e F j f,en=.returned (.agg #[.bool s,.slice A n c,.slice B m d,.bool t,.slice E i e,.slice F j f])∧(Rd .u64 w' A n l1∧n≤c)∧(Rd .u64 w' B m l2∧m≤d)∧(Rd .u64 w' E i l3∧i≤e)∧(Rd .u64 w' F j l4∧j≤f)∧Below w.heap.size w w'
theorem keepPt_any {l1 l2 l3 l4:List Nat} (ap:Rd .u64 w A_p n_p l1) (bp:Rd .u64 w B_p m_p l2) (up:Rd .u64 w E_p i_p l3) (vp:Rd .u64 w F_p j_p l4) (z1:A_p=none→c_p=0) (z2:B_p=none→d_p=0) (z3:E_p=none→e_p=0) (z4:F_p=none→f_p=0) (hn:n_p≤100000∧m_p≤100000∧i_p≤100000∧j_p≤100000) :
 Calls Tryz.prog 35 #[.agg #[.bool s_p,.slice A_p n_p c_p,.slice B_p m_p d_p,.bool t_p,.slice E_p i_p e_p,.slice F_p j_p f_p]] w (GivesKP w s_p t_p l1 l2 l3 l4):=by
 have HZ:Hid ((A_p=none→c_p=0)∧(B_p=none→d_p=0)∧(E_p=none→e_p=0)∧(F_p=none→f_p=0)):=⟨z1,z2,z3,z4⟩
 have HN:=Lib.hid hn;clear z1 z2 z3 z4 hn
 go_enter Tryz.func35,Tryz.ntmps35
 go_upto_region 1 with (fail)
 generalize hW:World.alloc _ _=W
 obtain ⟨hb,XA,Z,hzW⟩:=mkbx24_10 hW;clear hW;replace ap:=ap.below hb;replace bp:=bp.below hb;replace up:=up.below hb;replace vp:=vp.below hb
 replace ap:=ap.below (Below.refl _ _).drew
 replace bp:=bp.below (Below.refl _ _).drew
 replace up:=up.below (Below.refl _ _).drew
 replace vp:=vp.below (Below.refl _ _).drew
 replace XA:=XA.below (Below.refl _ _).drew
 replace Z:=Z.below (Below.refl _ _).drew
 replace hb:=hb.drew
 go_region_held3 (fun w'=>w'.cell? ⟨w.heap.size,0,none⟩=some (.bool s_p)∧w'.cell? ⟨w.heap.size,1,none⟩=some (.slice A_p n_p c_p)∧w'.cell? ⟨w.heap.size,2,none⟩=some (.slice B_p m_p d_p)∧w'.cell? ⟨w.heap.size,3,none⟩=some (.bool t_p)∧w'.cell? ⟨w.heap.size,4,none⟩=some (.slice E_p i_p e_p)∧w'.cell? ⟨w.heap.size,5,none⟩=some (.slice F_p j_p f_p))
  (first | with_reducible exact ⟨XA.c0,XA.c1,XA.c2,XA.c3,XA.c4,XA.c5⟩ | with_reducible exact ⟨(set6_cell _ _ _ _ _ _ _ _ _ _ (by omega)).trans XA.c0,(set6_cell _ _ _ _ _ _ _ _ _ _ (by omega)).trans XA.c1,(set6_cell _ _ _ _ _ _ _ _ _ _ (by omega)).trans XA.c2,(set6_cell _ _ _ _ _ _ _ _ _ _ (by omega)).trans XA.c3,(set6_cell _ _ _ _ _ _ _ _ _ _ (by omega)).trans XA.c4,(set6_cell _ _ _ _ _ _ _ _ _ _ (by omega)).trans XA.c5⟩)
  (first
  | (go_at_call 83;(with_reducible refine (keepRat_any ap bp HZ.out.1 HZ.out.2.1 HN.out.1 HN.out.2.1).mono ?_);rintro e w_r ⟨A_r,n_r,c_r,B_r,m_r,d_r,rfl,r1,rc,r2,rd,hh⟩
     (try replace up:=up.below hh);(try replace vp:=vp.below hh);(try replace XA:=XA.below hh);(try replace Z:=Z.below hh);replace hb:=bend hb hh)
  | (go_at_call 83;(with_reducible refine (keepRat_any up vp HZ.out.2.2.1 HZ.out.2.2.2 HN.out.2.2.1 HN.out.2.2.2).mono ?_);rintro e w_u ⟨A_u,n_u,c_u,B_u,m_u,d_u,rfl,u1,uc,u2,ud,hh⟩
     (try replace r1:=r1.below hh);(try replace r2:=r2.below hh);(try replace XA:=XA.below hh);(try replace Z:=Z.below hh);replace hb:=bend hb hh;have zg0:=Z.f0;have zg1:=Z.f1;have zg2:=Z.f2;have zg3:=Z.f3;have zg4:=Z.f4;have zg5:=Z.f5;obtain ⟨zc0,zc1,zc2,zc3,zc4,zc5⟩:=Z.all))
 go_wp2_with fail
 have Z2:=Z.set6 (.bool s_p) (.slice A_r n_r c_r) (.slice B_r m_r d_r) (.bool t_p) (.slice A_u n_u c_u) (.slice B_u m_u d_u)
 obtain ⟨g0,g1,g2,g3,g4,g5⟩:=Z2.all
 refine bodyPost_ret (v:=.agg #[.bool s_p,.slice A_r n_r c_r,.slice B_r m_r d_r,.bool t_p,.slice A_u n_u c_u,.slice B_u m_u d_u]) (by simp [results,Tryz.results35,go_sem,g0,g1,g2,g3,g4,g5]) rfl ?_
 have ho:=((((((Only.refl (w.heap.size+1) w_u).setCell 0 (Value.bool s_p)).setCell 1 (Value.slice A_r n_r c_r)).setCell 2 (Value.slice B_r m_r d_r)).setCell 3 (Value.bool t_p)).setCell 4 (Value.slice A_u n_u c_u)).setCell 5 (Value.slice B_u m_u d_u)
 exact ⟨_,_,_,_,_,_,_,_,_,_,_,_,rfl,⟨r1.only (r1.off6 Z) ho,rc⟩,⟨r2.only (r2.off6 Z) ho,rd⟩,⟨u1.only (u1.off6 Z) ho,uc⟩,⟨u2.only (u2.off6 Z) ho,ud⟩,below_set6 hb (by omega) _ _ _ _ _ _⟩
theorem pts_f {la1 la2 la3 la4 lb1 lb2 lb3 lb4:List Nat} (p1:Rd .u64 w A_p n_p la1) (p2:Rd .u64 w B_p m_p la2) (p3:Rd .u64 w E_p i_p la3) (p4:Rd .u64 w F_p j_p la4) (q1:Rd .u64 w A_q n_q lb1) (q2:Rd .u64 w B_q m_q lb2) (q3:Rd .u64 w E_q i_q lb3) (q4:Rd .u64 w F_q j_q lb4) (hn:n_p≤maxLen∧m_p≤maxLen∧i_p≤maxLen∧j_p≤maxLen) (hr:((s_p == s_q && decide (la1=lb1)) && decide (la2=lb2))=false) :
 Calls Tryz.prog 43 #[.agg #[.bool s_p,.slice A_p n_p c_p,.slice B_p m_p d_p,.bool t_p,.slice E_p i_p e_p,.slice F_p j_p f_p],.agg #[.bool s_q,.slice A_q n_q c_q,.slice B_q m_q d_q,.bool t_q,.slice E_q i_q e_q,.slice F_q j_q f_q]] w fun e w'=>e=.returned (.bool false)∧Below w.heap.size w w':=by
 have HN:=Lib.hid hn;have HR:=Lib.hid hr;clear hn
 go_enter Tryz.func43,Tryz.ntmps43
 go_wp2_with fail
 generalize hW:World.alloc _ _=W
 obtain ⟨hb,XA,XB,hzW⟩:=mkbx24_10 hW;clear hW;replace p1:=p1.below hb;replace p2:=p2.below hb;replace p3:=p3.below hb;replace p4:=p4.below hb;replace q1:=q1.below hb;replace q2:=q2.below hb;replace q3:=q3.below hb;replace q4:=q4.below hb;obtain ⟨xa0,xa1,xa2,xa3,xa4,xa5⟩:=XA.all;obtain ⟨xb0,xb1,xb2,xb3,xb4,xb5⟩:=XB.all
 go_wp2_with (first
  | (go_at_call 45;(with_reducible refine (rats_any p1 p2 q1 q2 HN.out.1 HN.out.2.1 false hr).mono ?_);rintro e w_z ⟨rfl,hh⟩
     (try replace p1:=p1.below hh);(try replace p2:=p2.below hh);(try replace p3:=p3.below hh);(try replace p4:=p4.below hh);(try replace q1:=q1.below hh);(try replace q2:=q2.below hh);(try replace q3:=q3.below hh);(try replace q4:=q4.below hh);(try replace XA:=XA.below hh);(try replace XB:=XB.below hh);replace hb:=bend hb hh;obtain ⟨xa0,xa1,xa2,xa3,xa4,xa5⟩:=XA.all;obtain ⟨xb0,xb1,xb2,xb3,xb4,xb5⟩:=XB.all))
 go_ret;exact ⟨rfl,hb⟩
theorem pts_t {la1 la2 la3 la4 lb1 lb2 lb3 lb4:List Nat} (p1:Rd .u64 w A_p n_p la1) (p2:Rd .u64 w B_p m_p la2) (p3:Rd .u64 w E_p i_p la3) (p4:Rd .u64 w F_p j_p la4) (q1:Rd .u64 w A_q n_q lb1) (q2:Rd .u64 w B_q m_q lb2) (q3:Rd .u64 w E_q i_q lb3) (q4:Rd .u64 w F_q j_q lb4) (hn:n_p≤maxLen∧m_p≤maxLen∧i_p≤maxLen∧j_p≤maxLen) (hr:((s_p == s_q && decide (la1=lb1)) && decide (la2=lb2))=true) :
 Calls Tryz.prog 43 #[.agg #[.bool s_p,.slice A_p n_p c_p,.slice B_p m_p d_p,.bool t_p,.slice E_p i_p e_p,.slice F_p j_p f_p],.agg #[.bool s_q,.slice A_q n_q c_q,.slice B_q m_q d_q,.bool t_q,.slice E_q i_q e_q,.slice F_q j_q f_q]] w fun e w'=>e=.returned (.bool ((t_p == t_q && decide (la3=lb3)) && decide (la4=lb4)))∧Below w.heap.size w w':=by
 have HN:=Lib.hid hn;have HR:=Lib.hid hr
 obtain ⟨M,hM⟩:∃ M,((t_p == t_q && decide (la3=lb3)) && decide (la4=lb4))=M:=⟨_,rfl⟩
 rw [hM];clear hn
 go_enter Tryz.func43,Tryz.ntmps43
 go_wp2_with fail
 generalize hW:World.alloc _ _=W
 obtain ⟨hb,XA,XB,hzW⟩:=mkbx24_10 hW;clear hW;replace p1:=p1.below hb;replace p2:=p2.below hb;replace p3:=p3.below hb;replace p4:=p4.below hb;replace q1:=q1.below hb;replace q2:=q2.below hb;replace q3:=q3.below hb;replace q4:=q4.below hb;obtain ⟨xa0,xa1,xa2,xa3,xa4,xa5⟩:=XA.all;obtain ⟨xb0,xb1,xb2,xb3,xb4,xb5⟩:=XB.all
 go_wp2_with (first
  | (go_at_call 45;(with_reducible refine (rats_any p1 p2 q1 q2 HN.out.1 HN.out.2.1 true hr).mono ?_);rintro e w_z ⟨rfl,hh⟩
     (try replace p1:=p1.below hh);(try replace p2:=p2.below hh);(try replace p3:=p3.below hh);(try replace p4:=p4.below hh);(try replace q1:=q1.below hh);(try replace q2:=q2.below hh);(try replace q3:=q3.below hh);(try replace q4:=q4.below hh);(try replace XA:=XA.below hh);(try replace XB:=XB.below hh);replace hb:=bend hb hh;obtain ⟨xa0,xa1,xa2,xa3,xa4,xa5⟩:=XA.all;obtain ⟨xb0,xb1,xb2,xb3,xb4,xb5⟩:=XB.all)
  | (go_at_call 45;(with_reducible refine (rats_any p3 p4 q3 q4 HN.out.2.2.1 HN.out.2.2.2 M hM).mono ?_);rintro e w_z ⟨rfl,hh⟩
     (try replace p1:=p1.below hh);(try replace p2:=p2.below hh);(try replace p3:=p3.below hh);(try replace p4:=p4.below hh);(try replace q1:=q1.below hh);(try replace q2:=q2.below hh);(try replace q3:=q3.below hh);(try replace q4:=q4.below hh);(try replace XA:=XA.below hh);(try replace XB:=XB.below hh);replace hb:=bend hb hh;obtain ⟨xa0,xa1,xa2,xa3,xa4,xa5⟩:=XA.all;obtain ⟨xb0,xb1,xb2,xb3,xb4,xb5⟩:=XB.all))
 go_ret;exact ⟨rfl,hb⟩
theorem pts_any {la1 la2 la3 la4 lb1 lb2 lb3 lb4:List Nat} (p1:Rd .u64 w A_p n_p la1) (p2:Rd .u64 w B_p m_p la2) (p3:Rd .u64 w E_p i_p la3) (p4:Rd .u64 w F_p j_p la4) (q1:Rd .u64 w A_q n_q lb1) (q2:Rd .u64 w B_q m_q lb2) (q3:Rd .u64 w E_q i_q lb3) (q4:Rd .u64 w F_q j_q lb4) (hn:n_p≤maxLen∧m_p≤maxLen∧i_p≤maxLen∧j_p≤maxLen) (R:Bool) (hR:(((s_p == s_q && decide (la1=lb1)) && decide (la2=lb2)) && ((t_p == t_q && decide (la3=lb3)) && decide (la4=lb4)))=R) :
 Calls Tryz.prog 43 #[.agg #[.bool s_p,.slice A_p n_p c_p,.slice B_p m_p d_p,.bool t_p,.slice E_p i_p e_p,.slice F_p j_p f_p],.agg #[.bool s_q,.slice A_q n_q c_q,.slice B_q m_q d_q,.bool t_q,.slice E_q i_q e_q,.slice F_q j_q f_q]] w fun e w'=>e=.returned (.bool R)∧Below w.heap.size w w':=by
 cases h:((s_p == s_q && decide (la1=lb1)) && decide (la2=lb2)) with
 | false=>rw [h,Bool.false_and] at hR;subst hR;exact pts_f p1 p2 p3 p4 q1 q2 q3 q4 hn h
 | true=>rw [h,Bool.true_and] at hR;subst hR;exact pts_t p1 p2 p3 p4 q1 q2 q3 q4 hn h
theorem pts_same {k k2:Nat} {x y:Rat} (p:PG w s_p A_p n_p c_p B_p m_p d_p t_p E_p i_p e_p F_p j_p f_p x y k) (q:PG w s_q A_q n_q c_q B_q m_q d_q t_q E_q i_q e_q F_q j_q f_q x y k2) (hk:k≤100000) :
 Calls Tryz.prog 43 #[.agg #[.bool s_p,.slice A_p n_p c_p,.slice B_p m_p d_p,.bool t_p,.slice E_p i_p e_p,.slice F_p j_p f_p],.agg #[.bool s_q,.slice A_q n_q c_q,.slice B_q m_q d_q,.bool t_q,.slice E_q i_q e_q,.slice F_q j_q f_q]] w fun e w'=>e=.returned (.bool true)∧Below w.heap.size w w':=by
 have e1:s_p=s_q:=p.1.1.1.trans q.1.1.1.symm
 have e2:t_p=t_q:=p.2.1.1.trans q.2.1.1.symm
 subst e1 e2
 have h1:=p.1.1.2.2.2;have h2:=p.1.2.2.2;have h3:=p.2.1.2.2.2;have h4:=p.2.2.2.2
 refine pts_any p.1.1.2.1 p.1.2.1 p.2.1.2.1 p.2.2.1 q.1.1.2.1 q.1.2.1 q.2.1.2.1 q.2.2.1 (by unfold maxLen;omega) true ?_
 rw [same_eq,same_eq];rfl
end
section
open Go Go.RowKit
def VRP (x y:Rat) (k:Nat) (v:Value) (w:World):Prop:=∃ s A n c B m d t E i e F j f,v=.agg #[.bool s,.slice A n c,.slice B m d,.bool t,.slice E i e,.slice F j f]∧RP w s A n c B m d t E i e F j f x y k
theorem RP.box {T:TypeId} {w w':World} {g:Nat} {cs:Array Value} {s t:Bool} {A B E F:Option Addr} {n c m d i e j f:Nat} {x y:Rat} {k:Nat} (h:RP w s A n c B m d t E i e F j f x y k) (Z:BoxAt T w g cs) (ho:Only g w w'):RP w' s A n c B m d t E i e F j f x y k:=⟨h.1.box Z ho,h.2.box Z ho⟩
theorem stays_rp (x y:Rat) (k:Nat):Stays (VRP x y k) :=
 ⟨fun _ _ _ ⟨s,A,n,c,B,m,d,t,E,i,e,F,j,f,h1,h2⟩ hb=>⟨s,A,n,c,B,m,d,t,E,i,e,F,j,f,h1,h2.below hb⟩,fun _ _ _ _ _ _ ⟨s,A,n,c,B,m,d,t,E,i,e,F,j,f,h1,h2⟩ hB ho=>⟨s,A,n,c,B,m,d,t,E,i,e,F,j,f,h1,h2.box hB ho⟩⟩
theorem run_alloc7 {e1:Operand→Value} {d1:Option Tmp} {y1:Nat} {pos:String} {af:Array Edge} :
 (execOp e1 ⟨d1,.alloc 45,y1,pos,af,none⟩).run Tryz.prog w=.ok (.value (.pointer (some ⟨w.heap.size,0,none⟩))) (w.alloc (.cells #[.bool false,.slice none 0 0,.slice none 0 0,.bool false,.slice none 0 0,.slice none 0 0] 45)):=by
 go_simp
theorem run_store7 {e1:Operand→Value} {x1 z1:Operand} {d1:Option Tmp} {y1 g:Nat} {pos:String} {af:Array Edge} {s t:Bool} {A B E F:Option Addr} {n c m d i e j f:Nat} {v0 v1 v2 v3 v4 v5:Value} (h:e1 x1=.pointer (some ⟨g,0,none⟩)) (hz:e1 z1=.agg #[.bool s,.slice A n c,.slice B m d,.bool t,.slice E i e,.slice F j f]) (Z:B6R w g v0 v1 v2 v3 v4 v5) :
 (execOp e1 ⟨d1,.store 45 x1 z1,y1,pos,af,none⟩).run Tryz.prog w=.ok .skip ((((((w.setCell ⟨g,0,none⟩ (.bool s)).setCell ⟨g,1,none⟩ (.slice A n c)).setCell ⟨g,2,none⟩ (.slice B m d)).setCell ⟨g,3,none⟩ (.bool t)).setCell ⟨g,4,none⟩ (.slice E i e)).setCell ⟨g,5,none⟩ (.slice F j f)):=by
 obtain ⟨c0,c1,c2,c3,c4,c5⟩:=Z.all;have f0:=Z.f0;have f1:=Z.f1;have f2:=Z.f2;have f3:=Z.f3;have f4:=Z.f4;have f5:=Z.f5
 go_simp
theorem big_ex (x y:Rat):∃ K,x.num.natAbs < B64 ^ K∧x.den < B64 ^ K∧y.num.natAbs < B64 ^ K∧y.den < B64 ^ K:=by
 have h:∀ n m:Nat,n≤m→n < B64 ^ m:=fun n m h=>Nat.lt_of_lt_of_le (Nat.lt_pow_self (by decide)) (Nat.pow_le_pow_right (by decide) h)
 exact ⟨x.num.natAbs+x.den+(y.num.natAbs+y.den),h _ _ (by omega),h _ _ (by omega),h _ _ (by omega),h _ _ (by omega)⟩
end
section
open Go Go.RowKit
end
section
open Go Go.RowKit
theorem Each.belowR {w w':World} {L:List PV} {l:List (Rat × Rat)} {k:Nat} (h:Each PV.RP w L l k) (hb:Below w.heap.size w w'):Each PV.RP w' L l k:=h.imp fun _ _ hp=>RP.below hp hb
theorem Each.staysR {T:TypeId} {base:Nat} {w w':World} {v:Value} {M L:List PV} {l:List (Rat × Rat)} {k:Nat} (_h:Each PV.RP w L l k) (hn:Ln T base w v M) (hg:w.grownBy w' v.ownBlock):∀ p u,PV.RP w p u k→PV.RP w' p u k:=fun p u hp=>by
 rcases hn.stays hg with q | ⟨g,cs,hB,_,ho⟩
 · exact RP.below hp q
 · exact RP.box hp hB ho
def GivesLnR (w:World) (l:List (Rat × Rat)) (k:Nat) (en:Ending) (w':World):Prop :=
 ∃ v L,en=.returned v∧Ln 45 w.heap.size w' v L∧Each PV.RP w' L l k∧Below w.heap.size w w'
theorem idx_rpt {g n c i:Nat} (h:i < n) (w:World):(Instr.indexAt 33 (.slice (some ⟨g,0,none⟩) n c) (.int .i64 (i:Int))).run Tryz.prog w=.ok (.pointer (some ⟨g,i*6,none⟩)) w:=by
 have ha:∀ j,(⟨g,0,none⟩:Addr).add j=⟨g,j,none⟩:=fun j=>by unfold Addr.add;split <;> simp_all
 obtain ⟨i0,hi,hz,hs,hby⟩:=info_parts info_rpt
 have h1:(0:Int)≤(i:Int):=by omega
 have h2:(i:Int) < (n:Int):=by omega
 simp [Instr.indexAt,asIntOf,run_underlying Tryz.underlying33,h1,sizeOf,typeInfo,hi,hs,ha]
 exact fun e=>absurd h (by omega)
theorem run_load7 {e1:Operand→Value} {x1:Operand} {d1:Option Tmp} {y1 g:Nat} {pos:String} {af:Array Edge} {a b c d e f:Value} (h:e1 x1=.pointer (some ⟨g,0,none⟩)) (h0:w.cell? ⟨g,0,none⟩=some a) (h1:w.cell? ⟨g,1,none⟩=some b) (h2:w.cell? ⟨g,2,none⟩=some c) (h3:w.cell? ⟨g,3,none⟩=some d) (h4:w.cell? ⟨g,4,none⟩=some e) (h5:w.cell? ⟨g,5,none⟩=some f) :
 (execOp e1 ⟨d1,.load 45 x1,y1,pos,af,none⟩).run Tryz.prog w=.ok (.value (.agg #[a,b,c,d,e,f])) w:=by
 go_simp
theorem rc_gesso_gessoref06_Sub {e:Operand→Value} {x0 x1:Operand} {d:Option Tmp} {y:Nat} {pos:String} {af:Array Edge} {u0 u1:Value} (h0:e x0=u0) (h1:e x1=u1) (hf:e (.func 64)=.func (.func 64) #[] #[]) :
 (execOp e ⟨d,.call ⟨.value (.func 64),#[x0,x1],#[45,45]⟩,y,pos,af,none⟩).run Tryz.prog w=.ok (.enter 64 #[u0,u1]) w:=by
 go_simp
theorem rc_gesso_gessoref06_Cross {e:Operand→Value} {x0 x1:Operand} {d:Option Tmp} {y:Nat} {pos:String} {af:Array Edge} {u0 u1:Value} (h0:e x0=u0) (h1:e x1=u1) (hf:e (.func 54)=.func (.func 54) #[] #[]) :
 (execOp e ⟨d,.call ⟨.value (.func 54),#[x0,x1],#[45,45]⟩,y,pos,af,none⟩).run Tryz.prog w=.ok (.enter 54 #[u0,u1]) w:=by
 go_simp
end
section
open Go Go.RowKit
def PV.small (M:Nat) (p:PV):Prop:=(p.n≤M∧p.m≤M)∧p.i≤M∧p.j≤M
instance (M:Nat) (p:PV):Decidable (p.small M):=by unfold PV.small;exact inferInstance
theorem Each.belowP {w w':World} {L:List PV} {l:List (Rat × Rat)} {k:Nat} (h:Each PV.PR w L l k) (hb:Below w.heap.size w w'):Each PV.PR w' L l k:=h.imp fun _ _ hp=>PR.below hp hb
theorem smallM_f (M:Nat) (h:¬ (n_p≤M∧m_p≤M)) :
 Calls Tryz.prog 78 #[.agg #[.bool s_p,.slice A_p n_p c_p,.slice B_p m_p d_p,.bool t_p,.slice E_p i_p e_p,.slice F_p j_p f_p],.int .i64 (M:Int)] w fun e w'=>e=.returned (.bool false)∧Below w.heap.size w w':=by
 have HL:Hid (decide (n_p≤M∧m_p≤M)=false):=decide_eq_false h
 clear h
 go_enter Tryz.func78,Tryz.ntmps78
 go_wp2_with fail
 generalize hW:World.alloc _ _=W
 obtain ⟨hb,XA,hzW⟩:=mkbx18_10 hW;clear hW;obtain ⟨xa0,xa1,xa2,xa3,xa4,xa5⟩:=XA.all
 go_wp2_with (first
  | (go_at_call 121;(with_reducible refine (small_m M (s:=s_p) (A:=A_p) (n:=n_p) (c:=c_p) (A':=B_p) (n':=m_p) (c':=d_p) _ false HL.out).mono ?_);rintro e w_z ⟨rfl,hh⟩
     replace hb:=bend hb hh;replace XA:=XA.below hh;obtain ⟨xa0,xa1,xa2,xa3,xa4,xa5⟩:=XA.all))
 (try rw [Exit.noGoto_ret])
 go_ret;exact ⟨rfl,hb⟩
theorem smallM_t (M:Nat) (h:n_p≤M∧m_p≤M) :
 Calls Tryz.prog 78 #[.agg #[.bool s_p,.slice A_p n_p c_p,.slice B_p m_p d_p,.bool t_p,.slice E_p i_p e_p,.slice F_p j_p f_p],.int .i64 (M:Int)] w fun e w'=>e=.returned (.bool (decide (i_p≤M∧j_p≤M)))∧Below w.heap.size w w':=by
 have HL:Hid (decide (n_p≤M∧m_p≤M)=true):=decide_eq_true h
 obtain ⟨T,hM⟩:∃ T,decide (i_p≤M∧j_p≤M)=T:=⟨_,rfl⟩
 have HM:=Lib.hid hM;rw [hM];clear hM;clear h
 go_enter Tryz.func78,Tryz.ntmps78
 go_wp2_with fail
 generalize hW:World.alloc _ _=W
 obtain ⟨hb,XA,hzW⟩:=mkbx18_10 hW;clear hW;obtain ⟨xa0,xa1,xa2,xa3,xa4,xa5⟩:=XA.all
 go_wp2_with (first
  | (go_at_call 121;(with_reducible refine (small_m M (s:=s_p) (A:=A_p) (n:=n_p) (c:=c_p) (A':=B_p) (n':=m_p) (c':=d_p) _ true HL.out).mono ?_);rintro e w_z ⟨rfl,hh⟩
     replace hb:=bend hb hh;replace XA:=XA.below hh;obtain ⟨xa0,xa1,xa2,xa3,xa4,xa5⟩:=XA.all)
  | (go_at_call 121;(with_reducible refine (small_m M (s:=t_p) (A:=E_p) (n:=i_p) (c:=e_p) (A':=F_p) (n':=j_p) (c':=f_p) _ T HM.out).mono ?_);rintro e w_z ⟨rfl,hh⟩
     replace hb:=bend hb hh))
 (try rw [Exit.noGoto_ret])
 go_ret;exact ⟨rfl,hb⟩
theorem smallM (M:Nat) (R:Bool) (hR:decide ((PV.mk s_p A_p n_p c_p B_p m_p d_p t_p E_p i_p e_p F_p j_p f_p).small M)=R) :
 Calls Tryz.prog 78 #[.agg #[.bool s_p,.slice A_p n_p c_p,.slice B_p m_p d_p,.bool t_p,.slice E_p i_p e_p,.slice F_p j_p f_p],.int .i64 (M:Int)] w fun e w'=>e=.returned (.bool R)∧Below w.heap.size w w':=by
 subst hR
 show Calls _ _ _ _ fun e w'=>e=.returned (.bool (decide ((n_p≤M∧m_p≤M)∧i_p≤M∧j_p≤M)))∧_
 by_cases h:n_p≤M∧m_p≤M
 · have e:decide (i_p≤M∧j_p≤M)=decide ((n_p≤M∧m_p≤M)∧i_p≤M∧j_p≤M):=by simp [h]
   rw [← e];exact smallM_t M h
 · have e:false=decide ((n_p≤M∧m_p≤M)∧i_p≤M∧j_p≤M):=by simp [h]
   rw [← e];exact smallM_f M h
theorem smallline_p (M:Nat) {MI:Int} (hMI:MI=(M:Int)) {A:Option Addr} {n c:Nat} {L:List PV} (hL:SV w A (pvs L)) (hn:L.length=n) (hm:n≤100000) (_hnc:n≤c) (R:Bool) (hR0:R=true ↔ ∀ p ∈ L,p.small M) :
 Calls Tryz.prog 31 #[.slice A n c,.int .i64 MI] w fun e w'=>e=.returned (.bool R)∧Below w.heap.size w w':=by
 subst hMI
 have HN:=Lib.hid hn;have HL0:=Lib.hid hL;have HR0:=Lib.hid hR0;clear hR0 hL
 go_enter Tryz.func31,Tryz.ntmps31
 go_wp2_with fail
 go_loopg [5] n (fun gk ix wr=>∃ (m:Nat),Hid (gk+m=n)∧ix=.int .i64 (m:Int)∧Hid (∀ (i:Nat) (p:PV),i < m→L[i]?=some p→p.small M)∧Below w.heap.size w wr)
 case atStart=>exact ⟨0,Nat.add_zero _,rfl,fun i p hi=>absurd hi (by omega),Below.refl _ _⟩
 case round =>
  obtain ⟨m,HG,rfl,HS,hb⟩:=hrel
  by_cases hmn:m < n
  · have HMN:=Lib.hid hmn
    obtain ⟨P,hP1⟩:∃ P,L[m]?=some P:=⟨_,List.getElem?_eq_getElem (by rw [HN.out];exact hmn)⟩
    obtain ⟨g0,o0,hix0,E,_⟩:=(HL0.out.below hb).pt hP1
    have hixa:∀ w',(Instr.indexAt 22 (.slice A n c) (.int .i64 (m:Int))).run Tryz.prog w'=.ok (.pointer (some ⟨g0,o0,none⟩)) w':=fun w'=>hix0 n c w' hmn
    have hlt:(m:Int) < (n:Int):=by omega
    have hwr:IntKind.i64.wrap ((m:Int)+1)=(m:Int)+1:=IntWalk.i64_in _ (by omega)
    have HP1:=Lib.hid hP1
    obtain ⟨s_p,A_p,n_p,c_p,B_p,m_p,d_p,t_p,E_p,i_p,e_p,F_p,j_p,f_p⟩:=P
    obtain ⟨e0,e1,e2,e3,e4,e5⟩:=E.all
    simp only at e0 e1 e2 e3 e4 e5
    clear hP1 hix0 hmn
    by_cases hs:(PV.mk s_p A_p n_p c_p B_p m_p d_p t_p E_p i_p e_p F_p j_p f_p).small M
    · have HSM:Hid (decide ((PV.mk s_p A_p n_p c_p B_p m_p d_p t_p E_p i_p e_p F_p j_p f_p).small M)=true):=decide_eq_true hs
      clear hs
      go_wp2_with (first
       | (go_at_call 78;(with_reducible refine (smallM M true HSM.out).mono ?_);rintro e w_z ⟨rfl,hh⟩
          replace hb:=bend hb hh))
      go_roundg (gk - 1)
      case measure=>have:=HG.out;have:=HMN.out;omega
      case rel =>
       refine ⟨m+1,by have:=HG.out;have:=HMN.out;show _=_;omega,by go_num,fun i p hi h5=>?_,hb⟩
       rcases Nat.lt_or_ge i m with h | h
       · exact HS.out i p h h5
       · obtain rfl:i=m:=by omega
         rw [HP1.out] at h5;cases h5;exact of_decide_eq_true HSM.out
    · have HSM:Hid (decide ((PV.mk s_p A_p n_p c_p B_p m_p d_p t_p E_p i_p e_p F_p j_p f_p).small M)=false):=decide_eq_false hs
      have HF:Hid (false=R):=by
       show _=_
       cases R with
       | false=>rfl
       | true=>exact absurd (HR0.out.1 rfl _ (List.mem_of_getElem? HP1.out)) hs
      clear hs
      go_wp2_with (first
       | (go_at_call 78;(with_reducible refine (smallM M false HSM.out).mono ?_);rintro e w_z ⟨rfl,hh⟩
          replace hb:=bend hb hh))
      (try rw [Exit.noGoto_ret])
      go_ret
      exact ⟨by rw [← HF.out];rfl,hb⟩
  · have hlt:¬ (m:Int) < (n:Int):=by omega
    have HT:Hid (true=R):=by
     refine (HR0.out.2 fun p hp=>?_).symm
     obtain ⟨i,hi⟩:=List.getElem?_of_mem hp
     have h7:=(List.getElem?_eq_some_iff.1 hi).1
     rw [HN.out] at h7
     exact HS.out i p (by omega) hi
    clear hmn
    go_wp2_with fail
    (try rw [Exit.noGoto_ret])
    go_ret
    exact ⟨by rw [← HT.out];rfl,hb⟩
theorem fair8_y {A:Option Addr} {n c N:Nat} {NI:Int} (hNI:NI=(N:Int)) {L:List PV} (hL:SV w A (pvs L)) (hn:L.length=n) (hm:N≤100000) (hnc:n≤c) (hN:n≤N) (R:Bool) (hR0:R=true ↔ ∀ p ∈ L,p.small 4) :
 Calls Tryz.prog 6 #[.slice A n c,.int .i64 NI] w fun e w'=>e=.returned (.bool R)∧Below w.heap.size w w':=by
 subst hNI
 have HR:=Lib.hid hR0
 have H6:Hid ((4:Int)=((4:Nat):Int)):=rfl
 clear hR0
 have hb:Below w.heap.size w w:=Below.refl _ _
 have h4:(n:Int)≤(N:Int):=by omega
 go_enter Tryz.func6,Tryz.ntmps6
 go_wp2_with (first
  | (go_at_call 31;(with_reducible refine (smallline_p 4 H6.out hL hn (by omega) hnc R HR.out).mono ?_);rintro e w_z ⟨rfl,hh⟩
     replace hb:=bend hb hh))
 (try rw [Exit.noGoto_ret])
 go_ret;exact ⟨rfl,hb⟩
theorem fair8_n {A:Option Addr} {n c N:Nat} {NI:Int} (hNI:NI=(N:Int)) {L:List PV} (_hL:SV w A (pvs L)) (_hn:L.length=n) (_hnc:n≤c) (hN:¬ n≤N) :
 Calls Tryz.prog 6 #[.slice A n c,.int .i64 NI] w fun e w'=>e=.returned (.bool false)∧Below w.heap.size w w':=by
 subst hNI
 have hb:Below w.heap.size w w:=Below.refl _ _
 have h4:¬ (n:Int)≤(N:Int):=by omega
 go_enter Tryz.func6,Tryz.ntmps6
 go_wp2_with fail
 (try rw [Exit.noGoto_ret])
 go_ret;exact ⟨rfl,hb⟩
end
section
open Go Go.RowKit
section
variable {W W':World} {g:Nat} {v0 v1 v2 v3 v4 v5 v6 v7 v8 v9 v10 v11 v12 v13 v14 v15 v16 v17 v18 v19 v20 v21 v22 v23:Value}
end
section
variable {W W':World} {g:Nat} {v0 v1 v2 v3 v4 v5 v6 v7 v8 v9 v10 v11 v12 v13 v14 v15 v16 v17 v18 v19 v20 v21 v22 v23:Value}
end
end
section
open Go Go.RowKit
theorem lines_same {va vb:Value} {La Lb:List PV} {l:List (Rat × Rat)} {ba bb ka kb:Nat} (ha:Ln 29 ba w va La) (ha2:Ln 29 bb w vb Lb) (ea:Each PV.PG w La l ka) (eb:Each PV.PG w Lb l kb) (hk:ka≤100000) (hl:l.length≤1000000) :
 Calls Tryz.prog 22 #[va,vb] w fun e w'=>e=.returned (.bool true)∧Below w.heap.size w w':=by
 obtain ⟨A0,c0,rfl,_,_⟩:=ha.form
 obtain ⟨A1,c1,rfl,_,_⟩:=ha2.form
 obtain ⟨n,hn⟩:∃ n,l.length=n:=⟨_,rfl⟩
 have h1:La.length=n:=ea.1.trans hn
 have h2:Lb.length=n:=eb.1.trans hn
 rw [hn] at hl
 rw [h1] at ha ⊢
 rw [h2] at ha2 ⊢
 have H1:=Lib.hid h1;have H2:=Lib.hid h2;have HA:=Lib.hid ha;have HB:=Lib.hid ha2;have EA:=Lib.hid ea;have EB:=Lib.hid eb;clear h1 h2 hn ha ha2 ea eb
 go_enter Tryz.func22,Tryz.ntmps22
 go_wp2_with fail
 go_loopg [5] n (fun gk ix wr=>∃ m:Nat,Hid (gk+m=n)∧ix=.int .i64 (m:Int)∧Below w.heap.size w wr)
 case atStart=>exact ⟨0,Nat.add_zero _,rfl,Below.refl _ _⟩
 case round =>
  obtain ⟨m,HG,rfl,hB⟩:=hrel
  by_cases hm:m < n
  · obtain ⟨P,u,hP,hu,x⟩:=(EA.out.below hB).at_ (i:=m) (by rw [H1.out];exact hm)
    obtain ⟨Q,u2,hQ,hu2,y⟩:=(EB.out.below hB).at_ (i:=m) (by rw [H2.out];exact hm)
    obtain rfl:u=u2:=Option.some.inj (hu.symm.trans hu2)
    obtain ⟨g,c,hv,_,_,_,_⟩:=(HA.out.below hB).at_ hP
    obtain ⟨g2,c2,hv2,_,_,_,_⟩:=(HB.out.below hB).at_ hQ
    obtain rfl:A0=some ⟨g,0,none⟩:=by
     simp only [Value.slice.injEq] at hv
     exact hv.1
    obtain rfl:A1=some ⟨g2,0,none⟩:=by
     simp only [Value.slice.injEq] at hv2
     exact hv2.1
    replace x:PG wr P.s P.A P.n P.c P.B P.m P.d P.t P.E P.i P.e P.F P.j P.f u.1 u.2 ka:=x
    replace y:PG wr Q.s Q.A Q.n Q.c Q.B Q.m Q.d Q.t Q.E Q.i Q.e Q.F Q.j Q.f u.1 u.2 kb:=y
    have hix:=idx_pt (g:=g) (n:=n) (c:=c0) hm
    have hiy:=idx_pt (g:=g2) (n:=n) (c:=c1) hm
    have hlt:(m:Int) < (n:Int):=by omega
    have LA:=HA.out.below hB;have LB:=HB.out.below hB;clear hv hv2 hu hu2 hm;have hb:=hB
    go_upto_region 6 with (fail)
    replace x:=x.below (Below.refl _ _).drew
    replace y:=y.below (Below.refl _ _).drew
    replace LA:=LA.below (Below.refl _ _).drew
    replace LB:=LB.below (Below.refl _ _).drew
    replace hb:=hb.drew
    go_region_held3 (fun w'=>w'.cell? ⟨g,m*6,none⟩=some (.bool P.s)∧w'.cell? ⟨g,m*6+1,none⟩=some (.slice P.A P.n P.c)∧w'.cell? ⟨g,m*6+2,none⟩=some (.slice P.B P.m P.d)∧w'.cell? ⟨g,m*6+3,none⟩=some (.bool P.t)∧w'.cell? ⟨g,m*6+4,none⟩=some (.slice P.E P.i P.e)∧w'.cell? ⟨g,m*6+5,none⟩=some (.slice P.F P.j P.f)∧w'.cell? ⟨g2,m*6,none⟩=some (.bool Q.s)∧w'.cell? ⟨g2,m*6+1,none⟩=some (.slice Q.A Q.n Q.c)∧w'.cell? ⟨g2,m*6+2,none⟩=some (.slice Q.B Q.m Q.d)∧w'.cell? ⟨g2,m*6+3,none⟩=some (.bool Q.t)∧w'.cell? ⟨g2,m*6+4,none⟩=some (.slice Q.E Q.i Q.e)∧w'.cell? ⟨g2,m*6+5,none⟩=some (.slice Q.F Q.j Q.f))
     (first | with_reducible exact ⟨(LA.of hP).2.2.1,(LA.of hP).2.2.2.1,(LA.of hP).2.2.2.2.1,(LA.of hP).2.2.2.2.2.1,(LA.of hP).2.2.2.2.2.2.1,(LA.of hP).2.2.2.2.2.2.2,(LB.of hQ).2.2.1,(LB.of hQ).2.2.2.1,(LB.of hQ).2.2.2.2.1,(LB.of hQ).2.2.2.2.2.1,(LB.of hQ).2.2.2.2.2.2.1,(LB.of hQ).2.2.2.2.2.2.2⟩)
     (first
     | (go_at_call 43;(with_reducible refine (pts_same x y hk).mono ?_);rintro e w_z ⟨rfl,hh⟩
        (try replace LA:=LA.below hh);(try replace LB:=LB.below hh);replace hb:=bend hb hh))
    go_wp2_with fail
    go_roundg (gk - 1)
    case measure=>have:=HG.out;omega
    case rel=>exact ⟨m+1,by have:=HG.out;show _=_;omega,by go_num,hb⟩
  · have hlt:¬ (m:Int) < (n:Int):=by omega
    clear hm
    go_wp2_with fail
    go_ret
    exact ⟨rfl,hB⟩
end
section
open Go Go.RowKit
def BL (K:Nat) (l:List (Rat × Rat)):Prop:=∀ u ∈ l,u.1.num.natAbs < B64 ^ K∧u.1.den < B64 ^ K∧u.2.num.natAbs < B64 ^ K∧u.2.den < B64 ^ K
theorem bl_ex (l:List (Rat × Rat)):∃ K,BL K l:=by
 induction l with
 | nil=>exact ⟨0,fun u hu=>by cases hu⟩
 | cons v l ih =>
   obtain ⟨K1,h1⟩:=big_ex v.1 v.2
   obtain ⟨K2,h2⟩:=ih
   have up:∀ {a k K:Nat},a < B64 ^ k→k≤K→a < B64 ^ K:=fun h hk=>Nat.lt_of_lt_of_le h (Nat.pow_le_pow_right (Nat.lt_of_lt_of_le (by decide) B64_two) hk)
   refine ⟨max K1 K2,fun u hu=>?_⟩
   rcases List.mem_cons.1 hu with rfl | hu
   · exact ⟨up h1.1 (Nat.le_max_left _ _),up h1.2.1 (Nat.le_max_left _ _),up h1.2.2.1 (Nat.le_max_left _ _),up h1.2.2.2 (Nat.le_max_left _ _)⟩
   · have h:=h2 u hu
     exact ⟨up h.1 (Nat.le_max_right _ _),up h.2.1 (Nat.le_max_right _ _),up h.2.2.1 (Nat.le_max_right _ _),up h.2.2.2 (Nat.le_max_right _ _)⟩
theorem each_take {M:List PV} {l:List (Rat × Rat)} {K m:Nat} {P:PV} {u:Rat × Rat} (hu:l[m]?=some u) (h:Each PV.PG w (M ++ [P]) (l.take m ++ [u]) K):Each PV.PG w (M ++ [P]) (l.take (m+1)) K:=by
 obtain ⟨hm,hv⟩:=List.getElem?_eq_some_iff.1 hu
 rwa [List.take_succ_eq_append_getElem hm,hv]
theorem routs {v:Value} {L:List PV} {l:List (Rat × Rat)} {k K b:Nat} (hv:Ln 45 b w v L) (hE:Each PV.RP w L l k) (hk:k≤100000) (hB:BL K l) (hl:l.length≤1000) :
 Calls Tryz.prog 24 #[v] w (GivesLn w l K):=by
 obtain ⟨A0,c0,rfl,_,_⟩:=hv.form
 obtain ⟨n,hn⟩:∃ n,l.length=n:=⟨_,rfl⟩
 have h1:L.length=n:=hE.1.trans hn
 rw [hn] at hl
 rw [h1] at hv ⊢
 have H1:=Lib.hid h1;have HN:=Lib.hid hn;have HA:=Lib.hid hv;have EA:=Lib.hid hE;have HBL:=Lib.hid hB;clear h1 hn hv hE hB
 go_enter Tryz.func24,Tryz.ntmps24
 go_wp2_with fail
 go_loopg [3,4] n (fun gk out ix wr=>∃ (M:List PV) (m:Nat),Hid (gk+m=n)∧ix=.int .i64 (m:Int)∧Ln 29 w.heap.size wr out M∧Hid (Each PV.PG wr M (l.take m) K)∧Below w.heap.size w wr)
 case atStart=>exact ⟨[],0,Nat.add_zero _,rfl,Ln.nil _ _ _,Each.nil,Below.refl _ _⟩
 case round =>
  obtain ⟨M,m,HG,rfl,LT,HQ,hB⟩:=hrel
  by_cases hm:m < n
  · obtain ⟨P,u,hP,hu,x⟩:=(EA.out.belowR hB).at_ (i:=m) (by rw [H1.out];exact hm)
    obtain ⟨g,c,hv,_,_,_,_⟩:=(HA.out.below hB).at_ hP
    obtain rfl:A0=some ⟨g,0,none⟩:=by
     simp only [Value.slice.injEq] at hv
     exact hv.1
    have HU:=Lib.hid (HBL.out u (List.mem_of_getElem? hu))
    have HM:=Lib.hid hu
    obtain ⟨_,_,hc0,hc1,hc2,hc3,hc4,hc5⟩:=(HA.out.below hB).of hP
    obtain ⟨ux,uy⟩:=u
    obtain ⟨s_x,A_x,n_x,c_x,B_x,m_x,d_x,t_x,E_x,i_x,e_x,F_x,j_x,f_x⟩:=P
    replace x:RP wr s_x A_x n_x c_x B_x m_x d_x t_x E_x i_x e_x F_x j_x f_x ux uy k:=x
    simp only at hc0 hc1 hc2 hc3 hc4 hc5
    have hix:=idx_rpt (g:=g) (n:=n) (c:=c0) hm
    have hlt:(m:Int) < (n:Int):=by omega
    have hMl:M.length≤1000000:=by have:=HQ.out.1;rw [List.length_take] at this;omega
    have hb:=hB;clear hv hu hm hP
    go_wp2_with (first
     | (go_at_call 44;(with_reducible refine (rout6 x hk K HU.out.1 HU.out.2.1 HU.out.2.2.1 HU.out.2.2.2).mono ?_);rintro e w_y ⟨s_y,A_y,n_y,c_y,B_y,m_y,d_y,t_y,E_y,i_y,e_y,F_y,j_y,f_y,rfl,y,hh⟩
        replace LT:=LT.below hh
        replace HQ:=Lib.hid (Each.below HQ.out hh)
        replace hb:=bend hb hh)
     | (at_builtin
        have hal:Below w_y.heap.size w_y (w_y.alloc (Obj.cells #[Value.bool s_y,Value.slice A_y n_y c_y,Value.slice B_y m_y d_y,Value.bool t_y,Value.slice E_y i_y e_y,Value.slice F_y j_y f_y] 29)):=(Below.refl _ _).alloc (Nat.le_refl _) _
        refine wpList_push Tryz.underlying22 info_pt rfl (.tmp 11) (.tmp 17) rfl (p:=(PV.mk s_y A_y n_y c_y B_y m_y d_y t_y E_y i_y e_y F_y j_y f_y)) (k0:=1) (b:=w_y.heap.size) rfl rfl (LT.below hal) (Nat.le_trans hb.size hal.size) hMl (heap_alloc_new w_y _) ?_
        intro v3 w3 hn3 hg3))
    have hE3:Each PV.PG (w_y.alloc (Obj.cells #[Value.bool s_y,Value.slice A_y n_y c_y,Value.slice B_y m_y d_y,Value.bool t_y,Value.slice E_y i_y e_y,Value.slice F_y j_y f_y] 29)) M (l.take m) K:=Each.below HQ.out hal
    have hp3:PV.PG (w_y.alloc (Obj.cells #[Value.bool s_y,Value.slice A_y n_y c_y,Value.slice B_y m_y d_y,Value.bool t_y,Value.slice E_y i_y e_y,Value.slice F_y j_y f_y] 29)) (PV.mk s_y A_y n_y c_y B_y m_y d_y t_y E_y i_y e_y F_y j_y f_y) (ux,uy) K:=PG.below y hal
    have hst:=Each.stays hE3 (LT.below hal) hg3
    have hB9:=Ln.under (LT.below hal) hg3 (bend hb hal) (Nat.le_refl _)
    go_roundg (gk - 1)
    case measure=>have:=HG.out;omega
    case rel=>exact ⟨M ++ [(PV.mk s_y A_y n_y c_y B_y m_y d_y t_y E_y i_y e_y F_y j_y f_y)],m+1,by have:=HG.out;show _=_;omega,by go_num,hn3,each_take HM.out (Each.push hE3 hst (hst _ _ hp3)),hB9⟩
  · have hlt:¬ (m:Int) < (n:Int):=by omega
    have HQ2:Hid (Each PV.PG wr M l K):=by
     have h:=HQ.out
     rwa [List.take_of_length_le (by rw [HN.out];omega)] at h
    clear hm
    go_wp2_with fail
    (try rw [Exit.noGoto_ret])
    go_ret
    exact ⟨_,M,rfl,LT,HQ2.out,hB⟩
section
variable {W W':World} {g:Nat} {v0 v1 v2 v3 v4 v5 v6 v7 v8 v9 v10 v11 v12 v13 v14 v15 v16 v17 v18 v19 v20 v21 v22 v23:Value}
end
end
section
open Go Go.RowKit
theorem each_takeR {M:List PV} {l:List (Rat × Rat)} {K m:Nat} {P:PV} {u:Rat × Rat} (hu:l[m]?=some u) (h:Each PV.RP w (M ++ [P]) (l.take m ++ [u]) K):Each PV.RP w (M ++ [P]) (l.take (m+1)) K:=by
 obtain ⟨hm,hv⟩:=List.getElem?_eq_some_iff.1 hu
 rwa [List.take_succ_eq_append_getElem hm,hv]
theorem rins {A:Option Addr} {n c k:Nat} {L:List PV} {l:List (Rat × Rat)} (hL:SV w A (pvs L)) (hE:Each PV.PR w L l k) (hn:L.length=n) (hm:n≤1000) (hk:k≤1000) (h1:1≤k) :
 Calls Tryz.prog 9 #[.slice A n c] w (GivesLnR w l (2*k)):=by
 have HN:=Lib.hid hn
 have HLl:Hid (l.length=n):=hE.1.symm.trans hn
 have HL9:=Lib.hid hL;have E9:=Lib.hid hE;clear hL hE hn
 go_enter Tryz.func9,Tryz.ntmps9
 go_wp2_with fail
 go_loopg [3,4] n (fun gk out ix wr=>∃ (M:List PV) (m:Nat),Hid (gk+m=n)∧ix=.int .i64 (m:Int)∧Ln 45 w.heap.size wr out M∧Hid (Each PV.RP wr M (l.take m) (2*k))∧Below w.heap.size w wr)
 case atStart=>exact ⟨[],0,Nat.add_zero _,rfl,Ln.nil _ _ _,⟨rfl,fun i p u h=>by cases h⟩,Below.refl _ _⟩
 case round =>
  obtain ⟨M,m,HG,rfl,LT,HQ,hB⟩:=hrel
  by_cases hmn:m < n
  · obtain ⟨P,u,hP1,hu1,p0⟩:=(Each.belowP E9.out hB).at_ (i:=m) (by rw [HN.out];exact hmn)
    obtain ⟨g0,o0,hix0,EP,_⟩:=(HL9.out.below hB).pt hP1
    have hixa:∀ w',(Instr.indexAt 22 (.slice A n c) (.int .i64 (m:Int))).run Tryz.prog w'=.ok (.pointer (some ⟨g0,o0,none⟩)) w':=fun w'=>hix0 n c w' hmn
    have hlt:(m:Int) < (n:Int):=by omega
    have hwr:IntKind.i64.wrap ((m:Int)+1)=(m:Int)+1:=IntWalk.i64_in _ (by omega)
    have HU:=Lib.hid hu1
    have hMl:M.length≤1000000:=by have:=HQ.out.1;rw [List.length_take] at this;omega
    obtain ⟨ux,uy⟩:=u
    obtain ⟨s_x,A_x,n_x,c_x,B_x,m_x,d_x,t_x,E_x,i_x,e_x,F_x,j_x,f_x⟩:=P
    replace p0:PR wr s_x A_x n_x c_x B_x m_x d_x t_x E_x i_x e_x F_x j_x f_x ux uy k:=p0
    obtain ⟨e0,e1,e2,e3,e4,e5⟩:=EP.all
    simp only at e0 e1 e2 e3 e4 e5
    have hb:=hB;have HMN:=Lib.hid hmn;clear hP1 hu1 hix0 hmn
    go_wp2_with (first
     | (go_at_call 21;(with_reducible refine (rin6 p0 hk h1).mono ?_);rintro e w_y ⟨s_y,A_y,n_y,c_y,B_y,m_y,d_y,t_y,E_y,i_y,e_y,F_y,j_y,f_y,rfl,y,hh⟩
        replace LT:=LT.below hh
        replace HQ:=Lib.hid (Each.belowR HQ.out hh)
        replace hb:=bend hb hh)
     | (at_builtin
        have hal:Below w_y.heap.size w_y (w_y.alloc (Obj.cells #[Value.bool s_y,Value.slice A_y n_y c_y,Value.slice B_y m_y d_y,Value.bool t_y,Value.slice E_y i_y e_y,Value.slice F_y j_y f_y] 45)):=(Below.refl _ _).alloc (Nat.le_refl _) _
        refine wpList_push Tryz.underlying33 info_rpt rfl (.tmp 11) (.tmp 17) rfl (p:=(PV.mk s_y A_y n_y c_y B_y m_y d_y t_y E_y i_y e_y F_y j_y f_y)) (k0:=1) (b:=w_y.heap.size) rfl rfl (LT.below hal) (Nat.le_trans hb.size hal.size) hMl (heap_alloc_new w_y _) ?_
        intro v3 w3 hn3 hg3))
    have hE3:Each PV.RP (w_y.alloc (Obj.cells #[Value.bool s_y,Value.slice A_y n_y c_y,Value.slice B_y m_y d_y,Value.bool t_y,Value.slice E_y i_y e_y,Value.slice F_y j_y f_y] 45)) M (l.take m) (2*k):=Each.belowR HQ.out hal
    have hp3:PV.RP (w_y.alloc (Obj.cells #[Value.bool s_y,Value.slice A_y n_y c_y,Value.slice B_y m_y d_y,Value.bool t_y,Value.slice E_y i_y e_y,Value.slice F_y j_y f_y] 45)) (PV.mk s_y A_y n_y c_y B_y m_y d_y t_y E_y i_y e_y F_y j_y f_y) (ux,uy) (2*k):=RP.below y hal
    have hst:=Each.staysR hE3 (LT.below hal) hg3
    have hB9:=Ln.under (LT.below hal) hg3 (bend hb hal) (Nat.le_refl _)
    go_roundg (gk - 1)
    case measure=>have:=HG.out;have:=HMN.out;omega
    case rel=>exact ⟨M ++ [(PV.mk s_y A_y n_y c_y B_y m_y d_y t_y E_y i_y e_y F_y j_y f_y)],m+1,by have:=HG.out;have:=HMN.out;show _=_;omega,by go_num,hn3,each_takeR HU.out (Each.push hE3 hst (hst _ _ hp3)),hB9⟩
  · have hlt:¬ (m:Int) < (n:Int):=by omega
    have HQ2:Hid (Each PV.RP wr M l (2*k)):=by
     have h:=HQ.out
     rwa [List.take_of_length_le (by rw [HLl.out];omega)] at h
    clear hmn
    go_wp2_with fail
    (try rw [Exit.noGoto_ret])
    go_ret
    exact ⟨_,M,rfl,LT,HQ2.out,hB⟩
end
section
open Go Go.RowKit
def wayP (u v:Rat × Rat):Rat × Rat:=(v.1 - u.1,v.2 - u.2)
def waysL (l:List (Rat × Rat)):List (Rat × Rat):=List.zipWith wayP (ringL l) (ringL l).tail
theorem waysL_at {l:List (Rat × Rat)} {i:Nat} {u v:Rat × Rat} (hu:(ringL l)[i]?=some u) (hv:(ringL l)[i+1]?=some v):(waysL l)[i]?=some (wayP u v):=by
 unfold waysL
 rw [List.getElem?_zipWith,hu,List.getElem?_tail,hv]
theorem waysL_len (l:List (Rat × Rat)):(waysL l).length=l.length:=by
 unfold waysL
 rw [List.length_zipWith,List.length_tail]
 rcases Nat.eq_zero_or_pos l.length with h | h
 · rw [List.length_eq_zero_iff] at h;subst h;rfl
 · rw [ringL_len l h];omega
def GivesPts (w:World) (n:Nat) (l:List (Rat × Rat)) (k:Nat) (e:Ending) (w':World):Prop:=∃ g M,e=.returned (.slice (some ⟨g,0,none⟩) n n)∧w.heap.size≤g∧BoxAt 29 w' g (pvs M).toArray∧M.length=n∧Each PV.PG w' M l k∧Below w.heap.size w w'
theorem Each.boxG {T:TypeId} {w w':World} {L:List PV} {l:List (Rat × Rat)} {k g:Nat} {cs:Array Value} (h:Each PV.PG w L l k) (B:BoxAt T w g cs) (ho:Only g w w'):Each PV.PG w' L l k:=h.imp fun _ _ hp=>PG.box hp B ho
abbrev L_ways1:List Nat:=[7,8,9,10,11,3,4]
def o0_ways1:Oper:=⟨some 7,.move (.tmp 0),22, "convex.go:32",#[],none⟩
def o1_ways1:Oper:=⟨some 8,.call ⟨.value (.func 47),#[.tmp 7],#[22]⟩,22, "convex.go:32",#[⟨0,.data⟩],none⟩
def o2_ways1:Oper:=⟨some 9,.move (.tmp 0),22, "convex.go:32",#[],none⟩
def o3_ways1:Oper:=⟨some 10,.call ⟨.builtin Builtin.len,#[.tmp 9],#[22]⟩,3, "convex.go:32",#[⟨2,.data⟩],none⟩
def o4_ways1:Oper:=⟨some 11,.makeSlice 22 (.tmp 10) (.tmp 10),22, "convex.go:32",#[⟨3,.data⟩,⟨3,.data⟩],none⟩
def o5_ways1:Oper:=⟨some 3,.assign (.tmp 8),22, "convex.go:32",#[⟨1,.data⟩,⟨1,.chain⟩,⟨0,.phase⟩,⟨1,.phase⟩,⟨2,.textOnly .lateStores⟩,⟨3,.textOnly .lateStoresUnsure⟩,⟨4,.textOnly .lateStoresUnsure⟩],none⟩
def o6_ways1:Oper:=⟨some 4,.assign (.tmp 11),22, "convex.go:32",#[⟨4,.data⟩,⟨5,.chain⟩,⟨0,.phase⟩,⟨1,.phase⟩,⟨2,.phase⟩,⟨3,.phase⟩,⟨4,.phase⟩,⟨5,.phase⟩],none⟩
def F_ways1 (A:Option Addr) (n:Nat) (c:Nat) (base:Nat) (L:List PV) (sl:Nat):Value→World→Prop :=
 match sl with
 | 7=>fun x _=>x=Value.slice A n c
 | 8=>VSB (29) (base) (n) (n+min 1 n) (pvs (L ++ L.take 1))
 | 9=>fun x _=>x=Value.slice A n c
 | 10=>fun x _=>x=Value.int .i64 (n:Int)
 | 11=>VMK (29) ((pvs (List.replicate n zpv)).toArray) (n) (base)
 | 3=>VSB (29) (base) (n) (n+min 1 n) (pvs (L ++ L.take 1))
 | 4=>VMK (29) ((pvs (List.replicate n zpv)).toArray) (n) (base)
 | _=>fun _ _=>True
theorem ways1_region {id:Nat} {ac:Act} {Q:Exit→Act→World→Prop} {A:Option Addr} {n c base:Nat} {L:List PV}
 (hsz:11 < ac.tmps.size) (e0:ac.eval (.tmp 0)=Value.slice A n c) (hL:SV w A (pvs L)) (hn:L.length=n) (hm:n≤100000) (hnc:n≤c) (hbs:base≤w.heap.size)
 (hend:∀ (V:Nat→Value) (w':World),(VSB (29) (base) (n) (n+min 1 n) (pvs (L ++ L.take 1))) (V 3) w'→(VMK (29) ((pvs (List.replicate n zpv)).toArray) (n) (base)) (V 4) w'→Below w.heap.size w w'→Q .normal (putAll ac [7,8,9,10,11,3,4] V) w') :
 (Code.region id #[o0_ways1,o1_ways1,o2_ways1,o3_ways1,o4_ways1,o5_ways1,o6_ways1] true).wp Tryz.prog Q ac w:=by
 have hnd:L_ways1.Nodup:=by decide
 have G:∀ (sv:Nat→Value) (t:Nat),t ∈ L_ways1→t≤11→(putAll ac L_ways1 sv).eval (.tmp t)=sv t:=fun sv t ht h=>eval_putAll_mem (t:=t) L_ways1 ac hnd ht (Nat.lt_of_le_of_lt h hsz)
 have E0:∀ sv:Nat→Value,(putAll ac L_ways1 sv).eval (.tmp 0)=Value.slice A n c:=fun sv=>(eval_putAll_not (v:=sv) L_ways1 ac (show 0 ∉ _ by decide)).trans e0
 have NE:∀ t:Nat,(True)→∀ p ∈ ([]:List BoxOp),t ≠ p.tA:=by
  intro t ht p hp
  cases hp
 refine wp_region_flowsT L_ways1 ([]:List BoxOp) (F_ways1 A n c base L) (by kernel_rfl) (by kernel_rfl) rfl hnd ?_ ?_ ?_ ?_ ?_ ?_ ?_ ?_
 · intro p hp
   cases hp
 · intro p hp;cases hp
 · intro p hp;cases hp
 · intro i o h1 h2
   match i,h1 with
   | 0,h1=>cases h1;cases h2
   | 1,h1=>cases h1;cases h2
   | 2,h1=>cases h1;cases h2
   | 3,h1=>cases h1;cases h2
   | 4,h1=>cases h1;cases h2
   | 5,h1=>cases h1;cases h2
   | 6,h1=>cases h1;cases h2
   | i+7,h1=>cases h1
 · intro t
   unfold F_ways1
   split <;> first | exact (stays_eq _).inn _ | exact (stays_q _ _).inn _ | exact (stays_z _ _).inn _ | exact (stays_r _ _).inn _ | exact (stays_rq _ _).inn _ | exact (stays_pg _ _ _).inn _ | exact (stays_true).inn _ | exact stays_sb _ _ _ _ _ _ (fun p hp=>by cases hp) | exact stays_mk _ _ _ _ _ (fun p hp=>by cases hp)
 · intro i o t sv w' ho hia hd J0 hf
   have hL:=hL.below J0
   match i,ho with
   | 0,ho =>
     obtain rfl:o0_ways1=o:=Option.some.inj ho
     cases hd
     refine wpOp_plain' (o:=o0_ways1) rfl rfl ?_
     unfold Oper.wp o0_ways1
     rw [run_move (E0 sv),Oper.upon_value]
     exact ⟨_,rfl,Below.refl _ _,rfl⟩
   | 1,ho =>
     obtain rfl:o1_ways1=o:=Option.some.inj ho
     cases hd
     have f7:sv 7=Value.slice A n c:=hf ⟨0,.data⟩ (by simp [o1_ways1]) rfl _ 7 rfl rfl (NE _ (by decide))
     refine wpOp_plain' (o:=o1_ways1) rfl rfl ?_
     unfold Oper.wp o1_ways1
     rw [rc_gesso_area_closed_gesso_api_Pt_ ((G sv 7 (by decide) (by decide)).trans f7) rfl,Oper.upon_enter]
     refine (closed_p hL hn hm hnc (Nat.le_trans hbs J0.size)).mono ?_
     rintro e w1 ⟨A_,c_,rfl,hq,hh⟩
     exact ⟨_,rfl,hh,A_,c_,rfl,hq⟩
   | 2,ho =>
     obtain rfl:o2_ways1=o:=Option.some.inj ho
     cases hd
     refine wpOp_plain' (o:=o2_ways1) rfl rfl ?_
     unfold Oper.wp o2_ways1
     rw [run_move (E0 sv),Oper.upon_value]
     exact ⟨_,rfl,Below.refl _ _,rfl⟩
   | 3,ho =>
     obtain rfl:o3_ways1=o:=Option.some.inj ho
     cases hd
     have f9:sv 9=Value.slice A n c:=hf ⟨2,.data⟩ (by simp [o3_ways1]) rfl _ 9 rfl rfl (NE _ (by decide))
     refine wpOp_plain' (o:=o3_ways1) rfl rfl ?_
     unfold Oper.wp o3_ways1
     rw [run_len_p ((G sv 9 (by decide) (by decide)).trans f9) ,Oper.upon_value]
     exact ⟨_,rfl,Below.refl _ _,rfl⟩
   | 4,ho =>
     obtain rfl:o4_ways1=o:=Option.some.inj ho
     cases hd
     have f10:sv 10=Value.int .i64 (n:Int):=hf ⟨3,.data⟩ (by simp [o4_ways1]) rfl _ 10 rfl rfl (NE _ (by decide))
     refine wpOp_plain' (o:=o4_ways1) rfl rfl ?_
     unfold Oper.wp o4_ways1
     rw [run_make_p ((G sv 10 (by decide) (by decide)).trans f10) ((G sv 10 (by decide) (by decide)).trans f10) hm,Oper.upon_value]
     exact ⟨_,rfl,(Below.refl _ _).alloc (Nat.le_refl _) _,_,rfl,made_p w' n base (Nat.le_trans hbs J0.size)⟩
   | 5,ho =>
     obtain rfl:o5_ways1=o:=Option.some.inj ho
     cases hd
     have f:=hf ⟨1,.data⟩ (by simp [o5_ways1]) rfl _ 8 rfl rfl (NE _ (by decide))
     refine wpOp_plain' (o:=o5_ways1) rfl rfl ?_
     unfold Oper.wp o5_ways1
     rw [run_assign (G sv 8 (by decide) (by decide)),Oper.upon_value]
     exact ⟨_,rfl,Below.refl _ _,f⟩
   | 6,ho =>
     obtain rfl:o6_ways1=o:=Option.some.inj ho
     cases hd
     have f:=hf ⟨4,.data⟩ (by simp [o6_ways1]) rfl _ 11 rfl rfl (NE _ (by decide))
     refine wpOp_plain' (o:=o6_ways1) rfl rfl ?_
     unfold Oper.wp o6_ways1
     rw [run_assign (G sv 11 (by decide) (by decide)),Oper.upon_value]
     exact ⟨_,rfl,Below.refl _ _,f⟩
   | i+7,ho=>cases ho
 · intro p hp os sv w' g hos J0 p1 p3 hf
   cases hp
 · intro sv w' J0 hF hB hap
   exact hend sv w'   (hF 5 _ 3 rfl rfl (NE _ (by decide))) (hF 6 _ 4 rfl rfl (NE _ (by decide))) J0
theorem ways_p {A:Option Addr} {n c k:Nat} {L:List PV} {l:List (Rat × Rat)} (hL:SV w A (pvs L)) (hE:Each PV.PR w L l k) (hn:L.length=n) (hm:n≤1000) (hnc:n≤c) (h1:1≤k) (hk:k≤300) :
 Calls Tryz.prog 56 #[.slice A n c] w (GivesPts w n (waysL l) (k+k+1)):=by
 have HN:=Lib.hid hn;have HL0:=Lib.hid hL;have E0:=Lib.hid hE
 have HR1:Hid ((ringL L).length=n+min 1 n):=by show _=_;unfold ringL;rw [List.length_append,List.length_take,hn,Nat.min_comm]
 go_enter Tryz.func56,Tryz.ntmps56
 go_upto_region 1 with (fail)
 refine ways1_region (by simp) rfl hL hn (by omega) hnc (Nat.le_refl _) ?_
 intro V w1 hF3 hF4 hb
 obtain ⟨A1,c1,hv3,hR0⟩:=hF3
 obtain ⟨gP,hv4,hgP,hP0⟩:=hF4
 simp only [putAll,Act.put,List.setIfInBounds_toArray,List.set_cons_zero,List.set_cons_succ,hv3,hv4]
 clear hv3 hv4
 rw [show n+min 1 n=(ringL L).length from HR1.out.symm]
 generalize hN1:(ringL L).length=N1 at HR1 ⊢
 have HR2:=Lib.hid hN1;clear hN1 hL hE
 go_wp2_with fail
 go_loopg [14] n (fun gk ix wr=>∃ (M:List PV) (m:Nat),Hid (gk+m=n)∧ix=.int .i64 (m:Int)∧Hid (M.length=n)∧BoxAt 29 wr gP (pvs M).toArray∧Hid (Each PV.PG wr (M.take m) ((waysL l).take m) (k+k+1))∧SNr 29 w.heap.size n (pvs (ringL L)) wr A1∧Below w.heap.size w wr)
 case atStart=>exact ⟨List.replicate n zpv,0,Nat.add_zero _,rfl,by show _=_;rw [List.length_replicate],hP0,Each.nil,hR0,hb⟩
 case round =>
  clear hP0 hR0
  obtain ⟨M,m,HG,rfl,HM,hP,HQ,hR,hb⟩:=hrel
  by_cases hmn:m < n
  · have hmn':m < M.length:=by rw [HM.out];exact hmn
    obtain ⟨pm,hpm⟩:∃ pm,M[m]?=some pm:=⟨_,List.getElem?_eq_getElem hmn'⟩
    have HPM:=Lib.hid hpm
    have HL1:=Lib.hid hmn'
    have hixq:∀ w',(Instr.indexAt 22 (.slice (some ⟨gP,0,none⟩) n n) (.int .i64 (m:Int))).run Tryz.prog w'=.ok (.pointer (some ⟨gP,m*6,none⟩)) w':=idx_pt hmn
    obtain ⟨P,u,hP1,hu1,p⟩:=(E0.out.imp (fun p u h=>PR.below h hb)).at_ (i:=m) (by rw [HN.out];exact hmn)
    obtain ⟨Q,v,hP2,hu2,q⟩:=(E0.out.imp (fun p u h=>PR.below h hb)).ring.at_ (i:=m+1) (by have h:=HR1.out;have h2:=HR2.out;rw [h2,h];omega)
    have hv1:(ringL l)[m]?=some u:=by rw [ringL_at (by rw [← E0.out.1,HN.out];exact hmn)];exact hu1
    obtain ⟨g0,o0,hix0,E,_⟩:=(HL0.out.below hb).pt hP1
    obtain ⟨g1,o1,hix1,E',o1_,hA1⟩:=(hR.sv (by omega)).pt hP2
    have hixa:∀ w',(Instr.indexAt 22 (.slice A n c) (.int .i64 (m:Int))).run Tryz.prog w'=.ok (.pointer (some ⟨g0,o0,none⟩)) w':=fun w'=>hix0 n c w' hmn
    have hixb:∀ w',(Instr.indexAt 22 (.slice A1 N1 c1) (.int .i64 ((m:Int)+1))).run Tryz.prog w'=.ok (.pointer (some ⟨g1,o1,none⟩)) w':=fun w'=>hix1 N1 c1 w' (by have:=HR1.out;omega)
    have hwr:IntKind.i64.wrap ((m:Int)+1)=(m:Int)+1:=IntWalk.i64_in _ (by omega)
    have hlt:(m:Int) < (n:Int):=by omega
    have HU:=Lib.hid hv1;have HV:=Lib.hid hu2
    obtain ⟨ux,uy⟩:=u
    obtain ⟨vx,vy⟩:=v
    obtain ⟨s_p,A_p,n_p,c_p,B_p,m_p,d_p,t_p,E_p,i_p,e_p,F_p,j_p,f_p⟩:=P
    obtain ⟨s_q,A_q,n_q,c_q,B_q,m_q,d_q,t_q,E_q,i_q,e_q,F_q,j_q,f_q⟩:=Q
    replace p:PR wr s_p A_p n_p c_p B_p m_p d_p t_p E_p i_p e_p F_p j_p f_p ux uy k:=p
    replace q:PR wr s_q A_q n_q c_q B_q m_q d_q t_q E_q i_q e_q F_q j_q f_q vx vy k:=q
    have hgg:g1 ≠ gP:=by
     obtain ⟨g2,e2,_,cs2,h3,h4,_⟩:=hR (by omega)
     rw [hA1] at e2
     cases e2
     refine BoxAt.ne h3 hP (.inr ?_)
     rw [show (pvs (ringL L)).length=(ringL L).length*6 from rows_length pvc_len _,HR2.out,HR1.out] at h4
     have e5:(pvs M).toArray.size=n*6:=by rw [List.size_toArray,show (pvs M).length=M.length*6 from rows_length pvc_len _,HM.out]
     rw [e5]
     omega
    obtain ⟨e0,e1,e2,e3,e4,e5⟩:=E.all
    simp only at e0 e1 e2 e3 e4 e5
    clear hpm hP1 hP2 hu1 hu2 hix0 hix1 hA1 hv1 hmn' hmn
    go_upto_region 5 with (fail)
    replace HQ:=HQ.out
    have hx1:wr.heap.size ≠ gP:=by have:=hP.lt;omega
    generalize hW:World.alloc _ _=W2
    obtain ⟨hh,X,hzW2⟩:=mkbx18_10 hW;clear hW;(try replace p:=p.below hh);(try replace q:=q.below hh);(try replace hP:=hP.below hh);(try replace HQ:=HQ.below hh);(try replace hR:=hR.below hh)
    try replace E':=E'.below hh
    replace hb:=bend hb hh
    replace p:=p.below (Below.refl _ _).drew
    replace q:=q.below (Below.refl _ _).drew
    replace hP:=hP.below (Below.refl _ _).drew
    replace HQ:=HQ.below (Below.refl _ _).drew
    replace hR:=hR.below (Below.refl _ _).drew
    replace E':=E'.below (Below.refl _ _).drew
    replace X:=X.below (Below.refl _ _).drew
    replace hb:=hb.drew
    go_region_held3 (fun w'=>w'.cell? ⟨wr.heap.size,0,none⟩=some (.bool s_p)∧w'.cell? ⟨wr.heap.size,1,none⟩=some (.slice A_p n_p c_p)∧w'.cell? ⟨wr.heap.size,2,none⟩=some (.slice B_p m_p d_p)∧w'.cell? ⟨wr.heap.size,3,none⟩=some (.bool t_p)∧w'.cell? ⟨wr.heap.size,4,none⟩=some (.slice E_p i_p e_p)∧w'.cell? ⟨wr.heap.size,5,none⟩=some (.slice F_p j_p f_p)∧w'.cell? ⟨g1,o1,none⟩=some (.bool s_q)∧w'.cell? ⟨g1,o1+1,none⟩=some (.slice A_q n_q c_q)∧w'.cell? ⟨g1,o1+2,none⟩=some (.slice B_q m_q d_q)∧w'.cell? ⟨g1,o1+3,none⟩=some (.bool t_q)∧w'.cell? ⟨g1,o1+4,none⟩=some (.slice E_q i_q e_q)∧w'.cell? ⟨g1,o1+5,none⟩=some (.slice F_q j_q f_q))
     (first | with_reducible exact ⟨X.c0,X.c1,X.c2,X.c3,X.c4,X.c5,E'.c0,E'.c1,E'.c2,E'.c3,E'.c4,E'.c5⟩ | with_reducible exact ⟨(setp_cell _ _ _ _ _ _ _ _ _ _ _ hx1).trans X.c0,(setp_cell _ _ _ _ _ _ _ _ _ _ _ hx1).trans X.c1,(setp_cell _ _ _ _ _ _ _ _ _ _ _ hx1).trans X.c2,(setp_cell _ _ _ _ _ _ _ _ _ _ _ hx1).trans X.c3,(setp_cell _ _ _ _ _ _ _ _ _ _ _ hx1).trans X.c4,(setp_cell _ _ _ _ _ _ _ _ _ _ _ hx1).trans X.c5,(setp_cell _ _ _ _ _ _ _ _ _ _ _ hgg).trans E'.c0,(setp_cell _ _ _ _ _ _ _ _ _ _ _ hgg).trans E'.c1,(setp_cell _ _ _ _ _ _ _ _ _ _ _ hgg).trans E'.c2,(setp_cell _ _ _ _ _ _ _ _ _ _ _ hgg).trans E'.c3,(setp_cell _ _ _ _ _ _ _ _ _ _ _ hgg).trans E'.c4,(setp_cell _ _ _ _ _ _ _ _ _ _ _ hgg).trans E'.c5⟩)
     (first
     | (go_at_call 77;(with_reducible refine (psub_p q p hk hk (.inl (by omega)) h1 h1).mono ?_);rintro e w_r ⟨s_r,A_r,n_r,c_r,B_r,m_r,d_r,t_r,E_r,i_r,e_r,F_r,j_r,f_r,rfl,r,hh⟩
        (try replace p:=p.below hh);(try replace q:=q.below hh);(try replace hP:=hP.below hh);(try replace HQ:=HQ.below hh);(try replace hR:=hR.below hh)
        try replace E':=E'.below hh
        (try replace X:=X.below hh);replace hb:=bend hb hh;have Eq:=hP.p6 HPM.out;obtain ⟨q0,q1,q2,q3,q4,q5⟩:=Eq.all
        have qf0:=hP.frz (j:=m*6)
        have qf1:=hP.frz (j:=m*6+1)
        have qf2:=hP.frz (j:=m*6+2)
        have qf3:=hP.frz (j:=m*6+3)
        have qf4:=hP.frz (j:=m*6+4)
        have qf5:=hP.frz (j:=m*6+5)))
    have ho:=onlyp w_r gP (m*6) (.bool s_r) (.slice A_r n_r c_r) (.slice B_r m_r d_r) (.bool t_r) (.slice E_r i_r e_r) (.slice F_r j_r f_r)
    have hP2:=hP.setp HL1.out (PV.mk s_r A_r n_r c_r B_r m_r d_r t_r E_r i_r e_r F_r j_r f_r)
    replace r:=PG.box r hP ho
    replace HQ:=(Each.boxG HQ hP ho).push (p:=(PV.mk s_r A_r n_r c_r B_r m_r d_r t_r E_r i_r e_r F_r j_r f_r)) (fun _ _ h=>h) (show PV.PG _ (PV.mk s_r A_r n_r c_r B_r m_r d_r t_r E_r i_r e_r F_r j_r f_r) (vx - ux,vy - uy) (k+k+1) from r)
    replace hR:=hR.box hP (.inr (by
     rw [List.size_toArray,show (pvs M).length=M.length*6 from rows_length pvc_len _,HM.out,show (pvs (ringL L)).length=(ringL L).length*6 from rows_length pvc_len _,HR2.out,HR1.out];omega)) ho
    replace hb:=Below.only hb (by omega) hb.size ho
    have hcr:(waysL l)[m]?=some (vx - ux,vy - uy):=waysL_at HU.out HV.out
    rw [← take_snoc hcr,← take_set HL1.out (PV.mk s_r A_r n_r c_r B_r m_r d_r t_r E_r i_r e_r F_r j_r f_r)] at HQ
    clear hP ho Eq q0 qf0 q1 qf1 q2 qf2 q3 qf3 q4 qf4 q5 qf5 E' X p q hcr
    generalize ((((((w_r.setCell ⟨gP,m*6,none⟩ (.bool s_r)).setCell ⟨gP,m*6+1,none⟩ (.slice A_r n_r c_r)).setCell ⟨gP,m*6+2,none⟩ (.slice B_r m_r d_r)).setCell ⟨gP,m*6+3,none⟩ (.bool t_r)).setCell ⟨gP,m*6+4,none⟩ (.slice E_r i_r e_r)).setCell ⟨gP,m*6+5,none⟩ (.slice F_r j_r f_r))=W3 at *
    go_wp2_with fail
    go_roundg (gk - 1)
    case measure=>have:=HG.out;omega
    case rel=>exact ⟨M.set m (PV.mk s_r A_r n_r c_r B_r m_r d_r t_r E_r i_r e_r F_r j_r f_r),m+1,by have:=HG.out;show _=_;omega,by go_num,by show _=_;rw [List.length_set];exact HM.out,hP2,HQ,hR,hb⟩
  · have hlt:¬ (m:Int) < (n:Int):=by omega
    obtain rfl:m=n:=by have:=HG.out;omega
    replace HQ:=HQ.out
    rw [List.take_of_length_le (by rw [HM.out];exact Nat.le_refl _),List.take_of_length_le (by rw [waysL_len,← E0.out.1,HN.out];exact Nat.le_refl _)] at HQ
    clear hmn hR
    go_wp2_with fail
    (try rw [Exit.noGoto_ret])
    go_ret
    exact ⟨gP,M,rfl,hgP,hP,HM.out,HQ,hb⟩
end
end Go.Proofs.YtlogpjeoapeojaaGreat
