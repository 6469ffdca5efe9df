/- AreaCuts: part 15. -/
import Derived.Test.YthbhngeiiabagaaGreatKAreaCuts9
import Derived.Test.YthbhngeiiabagaaGreatKAreaCuts11
import Derived.Test.YthbhngeiiabagaaGreatKAreaCuts12
import Derived.Test.YthbhngeiiabagaaGreatKAreaCuts14
set_option linter.unusedVariables false
set_option maxRecDepth 100000
set_option maxHeartbeats 16000000
variable {w:Go.World}
variable {s_p t_p:Bool} {A_p B_p E_p F_p:Option Go.Addr} {n_p c_p m_p d_p i_p e_p j_p f_p:Nat}
variable {s_q t_q:Bool} {A_q B_q E_q F_q:Option Go.Addr} {n_q c_q m_q d_q i_q e_q j_q f_q:Nat}
variable {s_r t_r:Bool} {A_r B_r E_r F_r:Option Go.Addr} {n_r c_r m_r d_r i_r e_r j_r f_r:Nat}
namespace Go.Proofs.YthbhngeiiabagaaGreat
section
open Go Go.RowKit
theorem Qom {w W:World} {x0 x1 x2 x3 x4 x5 x6 x7 x8 x9 x10 x11:Value} (h:((w.alloc (Obj.cells #[x0,x1,x2,x3,x4,x5] 29)).alloc (Obj.cells #[x6,x7,x8,x9,x10,x11] 44))=W):Below w.heap.size w W∧B6 W (w.heap.size) x0 x1 x2 x3 x4 x5∧B6R W (w.heap.size+1) x6 x7 x8 x9 x10 x11∧W.heap.size=w.heap.size+2:=by subst h;exact ⟨by exact (((Below.refl _ _).alloc (Nat.le_refl _) _).alloc (by simp) _),by exact (B6.new' _ _ _ _ _ _ _ _ rfl).alloc _,by exact B6R.new' _ _ _ _ _ _ _ _ (by simp),by simp⟩
theorem rin6 {k:Nat} {x y:Rat} (p:PR w s_p A_p n_p c_p B_p m_p d_p t_p E_p i_p e_p F_p j_p f_p x y k) (hk:k≤1000) (h1:1≤k) :
 Calls Tryz.prog 9 #[.agg #[.bool s_p,.slice A_p n_p c_p,.slice B_p m_p d_p,.bool t_p,.slice E_p i_p e_p,.slice F_p j_p f_p]] w (QkB w x y (2*k)):=by
 go_enter Tryz.func9,Tryz.ntmps9
 go_upto_region 1 with (fail)
 generalize hW:World.alloc _ _=W
 obtain ⟨hb,XA,Z,hzW⟩:=Qom hW;clear hW;replace p:=p.below hb
 replace p:=p.below (Below.refl _ _).drew
 replace XA:=XA.below (Below.refl _ _).drew
 replace Z:=Z.below (Below.refl _ _).drew
 replace hb:=hb.drew
 go_region_held3 (fun w'=>w'.cell? ⟨w.heap.size,0,none⟩=some (.bool s_p)∧w'.cell? ⟨w.heap.size,1,none⟩=some (.slice A_p n_p c_p)∧w'.cell? ⟨w.heap.size,2,none⟩=some (.slice B_p m_p d_p)∧w'.cell? ⟨w.heap.size,3,none⟩=some (.bool t_p)∧w'.cell? ⟨w.heap.size,4,none⟩=some (.slice E_p i_p e_p)∧w'.cell? ⟨w.heap.size,5,none⟩=some (.slice F_p j_p f_p))
  (first | with_reducible exact ⟨XA.c0,XA.c1,XA.c2,XA.c3,XA.c4,XA.c5⟩ | with_reducible exact ⟨(Qat _ _ _ _ _ _ _ _ _ _ (by omega)).trans XA.c0,(Qat _ _ _ _ _ _ _ _ _ _ (by omega)).trans XA.c1,(Qat _ _ _ _ _ _ _ _ _ _ (by omega)).trans XA.c2,(Qat _ _ _ _ _ _ _ _ _ _ (by omega)).trans XA.c3,(Qat _ _ _ _ _ _ _ _ _ _ (by omega)).trans XA.c4,(Qat _ _ _ _ _ _ _ _ _ _ (by omega)).trans XA.c5⟩)
  (first
  | (go_at_call 22;(with_reducible refine (rin3 p.qx hk h1).mono ?_);rintro e w_r ⟨s_r,A_r,n_r,c_r,B_r,m_r,d_r,rfl,r,hh⟩
     (try replace p:=p.below hh);(try replace XA:=XA.below hh);(try replace Z:=Z.below hh);replace hb:=Qaj hb hh)
  | (go_at_call 22;(with_reducible refine (rin3 p.qy hk h1).mono ?_);rintro e w_u ⟨s_u,A_u,n_u,c_u,B_u,m_u,d_u,rfl,u,hh⟩
     (try replace p:=p.below hh);(try replace r:=r.below hh);(try replace XA:=XA.below hh);(try replace Z:=Z.below hh);replace hb:=Qaj hb hh;have zg0:=Z.f0;have zg1:=Z.f1;have zg2:=Z.f2;have zg3:=Z.f3;have zg4:=Z.f4;have zg5:=Z.f5;obtain ⟨zc0,zc1,zc2,zc3,zc4,zc5⟩:=Z.all))
 go_wp2_with fail
 have Z2:=Z.set6 (.bool s_r) (.slice A_r n_r c_r) (.slice B_r m_r d_r) (.bool s_u) (.slice A_u n_u c_u) (.slice B_u m_u d_u)
 obtain ⟨g0,g1,g2,g3,g4,g5⟩:=Z2.all
 refine bodyPost_ret (v:=.agg #[.bool s_r,.slice A_r n_r c_r,.slice B_r m_r d_r,.bool s_u,.slice A_u n_u c_u,.slice B_u m_u d_u]) (by simp [results,Tryz.results9,go_sem,g0,g1,g2,g3,g4,g5]) rfl ?_
 exact ⟨_,_,_,_,_,_,_,_,_,_,_,_,_,_,rfl,(show RP _ _ _ _ _ _ _ _ _ _ _ _ _ _ _ _ _ _ from ⟨r,u⟩).set6 Z _ _ _ _ _ _,QaE hb (by omega) _ _ _ _ _ _⟩
theorem Qjo {w W:World} {x0 x1 x2 x3 x4 x5 x6 x7 x8 x9 x10 x11 x12 x13 x14 x15 x16 x17:Value} (h:(((w.alloc (Obj.cells #[x0,x1,x2,x3,x4,x5] 44)).alloc (Obj.cells #[x6,x7,x8,x9,x10,x11] 44)).alloc (Obj.cells #[x12,x13,x14,x15,x16,x17] 44))=W):Below w.heap.size w W∧B6R W (w.heap.size) x0 x1 x2 x3 x4 x5∧B6R W (w.heap.size+1) x6 x7 x8 x9 x10 x11∧B6R W (w.heap.size+1+1) x12 x13 x14 x15 x16 x17∧W.heap.size=w.heap.size+3:=by subst h;exact ⟨by exact ((((Below.refl _ _).alloc (Nat.le_refl _) _).alloc (by simp) _).alloc (by simp;omega) _),by exact ((B6R.new' _ _ _ _ _ _ _ _ rfl).alloc _).alloc _,by exact (B6R.new' _ _ _ _ _ _ _ _ (by simp)).alloc _,by exact B6R.new' _ _ _ _ _ _ _ _ (by simp),by simp⟩
theorem rsub6 {k k2:Nat} {x y x2 y2:Rat} (p:RP w s_p A_p n_p c_p B_p m_p d_p t_p E_p i_p e_p F_p j_p f_p x y k) (q:RP w s_q A_q n_q c_q B_q m_q d_q t_q E_q i_q e_q F_q j_q f_q x2 y2 k2) (hk:k≤3000) (hk2:k2≤3000) :
 Calls Tryz.prog 49 #[.agg #[.bool s_p,.slice A_p n_p c_p,.slice B_p m_p d_p,.bool t_p,.slice E_p i_p e_p,.slice F_p j_p f_p],.agg #[.bool s_q,.slice A_q n_q c_q,.slice B_q m_q d_q,.bool t_q,.slice E_q i_q e_q,.slice F_q j_q f_q]] w (QkB w (x - x2) (y - y2) (k+k2+1)):=by
 go_enter Tryz.func49,Tryz.ntmps49
 go_upto_region 1 with (fail)
 generalize hW:World.alloc _ _=W
 obtain ⟨hb,XA,XB,Z,hzW⟩:=Qjo hW;clear hW;replace p:=p.below hb;replace q:=q.below hb
 replace p:=p.below (Below.refl _ _).drew
 replace q:=q.below (Below.refl _ _).drew
 replace XA:=XA.below (Below.refl _ _).drew
 replace XB:=XB.below (Below.refl _ _).drew
 replace Z:=Z.below (Below.refl _ _).drew
 replace hb:=hb.drew
 go_region_held3 (fun w'=>w'.cell? ⟨w.heap.size,0,none⟩=some (.bool s_p)∧w'.cell? ⟨w.heap.size,1,none⟩=some (.slice A_p n_p c_p)∧w'.cell? ⟨w.heap.size,2,none⟩=some (.slice B_p m_p d_p)∧w'.cell? ⟨w.heap.size,3,none⟩=some (.bool t_p)∧w'.cell? ⟨w.heap.size,4,none⟩=some (.slice E_p i_p e_p)∧w'.cell? ⟨w.heap.size,5,none⟩=some (.slice F_p j_p f_p)∧w'.cell? ⟨w.heap.size+1,0,none⟩=some (.bool s_q)∧w'.cell? ⟨w.heap.size+1,1,none⟩=some (.slice A_q n_q c_q)∧w'.cell? ⟨w.heap.size+1,2,none⟩=some (.slice B_q m_q d_q)∧w'.cell? ⟨w.heap.size+1,3,none⟩=some (.bool t_q)∧w'.cell? ⟨w.heap.size+1,4,none⟩=some (.slice E_q i_q e_q)∧w'.cell? ⟨w.heap.size+1,5,none⟩=some (.slice F_q j_q f_q))
  (first | with_reducible exact ⟨XA.c0,XA.c1,XA.c2,XA.c3,XA.c4,XA.c5,XB.c0,XB.c1,XB.c2,XB.c3,XB.c4,XB.c5⟩ | with_reducible exact ⟨(Qat _ _ _ _ _ _ _ _ _ _ (by omega)).trans XA.c0,(Qat _ _ _ _ _ _ _ _ _ _ (by omega)).trans XA.c1,(Qat _ _ _ _ _ _ _ _ _ _ (by omega)).trans XA.c2,(Qat _ _ _ _ _ _ _ _ _ _ (by omega)).trans XA.c3,(Qat _ _ _ _ _ _ _ _ _ _ (by omega)).trans XA.c4,(Qat _ _ _ _ _ _ _ _ _ _ (by omega)).trans XA.c5,(Qat _ _ _ _ _ _ _ _ _ _ (by omega)).trans XB.c0,(Qat _ _ _ _ _ _ _ _ _ _ (by omega)).trans XB.c1,(Qat _ _ _ _ _ _ _ _ _ _ (by omega)).trans XB.c2,(Qat _ _ _ _ _ _ _ _ _ _ (by omega)).trans XB.c3,(Qat _ _ _ _ _ _ _ _ _ _ (by omega)).trans XB.c4,(Qat _ _ _ _ _ _ _ _ _ _ (by omega)).trans XB.c5⟩)
  (first
  | (go_at_call 86;(with_reducible refine (QrX p.qx q.qx (by omega) (by omega)).mono ?_);rintro e w_r ⟨s_r,A_r,n_r,c_r,B_r,m_r,d_r,rfl,r,hh⟩
     (try replace p:=p.below hh);(try replace q:=q.below hh);(try replace XA:=XA.below hh);(try replace XB:=XB.below hh);(try replace Z:=Z.below hh);replace hb:=Qaj hb hh)
  | (go_at_call 86;(with_reducible refine (QrX p.qy q.qy (by omega) (by omega)).mono ?_);rintro e w_u ⟨s_u,A_u,n_u,c_u,B_u,m_u,d_u,rfl,u,hh⟩
     (try replace p:=p.below hh);(try replace q:=q.below hh);(try replace r:=r.below hh);(try replace XA:=XA.below hh);(try replace XB:=XB.below hh);(try replace Z:=Z.below hh);replace hb:=Qaj hb hh;have zg0:=Z.f0;have zg1:=Z.f1;have zg2:=Z.f2;have zg3:=Z.f3;have zg4:=Z.f4;have zg5:=Z.f5;obtain ⟨zc0,zc1,zc2,zc3,zc4,zc5⟩:=Z.all))
 go_wp2_with fail
 have Z2:=Z.set6 (.bool s_r) (.slice A_r n_r c_r) (.slice B_r m_r d_r) (.bool s_u) (.slice A_u n_u c_u) (.slice B_u m_u d_u)
 obtain ⟨g0,g1,g2,g3,g4,g5⟩:=Z2.all
 refine bodyPost_ret (v:=.agg #[.bool s_r,.slice A_r n_r c_r,.slice B_r m_r d_r,.bool s_u,.slice A_u n_u c_u,.slice B_u m_u d_u]) (by simp [results,Tryz.results49,go_sem,g0,g1,g2,g3,g4,g5]) rfl ?_
 exact ⟨_,_,_,_,_,_,_,_,_,_,_,_,_,_,rfl,(show RP _ _ _ _ _ _ _ _ _ _ _ _ _ _ _ _ _ _ from ⟨r,u⟩).set6 Z _ _ _ _ _ _,QaE hb (by omega) _ _ _ _ _ _⟩
theorem QnO {w W:World} {x0 x1 x2 x3 x4 x5 x6 x7 x8 x9 x10 x11 x12 x13 x14:Value} (h:(((w.alloc (Obj.cells #[x0,x1,x2,x3,x4,x5] 44)).alloc (Obj.cells #[x6,x7,x8,x9,x10,x11] 44)).alloc (Obj.cells #[x12,x13,x14] 42))=W):Below w.heap.size w W∧B6R W (w.heap.size) x0 x1 x2 x3 x4 x5∧B6R W (w.heap.size+1) x6 x7 x8 x9 x10 x11∧B3R W (w.heap.size+1+1) x12 x13 x14∧W.heap.size=w.heap.size+3:=by subst h;exact ⟨by exact ((((Below.refl _ _).alloc (Nat.le_refl _) _).alloc (by simp) _).alloc (by simp;omega) _),by exact ((B6R.new' _ _ _ _ _ _ _ _ rfl).alloc _).alloc _,by exact (B6R.new' _ _ _ _ _ _ _ _ (by simp)).alloc _,by exact B3R.new' _ _ _ _ _ (by simp),by simp⟩
theorem Qr9 {k k2:Nat} {x y x2 y2:Rat} (p:RP w s_p A_p n_p c_p B_p m_p d_p t_p E_p i_p e_p F_p j_p f_p x y k) (q:RP w s_q A_q n_q c_q B_q m_q d_q t_q E_q i_q e_q F_q j_q f_q x2 y2 k2) (hk:k≤3000) (hk2:k2≤3000) :
 Calls Tryz.prog 48 #[.agg #[.bool s_p,.slice A_p n_p c_p,.slice B_p m_p d_p,.bool t_p,.slice E_p i_p e_p,.slice F_p j_p f_p],.agg #[.bool s_q,.slice A_q n_q c_q,.slice B_q m_q d_q,.bool t_q,.slice E_q i_q e_q,.slice F_q j_q f_q]] w (Qcm w (x*y2 - y*x2) (k+k2+(k+k2)+1)):=by
 go_enter Tryz.func48,Tryz.ntmps48
 go_upto_region 1 with (fail)
 generalize hW:World.alloc _ _=W
 obtain ⟨hb,XA,XB,Z,hzW⟩:=QnO hW;clear hW;replace p:=p.below hb;replace q:=q.below hb
 replace p:=p.below (Below.refl _ _).drew
 replace q:=q.below (Below.refl _ _).drew
 replace XA:=XA.below (Below.refl _ _).drew
 replace XB:=XB.below (Below.refl _ _).drew
 replace Z:=Z.below (Below.refl _ _).drew
 replace hb:=hb.drew
 go_region_held3 (fun w'=>w'.cell? ⟨w.heap.size,0,none⟩=some (.bool s_p)∧w'.cell? ⟨w.heap.size,1,none⟩=some (.slice A_p n_p c_p)∧w'.cell? ⟨w.heap.size,2,none⟩=some (.slice B_p m_p d_p)∧w'.cell? ⟨w.heap.size,3,none⟩=some (.bool t_p)∧w'.cell? ⟨w.heap.size,4,none⟩=some (.slice E_p i_p e_p)∧w'.cell? ⟨w.heap.size,5,none⟩=some (.slice F_p j_p f_p)∧w'.cell? ⟨w.heap.size+1,0,none⟩=some (.bool s_q)∧w'.cell? ⟨w.heap.size+1,1,none⟩=some (.slice A_q n_q c_q)∧w'.cell? ⟨w.heap.size+1,2,none⟩=some (.slice B_q m_q d_q)∧w'.cell? ⟨w.heap.size+1,3,none⟩=some (.bool t_q)∧w'.cell? ⟨w.heap.size+1,4,none⟩=some (.slice E_q i_q e_q)∧w'.cell? ⟨w.heap.size+1,5,none⟩=some (.slice F_q j_q f_q))
  (first | with_reducible exact ⟨XA.c0,XA.c1,XA.c2,XA.c3,XA.c4,XA.c5,XB.c0,XB.c1,XB.c2,XB.c3,XB.c4,XB.c5⟩ | with_reducible exact ⟨(Qac _ _ _ _ _ _ _ (by omega)).trans XA.c0,(Qac _ _ _ _ _ _ _ (by omega)).trans XA.c1,(Qac _ _ _ _ _ _ _ (by omega)).trans XA.c2,(Qac _ _ _ _ _ _ _ (by omega)).trans XA.c3,(Qac _ _ _ _ _ _ _ (by omega)).trans XA.c4,(Qac _ _ _ _ _ _ _ (by omega)).trans XA.c5,(Qac _ _ _ _ _ _ _ (by omega)).trans XB.c0,(Qac _ _ _ _ _ _ _ (by omega)).trans XB.c1,(Qac _ _ _ _ _ _ _ (by omega)).trans XB.c2,(Qac _ _ _ _ _ _ _ (by omega)).trans XB.c3,(Qac _ _ _ _ _ _ _ (by omega)).trans XB.c4,(Qac _ _ _ _ _ _ _ (by omega)).trans XB.c5⟩)
  (first
  | (go_at_call 87;(with_reducible refine (rmul3 p.qx q.qy (by omega) (by omega)).mono ?_);rintro e w_r ⟨s_r,A_r,n_r,c_r,B_r,m_r,d_r,rfl,r,hh⟩
     (try replace p:=p.below hh);(try replace q:=q.below hh);(try replace XA:=XA.below hh);(try replace XB:=XB.below hh);(try replace Z:=Z.below hh);replace hb:=Qaj hb hh)
  | (go_at_call 87;(with_reducible refine (rmul3 p.qy q.qx (by omega) (by omega)).mono ?_);rintro e w_u ⟨s_u,A_u,n_u,c_u,B_u,m_u,d_u,rfl,u,hh⟩
     (try replace p:=p.below hh);(try replace q:=q.below hh);(try replace r:=r.below hh);(try replace XA:=XA.below hh);(try replace XB:=XB.below hh);(try replace Z:=Z.below hh);replace hb:=Qaj hb hh)
  | (go_at_call 86;(with_reducible refine (QrX r u (by omega) (by omega)).mono ?_);rintro e w_v ⟨s_v,A_v,n_v,c_v,B_v,m_v,d_v,rfl,v,hh⟩
     (try replace XA:=XA.below hh);(try replace XB:=XB.below hh);(try replace Z:=Z.below hh);replace hb:=Qaj hb hh;have zf0:=Z.f0;have zf1:=Z.f1;have zf2:=Z.f2;obtain ⟨z0,z1,z2⟩:=Z.all))
 go_wp2_with fail
 have Z2:=Z.set3 (.bool s_v) (.slice A_v n_v c_v) (.slice B_v m_v d_v)
 obtain ⟨g0,g1,g2⟩:=Z2.all
 refine bodyPost_ret (v:=.agg #[.bool s_v,.slice A_v n_v c_v,.slice B_v m_v d_v]) (by simp [results,Tryz.results48,go_sem,g0,g1,g2]) rfl ?_
 exact ⟨s_v,A_v,n_v,c_v,B_v,m_v,d_v,rfl,v.set3 Z _ _ _,Qao hb (by omega) _ _ _⟩
theorem Qjk {w W:World} {x0 x1 x2 x3 x4 x5 x6 x7 x8 x9 x10 x11:Value} (h:((w.alloc (Obj.cells #[x0,x1,x2,x3,x4,x5] 44)).alloc (Obj.cells #[x6,x7,x8,x9,x10,x11] 44))=W):Below w.heap.size w W∧B6R W (w.heap.size) x0 x1 x2 x3 x4 x5∧B6R W (w.heap.size+1) x6 x7 x8 x9 x10 x11∧W.heap.size=w.heap.size+2:=by subst h;exact ⟨by exact (((Below.refl _ _).alloc (Nat.le_refl _) _).alloc (by simp) _),by exact (B6R.new' _ _ _ _ _ _ _ _ rfl).alloc _,by exact B6R.new' _ _ _ _ _ _ _ _ (by simp),by simp⟩
theorem Qol {k k2:Nat} {x y x2 y2:Rat} (p:RP w s_p A_p n_p c_p B_p m_p d_p t_p E_p i_p e_p F_p j_p f_p x y k) (q:RP w s_q A_q n_q c_q B_q m_q d_q t_q E_q i_q e_q F_q j_q f_q x2 y2 k2) (hk:k≤3000) (hk2:k2≤3000) (hx:x ≠ x2) :
 Calls Tryz.prog 8 #[.agg #[.bool s_p,.slice A_p n_p c_p,.slice B_p m_p d_p,.bool t_p,.slice E_p i_p e_p,.slice F_p j_p f_p],.agg #[.bool s_q,.slice A_q n_q c_q,.slice B_q m_q d_q,.bool t_q,.slice E_q i_q e_q,.slice F_q j_q f_q]] w fun e w'=>e=.returned (.bool (false))∧Below w.heap.size w w':=by
 obtain ⟨K,hK,hK0⟩:∃ K,Qdf x x2=K∧((K:Int) == 0)=false:=⟨_,rfl,by simpa using fun q=>hx (cmpQ_nul.1 q)⟩
 have HK:=Lib.hid hK;clear hK hx
 go_enter Tryz.func8,Tryz.ntmps8
 go_wp2_with fail
 generalize hW:World.alloc _ _=W
 obtain ⟨hb,XA,XB,hzW⟩:=Qjk hW;clear hW;replace p:=p.below hb;replace q:=q.below hb;obtain ⟨xa0,xa1,xa2,xa3,xa4,xa5⟩:=XA.all;obtain ⟨xb0,xb1,xb2,xb3,xb4,xb5⟩:=XB.all
 go_wp2_with (first
  | (go_at_call 21;(with_reducible refine (Qsw p.qx q.qx (by omega) (by omega)).mono ?_);rintro e w_z ⟨rfl,hh⟩
     rw [HK.out];(try replace p:=p.below hh);(try replace q:=q.below hh);(try replace XA:=XA.below hh);(try replace XB:=XB.below hh);replace hb:=Qaj hb hh;obtain ⟨xa0,xa1,xa2,xa3,xa4,xa5⟩:=XA.all;obtain ⟨xb0,xb1,xb2,xb3,xb4,xb5⟩:=XB.all))
 go_ret;exact ⟨rfl,hb⟩
theorem QnH {k k2:Nat} {x y x2 y2:Rat} (p:RP w s_p A_p n_p c_p B_p m_p d_p t_p E_p i_p e_p F_p j_p f_p x y k) (q:RP w s_q A_q n_q c_q B_q m_q d_q t_q E_q i_q e_q F_q j_q f_q x2 y2 k2) (hk:k≤3000) (hk2:k2≤3000) (hx:x=x2) :
 Calls Tryz.prog 8 #[.agg #[.bool s_p,.slice A_p n_p c_p,.slice B_p m_p d_p,.bool t_p,.slice E_p i_p e_p,.slice F_p j_p f_p],.agg #[.bool s_q,.slice A_q n_q c_q,.slice B_q m_q d_q,.bool t_q,.slice E_q i_q e_q,.slice F_q j_q f_q]] w fun e w'=>e=.returned (.bool (Qdf y y2 == 0))∧Below w.heap.size w w':=by
 have HK:Hid (Qdf x x2=0):=cmpQ_nul.2 hx
 obtain ⟨M,hM⟩:∃ M,Qdf y y2=M:=⟨_,rfl⟩
 have HM:=Lib.hid hM;clear hM hx
 go_enter Tryz.func8,Tryz.ntmps8
 go_wp2_with fail
 generalize hW:World.alloc _ _=W
 obtain ⟨hb,XA,XB,hzW⟩:=Qjk hW;clear hW;replace p:=p.below hb;replace q:=q.below hb;obtain ⟨xa0,xa1,xa2,xa3,xa4,xa5⟩:=XA.all;obtain ⟨xb0,xb1,xb2,xb3,xb4,xb5⟩:=XB.all
 go_wp2_with (first
  | (go_at_call 21;(with_reducible refine (Qsw p.qx q.qx (by omega) (by omega)).mono ?_);rintro e w_z ⟨rfl,hh⟩
     rw [HK.out];(try replace p:=p.below hh);(try replace q:=q.below hh);(try replace XA:=XA.below hh);(try replace XB:=XB.below hh);replace hb:=Qaj hb hh;obtain ⟨xa0,xa1,xa2,xa3,xa4,xa5⟩:=XA.all;obtain ⟨xb0,xb1,xb2,xb3,xb4,xb5⟩:=XB.all)
  | (go_at_call 21;(with_reducible refine (Qsw p.qy q.qy (by omega) (by omega)).mono ?_);rintro e w_z ⟨rfl,hh⟩
     rw [HM.out];(try replace p:=p.below hh);(try replace q:=q.below hh);(try replace XA:=XA.below hh);(try replace XB:=XB.below hh);replace hb:=Qaj hb hh;obtain ⟨xa0,xa1,xa2,xa3,xa4,xa5⟩:=XA.all;obtain ⟨xb0,xb1,xb2,xb3,xb4,xb5⟩:=XB.all))
 go_ret
 exact ⟨by rw [HM.out];first | rfl | simp,hb⟩
theorem Qjp {k k2:Nat} {x y x2 y2:Rat} (p:RP w s_p A_p n_p c_p B_p m_p d_p t_p E_p i_p e_p F_p j_p f_p x y k) (q:RP w s_q A_q n_q c_q B_q m_q d_q t_q E_q i_q e_q F_q j_q f_q x2 y2 k2) (hk:k≤3000) (hk2:k2≤3000) (R:Bool) (hR:decide (x=x2∧y=y2)=R) :
 Calls Tryz.prog 8 #[.agg #[.bool s_p,.slice A_p n_p c_p,.slice B_p m_p d_p,.bool t_p,.slice E_p i_p e_p,.slice F_p j_p f_p],.agg #[.bool s_q,.slice A_q n_q c_q,.slice B_q m_q d_q,.bool t_q,.slice E_q i_q e_q,.slice F_q j_q f_q]] w fun e w'=>e=.returned (.bool R)∧Below w.heap.size w w':=by
 subst hR
 by_cases h:x=x2
 · have:=QnH p q hk hk2 h
   rwa [show (Qdf y y2 == 0)=decide (x=x2∧y=y2) from by
    by_cases h':y=y2
    · rw [decide_eq_true ⟨h,h'⟩,cmpQ_nul.2 h'];rfl
    · rw [decide_eq_false (fun q=>h' q.2)];simpa using fun q=>h' (cmpQ_nul.1 q)] at this
 · have:=Qol p q hk hk2 h
   rwa [show false=decide (x=x2∧y=y2) from (decide_eq_false (fun q=>h q.1)).symm] at this
end
section
open Go Go.RowKit
theorem RP.box {T:TypeId} {w w':World} {g:Nat} {cs:Array Value} {s t:Bool} {A B E F:Option Addr} {n c m d i e j f:Nat} {x y:Rat} {k:Nat} (h:RP w s A n c B m d t E i e F j f x y k) (Z:BoxAt T w g cs) (ho:Only g w w'):RP w' s A n c B m d t E i e F j f x y k:=⟨h.1.box Z ho,h.2.box Z ho⟩
theorem Qhz {e1:Operand→Value} {d1:Option Tmp} {y1:Nat} {pos:String} {af:Array Edge} :
 (execOp e1 ⟨d1,.alloc 44,y1,pos,af,none⟩).run Tryz.prog w=.ok (.value (.pointer (some ⟨w.heap.size,0,none⟩))) (w.alloc (.cells #[.bool false,.slice none 0 0,.slice none 0 0,.bool false,.slice none 0 0,.slice none 0 0] 44)):=by
 go_simp
theorem Qmu {e1:Operand→Value} {x1 z1:Operand} {d1:Option Tmp} {y1 g:Nat} {pos:String} {af:Array Edge} {s t:Bool} {A B E F:Option Addr} {n c m d i e j f:Nat} {v0 v1 v2 v3 v4 v5:Value} (h:e1 x1=.pointer (some ⟨g,0,none⟩)) (hz:e1 z1=.agg #[.bool s,.slice A n c,.slice B m d,.bool t,.slice E i e,.slice F j f]) (Z:B6R w g v0 v1 v2 v3 v4 v5) :
 (execOp e1 ⟨d1,.store 44 x1 z1,y1,pos,af,none⟩).run Tryz.prog w=.ok .skip ((((((w.setCell ⟨g,0,none⟩ (.bool s)).setCell ⟨g,1,none⟩ (.slice A n c)).setCell ⟨g,2,none⟩ (.slice B m d)).setCell ⟨g,3,none⟩ (.bool t)).setCell ⟨g,4,none⟩ (.slice E i e)).setCell ⟨g,5,none⟩ (.slice F j f)):=by
 obtain ⟨c0,c1,c2,c3,c4,c5⟩:=Z.all;have f0:=Z.f0;have f1:=Z.f1;have f2:=Z.f2;have f3:=Z.f3;have f4:=Z.f4;have f5:=Z.f5
 go_simp
end
section
open Go Go.RowKit
theorem Qlr {k:Nat} {ax ay bx by_ cx cy:Rat} (p:RP w s_p A_p n_p c_p B_p m_p d_p t_p E_p i_p e_p F_p j_p f_p ax ay k) (q:RP w s_q A_q n_q c_q B_q m_q d_q t_q E_q i_q e_q F_q j_q f_q bx by_ k) (r:RP w s_r A_r n_r c_r B_r m_r d_r t_r E_r i_r e_r F_r j_r f_r cx cy k) (hk:k≤300) (K:Int) (hK:Qck ((bx - ax)*(cy - ay) - (by_ - ay)*(cx - ax))=K) :
 Calls Tryz.prog 20 #[.agg #[.bool s_p,.slice A_p n_p c_p,.slice B_p m_p d_p,.bool t_p,.slice E_p i_p e_p,.slice F_p j_p f_p],.agg #[.bool s_q,.slice A_q n_q c_q,.slice B_q m_q d_q,.bool t_q,.slice E_q i_q e_q,.slice F_q j_q f_q],.agg #[.bool s_r,.slice A_r n_r c_r,.slice B_r m_r d_r,.bool t_r,.slice E_r i_r e_r,.slice F_r j_r f_r]] w fun e w'=>e=.returned (.int .i64 K)∧Below w.heap.size w w':=by
 have HK:=Lib.hid hK;clear hK
 go_enter Tryz.func20,Tryz.ntmps20
 go_upto_region 1 with (fail)
 generalize hW:World.alloc _ _=W
 obtain ⟨hb,XA,XB,XC,hzW⟩:=Qjo hW;clear hW;replace p:=p.below hb;replace q:=q.below hb;replace r:=r.below hb
 replace p:=p.below (Below.refl _ _).drew
 replace q:=q.below (Below.refl _ _).drew
 replace r:=r.below (Below.refl _ _).drew
 replace XA:=XA.below (Below.refl _ _).drew
 replace XB:=XB.below (Below.refl _ _).drew
 replace XC:=XC.below (Below.refl _ _).drew
 replace hb:=hb.drew
 go_region_held3 (fun w'=>w'.cell? ⟨w.heap.size,0,none⟩=some (.bool s_p)∧w'.cell? ⟨w.heap.size,1,none⟩=some (.slice A_p n_p c_p)∧w'.cell? ⟨w.heap.size,2,none⟩=some (.slice B_p m_p d_p)∧w'.cell? ⟨w.heap.size,3,none⟩=some (.bool t_p)∧w'.cell? ⟨w.heap.size,4,none⟩=some (.slice E_p i_p e_p)∧w'.cell? ⟨w.heap.size,5,none⟩=some (.slice F_p j_p f_p)∧w'.cell? ⟨w.heap.size+1,0,none⟩=some (.bool s_q)∧w'.cell? ⟨w.heap.size+1,1,none⟩=some (.slice A_q n_q c_q)∧w'.cell? ⟨w.heap.size+1,2,none⟩=some (.slice B_q m_q d_q)∧w'.cell? ⟨w.heap.size+1,3,none⟩=some (.bool t_q)∧w'.cell? ⟨w.heap.size+1,4,none⟩=some (.slice E_q i_q e_q)∧w'.cell? ⟨w.heap.size+1,5,none⟩=some (.slice F_q j_q f_q)∧w'.cell? ⟨w.heap.size+1+1,0,none⟩=some (.bool s_r)∧w'.cell? ⟨w.heap.size+1+1,1,none⟩=some (.slice A_r n_r c_r)∧w'.cell? ⟨w.heap.size+1+1,2,none⟩=some (.slice B_r m_r d_r)∧w'.cell? ⟨w.heap.size+1+1,3,none⟩=some (.bool t_r)∧w'.cell? ⟨w.heap.size+1+1,4,none⟩=some (.slice E_r i_r e_r)∧w'.cell? ⟨w.heap.size+1+1,5,none⟩=some (.slice F_r j_r f_r))
  (first | with_reducible exact ⟨XA.c0,XA.c1,XA.c2,XA.c3,XA.c4,XA.c5,XB.c0,XB.c1,XB.c2,XB.c3,XB.c4,XB.c5,XC.c0,XC.c1,XC.c2,XC.c3,XC.c4,XC.c5⟩)
  (first
  | (go_at_call 49;(with_reducible refine (rsub6 q p (by omega) (by omega)).mono ?_);rintro e w_a ⟨s_a,A_a,n_a,c_a,B_a,m_a,d_a,t_a,E_a,i_a,e_a,F_a,j_a,f_a,rfl,a,hh⟩
     (try replace p:=p.below hh);(try replace q:=q.below hh);(try replace r:=r.below hh);(try replace XA:=XA.below hh);(try replace XB:=XB.below hh);(try replace XC:=XC.below hh);replace hb:=Qaj hb hh)
  | (go_at_call 49;(with_reducible refine (rsub6 r p (by omega) (by omega)).mono ?_);rintro e w_b ⟨s_b,A_b,n_b,c_b,B_b,m_b,d_b,t_b,E_b,i_b,e_b,F_b,j_b,f_b,rfl,b,hh⟩
     (try replace p:=p.below hh);(try replace q:=q.below hh);(try replace r:=r.below hh);(try replace XA:=XA.below hh);(try replace XB:=XB.below hh);(try replace XC:=XC.below hh);(try replace a:=a.below hh);replace hb:=Qaj hb hh)
  | (go_at_call 48;(with_reducible refine (Qr9 a b (by omega) (by omega)).mono ?_);rintro e w_v ⟨s_v,A_v,n_v,c_v,B_v,m_v,d_v,rfl,v,hh⟩
     (try replace XA:=XA.below hh);(try replace XB:=XB.below hh);(try replace XC:=XC.below hh);replace hb:=Qaj hb hh)
  | (go_at_call 50;(with_reducible refine (rsign3 v).mono ?_);rintro e w_z ⟨rfl,hh⟩
     rw [HK.out];(try replace XA:=XA.below hh);(try replace XB:=XB.below hh);(try replace XC:=XC.below hh);replace hb:=Qaj hb hh))
 go_wp2_with fail
 go_ret;exact ⟨rfl,hb⟩
end
section
open Go Go.RowKit
end
section
open Go Go.RowKit
theorem Each.belowR {w w':World} {L:List PV} {l:List (Rat × Rat)} {k:Nat} (h:Each PV.RP w L l k) (hb:Below w.heap.size w w'):Each PV.RP w' L l k:=h.imp fun _ _ hp=>RP.below hp hb
theorem Each.staysR {T:TypeId} {base:Nat} {w w':World} {v:Value} {M L:List PV} {l:List (Rat × Rat)} {k:Nat} (_h:Each PV.RP w L l k) (hn:Ln T base w v M) (hg:w.grownBy w' v.ownBlock):∀ p u,PV.RP w p u k→PV.RP w' p u k:=fun p u hp=>by
 rcases hn.stays hg with q | ⟨g,cs,hB,_,ho⟩
 · exact RP.below hp q
 · exact RP.box hp hB ho
def QqJ (w:World) (l:List (Rat × Rat)) (k:Nat) (en:Ending) (w':World):Prop :=
 ∃ v L,en=.returned v∧Ln 44 w.heap.size w' v L∧Each PV.RP w' L l k∧Below w.heap.size w w'
end
section
open Go Go.RowKit
def PV.small (M:Nat) (p:PV):Prop:=(p.n≤M∧p.m≤M)∧p.i≤M∧p.j≤M
instance (M:Nat) (p:PV):Decidable (p.small M):=by unfold PV.small;exact inferInstance
theorem Each.belowP {w w':World} {L:List PV} {l:List (Rat × Rat)} {k:Nat} (h:Each PV.PR w L l k) (hb:Below w.heap.size w w'):Each PV.PR w' L l k:=h.imp fun _ _ hp=>PR.below hp hb
theorem Qp0 (M:Nat) (h:¬ (n_p≤M∧m_p≤M)) :
 Calls Tryz.prog 47 #[.agg #[.bool s_p,.slice A_p n_p c_p,.slice B_p m_p d_p,.bool t_p,.slice E_p i_p e_p,.slice F_p j_p f_p],.int .i64 (M:Int)] w fun e w'=>e=.returned (.bool false)∧Below w.heap.size w w':=by
 have HL:Hid (decide (n_p≤M∧m_p≤M)=false):=decide_eq_false h
 clear h
 go_enter Tryz.func47,Tryz.ntmps47
 go_wp2_with fail
 generalize hW:World.alloc _ _=W
 obtain ⟨hb,XA,hzW⟩:=QaD hW;clear hW;obtain ⟨xa0,xa1,xa2,xa3,xa4,xa5⟩:=XA.all
 go_wp2_with (first
  | (go_at_call 85;(with_reducible refine (Qio M (s:=s_p) (A:=A_p) (n:=n_p) (c:=c_p) (A':=B_p) (n':=m_p) (c':=d_p) _ false HL.out).mono ?_);rintro e w_z ⟨rfl,hh⟩
     replace hb:=Qaj hb hh;replace XA:=XA.below hh;obtain ⟨xa0,xa1,xa2,xa3,xa4,xa5⟩:=XA.all))
 (try rw [Exit.noGoto_ret])
 go_ret;exact ⟨rfl,hb⟩
theorem Qqe (M:Nat) (h:n_p≤M∧m_p≤M) :
 Calls Tryz.prog 47 #[.agg #[.bool s_p,.slice A_p n_p c_p,.slice B_p m_p d_p,.bool t_p,.slice E_p i_p e_p,.slice F_p j_p f_p],.int .i64 (M:Int)] w fun e w'=>e=.returned (.bool (decide (i_p≤M∧j_p≤M)))∧Below w.heap.size w w':=by
 have HL:Hid (decide (n_p≤M∧m_p≤M)=true):=decide_eq_true h
 obtain ⟨T,hM⟩:∃ T,decide (i_p≤M∧j_p≤M)=T:=⟨_,rfl⟩
 have HM:=Lib.hid hM;rw [hM];clear hM;clear h
 go_enter Tryz.func47,Tryz.ntmps47
 go_wp2_with fail
 generalize hW:World.alloc _ _=W
 obtain ⟨hb,XA,hzW⟩:=QaD hW;clear hW;obtain ⟨xa0,xa1,xa2,xa3,xa4,xa5⟩:=XA.all
 go_wp2_with (first
  | (go_at_call 85;(with_reducible refine (Qio M (s:=s_p) (A:=A_p) (n:=n_p) (c:=c_p) (A':=B_p) (n':=m_p) (c':=d_p) _ true HL.out).mono ?_);rintro e w_z ⟨rfl,hh⟩
     replace hb:=Qaj hb hh;replace XA:=XA.below hh;obtain ⟨xa0,xa1,xa2,xa3,xa4,xa5⟩:=XA.all)
  | (go_at_call 85;(with_reducible refine (Qio M (s:=t_p) (A:=E_p) (n:=i_p) (c:=e_p) (A':=F_p) (n':=j_p) (c':=f_p) _ T HM.out).mono ?_);rintro e w_z ⟨rfl,hh⟩
     replace hb:=Qaj hb hh))
 (try rw [Exit.noGoto_ret])
 go_ret;exact ⟨rfl,hb⟩
theorem Qrl (M:Nat) (R:Bool) (hR:decide ((PV.mk s_p A_p n_p c_p B_p m_p d_p t_p E_p i_p e_p F_p j_p f_p).small M)=R) :
 Calls Tryz.prog 47 #[.agg #[.bool s_p,.slice A_p n_p c_p,.slice B_p m_p d_p,.bool t_p,.slice E_p i_p e_p,.slice F_p j_p f_p],.int .i64 (M:Int)] w fun e w'=>e=.returned (.bool R)∧Below w.heap.size w w':=by
 subst hR
 show Calls _ _ _ _ fun e w'=>e=.returned (.bool (decide ((n_p≤M∧m_p≤M)∧i_p≤M∧j_p≤M)))∧_
 by_cases h:n_p≤M∧m_p≤M
 · have e:decide (i_p≤M∧j_p≤M)=decide ((n_p≤M∧m_p≤M)∧i_p≤M∧j_p≤M):=by simp [h]
   rw [← e];exact Qqe M h
 · have e:false=decide ((n_p≤M∧m_p≤M)∧i_p≤M∧j_p≤M):=by simp [h]
   rw [← e];exact Qp0 M h
theorem QkA (M:Nat) {MI:Int} (hMI:MI=(M:Int)) {A:Option Addr} {n c:Nat} {L:List PV} (hL:SV w A (pvs L)) (hn:L.length=n) (hm:n≤100000) (_hnc:n≤c) (R:Bool) (hR0:R=true ↔ ∀ p ∈ L,p.small M) :
 Calls Tryz.prog 19 #[.slice A n c,.int .i64 MI] w fun e w'=>e=.returned (.bool R)∧Below w.heap.size w w':=by
 subst hMI
 have HN:=Lib.hid hn;have HL0:=Lib.hid hL;have HR0:=Lib.hid hR0;clear hR0 hL
 go_enter Tryz.func19,Tryz.ntmps19
 go_wp2_with fail
 go_loopg [5] n (fun gk ix wr=>∃ (m:Nat),Hid (gk+m=n)∧ix=.int .i64 (m:Int)∧Hid (∀ (i:Nat) (p:PV),i < m→L[i]?=some p→p.small M)∧Below w.heap.size w wr)
 case atStart=>exact ⟨0,Nat.add_zero _,rfl,fun i p hi=>absurd hi (by omega),Below.refl _ _⟩
 case round =>
  obtain ⟨m,HG,rfl,HS,hb⟩:=hrel
  by_cases hmn:m < n
  · have HMN:=Lib.hid hmn
    obtain ⟨P,hP1⟩:∃ P,L[m]?=some P:=⟨_,List.getElem?_eq_getElem (by rw [HN.out];exact hmn)⟩
    obtain ⟨g0,o0,hix0,E,_⟩:=(HL0.out.below hb).pt hP1
    have hixa:∀ w',(Instr.indexAt 22 (.slice A n c) (.int .i64 (m:Int))).run Tryz.prog w'=.ok (.pointer (some ⟨g0,o0,none⟩)) w':=fun w'=>hix0 n c w' hmn
    have hlt:(m:Int) < (n:Int):=by omega
    have hwr:IntKind.i64.wrap ((m:Int)+1)=(m:Int)+1:=IntWalk.i64_in _ (by omega)
    have HP1:=Lib.hid hP1
    obtain ⟨s_p,A_p,n_p,c_p,B_p,m_p,d_p,t_p,E_p,i_p,e_p,F_p,j_p,f_p⟩:=P
    obtain ⟨e0,e1,e2,e3,e4,e5⟩:=E.all
    simp only at e0 e1 e2 e3 e4 e5
    clear hP1 hix0 hmn
    by_cases hs:(PV.mk s_p A_p n_p c_p B_p m_p d_p t_p E_p i_p e_p F_p j_p f_p).small M
    · have HSM:Hid (decide ((PV.mk s_p A_p n_p c_p B_p m_p d_p t_p E_p i_p e_p F_p j_p f_p).small M)=true):=decide_eq_true hs
      clear hs
      go_wp2_with (first
       | (go_at_call 47;(with_reducible refine (Qrl M true HSM.out).mono ?_);rintro e w_z ⟨rfl,hh⟩
          replace hb:=Qaj hb hh))
      go_roundg (gk - 1)
      case measure=>have:=HG.out;have:=HMN.out;omega
      case rel =>
       refine ⟨m+1,by have:=HG.out;have:=HMN.out;show _=_;omega,by go_num,fun i p hi h5=>?_,hb⟩
       rcases Nat.lt_or_ge i m with h | h
       · exact HS.out i p h h5
       · obtain rfl:i=m:=by omega
         rw [HP1.out] at h5;cases h5;exact of_decide_eq_true HSM.out
    · have HSM:Hid (decide ((PV.mk s_p A_p n_p c_p B_p m_p d_p t_p E_p i_p e_p F_p j_p f_p).small M)=false):=decide_eq_false hs
      have HF:Hid (false=R):=by
       show _=_
       cases R with
       | false=>rfl
       | true=>exact absurd (HR0.out.1 rfl _ (List.mem_of_getElem? HP1.out)) hs
      clear hs
      go_wp2_with (first
       | (go_at_call 47;(with_reducible refine (Qrl M false HSM.out).mono ?_);rintro e w_z ⟨rfl,hh⟩
          replace hb:=Qaj hb hh))
      (try rw [Exit.noGoto_ret])
      go_ret
      exact ⟨by rw [← HF.out];rfl,hb⟩
  · have hlt:¬ (m:Int) < (n:Int):=by omega
    have HT:Hid (true=R):=by
     refine (HR0.out.2 fun p hp=>?_).symm
     obtain ⟨i,hi⟩:=List.getElem?_of_mem hp
     have h7:=(List.getElem?_eq_some_iff.1 hi).1
     rw [HN.out] at h7
     exact HS.out i p (by omega) hi
    clear hmn
    go_wp2_with fail
    (try rw [Exit.noGoto_ret])
    go_ret
    exact ⟨by rw [← HT.out];rfl,hb⟩
theorem Qoj {A:Option Addr} {n c N:Nat} {NI:Int} (hNI:NI=(N:Int)) {L:List PV} (hL:SV w A (pvs L)) (hn:L.length=n) (hm:N≤100000) (hnc:n≤c) (hN:n≤N) (R:Bool) (hR0:R=true ↔ ∀ p ∈ L,p.small 4) :
 Calls Tryz.prog 4 #[.slice A n c,.int .i64 NI] w fun e w'=>e=.returned (.bool R)∧Below w.heap.size w w':=by
 subst hNI
 have HR:=Lib.hid hR0
 have H6:Hid ((4:Int)=((4:Nat):Int)):=rfl
 clear hR0
 have hb:Below w.heap.size w w:=Below.refl _ _
 have h4:(n:Int)≤(N:Int):=by omega
 go_enter Tryz.func4,Tryz.ntmps4
 go_wp2_with (first
  | (go_at_call 19;(with_reducible refine (QkA 4 H6.out hL hn (by omega) hnc R HR.out).mono ?_);rintro e w_z ⟨rfl,hh⟩
     replace hb:=Qaj hb hh))
 (try rw [Exit.noGoto_ret])
 go_ret;exact ⟨rfl,hb⟩
theorem Qst {A:Option Addr} {n c N:Nat} {NI:Int} (hNI:NI=(N:Int)) {L:List PV} (_hL:SV w A (pvs L)) (_hn:L.length=n) (_hnc:n≤c) (hN:¬ n≤N) :
 Calls Tryz.prog 4 #[.slice A n c,.int .i64 NI] w fun e w'=>e=.returned (.bool false)∧Below w.heap.size w w':=by
 subst hNI
 have hb:Below w.heap.size w w:=Below.refl _ _
 have h4:¬ (n:Int)≤(N:Int):=by omega
 go_enter Tryz.func4,Tryz.ntmps4
 go_wp2_with fail
 (try rw [Exit.noGoto_ret])
 go_ret;exact ⟨rfl,hb⟩
end
section
open Go Go.RowKit
section
variable {W W':World} {g:Nat} {v0 v1 v2 v3 v4 v5 v6 v7 v8 v9 v10 v11 v12 v13 v14 v15 v16 v17 v18 v19 v20 v21 v22 v23:Value}
end
section
variable {W W':World} {g:Nat} {v0 v1 v2 v3 v4 v5 v6 v7 v8 v9 v10 v11 v12 v13 v14 v15 v16 v17 v18 v19 v20 v21 v22 v23:Value}
end
end
section
open Go Go.RowKit
def BL (K:Nat) (l:List (Rat × Rat)):Prop:=∀ u ∈ l,u.1.num.natAbs < B64 ^ K∧u.1.den < B64 ^ K∧u.2.num.natAbs < B64 ^ K∧u.2.den < B64 ^ K
section
variable {W W':World} {g:Nat} {v0 v1 v2 v3 v4 v5 v6 v7 v8 v9 v10 v11 v12 v13 v14 v15 v16 v17 v18 v19 v20 v21 v22 v23:Value}
end
end
section
open Go Go.RowKit
theorem Ql7 {M:List PV} {l:List (Rat × Rat)} {K m:Nat} {P:PV} {u:Rat × Rat} (hu:l[m]?=some u) (h:Each PV.RP w (M ++ [P]) (l.take m ++ [u]) K):Each PV.RP w (M ++ [P]) (l.take (m+1)) K:=by
 obtain ⟨hm,hv⟩:=List.getElem?_eq_some_iff.1 hu
 rwa [List.take_succ_eq_append_getElem hm,hv]
theorem rins {A:Option Addr} {n c k:Nat} {L:List PV} {l:List (Rat × Rat)} (hL:SV w A (pvs L)) (hE:Each PV.PR w L l k) (hn:L.length=n) (hm:n≤1000) (hk:k≤1000) (h1:1≤k) :
 Calls Tryz.prog 7 #[.slice A n c] w (QqJ w l (2*k)):=by
 have HN:=Lib.hid hn
 have HLl:Hid (l.length=n):=hE.1.symm.trans hn
 have HL9:=Lib.hid hL;have E9:=Lib.hid hE;clear hL hE hn
 go_enter Tryz.func7,Tryz.ntmps7
 go_wp2_with fail
 go_loopg [3,4] n (fun gk out ix wr=>∃ (M:List PV) (m:Nat),Hid (gk+m=n)∧ix=.int .i64 (m:Int)∧Ln 44 w.heap.size wr out M∧Hid (Each PV.RP wr M (l.take m) (2*k))∧Below w.heap.size w wr)
 case atStart=>exact ⟨[],0,Nat.add_zero _,rfl,Ln.nil _ _ _,⟨rfl,fun i p u h=>by cases h⟩,Below.refl _ _⟩
 case round =>
  obtain ⟨M,m,HG,rfl,LT,HQ,hB⟩:=hrel
  by_cases hmn:m < n
  · obtain ⟨P,u,hP1,hu1,p0⟩:=(Each.belowP E9.out hB).at_ (i:=m) (by rw [HN.out];exact hmn)
    obtain ⟨g0,o0,hix0,EP,_⟩:=(HL9.out.below hB).pt hP1
    have hixa:∀ w',(Instr.indexAt 22 (.slice A n c) (.int .i64 (m:Int))).run Tryz.prog w'=.ok (.pointer (some ⟨g0,o0,none⟩)) w':=fun w'=>hix0 n c w' hmn
    have hlt:(m:Int) < (n:Int):=by omega
    have hwr:IntKind.i64.wrap ((m:Int)+1)=(m:Int)+1:=IntWalk.i64_in _ (by omega)
    have HU:=Lib.hid hu1
    have hMl:M.length≤1000000:=by have:=HQ.out.1;rw [List.length_take] at this;omega
    obtain ⟨ux,uy⟩:=u
    obtain ⟨s_x,A_x,n_x,c_x,B_x,m_x,d_x,t_x,E_x,i_x,e_x,F_x,j_x,f_x⟩:=P
    replace p0:PR wr s_x A_x n_x c_x B_x m_x d_x t_x E_x i_x e_x F_x j_x f_x ux uy k:=p0
    obtain ⟨e0,e1,e2,e3,e4,e5⟩:=EP.all
    simp only at e0 e1 e2 e3 e4 e5
    have hb:=hB;have HMN:=Lib.hid hmn;clear hP1 hu1 hix0 hmn
    go_wp2_with (first
     | (go_at_call 9;(with_reducible refine (rin6 p0 hk h1).mono ?_);rintro e w_y ⟨s_y,A_y,n_y,c_y,B_y,m_y,d_y,t_y,E_y,i_y,e_y,F_y,j_y,f_y,rfl,y,hh⟩
        replace LT:=LT.below hh
        replace HQ:=Lib.hid (Each.belowR HQ.out hh)
        replace hb:=Qaj hb hh)
     | (at_builtin
        have hal:Below w_y.heap.size w_y (w_y.alloc (Obj.cells #[Value.bool s_y,Value.slice A_y n_y c_y,Value.slice B_y m_y d_y,Value.bool t_y,Value.slice E_y i_y e_y,Value.slice F_y j_y f_y] 44)):=(Below.refl _ _).alloc (Nat.le_refl _) _
        refine Qdo Tryz.underlying34 Qp2 rfl (.tmp 11) (.tmp 17) rfl (p:=(PV.mk s_y A_y n_y c_y B_y m_y d_y t_y E_y i_y e_y F_y j_y f_y)) (k0:=1) (b:=w_y.heap.size) rfl rfl (LT.below hal) (Nat.le_trans hb.size hal.size) hMl (heap_alloc_new w_y _) ?_
        intro v3 w3 hn3 hg3))
    have hE3:Each PV.RP (w_y.alloc (Obj.cells #[Value.bool s_y,Value.slice A_y n_y c_y,Value.slice B_y m_y d_y,Value.bool t_y,Value.slice E_y i_y e_y,Value.slice F_y j_y f_y] 44)) M (l.take m) (2*k):=Each.belowR HQ.out hal
    have hp3:PV.RP (w_y.alloc (Obj.cells #[Value.bool s_y,Value.slice A_y n_y c_y,Value.slice B_y m_y d_y,Value.bool t_y,Value.slice E_y i_y e_y,Value.slice F_y j_y f_y] 44)) (PV.mk s_y A_y n_y c_y B_y m_y d_y t_y E_y i_y e_y F_y j_y f_y) (ux,uy) (2*k):=RP.below y hal
    have hst:=Each.staysR hE3 (LT.below hal) hg3
    have hB9:=Ln.under (LT.below hal) hg3 (Qaj hb hal) (Nat.le_refl _)
    go_roundg (gk - 1)
    case measure=>have:=HG.out;have:=HMN.out;omega
    case rel=>exact ⟨M ++ [(PV.mk s_y A_y n_y c_y B_y m_y d_y t_y E_y i_y e_y F_y j_y f_y)],m+1,by have:=HG.out;have:=HMN.out;show _=_;omega,by go_num,hn3,Ql7 HU.out (Each.push hE3 hst (hst _ _ hp3)),hB9⟩
  · have hlt:¬ (m:Int) < (n:Int):=by omega
    have HQ2:Hid (Each PV.RP wr M l (2*k)):=by
     have h:=HQ.out
     rwa [List.take_of_length_le (by rw [HLl.out];omega)] at h
    clear hmn
    go_wp2_with fail
    (try rw [Exit.noGoto_ret])
    go_ret
    exact ⟨_,M,rfl,LT,HQ2.out,hB⟩
end
section
open Go Go.RowKit
def wayP (u v:Rat × Rat):Rat × Rat:=(v.1 - u.1,v.2 - u.2)
def QbV (l:List (Rat × Rat)):List (Rat × Rat):=List.zipWith wayP (Qav l) (Qav l).tail
theorem QlN {l:List (Rat × Rat)} {i:Nat} {u v:Rat × Rat} (hu:(Qav l)[i]?=some u) (hv:(Qav l)[i+1]?=some v):(QbV l)[i]?=some (wayP u v):=by
 unfold QbV
 rw [List.getElem?_zipWith,hu,List.getElem?_tail,hv]
theorem QcE (l:List (Rat × Rat)):(QbV l).length=l.length:=by
 unfold QbV
 rw [List.length_zipWith,List.length_tail]
 rcases Nat.eq_zero_or_pos l.length with h | h
 · rw [List.length_eq_zero_iff] at h;subst h;rfl
 · rw [QbK l h];omega
def QpZ (w:World) (n:Nat) (l:List (Rat × Rat)) (k:Nat) (e:Ending) (w':World):Prop:=∃ g M,e=.returned (.slice (some ⟨g,0,none⟩) n n)∧w.heap.size≤g∧BoxAt 29 w' g (pvs M).toArray∧M.length=n∧Each PV.PG w' M l k∧Below w.heap.size w w'
theorem Each.boxG {T:TypeId} {w w':World} {L:List PV} {l:List (Rat × Rat)} {k g:Nat} {cs:Array Value} (h:Each PV.PG w L l k) (B:BoxAt T w g cs) (ho:Only g w w'):Each PV.PG w' L l k:=h.imp fun _ _ hp=>PG.box hp B ho
abbrev L_ways1:List Nat:=[7,8,9,10,11,3,4]
def QfS:Oper:=⟨some 7,.move (.tmp 0),22, "convex.go:32",#[],none⟩
def Qfm:Oper:=⟨some 8,.call ⟨.value (.func 36),#[.tmp 7],#[22]⟩,22, "convex.go:32",#[⟨0,.data⟩],none⟩
def Qf5:Oper:=⟨some 9,.move (.tmp 0),22, "convex.go:32",#[],none⟩
def QeW:Oper:=⟨some 10,.call ⟨.builtin Builtin.len,#[.tmp 9],#[22]⟩,3, "convex.go:32",#[⟨2,.data⟩],none⟩
def Qfi:Oper:=⟨some 11,.makeSlice 22 (.tmp 10) (.tmp 10),22, "convex.go:32",#[⟨3,.data⟩,⟨3,.data⟩],none⟩
def QeO:Oper:=⟨some 3,.assign (.tmp 8),22, "convex.go:32",#[⟨1,.data⟩,⟨1,.chain⟩,⟨0,.phase⟩,⟨1,.phase⟩,⟨2,.textOnly .lateStores⟩,⟨3,.textOnly .lateStoresUnsure⟩,⟨4,.textOnly .lateStoresUnsure⟩],none⟩
def QeM:Oper:=⟨some 4,.assign (.tmp 11),22, "convex.go:32",#[⟨4,.data⟩,⟨5,.chain⟩,⟨0,.phase⟩,⟨1,.phase⟩,⟨2,.phase⟩,⟨3,.phase⟩,⟨4,.phase⟩,⟨5,.phase⟩],none⟩
def Qn4 (A:Option Addr) (n:Nat) (c:Nat) (base:Nat) (L:List PV) (sl:Nat):Value→World→Prop :=
 match sl with
 | 7=>fun x _=>x=Value.slice A n c
 | 8=>VSB (29) (base) (n) (n+min 1 n) (pvs (L ++ L.take 1))
 | 9=>fun x _=>x=Value.slice A n c
 | 10=>fun x _=>x=Value.int .i64 (n:Int)
 | 11=>VMK (29) ((pvs (List.replicate n zpv)).toArray) (n) (base)
 | 3=>VSB (29) (base) (n) (n+min 1 n) (pvs (L ++ L.take 1))
 | 4=>VMK (29) ((pvs (List.replicate n zpv)).toArray) (n) (base)
 | _=>fun _ _=>True
theorem QjW {id:Nat} {ac:Act} {Q:Exit→Act→World→Prop} {A:Option Addr} {n c base:Nat} {L:List PV}
 (hsz:11 < ac.tmps.size) (e0:ac.eval (.tmp 0)=Value.slice A n c) (hL:SV w A (pvs L)) (hn:L.length=n) (hm:n≤100000) (hnc:n≤c) (hbs:base≤w.heap.size)
 (hend:∀ (V:Nat→Value) (w':World),(VSB (29) (base) (n) (n+min 1 n) (pvs (L ++ L.take 1))) (V 3) w'→(VMK (29) ((pvs (List.replicate n zpv)).toArray) (n) (base)) (V 4) w'→Below w.heap.size w w'→Q .normal (Qam ac [7,8,9,10,11,3,4] V) w') :
 (Code.region id #[QfS,Qfm,Qf5,QeW,Qfi,QeO,QeM] true).wp Tryz.prog Q ac w:=by
 have hnd:L_ways1.Nodup:=by decide
 have G:∀ (sv:Nat→Value) (t:Nat),t ∈ L_ways1→t≤11→(Qam ac L_ways1 sv).eval (.tmp t)=sv t:=fun sv t ht h=>Qaz (t:=t) L_ways1 ac hnd ht (Nat.lt_of_le_of_lt h hsz)
 have E0:∀ sv:Nat→Value,(Qam ac L_ways1 sv).eval (.tmp 0)=Value.slice A n c:=fun sv=>(Qap (v:=sv) L_ways1 ac (show 0 ∉ _ by decide)).trans e0
 have NE:∀ t:Nat,(True)→∀ p ∈ ([]:List QbU),t ≠ p.tA:=by
  intro t ht p hp
  cases hp
 refine QaB L_ways1 ([]:List QbU) (Qn4 A n c base L) (by kernel_rfl) (by kernel_rfl) rfl hnd ?_ ?_ ?_ ?_ ?_ ?_ ?_ ?_
 · intro p hp
   cases hp
 · intro p hp;cases hp
 · intro p hp;cases hp
 · intro i o h1 h2
   match i,h1 with
   | 0,h1=>cases h1;cases h2
   | 1,h1=>cases h1;cases h2
   | 2,h1=>cases h1;cases h2
   | 3,h1=>cases h1;cases h2
   | 4,h1=>cases h1;cases h2
   | 5,h1=>cases h1;cases h2
   | 6,h1=>cases h1;cases h2
   | i+7,h1=>cases h1
 · intro t
   unfold Qn4
   split <;> first | exact (QbF _).inn _ | exact (QbS _ _).inn _ | exact (Qct _ _).inn _ | exact (Qco _ _).inn _ | exact (QbO _ _).inn _ | exact (QbQ _ _ _).inn _ | exact (Qa4).inn _ | exact Qf2 _ _ _ _ _ _ (fun p hp=>by cases hp) | exact Qh5 _ _ _ _ _ (fun p hp=>by cases hp)
 · intro i o t sv w' ho hia hd J0 hf
   have hL:=hL.below J0
   match i,ho with
   | 0,ho =>
     obtain rfl:QfS=o:=Option.some.inj ho
     cases hd
     refine Qaa (o:=QfS) rfl rfl ?_
     unfold Oper.wp QfS
     rw [Qaw (E0 sv),Oper.upon_value]
     exact ⟨_,rfl,Below.refl _ _,rfl⟩
   | 1,ho =>
     obtain rfl:Qfm=o:=Option.some.inj ho
     cases hd
     have f7:sv 7=Value.slice A n c:=hf ⟨0,.data⟩ (by simp [Qfm]) rfl _ 7 rfl rfl (NE _ (by decide))
     refine Qaa (o:=Qfm) rfl rfl ?_
     unfold Oper.wp Qfm
     rw [Qba ((G sv 7 (by decide) (by decide)).trans f7) rfl,Oper.upon_enter]
     refine (Qe1 hL hn hm hnc (Nat.le_trans hbs J0.size)).mono ?_
     rintro e w1 ⟨A_,c_,rfl,hq,hh⟩
     exact ⟨_,rfl,hh,A_,c_,rfl,hq⟩
   | 2,ho =>
     obtain rfl:Qf5=o:=Option.some.inj ho
     cases hd
     refine Qaa (o:=Qf5) rfl rfl ?_
     unfold Oper.wp Qf5
     rw [Qaw (E0 sv),Oper.upon_value]
     exact ⟨_,rfl,Below.refl _ _,rfl⟩
   | 3,ho =>
     obtain rfl:QeW=o:=Option.some.inj ho
     cases hd
     have f9:sv 9=Value.slice A n c:=hf ⟨2,.data⟩ (by simp [QeW]) rfl _ 9 rfl rfl (NE _ (by decide))
     refine Qaa (o:=QeW) rfl rfl ?_
     unfold Oper.wp QeW
     rw [Qb9 ((G sv 9 (by decide) (by decide)).trans f9) ,Oper.upon_value]
     exact ⟨_,rfl,Below.refl _ _,rfl⟩
   | 4,ho =>
     obtain rfl:Qfi=o:=Option.some.inj ho
     cases hd
     have f10:sv 10=Value.int .i64 (n:Int):=hf ⟨3,.data⟩ (by simp [Qfi]) rfl _ 10 rfl rfl (NE _ (by decide))
     refine Qaa (o:=Qfi) rfl rfl ?_
     unfold Oper.wp Qfi
     rw [QmA ((G sv 10 (by decide) (by decide)).trans f10) ((G sv 10 (by decide) (by decide)).trans f10) hm,Oper.upon_value]
     exact ⟨_,rfl,(Below.refl _ _).alloc (Nat.le_refl _) _,_,rfl,made_p w' n base (Nat.le_trans hbs J0.size)⟩
   | 5,ho =>
     obtain rfl:QeO=o:=Option.some.inj ho
     cases hd
     have f:=hf ⟨1,.data⟩ (by simp [QeO]) rfl _ 8 rfl rfl (NE _ (by decide))
     refine Qaa (o:=QeO) rfl rfl ?_
     unfold Oper.wp QeO
     rw [Qbq (G sv 8 (by decide) (by decide)),Oper.upon_value]
     exact ⟨_,rfl,Below.refl _ _,f⟩
   | 6,ho =>
     obtain rfl:QeM=o:=Option.some.inj ho
     cases hd
     have f:=hf ⟨4,.data⟩ (by simp [QeM]) rfl _ 11 rfl rfl (NE _ (by decide))
     refine Qaa (o:=QeM) rfl rfl ?_
     unfold Oper.wp QeM
     rw [Qbq (G sv 11 (by decide) (by decide)),Oper.upon_value]
     exact ⟨_,rfl,Below.refl _ _,f⟩
   | i+7,ho=>cases ho
 · intro p hp os sv w' g hos J0 p1 p3 hf
   cases hp
 · intro sv w' J0 hF hB hap
   exact hend sv w'   (hF 5 _ 3 rfl rfl (NE _ (by decide))) (hF 6 _ 4 rfl rfl (NE _ (by decide))) J0
theorem ways_p {A:Option Addr} {n c k:Nat} {L:List PV} {l:List (Rat × Rat)} (hL:SV w A (pvs L)) (hE:Each PV.PR w L l k) (hn:L.length=n) (hm:n≤1000) (hnc:n≤c) (h1:1≤k) (hk:k≤30000) :
 Calls Tryz.prog 42 #[.slice A n c] w (QpZ w n (QbV l) (k+k+1)):=by
 have HN:=Lib.hid hn;have HL0:=Lib.hid hL;have E0:=Lib.hid hE
 have HR1:Hid ((Qav L).length=n+min 1 n):=by show _=_;unfold Qav;rw [List.length_append,List.length_take,hn,Nat.min_comm]
 go_enter Tryz.func42,Tryz.ntmps42
 go_upto_region 1 with (fail)
 refine QjW (by simp) rfl hL hn (by omega) hnc (Nat.le_refl _) ?_
 intro V w1 hF3 hF4 hb
 obtain ⟨A1,c1,hv3,hR0⟩:=hF3
 obtain ⟨gP,hv4,hgP,hP0⟩:=hF4
 simp only [Qam,Act.put,List.setIfInBounds_toArray,List.set_cons_zero,List.set_cons_succ,hv3,hv4]
 clear hv3 hv4
 rw [show n+min 1 n=(Qav L).length from HR1.out.symm]
 generalize hN1:(Qav L).length=N1 at HR1 ⊢
 have HR2:=Lib.hid hN1;clear hN1 hL hE
 go_wp2_with fail
 go_loopg [14] n (fun gk ix wr=>∃ (M:List PV) (m:Nat),Hid (gk+m=n)∧ix=.int .i64 (m:Int)∧Hid (M.length=n)∧BoxAt 29 wr gP (pvs M).toArray∧Hid (Each PV.PG wr (M.take m) ((QbV l).take m) (k+k+1))∧SNr 29 w.heap.size n (pvs (Qav L)) wr A1∧Below w.heap.size w wr)
 case atStart=>exact ⟨List.replicate n zpv,0,Nat.add_zero _,rfl,by show _=_;rw [List.length_replicate],hP0,Each.nil,hR0,hb⟩
 case round =>
  clear hP0 hR0
  obtain ⟨M,m,HG,rfl,HM,hP,HQ,hR,hb⟩:=hrel
  by_cases hmn:m < n
  · have hmn':m < M.length:=by rw [HM.out];exact hmn
    obtain ⟨pm,hpm⟩:∃ pm,M[m]?=some pm:=⟨_,List.getElem?_eq_getElem hmn'⟩
    have HPM:=Lib.hid hpm
    have HL1:=Lib.hid hmn'
    have hixq:∀ w',(Instr.indexAt 22 (.slice (some ⟨gP,0,none⟩) n n) (.int .i64 (m:Int))).run Tryz.prog w'=.ok (.pointer (some ⟨gP,m*6,none⟩)) w':=idx_pt hmn
    obtain ⟨P,u,hP1,hu1,p⟩:=(E0.out.imp (fun p u h=>PR.below h hb)).at_ (i:=m) (by rw [HN.out];exact hmn)
    obtain ⟨Q,v,hP2,hu2,q⟩:=(E0.out.imp (fun p u h=>PR.below h hb)).ring.at_ (i:=m+1) (by have h:=HR1.out;have h2:=HR2.out;rw [h2,h];omega)
    have hv1:(Qav l)[m]?=some u:=by rw [Qeb (by rw [← E0.out.1,HN.out];exact hmn)];exact hu1
    obtain ⟨g0,o0,hix0,E,_⟩:=(HL0.out.below hb).pt hP1
    obtain ⟨g1,o1,hix1,E',o1_,hA1⟩:=(hR.sv (by omega)).pt hP2
    have hixa:∀ w',(Instr.indexAt 22 (.slice A n c) (.int .i64 (m:Int))).run Tryz.prog w'=.ok (.pointer (some ⟨g0,o0,none⟩)) w':=fun w'=>hix0 n c w' hmn
    have hixb:∀ w',(Instr.indexAt 22 (.slice A1 N1 c1) (.int .i64 ((m:Int)+1))).run Tryz.prog w'=.ok (.pointer (some ⟨g1,o1,none⟩)) w':=fun w'=>hix1 N1 c1 w' (by have:=HR1.out;omega)
    have hwr:IntKind.i64.wrap ((m:Int)+1)=(m:Int)+1:=IntWalk.i64_in _ (by omega)
    have hlt:(m:Int) < (n:Int):=by omega
    have HU:=Lib.hid hv1;have HV:=Lib.hid hu2
    obtain ⟨ux,uy⟩:=u
    obtain ⟨vx,vy⟩:=v
    obtain ⟨s_p,A_p,n_p,c_p,B_p,m_p,d_p,t_p,E_p,i_p,e_p,F_p,j_p,f_p⟩:=P
    obtain ⟨s_q,A_q,n_q,c_q,B_q,m_q,d_q,t_q,E_q,i_q,e_q,F_q,j_q,f_q⟩:=Q
    replace p:PR wr s_p A_p n_p c_p B_p m_p d_p t_p E_p i_p e_p F_p j_p f_p ux uy k:=p
    replace q:PR wr s_q A_q n_q c_q B_q m_q d_q t_q E_q i_q e_q F_q j_q f_q vx vy k:=q
    have hgg:g1 ≠ gP:=by
     obtain ⟨g2,e2,_,cs2,h3,h4,_⟩:=hR (by omega)
     rw [hA1] at e2
     cases e2
     refine BoxAt.ne h3 hP (.inr ?_)
     rw [show (pvs (Qav L)).length=(Qav L).length*6 from Qas Qa9 _,HR2.out,HR1.out] at h4
     have e5:(pvs M).toArray.size=n*6:=by rw [List.size_toArray,show (pvs M).length=M.length*6 from Qas Qa9 _,HM.out]
     rw [e5]
     omega
    obtain ⟨e0,e1,e2,e3,e4,e5⟩:=E.all
    simp only at e0 e1 e2 e3 e4 e5
    clear hpm hP1 hP2 hu1 hu2 hix0 hix1 hA1 hv1 hmn' hmn
    go_upto_region 5 with (fail)
    replace HQ:=HQ.out
    have hx1:wr.heap.size ≠ gP:=by have:=hP.lt;omega
    generalize hW:World.alloc _ _=W2
    obtain ⟨hh,X,hzW2⟩:=QaD hW;clear hW;(try replace p:=p.below hh);(try replace q:=q.below hh);(try replace hP:=hP.below hh);(try replace HQ:=HQ.below hh);(try replace hR:=hR.below hh)
    try replace E':=E'.below hh
    replace hb:=Qaj hb hh
    replace p:=p.below (Below.refl _ _).drew
    replace q:=q.below (Below.refl _ _).drew
    replace hP:=hP.below (Below.refl _ _).drew
    replace HQ:=HQ.below (Below.refl _ _).drew
    replace hR:=hR.below (Below.refl _ _).drew
    replace E':=E'.below (Below.refl _ _).drew
    replace X:=X.below (Below.refl _ _).drew
    replace hb:=hb.drew
    go_region_held3 (fun w'=>w'.cell? ⟨wr.heap.size,0,none⟩=some (.bool s_p)∧w'.cell? ⟨wr.heap.size,1,none⟩=some (.slice A_p n_p c_p)∧w'.cell? ⟨wr.heap.size,2,none⟩=some (.slice B_p m_p d_p)∧w'.cell? ⟨wr.heap.size,3,none⟩=some (.bool t_p)∧w'.cell? ⟨wr.heap.size,4,none⟩=some (.slice E_p i_p e_p)∧w'.cell? ⟨wr.heap.size,5,none⟩=some (.slice F_p j_p f_p)∧w'.cell? ⟨g1,o1,none⟩=some (.bool s_q)∧w'.cell? ⟨g1,o1+1,none⟩=some (.slice A_q n_q c_q)∧w'.cell? ⟨g1,o1+2,none⟩=some (.slice B_q m_q d_q)∧w'.cell? ⟨g1,o1+3,none⟩=some (.bool t_q)∧w'.cell? ⟨g1,o1+4,none⟩=some (.slice E_q i_q e_q)∧w'.cell? ⟨g1,o1+5,none⟩=some (.slice F_q j_q f_q))
     (first | with_reducible exact ⟨X.c0,X.c1,X.c2,X.c3,X.c4,X.c5,E'.c0,E'.c1,E'.c2,E'.c3,E'.c4,E'.c5⟩ | with_reducible exact ⟨(Qbo _ _ _ _ _ _ _ _ _ _ _ hx1).trans X.c0,(Qbo _ _ _ _ _ _ _ _ _ _ _ hx1).trans X.c1,(Qbo _ _ _ _ _ _ _ _ _ _ _ hx1).trans X.c2,(Qbo _ _ _ _ _ _ _ _ _ _ _ hx1).trans X.c3,(Qbo _ _ _ _ _ _ _ _ _ _ _ hx1).trans X.c4,(Qbo _ _ _ _ _ _ _ _ _ _ _ hx1).trans X.c5,(Qbo _ _ _ _ _ _ _ _ _ _ _ hgg).trans E'.c0,(Qbo _ _ _ _ _ _ _ _ _ _ _ hgg).trans E'.c1,(Qbo _ _ _ _ _ _ _ _ _ _ _ hgg).trans E'.c2,(Qbo _ _ _ _ _ _ _ _ _ _ _ hgg).trans E'.c3,(Qbo _ _ _ _ _ _ _ _ _ _ _ hgg).trans E'.c4,(Qbo _ _ _ _ _ _ _ _ _ _ _ hgg).trans E'.c5⟩)
     (first
     | (go_at_call 46;(with_reducible refine (QfD q p hk hk (.inl (by omega)) h1 h1).mono ?_);rintro e w_r ⟨s_r,A_r,n_r,c_r,B_r,m_r,d_r,t_r,E_r,i_r,e_r,F_r,j_r,f_r,rfl,r,hh⟩
        (try replace p:=p.below hh);(try replace q:=q.below hh);(try replace hP:=hP.below hh);(try replace HQ:=HQ.below hh);(try replace hR:=hR.below hh)
        try replace E':=E'.below hh
        (try replace X:=X.below hh);replace hb:=Qaj hb hh;have Eq:=hP.p6 HPM.out;obtain ⟨q0,q1,q2,q3,q4,q5⟩:=Eq.all
        have qf0:=hP.frz (j:=m*6)
        have qf1:=hP.frz (j:=m*6+1)
        have qf2:=hP.frz (j:=m*6+2)
        have qf3:=hP.frz (j:=m*6+3)
        have qf4:=hP.frz (j:=m*6+4)
        have qf5:=hP.frz (j:=m*6+5)))
    have ho:=onlyp w_r gP (m*6) (.bool s_r) (.slice A_r n_r c_r) (.slice B_r m_r d_r) (.bool t_r) (.slice E_r i_r e_r) (.slice F_r j_r f_r)
    have hP2:=hP.setp HL1.out (PV.mk s_r A_r n_r c_r B_r m_r d_r t_r E_r i_r e_r F_r j_r f_r)
    replace r:=PG.box r hP ho
    replace HQ:=(Each.boxG HQ hP ho).push (p:=(PV.mk s_r A_r n_r c_r B_r m_r d_r t_r E_r i_r e_r F_r j_r f_r)) (fun _ _ h=>h) (show PV.PG _ (PV.mk s_r A_r n_r c_r B_r m_r d_r t_r E_r i_r e_r F_r j_r f_r) (vx - ux,vy - uy) (k+k+1) from r)
    replace hR:=hR.box hP (.inr (by
     rw [List.size_toArray,show (pvs M).length=M.length*6 from Qas Qa9 _,HM.out,show (pvs (Qav L)).length=(Qav L).length*6 from Qas Qa9 _,HR2.out,HR1.out];omega)) ho
    replace hb:=Below.only hb (by omega) hb.size ho
    have hcr:(QbV l)[m]?=some (vx - ux,vy - uy):=QlN HU.out HV.out
    rw [← Qgo hcr,← QhX HL1.out (PV.mk s_r A_r n_r c_r B_r m_r d_r t_r E_r i_r e_r F_r j_r f_r)] at HQ
    clear hP ho Eq q0 qf0 q1 qf1 q2 qf2 q3 qf3 q4 qf4 q5 qf5 E' X p q hcr
    generalize ((((((w_r.setCell ⟨gP,m*6,none⟩ (.bool s_r)).setCell ⟨gP,m*6+1,none⟩ (.slice A_r n_r c_r)).setCell ⟨gP,m*6+2,none⟩ (.slice B_r m_r d_r)).setCell ⟨gP,m*6+3,none⟩ (.bool t_r)).setCell ⟨gP,m*6+4,none⟩ (.slice E_r i_r e_r)).setCell ⟨gP,m*6+5,none⟩ (.slice F_r j_r f_r))=W3 at *
    go_wp2_with fail
    go_roundg (gk - 1)
    case measure=>have:=HG.out;omega
    case rel=>exact ⟨M.set m (PV.mk s_r A_r n_r c_r B_r m_r d_r t_r E_r i_r e_r F_r j_r f_r),m+1,by have:=HG.out;show _=_;omega,by go_num,by show _=_;rw [List.length_set];exact HM.out,hP2,HQ,hR,hb⟩
  · have hlt:¬ (m:Int) < (n:Int):=by omega
    obtain rfl:m=n:=by have:=HG.out;omega
    replace HQ:=HQ.out
    rw [List.take_of_length_le (by rw [HM.out];exact Nat.le_refl _),List.take_of_length_le (by rw [QcE,← E0.out.1,HN.out];exact Nat.le_refl _)] at HQ
    clear hmn hR
    go_wp2_with fail
    (try rw [Exit.noGoto_ret])
    go_ret
    exact ⟨gP,M,rfl,hgP,hP,HM.out,HQ,hb⟩
end
section
open Go Go.RowKit
theorem Qm7 {e1:Operand→Value} {d1:Option Tmp} {y1:Nat} {pos:String} {af:Array Edge} {x1 x2:Operand} {A:Option Addr} {n c g o:Nat} {M:Int} (h:e1 x1=.slice A n c) (h2:e1 x2=.int .i64 M) (hx:∀ w',(Instr.indexAt 22 (.slice A n c) (.int .i64 M)).run Tryz.prog w'=.ok (.pointer (some ⟨g,o,none⟩)) w') :
 (execOp e1 ⟨d1,.indexAddr 22 x1 x2,y1,pos,af,none⟩).run Tryz.prog w=.ok (.value (.pointer (some ⟨g,o,none⟩))) w:=by
 have h1:=hx w
 go_simp
theorem QmY {e1:Operand→Value} {d1:Option Tmp} {y1:Nat} {pos:String} {af:Array Edge} {x1:Operand} {g o:Nat} {p:PV} (h:e1 x1=.pointer (some ⟨g,o,none⟩)) (E:E6x w g o p) :
 (execOp e1 ⟨d1,.load 29 x1,y1,pos,af,none⟩).run Tryz.prog w=.ok (.value (.agg #[.bool p.s,.slice p.A p.n p.c,.slice p.B p.m p.d,.bool p.t,.slice p.E p.i p.e,.slice p.F p.j p.f])) w:=by
 obtain ⟨e0,e1,e2,e3,e4,e5⟩:=E.all
 go_simp
theorem Qid {e1:Operand→Value} {d1:Option Tmp} {y1:Nat} {pos:String} {af:Array Edge} {x1:Operand} {M:Int} (h:e1 x1=.int .i64 M) (hc:e1 (.const (Value.int IntKind.i64 1))=.int .i64 1) (hw:IntKind.i64.wrap (M+1)=M+1) :
 (execOp e1 ⟨d1,.binOp BinOp.add 3 x1 (.const (Value.int IntKind.i64 1)) 3,y1,pos,af,none⟩).run Tryz.prog w=.ok (.value (.int .i64 (M+1))) w:=by
 go_simp
def Qfp (r:List (Rat × Rat)):Nat→Nat
 | 0=>0
 | m+1=>Qfp r m+if (r.getD m (0,0)).2 < 0∧¬ (r.getD (m+1) (0,0)).2 < 0 then 1 else 0
theorem QqC (r:List (Rat × Rat)) (m:Nat):Qfp r m≤m:=by
 induction m with
 | zero=>exact Nat.le_refl _
 | succ m ih=>rw [Qfp];split <;> omega
theorem Qlu {r:List (Rat × Rat)} {m:Nat} {u v:Rat × Rat} (hu:r[m]?=some u) (hv:r[m+1]?=some v):Qfp r (m+1)=Qfp r m+if u.2 < 0∧¬ v.2 < 0 then 1 else 0:=by
 rw [Qfp,List.getD_eq_getElem?_getD,List.getD_eq_getElem?_getD,hu,hv];rfl
def QdC (l:List (Rat × Rat)):Prop:=(∀ (i:Nat) (u v:Rat × Rat),(Qav (QbV l))[i]?=some u→(Qav (QbV l))[i+1]?=some v→Qcd u.1 u.2 v.1 v.2)∧Qfp (Qav (QbV l)) l.length=1
abbrev L_conv5:List Nat:=[16,17,18,19,20,21,22,23,24,6,7]
def QfY:Oper:=⟨some 16,.move (.tmp 3),22, "convex.go:18",#[],none⟩
def Qf1:Oper:=⟨some 17,.move (.tmp 5),3, "convex.go:18",#[],none⟩
def Qea:Oper:=⟨some 18,.indexAddr 22 (.tmp 16) (.tmp 17),0, "convex.go:18",#[⟨0,.data⟩,⟨1,.data⟩],none⟩
def QeG:Oper:=⟨some 19,.load 29 (.tmp 18),29, "convex.go:18",#[⟨2,.data⟩],none⟩
def QfX:Oper:=⟨some 20,.move (.tmp 3),22, "convex.go:18",#[⟨11,.gcOnly .lateStores⟩],none⟩
def QfM:Oper:=⟨some 21,.move (.tmp 5),3, "convex.go:18",#[⟨11,.gcOnly .lateStores⟩],none⟩
def QeZ:Oper:=⟨some 22,.binOp BinOp.add 3 (.tmp 21) (.const (Value.int IntKind.i64 1)) 3,3, "convex.go:18",#[⟨5,.data⟩,⟨11,.gcOnly .lateStores⟩],none⟩
def Qd3:Oper:=⟨some 23,.indexAddr 22 (.tmp 20) (.tmp 22),0, "convex.go:18",#[⟨4,.data⟩,⟨6,.data⟩,⟨11,.gcOnly .lateStores⟩],none⟩
def Qe3:Oper:=⟨some 24,.load 29 (.tmp 23),29, "convex.go:18",#[⟨7,.data⟩,⟨11,.gcOnly .lateStores⟩],none⟩
def Qk3:Oper:=⟨some 6,.alloc 29,0, "convex.go:18",#[],none⟩
def Qj3:Oper:=⟨some 7,.alloc 29,0, "convex.go:18",#[],none⟩
def QdW:Oper:=⟨none,.store 29 (.tmp 6) (.tmp 19),0, "convex.go:18",#[⟨9,.data⟩,⟨3,.data⟩,⟨0,.phase⟩,⟨1,.phase⟩,⟨2,.phase⟩,⟨3,.phase⟩,⟨4,.textOnly .lateStores⟩,⟨5,.textOnly .lateStores⟩,⟨6,.textOnly .lateStores⟩,⟨7,.textOnly .lateStores⟩,⟨8,.textOnly .lateStores⟩,⟨9,.phase⟩,⟨10,.phase⟩],none⟩
def QdF:Oper:=⟨none,.store 29 (.tmp 7) (.tmp 24),0, "convex.go:18",#[⟨10,.data⟩,⟨8,.data⟩,⟨11,.chain⟩,⟨0,.phase⟩,⟨1,.phase⟩,⟨2,.phase⟩,⟨3,.phase⟩,⟨4,.phase⟩,⟨5,.phase⟩,⟨6,.phase⟩,⟨7,.phase⟩,⟨8,.phase⟩,⟨9,.phase⟩,⟨10,.phase⟩,⟨11,.phase⟩],none⟩
def QoD (A1:Option Addr) (N1:Nat) (c1:Nat) (m:Nat) (g0:Nat) (o0:Nat) (g1:Nat) (o1:Nat) (s_p:Bool) (t_p:Bool) (A_p:Option Addr) (B_p:Option Addr) (E_p:Option Addr) (F_p:Option Addr) (n_p:Nat) (c_p:Nat) (m_p:Nat) (d_p:Nat) (i_p:Nat) (e_p:Nat) (j_p:Nat) (f_p:Nat) (s_q:Bool) (t_q:Bool) (A_q:Option Addr) (B_q:Option Addr) (E_q:Option Addr) (F_q:Option Addr) (n_q:Nat) (c_q:Nat) (m_q:Nat) (d_q:Nat) (i_q:Nat) (e_q:Nat) (j_q:Nat) (f_q:Nat) (sl:Nat):Value→World→Prop :=
 match sl with
 | 16=>fun x _=>x=Value.slice A1 N1 c1
 | 17=>fun x _=>x=Value.int .i64 (m:Int)
 | 18=>fun x _=>x=Value.pointer (some ⟨g0,o0,none⟩)
 | 19=>VK (#[.bool s_p,.slice A_p n_p c_p,.slice B_p m_p d_p,.bool t_p,.slice E_p i_p e_p,.slice F_p j_p f_p])
 | 20=>fun x _=>x=Value.slice A1 N1 c1
 | 21=>fun x _=>x=Value.int .i64 (m:Int)
 | 22=>fun x _=>x=Value.int .i64 ((m:Int)+1)
 | 23=>fun x _=>x=Value.pointer (some ⟨g1,o1,none⟩)
 | 24=>VK (#[.bool s_q,.slice A_q n_q c_q,.slice B_q m_q d_q,.bool t_q,.slice E_q i_q e_q,.slice F_q j_q f_q])
 | _=>fun _ _=>True
def Qdj (s_p:Bool) (t_p:Bool) (A_p:Option Addr) (B_p:Option Addr) (E_p:Option Addr) (F_p:Option Addr) (n_p:Nat) (c_p:Nat) (m_p:Nat) (d_p:Nat) (i_p:Nat) (e_p:Nat) (j_p:Nat) (f_p:Nat):QbU :=
 ⟨9,11,6,29,#[.bool false,.slice none 0 0,.slice none 0 0,.bool false,.slice none 0 0,.slice none 0 0],fun cs _=>cs=#[.bool s_p,.slice A_p n_p c_p,.slice B_p m_p d_p,.bool t_p,.slice E_p i_p e_p,.slice F_p j_p f_p]⟩
def Qdx (s_q:Bool) (t_q:Bool) (A_q:Option Addr) (B_q:Option Addr) (E_q:Option Addr) (F_q:Option Addr) (n_q:Nat) (c_q:Nat) (m_q:Nat) (d_q:Nat) (i_q:Nat) (e_q:Nat) (j_q:Nat) (f_q:Nat):QbU :=
 ⟨10,12,7,29,#[.bool false,.slice none 0 0,.slice none 0 0,.bool false,.slice none 0 0,.slice none 0 0],fun cs _=>cs=#[.bool s_q,.slice A_q n_q c_q,.slice B_q m_q d_q,.bool t_q,.slice E_q i_q e_q,.slice F_q j_q f_q]⟩
theorem QjB {id:Nat} {ac:Act} {Q:Exit→Act→World→Prop} {A1:Option Addr} {N1 c1 m g0 o0 g1 o1:Nat} 
 (hsz:24 < ac.tmps.size) (e3:ac.eval (.tmp 3)=Value.slice A1 N1 c1) (e5:ac.eval (.tmp 5)=Value.int .i64 (m:Int)) (Ep:E6x w g0 o0 (PV.mk s_p A_p n_p c_p B_p m_p d_p t_p E_p i_p e_p F_p j_p f_p)) (Eq:E6x w g1 o1 (PV.mk s_q A_q n_q c_q B_q m_q d_q t_q E_q i_q e_q F_q j_q f_q)) (hixa:∀ w',(Instr.indexAt 22 (.slice A1 N1 c1) (.int .i64 (m:Int))).run Tryz.prog w'=.ok (.pointer (some ⟨g0,o0,none⟩)) w') (hixb:∀ w',(Instr.indexAt 22 (.slice A1 N1 c1) (.int .i64 ((m:Int)+1))).run Tryz.prog w'=.ok (.pointer (some ⟨g1,o1,none⟩)) w') (hwr:IntKind.i64.wrap ((m:Int)+1)=(m:Int)+1)
 (hend:∀ (V:Nat→Value) (w':World) (g0:Nat) (g1:Nat),B6 w' g0 (.bool s_p) (.slice A_p n_p c_p) (.slice B_p m_p d_p) (.bool t_p) (.slice E_p i_p e_p) (.slice F_p j_p f_p)→w.heap.size≤g0→V 6=.pointer (some ⟨g0,0,none⟩)→B6 w' g1 (.bool s_q) (.slice A_q n_q c_q) (.slice B_q m_q d_q) (.bool t_q) (.slice E_q i_q e_q) (.slice F_q j_q f_q)→w.heap.size≤g1→V 7=.pointer (some ⟨g1,0,none⟩)→g1 ≠ g0→Below w.heap.size w w'→Q .normal (Qam ac [16,17,18,19,20,21,22,23,24,6,7] V) w') :
 (Code.region id #[QfY,Qf1,Qea,QeG,QfX,QfM,QeZ,Qd3,Qe3,Qk3,Qj3,QdW,QdF] true).wp Tryz.prog Q ac w:=by
 have hnd:L_conv5.Nodup:=by decide
 have G:∀ (sv:Nat→Value) (t:Nat),t ∈ L_conv5→t≤24→(Qam ac L_conv5 sv).eval (.tmp t)=sv t:=fun sv t ht h=>Qaz (t:=t) L_conv5 ac hnd ht (Nat.lt_of_le_of_lt h hsz)
 have E3:∀ sv:Nat→Value,(Qam ac L_conv5 sv).eval (.tmp 3)=Value.slice A1 N1 c1:=fun sv=>(Qap (v:=sv) L_conv5 ac (show 3 ∉ _ by decide)).trans e3
 have E5:∀ sv:Nat→Value,(Qam ac L_conv5 sv).eval (.tmp 5)=Value.int .i64 (m:Int):=fun sv=>(Qap (v:=sv) L_conv5 ac (show 5 ∉ _ by decide)).trans e5
 have NE:∀ t:Nat,(t ≠ 6∧t ≠ 7)→∀ p ∈ [Qdj s_p t_p A_p B_p E_p F_p n_p c_p m_p d_p i_p e_p j_p f_p,Qdx s_q t_q A_q B_q E_q F_q n_q c_q m_q d_q i_q e_q j_q f_q],t ≠ p.tA:=by
  intro t ht p hp
  simp only [List.mem_cons,List.not_mem_nil,or_false] at hp
  rcases hp with rfl | rfl
  · exact ht.1
  · exact ht.2
 refine QaB L_conv5 [Qdj s_p t_p A_p B_p E_p F_p n_p c_p m_p d_p i_p e_p j_p f_p,Qdx s_q t_q A_q B_q E_q F_q n_q c_q m_q d_q i_q e_q j_q f_q] (QoD A1 N1 c1 m g0 o0 g1 o1 s_p t_p A_p B_p E_p F_p n_p c_p m_p d_p i_p e_p j_p f_p s_q t_q A_q B_q E_q F_q n_q c_q m_q d_q i_q e_q j_q f_q) (by kernel_rfl) (by kernel_rfl) rfl hnd ?_ ?_ ?_ ?_ ?_ ?_ ?_ ?_
 · intro p hp
   simp only [List.mem_cons,List.not_mem_nil,or_false] at hp
   rcases hp with rfl | rfl
   · refine ⟨⟨Qk3,rfl,rfl,rfl,fun e w'=>QcO⟩,⟨QdW,rfl,rfl,rfl,⟨9,.data⟩,by simp [QdW],rfl,rfl⟩,Qfw _ _ _ _ _ _ _ _ _ _ _ _ _ _,?_,?_⟩
     · rintro cs w1 w2 rfl hb;rfl
     · rintro T cs w1 w2 g c0 rfl hB ho;rfl
   · refine ⟨⟨Qj3,rfl,rfl,rfl,fun e w'=>QcO⟩,⟨QdF,rfl,rfl,rfl,⟨10,.data⟩,by simp [QdF],rfl,rfl⟩,Qfw _ _ _ _ _ _ _ _ _ _ _ _ _ _,?_,?_⟩
     · rintro cs w1 w2 rfl hb;rfl
     · rintro T cs w1 w2 g c0 rfl hB ho;rfl
 · intro p hp q hq h
   simp only [List.mem_cons,List.not_mem_nil,or_false] at hp hq
   rcases hp with rfl | rfl <;> rcases hq with rfl | rfl
   · rfl
   · exact absurd (show (6:Nat)=7 from h) (by decide)
   · exact absurd (show (7:Nat)=6 from h) (by decide)
   · rfl
 · intro p hp q hq h
   simp only [List.mem_cons,List.not_mem_nil,or_false] at hp hq
   rcases hp with rfl | rfl <;> rcases hq with rfl | rfl
   · rfl
   · exact absurd (show (11:Nat)=12 from h) (by decide)
   · exact absurd (show (12:Nat)=11 from h) (by decide)
   · rfl
 · intro i o h1 h2
   match i,h1 with
   | 0,h1=>cases h1;cases h2
   | 1,h1=>cases h1;cases h2
   | 2,h1=>cases h1;cases h2
   | 3,h1=>cases h1;cases h2
   | 4,h1=>cases h1;cases h2
   | 5,h1=>cases h1;cases h2
   | 6,h1=>cases h1;cases h2
   | 7,h1=>cases h1;cases h2
   | 8,h1=>cases h1;cases h2
   | 9,h1=>cases h1;cases h2
   | 10,h1=>cases h1;cases h2
   | 11,h1=>exact ⟨Qdj s_p t_p A_p B_p E_p F_p n_p c_p m_p d_p i_p e_p j_p f_p,List.Mem.head _,rfl⟩
   | 12,h1=>exact ⟨Qdx s_q t_q A_q B_q E_q F_q n_q c_q m_q d_q i_q e_q j_q f_q,List.Mem.tail _ (List.Mem.head _),rfl⟩
   | i+13,h1=>cases h1
 · intro t
   unfold QoD
   split <;> first | exact (QbF _).inn _ | exact (QbS _ _).inn _ | exact (Qct _ _).inn _ | exact (Qco _ _).inn _ | exact (QbO _ _).inn _ | exact (QbQ _ _ _).inn _ | exact (Qa4).inn _ | exact (QnA _).inn _
 · intro i o t sv w' ho hia hd J0 hf
   have Ep:=Ep.below J0;have Eq:=Eq.below J0
   match i,ho with
   | 0,ho =>
     obtain rfl:QfY=o:=Option.some.inj ho
     cases hd
     refine Qaa (o:=QfY) rfl rfl ?_
     unfold Oper.wp QfY
     rw [Qaw (E3 sv),Oper.upon_value]
     exact ⟨_,rfl,Below.refl _ _,rfl⟩
   | 1,ho =>
     obtain rfl:Qf1=o:=Option.some.inj ho
     cases hd
     refine Qaa (o:=Qf1) rfl rfl ?_
     unfold Oper.wp Qf1
     rw [Qaw (E5 sv),Oper.upon_value]
     exact ⟨_,rfl,Below.refl _ _,rfl⟩
   | 2,ho =>
     obtain rfl:Qea=o:=Option.some.inj ho
     cases hd
     have f16:sv 16=Value.slice A1 N1 c1:=hf ⟨0,.data⟩ (by simp [Qea]) rfl _ 16 rfl rfl (NE _ (by decide))
     have f17:sv 17=Value.int .i64 (m:Int):=hf ⟨1,.data⟩ (by simp [Qea]) rfl _ 17 rfl rfl (NE _ (by decide))
     refine Qaa (o:=Qea) rfl rfl ?_
     unfold Oper.wp Qea
     rw [Qm7 ((G sv 16 (by decide) (by decide)).trans f16) ((G sv 17 (by decide) (by decide)).trans f17) hixa,Oper.upon_value]
     exact ⟨_,rfl,Below.refl _ _,rfl⟩
   | 3,ho =>
     obtain rfl:QeG=o:=Option.some.inj ho
     cases hd
     have f18:sv 18=Value.pointer (some ⟨g0,o0,none⟩):=hf ⟨2,.data⟩ (by simp [QeG]) rfl _ 18 rfl rfl (NE _ (by decide))
     refine Qaa (o:=QeG) rfl rfl ?_
     unfold Oper.wp QeG
     rw [QmY ((G sv 18 (by decide) (by decide)).trans f18) Ep,Oper.upon_value]
     exact ⟨_,rfl,Below.refl _ _,rfl⟩
   | 4,ho =>
     obtain rfl:QfX=o:=Option.some.inj ho
     cases hd
     refine Qaa (o:=QfX) rfl rfl ?_
     unfold Oper.wp QfX
     rw [Qaw (E3 sv),Oper.upon_value]
     exact ⟨_,rfl,Below.refl _ _,rfl⟩
   | 5,ho =>
     obtain rfl:QfM=o:=Option.some.inj ho
     cases hd
     refine Qaa (o:=QfM) rfl rfl ?_
     unfold Oper.wp QfM
     rw [Qaw (E5 sv),Oper.upon_value]
     exact ⟨_,rfl,Below.refl _ _,rfl⟩
   | 6,ho =>
     obtain rfl:QeZ=o:=Option.some.inj ho
     cases hd
     have f21:sv 21=Value.int .i64 (m:Int):=hf ⟨5,.data⟩ (by simp [QeZ]) rfl _ 21 rfl rfl (NE _ (by decide))
     refine Qaa (o:=QeZ) rfl rfl ?_
     unfold Oper.wp QeZ
     rw [Qid ((G sv 21 (by decide) (by decide)).trans f21) (show (Qam ac L_conv5 sv).eval (.const (Value.int IntKind.i64 1))=(Value.int IntKind.i64 1) from rfl) hwr,Oper.upon_value]
     exact ⟨_,rfl,Below.refl _ _,rfl⟩
   | 7,ho =>
     obtain rfl:Qd3=o:=Option.some.inj ho
     cases hd
     have f20:sv 20=Value.slice A1 N1 c1:=hf ⟨4,.data⟩ (by simp [Qd3]) rfl _ 20 rfl rfl (NE _ (by decide))
     have f22:sv 22=Value.int .i64 ((m:Int)+1):=hf ⟨6,.data⟩ (by simp [Qd3]) rfl _ 22 rfl rfl (NE _ (by decide))
     refine Qaa (o:=Qd3) rfl rfl ?_
     unfold Oper.wp Qd3
     rw [Qm7 ((G sv 20 (by decide) (by decide)).trans f20) ((G sv 22 (by decide) (by decide)).trans f22) hixb,Oper.upon_value]
     exact ⟨_,rfl,Below.refl _ _,rfl⟩
   | 8,ho =>
     obtain rfl:Qe3=o:=Option.some.inj ho
     cases hd
     have f23:sv 23=Value.pointer (some ⟨g1,o1,none⟩):=hf ⟨7,.data⟩ (by simp [Qe3]) rfl _ 23 rfl rfl (NE _ (by decide))
     refine Qaa (o:=Qe3) rfl rfl ?_
     unfold Oper.wp Qe3
     rw [QmY ((G sv 23 (by decide) (by decide)).trans f23) Eq,Oper.upon_value]
     exact ⟨_,rfl,Below.refl _ _,rfl⟩
   | 9,ho=>cases ho;cases hd;exact absurd rfl (hia (Qdj s_p t_p A_p B_p E_p F_p n_p c_p m_p d_p i_p e_p j_p f_p) (List.Mem.head _))
   | 10,ho=>cases ho;cases hd;exact absurd rfl (hia (Qdx s_q t_q A_q B_q E_q F_q n_q c_q m_q d_q i_q e_q j_q f_q) (List.Mem.tail _ (List.Mem.head _)))
   | 11,ho=>cases ho;cases hd
   | 12,ho=>cases ho;cases hd
   | i+13,ho=>cases ho
 · intro p hp os sv w' g hos J0 p1 p3 hf
   simp only [List.mem_cons,List.not_mem_nil,or_false] at hp
   rcases hp with rfl | rfl
   · obtain rfl:QdW=os:=Option.some.inj hos
     have h1:VK (#[.bool s_p,.slice A_p n_p c_p,.slice B_p m_p d_p,.bool t_p,.slice E_p i_p e_p,.slice F_p j_p f_p]) (sv 19) w':=hf ⟨3,.data⟩ (by simp [QdW]) rfl _ 19 rfl rfl (NE _ (by decide))
     rw [← G sv 19 (by decide) (by decide)] at h1
     refine Qge  (ac:=Qam ac L_conv5 sv) (z:=.tmp 19) ?_ ?_ ?_
     · exact (G sv 6 (by decide) (by decide)).trans p1
     · exact h1
     · exact p3
   · obtain rfl:QdF=os:=Option.some.inj hos
     have h1:VK (#[.bool s_q,.slice A_q n_q c_q,.slice B_q m_q d_q,.bool t_q,.slice E_q i_q e_q,.slice F_q j_q f_q]) (sv 24) w':=hf ⟨8,.data⟩ (by simp [QdF]) rfl _ 24 rfl rfl (NE _ (by decide))
     rw [← G sv 24 (by decide) (by decide)] at h1
     refine Qge  (ac:=Qam ac L_conv5 sv) (z:=.tmp 24) ?_ ?_ ?_
     · exact (G sv 7 (by decide) (by decide)).trans p1
     · exact h1
     · exact p3
 · intro sv w' J0 hF hB hap
   obtain ⟨g0,cs0,p0,r0,b0,rfl⟩:=hB (Qdj s_p t_p A_p B_p E_p F_p n_p c_p m_p d_p i_p e_p j_p f_p) (List.Mem.head _)
   obtain ⟨g1,cs1,p1,r1,b1,rfl⟩:=hB (Qdx s_q t_q A_q B_q E_q F_q n_q c_q m_q d_q i_q e_q j_q f_q) (List.Mem.tail _ (List.Mem.head _))
   have p0':sv 6=.pointer (some ⟨g0,0,none⟩):=p0
   have p1':sv 7=.pointer (some ⟨g1,0,none⟩):=p1
   exact hend sv w' g0 g1 b0.at_ r0 p0' b1.at_ r1 p1' (fun q=>hap (Qdx s_q t_q A_q B_q E_q F_q n_q c_q m_q d_q i_q e_q j_q f_q) (List.Mem.tail _ (List.Mem.head _)) (Qdj s_p t_p A_p B_p E_p F_p n_p c_p m_p d_p i_p e_p j_p f_p) (List.Mem.head _) (show (7:Nat) ≠ 6 by decide) (by rw [show (Qdx s_q t_q A_q B_q E_q F_q n_q c_q m_q d_q i_q e_q j_q f_q).tA=7 from rfl,show (Qdj s_p t_p A_p B_p E_p F_p n_p c_p m_p d_p i_p e_p j_p f_p).tA=6 from rfl,p1',p0',q]))   J0
theorem Qig {A:Option Addr} {n c k:Nat} {L:List PV} {l:List (Rat × Rat)} (hL:SV w A (pvs L)) (hE:Each PV.PR w L l k) (hn:L.length=n) (hm:n≤1000) (hnc:n≤c) (h1:1≤k) (hk:k+k+1+(k+k+1)≤20000) (R:Bool) (hR0:R=true ↔ QdC l) :
 Calls Tryz.prog 16 #[.slice A n c] w fun e w'=>e=.returned (.bool R)∧Below w.heap.size w w':=by
 have HN:=Lib.hid hn;have HR0:=Lib.hid hR0
 have HNl:Hid (l.length=n):=hE.1.symm.trans hn
 clear hR0
 have hb:Below w.heap.size w w:=Below.refl _ _
 go_enter Tryz.func16,Tryz.ntmps16
 go_upto_region 3 with (first
  | (go_at_call 42;(with_reducible refine (ways_p hL hE hn hm hnc h1 (by omega)).mono ?_);rintro e w_y ⟨gW,M,rfl,hgW,hW,hM,hQ,hb1⟩
     have hWS:=hW.sv)
  | (go_at_call 36;(with_reducible refine (Qe1 hWS hM (by omega) (Nat.le_refl _) hb1.size).mono ?_);rintro e w_z ⟨A1,c1,rfl,hR1_,hh⟩
     replace hb:=Qaj hb1 hh))
 have E0:Hid (Each PV.PG w_z M (QbV l) (k+k+1)):=Each.below hQ hh
 have HM:=Lib.hid hM
 rw [show n+min 1 n=(Qav M).length by unfold Qav;rw [List.length_append,List.length_take,hM,Nat.min_comm]]
 have HR1:Hid ((Qav M).length=n+min 1 n):=by show _=_;unfold Qav;rw [List.length_append,List.length_take,hM,Nat.min_comm]
 generalize hN1:(Qav M).length=N1 at HR1 ⊢
 have HR2:=Lib.hid hN1
 have hR0:SNr 29 w.heap.size n (pvs (Qav M)) w_z A1:=hR1_
 clear hN1 hL hE hWS hW hQ hb1 hh hR1_ hM
 go_loopg [4,13] n (fun gk rr ix wr=>∃ (m:Nat),Hid (gk+m=n)∧rr=.int .i64 (Qfp (Qav (QbV l)) m:Int)∧ix=.int .i64 (m:Int)∧Hid (∀ i,i < m→∀ u v,(Qav (QbV l))[i]?=some u→(Qav (QbV l))[i+1]?=some v→Qcd u.1 u.2 v.1 v.2)∧Below w_z.heap.size w_z wr)
 case atStart=>exact ⟨0,Nat.add_zero _,rfl,rfl,fun i hi=>absurd hi (by omega),Below.refl _ _⟩
 case round =>
  obtain ⟨m,HG,rfl,rfl,HS,hB⟩:=hrel
  replace hb:=Qaj hb hB;have hR:=hR0.below hB
  by_cases hmn:m < n
  · have HMN:=Lib.hid hmn
    obtain ⟨P,u,hP1,hu1,p⟩:=(E0.out.below hB).ring.at_ (i:=m) (by have h:=HR1.out;have h2:=HR2.out;rw [h2,h];omega)
    obtain ⟨Q,v,hP2,hu2,q⟩:=(E0.out.below hB).ring.at_ (i:=m+1) (by have h:=HR1.out;have h2:=HR2.out;rw [h2,h];omega)
    obtain ⟨g0,o0,hix0,Ep,_⟩:=(hR.sv (by omega)).pt hP1
    obtain ⟨g1,o1,hix1,Eq,_⟩:=(hR.sv (by omega)).pt hP2
    have hixa:∀ w',(Instr.indexAt 22 (.slice A1 N1 c1) (.int .i64 (m:Int))).run Tryz.prog w'=.ok (.pointer (some ⟨g0,o0,none⟩)) w':=fun w'=>hix0 N1 c1 w' (by have:=HR1.out;omega)
    have hixb:∀ w',(Instr.indexAt 22 (.slice A1 N1 c1) (.int .i64 ((m:Int)+1))).run Tryz.prog w'=.ok (.pointer (some ⟨g1,o1,none⟩)) w':=fun w'=>hix1 N1 c1 w' (by have:=HR1.out;omega)
    have hwr:IntKind.i64.wrap ((m:Int)+1)=(m:Int)+1:=IntWalk.i64_in _ (by omega)
    have hlt:(m:Int) < (n:Int):=by omega
    have HU:=Lib.hid hu1;have HV:=Lib.hid hu2
    have HC:=Lib.hid (Qlu hu1 hu2)
    have hcl:=QqC (Qav (QbV l)) m
    obtain ⟨ct,hct⟩:∃ ct,Qfp (Qav (QbV l)) m=ct:=⟨_,rfl⟩
    rw [hct] at hcl ⊢
    have HCT:=Lib.hid hct
    have hwc:IntKind.i64.wrap ((ct:Int)+1)=(ct:Int)+1:=IntWalk.i64_in _ (by omega)
    obtain ⟨ux,uy⟩:=u
    obtain ⟨vx,vy⟩:=v
    obtain ⟨s_p,A_p,n_p,c_p,B_p,m_p,d_p,t_p,E_p,i_p,e_p,F_p,j_p,f_p⟩:=P
    obtain ⟨s_q,A_q,n_q,c_q,B_q,m_q,d_q,t_q,E_q,i_q,e_q,F_q,j_q,f_q⟩:=Q
    replace p:PG wr s_p A_p n_p c_p B_p m_p d_p t_p E_p i_p e_p F_p j_p f_p ux uy (k+k+1):=p
    replace q:PG wr s_q A_q n_q c_q B_q m_q d_q t_q E_q i_q e_q F_q j_q f_q vx vy (k+k+1):=q
    clear hP1 hP2 hu1 hu2 hix0 hix1 hmn hct
    go_upto_region 5 with (fail)
    refine QjB (by simp) rfl rfl Ep Eq hixa hixb hwr ?_
    intro V w_b gX gY X hgX hv6 Y hgY hv7 hXY hh
    simp only [Qam,Act.put,List.setIfInBounds_toArray,List.set_cons_zero,List.set_cons_succ,hv6,hv7]
    clear hv6 hv7 Ep Eq hixa hixb;replace p:=p.below hh;replace q:=q.below hh;replace hb:=Qaj hb hh;replace hB:=Qaj hB hh;have x0:=X.c0;have y0:=Y.c0;have x1:=X.c1;have y1:=Y.c1;have x2:=X.c2;have y2:=Y.c2;have x3:=X.c3;have y3:=Y.c3;have x4:=X.c4;have y4:=Y.c4;have x5:=X.c5;have y5:=Y.c5
    by_cases hlv:Qcd ux uy vx vy
    · have HLV:Hid (decide (Qcd ux uy vx vy)=true):=decide_eq_true hlv
      clear hlv
      go_upto_region 8 with (first
       | (go_at_call 43;(with_reducible refine (Qq6 p.pr q.pr hk (by omega) true HLV.out).mono ?_);rintro e w_z ⟨rfl,hh⟩
          (try replace p:=p.below hh);(try replace q:=q.below hh);(try replace X:=X.below hh);(try replace Y:=Y.below hh);replace hb:=Qaj hb hh;replace hB:=Qaj hB hh;have x0:=X.c0;have y0:=Y.c0;have x1:=X.c1;have y1:=Y.c1;have x2:=X.c2;have y2:=Y.c2;have x3:=X.c3;have y3:=Y.c3;have x4:=X.c4;have y4:=Y.c4;have x5:=X.c5;have y5:=Y.c5))
      by_cases hd1:uy < 0
      · have HD1:Hid (decide (uy < 0)=true):=decide_eq_true hd1
        have HE1:=Lib.hid hd1;clear hd1
        by_cases hd2:vy < 0
        · have HD2:Hid (decide (vy < 0)=true):=decide_eq_true hd2
          have HE2:=Lib.hid hd2;clear hd2
          go_wp2_with (first
          | (go_at_call 44;(with_reducible refine (QjC p.pr (by omega) (by omega) true HD1.out).mono ?_);rintro e w_z ⟨rfl,hh⟩
             (try replace p:=p.below hh);(try replace q:=q.below hh);(try replace X:=X.below hh);(try replace Y:=Y.below hh);replace hb:=Qaj hb hh;replace hB:=Qaj hB hh;have x0:=X.c0;have y0:=Y.c0;have x1:=X.c1;have y1:=Y.c1;have x2:=X.c2;have y2:=Y.c2;have x3:=X.c3;have y3:=Y.c3;have x4:=X.c4;have y4:=Y.c4;have x5:=X.c5;have y5:=Y.c5)
          | (go_at_call 44;(with_reducible refine (QjC q.pr (by omega) (by omega) true HD2.out).mono ?_);rintro e w_z ⟨rfl,hh⟩
             (try replace p:=p.below hh);(try replace q:=q.below hh);(try replace X:=X.below hh);(try replace Y:=Y.below hh);replace hb:=Qaj hb hh;replace hB:=Qaj hB hh;have x0:=X.c0;have y0:=Y.c0;have x1:=X.c1;have y1:=Y.c1;have x2:=X.c2;have y2:=Y.c2;have x3:=X.c3;have y3:=Y.c3;have x4:=X.c4;have y4:=Y.c4;have x5:=X.c5;have y5:=Y.c5))
          go_roundg (gk - 1)
          case measure=>have:=HG.out;have:=HMN.out;omega
          case rel =>
           refine ⟨m+1,by have:=HG.out;have:=HMN.out;show _=_;omega,?_,by go_num,fun i hi u v h5 h6=>?_,hB⟩
           · have:=HC.out
             rw [HCT.out,if_neg (fun e=>e.2 HE2.out)] at this
             rw [this];go_num
           · rcases Nat.lt_or_ge i m with h | h
             · exact HS.out i h u v h5 h6
             · obtain rfl:i=m:=by omega
               rw [HU.out] at h5;rw [HV.out] at h6
               cases h5;cases h6
               exact of_decide_eq_true HLV.out
        · have HD2:Hid (decide (vy < 0)=false):=decide_eq_false hd2
          have HE2:=Lib.hid hd2;clear hd2
          go_wp2_with (first
          | (go_at_call 44;(with_reducible refine (QjC p.pr (by omega) (by omega) true HD1.out).mono ?_);rintro e w_z ⟨rfl,hh⟩
             (try replace p:=p.below hh);(try replace q:=q.below hh);(try replace X:=X.below hh);(try replace Y:=Y.below hh);replace hb:=Qaj hb hh;replace hB:=Qaj hB hh;have x0:=X.c0;have y0:=Y.c0;have x1:=X.c1;have y1:=Y.c1;have x2:=X.c2;have y2:=Y.c2;have x3:=X.c3;have y3:=Y.c3;have x4:=X.c4;have y4:=Y.c4;have x5:=X.c5;have y5:=Y.c5)
          | (go_at_call 44;(with_reducible refine (QjC q.pr (by omega) (by omega) false HD2.out).mono ?_);rintro e w_z ⟨rfl,hh⟩
             (try replace p:=p.below hh);(try replace q:=q.below hh);(try replace X:=X.below hh);(try replace Y:=Y.below hh);replace hb:=Qaj hb hh;replace hB:=Qaj hB hh;have x0:=X.c0;have y0:=Y.c0;have x1:=X.c1;have y1:=Y.c1;have x2:=X.c2;have y2:=Y.c2;have x3:=X.c3;have y3:=Y.c3;have x4:=X.c4;have y4:=Y.c4;have x5:=X.c5;have y5:=Y.c5))
          go_roundg (gk - 1)
          case measure=>have:=HG.out;have:=HMN.out;omega
          case rel =>
           refine ⟨m+1,by have:=HG.out;have:=HMN.out;show _=_;omega,?_,by go_num,fun i hi u v h5 h6=>?_,hB⟩
           · have:=HC.out
             rw [HCT.out,if_pos ⟨HE1.out,HE2.out⟩] at this
             rw [this];go_num
           · rcases Nat.lt_or_ge i m with h | h
             · exact HS.out i h u v h5 h6
             · obtain rfl:i=m:=by omega
               rw [HU.out] at h5;rw [HV.out] at h6
               cases h5;cases h6
               exact of_decide_eq_true HLV.out
      · have HD1:Hid (decide (uy < 0)=false):=decide_eq_false hd1
        have HE1:=Lib.hid hd1;clear hd1
        go_wp2_with (first
         | (go_at_call 44;(with_reducible refine (QjC p.pr (by omega) (by omega) false HD1.out).mono ?_);rintro e w_z ⟨rfl,hh⟩
            (try replace p:=p.below hh);(try replace q:=q.below hh);(try replace X:=X.below hh);(try replace Y:=Y.below hh);replace hb:=Qaj hb hh;replace hB:=Qaj hB hh;have x0:=X.c0;have y0:=Y.c0;have x1:=X.c1;have y1:=Y.c1;have x2:=X.c2;have y2:=Y.c2;have x3:=X.c3;have y3:=Y.c3;have x4:=X.c4;have y4:=Y.c4;have x5:=X.c5;have y5:=Y.c5))
        go_roundg (gk - 1)
        case measure=>have:=HG.out;have:=HMN.out;omega
        case rel =>
         refine ⟨m+1,by have:=HG.out;have:=HMN.out;show _=_;omega,?_,by go_num,fun i hi u v h5 h6=>?_,hB⟩
         · have:=HC.out
           rw [HCT.out,if_neg (fun e=>HE1.out e.1)] at this
           rw [this];go_num
         · rcases Nat.lt_or_ge i m with h | h
           · exact HS.out i h u v h5 h6
           · obtain rfl:i=m:=by omega
             rw [HU.out] at h5;rw [HV.out] at h6
             cases h5;cases h6
             exact of_decide_eq_true HLV.out
    · have HLV:Hid (decide (Qcd ux uy vx vy)=false):=decide_eq_false hlv
      have HF:Hid (false=R):=by
       show _=_
       cases R with
       | false=>rfl
       | true=>exact absurd ((HR0.out.1 rfl).1 m _ _ HU.out HV.out) hlv
      clear hlv
      go_wp2_with (first
       | (go_at_call 43;(with_reducible refine (Qq6 p.pr q.pr hk (by omega) false HLV.out).mono ?_);rintro e w_z ⟨rfl,hh⟩
          (try replace p:=p.below hh);(try replace q:=q.below hh);(try replace X:=X.below hh);(try replace Y:=Y.below hh);replace hb:=Qaj hb hh;replace hB:=Qaj hB hh;have x0:=X.c0;have y0:=Y.c0;have x1:=X.c1;have y1:=Y.c1;have x2:=X.c2;have y2:=Y.c2;have x3:=X.c3;have y3:=Y.c3;have x4:=X.c4;have y4:=Y.c4;have x5:=X.c5;have y5:=Y.c5))
      (try rw [Exit.noGoto_ret])
      go_ret
      exact ⟨by rw [← HF.out];rfl,hb⟩
  · have hlt:¬ (m:Int) < (n:Int):=by omega
    obtain rfl:m=n:=by have:=HG.out;omega
    obtain ⟨ct,hct⟩:∃ ct,Qfp (Qav (QbV l)) m=ct:=⟨_,rfl⟩
    rw [hct]
    have HT:Hid (((ct:Int) == 1)=R):=by
     show _=_
     rw [Bool.eq_iff_iff,beq_iff_eq,HR0.out]
     constructor
     · intro h
       refine ⟨fun i u v h5 h6=>HS.out i ?_ u v h5 h6,by rw [HNl.out,hct];omega⟩
       have h7:=(List.getElem?_eq_some_iff.1 h6).1
       have h8:=QcE l;rw [HNl.out] at h8
       rcases Nat.eq_zero_or_pos m with h9 | h9
       · subst h9
         rw [show Qfp (Qav (QbV l)) 0=0 from rfl] at hct;omega
       · rw [QbK _ (by rw [h8];exact h9),h8] at h7
         omega
     · intro h
       have h2:=h.2
       rw [HNl.out,hct] at h2;omega
    clear hmn hct
    go_wp2_with fail
    (try rw [Exit.noGoto_ret])
    go_ret
    exact ⟨by rw [← HT.out];first | rfl | simp,hb⟩
end
end Go.Proofs.YthbhngeiiabagaaGreat
