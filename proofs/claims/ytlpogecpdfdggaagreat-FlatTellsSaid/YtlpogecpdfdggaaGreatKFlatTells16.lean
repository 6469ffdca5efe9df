/- FlatTells: part 16. -/
import Derived.Test.YtlpogecpdfdggaaGreatKFlatTells11
import Derived.Test.YtlpogecpdfdggaaGreatKFlatTells12
import Derived.Test.YtlpogecpdfdggaaGreatKFlatTells13
import Derived.Test.YtlpogecpdfdggaaGreatKFlatTells14
import Derived.Test.YtlpogecpdfdggaaGreatKFlatTells15
set_option linter.unusedVariables false
set_option maxRecDepth 100000
set_option maxHeartbeats 16000000
variable {w:Go.World}
variable {s_p t_p:Bool} {A_p B_p E_p F_p:Option Go.Addr} {n_p c_p m_p d_p i_p e_p j_p f_p:Nat}
variable {s_q t_q:Bool} {A_q B_q E_q F_q:Option Go.Addr} {n_q c_q m_q d_q i_q e_q j_q f_q:Nat}
variable {s_r t_r:Bool} {A_r B_r E_r F_r:Option Go.Addr} {n_r c_r m_r d_r i_r e_r j_r f_r:Nat}
namespace Go.Proofs.YtlpogecpdfdggaaGreat
section
open Go Go.RowKit
def near2 (px py ax ay bx by_:Rat):Rat:=(px - bx)*(bx - ax)+(py - by_)*(by_ - ay)
theorem near2_eq (px py ax ay bx by_:Rat):near2 px py ax ay bx by_=forthQ px py ax ay bx by_ - wholeQ ax ay bx by_:=by unfold near2 forthQ wholeQ;grind
theorem sgn_nonneg {v:Rat}:0≤sgnQ v ↔ 0≤v:=by
 unfold sgnQ
 split
 · rename_i q;exact ⟨fun e=>absurd e (by decide),fun e=>absurd q (Rat.not_lt.2 e)⟩
 · rename_i q;exact ⟨fun _=>Rat.not_lt.1 q,fun _=>by split <;> decide⟩
theorem mid_eq {px py ax ay bx by_ T:Rat} (hw:wholeQ ax ay bx by_ ≠ 0) (hT:T=forthQ px py ax ay bx by_ / wholeQ ax ay bx by_) :
 asideQ px py ax ay bx by_*asideQ px py ax ay bx by_ / wholeQ ax ay bx by_=(px - (ax+(bx - ax)*T))*(px - (ax+(bx - ax)*T))+(py - (ay+(by_ - ay)*T))*(py - (ay+(by_ - ay)*T)):=by
 have e1:T*wholeQ ax ay bx by_=forthQ px py ax ay bx by_:=by rw [hT];exact Rat.div_mul_cancel hw
 have e2:((px - (ax+(bx - ax)*T))*(px - (ax+(bx - ax)*T))+(py - (ay+(by_ - ay)*T))*(py - (ay+(by_ - ay)*T)))*wholeQ ax ay bx by_=asideQ px py ax ay bx by_*asideQ px py ax ay bx by_:=by
  unfold wholeQ forthQ at e1
  unfold wholeQ asideQ
  grind
 rw [← e2]
 exact Rat.mul_div_cancel hw
theorem rfar6 {k k2:Nat} {x y x2 y2:Rat} (p:RP w s_p A_p n_p c_p B_p m_p d_p t_p E_p i_p e_p F_p j_p f_p x y k) (q:RP w s_q A_q n_q c_q B_q m_q d_q t_q E_q i_q e_q F_q j_q f_q x2 y2 k2) (hk:k≤1000) (hk2:k2≤1400) :
 Calls Tryz.prog 83 #[.agg #[.bool s_p,.slice A_p n_p c_p,.slice B_p m_p d_p,.bool t_p,.slice E_p i_p e_p,.slice F_p j_p f_p],.agg #[.bool s_q,.slice A_q n_q c_q,.slice B_q m_q d_q,.bool t_q,.slice E_q i_q e_q,.slice F_q j_q f_q]] w (GivesRQ w ((x - x2)*(x - x2)+(y - y2)*(y - y2)) (k+k2+1+(k+k2+1)+(k+k2+1+(k+k2+1))+1)):=by
 go_enter Tryz.func83,Tryz.ntmps83
 go_upto_region 1 with (fail)
 generalize hW:World.alloc _ _=W
 obtain ⟨hb,XA,XB,Z,hzW⟩:=mkbx37_14 hW;clear hW;replace p:=p.below hb;replace q:=q.below hb
 replace p:=p.below (Below.refl _ _).drew
 replace q:=q.below (Below.refl _ _).drew
 replace XA:=XA.below (Below.refl _ _).drew
 replace XB:=XB.below (Below.refl _ _).drew
 replace Z:=Z.below (Below.refl _ _).drew
 replace hb:=hb.drew
 go_region_held3 (fun w'=>w'.cell? ⟨w.heap.size,0,none⟩=some (.bool s_p)∧w'.cell? ⟨w.heap.size,1,none⟩=some (.slice A_p n_p c_p)∧w'.cell? ⟨w.heap.size,2,none⟩=some (.slice B_p m_p d_p)∧w'.cell? ⟨w.heap.size,3,none⟩=some (.bool t_p)∧w'.cell? ⟨w.heap.size,4,none⟩=some (.slice E_p i_p e_p)∧w'.cell? ⟨w.heap.size,5,none⟩=some (.slice F_p j_p f_p)∧w'.cell? ⟨w.heap.size+1,0,none⟩=some (.bool s_q)∧w'.cell? ⟨w.heap.size+1,1,none⟩=some (.slice A_q n_q c_q)∧w'.cell? ⟨w.heap.size+1,2,none⟩=some (.slice B_q m_q d_q)∧w'.cell? ⟨w.heap.size+1,3,none⟩=some (.bool t_q)∧w'.cell? ⟨w.heap.size+1,4,none⟩=some (.slice E_q i_q e_q)∧w'.cell? ⟨w.heap.size+1,5,none⟩=some (.slice F_q j_q f_q))
  (first | with_reducible exact ⟨XA.c0,XA.c1,XA.c2,XA.c3,XA.c4,XA.c5,XB.c0,XB.c1,XB.c2,XB.c3,XB.c4,XB.c5⟩ | with_reducible exact ⟨(set3_cell _ _ _ _ _ _ _ (by omega)).trans XA.c0,(set3_cell _ _ _ _ _ _ _ (by omega)).trans XA.c1,(set3_cell _ _ _ _ _ _ _ (by omega)).trans XA.c2,(set3_cell _ _ _ _ _ _ _ (by omega)).trans XA.c3,(set3_cell _ _ _ _ _ _ _ (by omega)).trans XA.c4,(set3_cell _ _ _ _ _ _ _ (by omega)).trans XA.c5,(set3_cell _ _ _ _ _ _ _ (by omega)).trans XB.c0,(set3_cell _ _ _ _ _ _ _ (by omega)).trans XB.c1,(set3_cell _ _ _ _ _ _ _ (by omega)).trans XB.c2,(set3_cell _ _ _ _ _ _ _ (by omega)).trans XB.c3,(set3_cell _ _ _ _ _ _ _ (by omega)).trans XB.c4,(set3_cell _ _ _ _ _ _ _ (by omega)).trans XB.c5⟩)
  (first
  | (go_at_call 113;(have h0:=a);(with_reducible refine (rsub6 p q (by omega) (by omega)).mono ?_);rintro e w_b ⟨s_b,A_b,n_b,c_b,B_b,m_b,d_b,t_b,E_b,i_b,e_b,F_b,j_b,f_b,rfl,b,hh⟩
     (try replace p:=p.below hh);(try replace q:=q.below hh);(try replace a:=a.below hh);(try replace XA:=XA.below hh);(try replace XB:=XB.below hh);(try replace Z:=Z.below hh);clear h0;replace hb:=bend hb hh)
  | (go_at_call 113;(with_reducible refine (rsub6 p q (by omega) (by omega)).mono ?_);rintro e w_a ⟨s_a,A_a,n_a,c_a,B_a,m_a,d_a,t_a,E_a,i_a,e_a,F_a,j_a,f_a,rfl,a,hh⟩
     (try replace p:=p.below hh);(try replace q:=q.below hh);(try replace XA:=XA.below hh);(try replace XB:=XB.below hh);(try replace Z:=Z.below hh);replace hb:=bend hb hh)
  | (go_at_call 112;(with_reducible refine (rdot6 a b (by omega) (by omega)).mono ?_);rintro e w_v ⟨s_v,A_v,n_v,c_v,B_v,m_v,d_v,rfl,v,hh⟩
     (try replace XA:=XA.below hh);(try replace XB:=XB.below hh);(try replace Z:=Z.below hh);replace hb:=bend hb hh;have zf0:=Z.f0;have zf1:=Z.f1;have zf2:=Z.f2;obtain ⟨z0,z1,z2⟩:=Z.all))
 go_wp2_with fail
 have Z2:=Z.set3 (.bool s_v) (.slice A_v n_v c_v) (.slice B_v m_v d_v)
 obtain ⟨g0,g1,g2⟩:=Z2.all
 refine bodyPost_ret (v:=.agg #[.bool s_v,.slice A_v n_v c_v,.slice B_v m_v d_v]) (by simp [results,Tryz.results83,go_sem,g0,g1,g2]) rfl ?_
 exact ⟨s_v,A_v,n_v,c_v,B_v,m_v,d_v,rfl,v.set3 Z _ _ _,below_set3 hb (by omega) _ _ _⟩
theorem mkbx40_16 {w W:World} {x0 x1 x2 x3 x4 x5 x6 x7 x8 x9 x10 x11 x12 x13 x14 x15 x16 x17 x18 x19 x20 x21 x22 x23:Value} (h:((((w.alloc (Obj.cells #[x0,x1,x2,x3,x4,x5] 80)).alloc (Obj.cells #[x6,x7,x8,x9,x10,x11] 80)).alloc (Obj.cells #[x12,x13,x14,x15,x16,x17] 80)).alloc (Obj.cells #[x18,x19,x20,x21,x22,x23] 80))=W):Below w.heap.size w W∧B6R W (w.heap.size) x0 x1 x2 x3 x4 x5∧B6R W (w.heap.size+1) x6 x7 x8 x9 x10 x11∧B6R W (w.heap.size+1+1) x12 x13 x14 x15 x16 x17∧B6R W (w.heap.size+1+1+1) x18 x19 x20 x21 x22 x23∧W.heap.size=w.heap.size+4:=by subst h;exact ⟨by exact (((((Below.refl _ _).alloc (Nat.le_refl _) _).alloc (by simp) _).alloc (by simp;omega) _).alloc (by simp;omega) _),by exact (((B6R.new' _ _ _ _ _ _ _ _ rfl).alloc _).alloc _).alloc _,by exact ((B6R.new' _ _ _ _ _ _ _ _ (by simp)).alloc _).alloc _,by exact (B6R.new' _ _ _ _ _ _ _ _ (by simp)).alloc _,by exact B6R.new' _ _ _ _ _ _ _ _ (by simp),by simp⟩
theorem rnear_same {kp k:Nat} {px py ax ay bx by_:Rat} (p:RP w s_p A_p n_p c_p B_p m_p d_p t_p E_p i_p e_p F_p j_p f_p px py kp) (q:RP w s_q A_q n_q c_q B_q m_q d_q t_q E_q i_q e_q F_q j_q f_q ax ay k) (r:RP w s_r A_r n_r c_r B_r m_r d_r t_r E_r i_r e_r F_r j_r f_r bx by_ k) (hkp:kp≤300) (hk:k≤40) (hs:ax=bx∧ay=by_) :
 Calls Tryz.prog 84 #[.agg #[.bool s_p,.slice A_p n_p c_p,.slice B_p m_p d_p,.bool t_p,.slice E_p i_p e_p,.slice F_p j_p f_p],.agg #[.bool s_q,.slice A_q n_q c_q,.slice B_q m_q d_q,.bool t_q,.slice E_q i_q e_q,.slice F_q j_q f_q],.agg #[.bool s_r,.slice A_r n_r c_r,.slice B_r m_r d_r,.bool t_r,.slice E_r i_r e_r,.slice F_r j_r f_r]] w (GivesRP w ax ay (2*kp+17*k+12)):=by
 have HS:Hid (decide (ax=bx∧ay=by_)=true):=decide_eq_true hs
 clear hs
 go_enter Tryz.func84,Tryz.ntmps84
 go_wp2_with fail
 generalize hW:World.alloc _ _=W
 obtain ⟨hb,XA,XB,XC,Z,hzW⟩:=mkbx40_16 hW;clear hW;replace p:=p.below hb;replace q:=q.below hb;replace r:=r.below hb;obtain ⟨xa0,xa1,xa2,xa3,xa4,xa5⟩:=XA.all;obtain ⟨xb0,xb1,xb2,xb3,xb4,xb5⟩:=XB.all;obtain ⟨xc0,xc1,xc2,xc3,xc4,xc5⟩:=XC.all
 go_upto_region 2 with (first
  | (go_at_call 113;(with_reducible refine (rsub6 r q (by omega) (by omega)).mono ?_);rintro e w_d ⟨s_d,A_d,n_d,c_d,B_d,m_d,d_d,t_d,E_d,i_d,e_d,F_d,j_d,f_d,rfl,d,hh⟩
     have hgd:w.heap.size+4≤w_d.heap.size:=by have:=hh.size;omega
     (try replace p:=p.below hh);(try replace q:=q.below hh);(try replace r:=r.below hh);(try replace XA:=XA.below hh);(try replace XB:=XB.below hh);(try replace XC:=XC.below hh);(try replace Z:=Z.below hh);replace hb:=bend hb hh;obtain ⟨xa0,xa1,xa2,xa3,xa4,xa5⟩:=XA.all;obtain ⟨xb0,xb1,xb2,xb3,xb4,xb5⟩:=XB.all;obtain ⟨xc0,xc1,xc2,xc3,xc4,xc5⟩:=XC.all))
 generalize hW:World.alloc _ _=W2
 obtain ⟨hh,XD,hzW2⟩:=mkbx31_12 hW;clear hW;(try replace p:=p.below hh);(try replace q:=q.below hh);(try replace r:=r.below hh);(try replace XA:=XA.below hh);(try replace XB:=XB.below hh);(try replace XC:=XC.below hh);(try replace Z:=Z.below hh);(try replace d:=d.below hh);replace hb:=bend hb hh
 replace p:=p.below (Below.refl _ _).drew
 replace q:=q.below (Below.refl _ _).drew
 replace r:=r.below (Below.refl _ _).drew
 replace d:=d.below (Below.refl _ _).drew
 replace XA:=XA.below (Below.refl _ _).drew
 replace XB:=XB.below (Below.refl _ _).drew
 replace XC:=XC.below (Below.refl _ _).drew
 replace XD:=XD.below (Below.refl _ _).drew
 replace Z:=Z.below (Below.refl _ _).drew
 replace hb:=hb.drew
 refine wp_region_held_drew (S:=(fun w'=>w'.cell? ⟨w.heap.size,0,none⟩=some (.bool s_p)∧w'.cell? ⟨w.heap.size,1,none⟩=some (.slice A_p n_p c_p)∧w'.cell? ⟨w.heap.size,2,none⟩=some (.slice B_p m_p d_p)∧w'.cell? ⟨w.heap.size,3,none⟩=some (.bool t_p)∧w'.cell? ⟨w.heap.size,4,none⟩=some (.slice E_p i_p e_p)∧w'.cell? ⟨w.heap.size,5,none⟩=some (.slice F_p j_p f_p)∧w'.cell? ⟨w.heap.size+1,0,none⟩=some (.bool s_q)∧w'.cell? ⟨w.heap.size+1,1,none⟩=some (.slice A_q n_q c_q)∧w'.cell? ⟨w.heap.size+1,2,none⟩=some (.slice B_q m_q d_q)∧w'.cell? ⟨w.heap.size+1,3,none⟩=some (.bool t_q)∧w'.cell? ⟨w.heap.size+1,4,none⟩=some (.slice E_q i_q e_q)∧w'.cell? ⟨w.heap.size+1,5,none⟩=some (.slice F_q j_q f_q)∧w'.cell? ⟨w.heap.size+1+1,0,none⟩=some (.bool s_r)∧w'.cell? ⟨w.heap.size+1+1,1,none⟩=some (.slice A_r n_r c_r)∧w'.cell? ⟨w.heap.size+1+1,2,none⟩=some (.slice B_r m_r d_r)∧w'.cell? ⟨w.heap.size+1+1,3,none⟩=some (.bool t_r)∧w'.cell? ⟨w.heap.size+1+1,4,none⟩=some (.slice E_r i_r e_r)∧w'.cell? ⟨w.heap.size+1+1,5,none⟩=some (.slice F_r j_r f_r)∧w'.cell? ⟨w_d.heap.size,0,none⟩=some (.bool s_d)∧w'.cell? ⟨w_d.heap.size,1,none⟩=some (.slice A_d n_d c_d)∧w'.cell? ⟨w_d.heap.size,2,none⟩=some (.slice B_d m_d d_d)∧w'.cell? ⟨w_d.heap.size,3,none⟩=some (.bool t_d)∧w'.cell? ⟨w_d.heap.size,4,none⟩=some (.slice E_d i_d e_d)∧w'.cell? ⟨w_d.heap.size,5,none⟩=some (.slice F_d j_d f_d))) (by kernel_rfl) ⟨XA.c0,XA.c1,XA.c2,XA.c3,XA.c4,XA.c5,XB.c0,XB.c1,XB.c2,XB.c3,XB.c4,XB.c5,XC.c0,XC.c1,XC.c2,XC.c3,XC.c4,XC.c5,XD.c0,XD.c1,XD.c2,XD.c3,XD.c4,XD.c5⟩ (fun hHeld=>?_)
 refine wpAnyH_take (i:=0) (oi:=⟨some 11,.load 80 (.tmp 4),80, "ref.go:62",#[],none⟩) (v:=?_) rfl (by kernel_rfl) (by kernel_rfl) (by kernel_rfl) (fun _ _ _ h=>h) (Or.inl ⟨by rfl,?_⟩) hHeld ?_
 rotate_left
 · (intro w hSw;(try dsimp only at hSw);go_simp;try with_reducible rfl)
 simp only [Act.put,List.setIfInBounds_toArray,List.set_cons_zero,List.set_cons_succ]
 refine wpAnyH_take (i:=1) (oi:=⟨some 12,.load 80 (.tmp 5),80, "ref.go:62",#[],none⟩) (v:=?_) rfl (by kernel_rfl) (by kernel_rfl) (by kernel_rfl) (fun _ _ _ h=>h) (Or.inl ⟨by rfl,?_⟩) hHeld ?_
 rotate_left
 · (intro w hSw;(try dsimp only at hSw);go_simp;try with_reducible rfl)
 simp only [Act.put,List.setIfInBounds_toArray,List.set_cons_zero,List.set_cons_succ]
 refine wpAnyH_ready (rs:=[2]) (by kernel_rfl) (by simp) ?_
 refine AllReadyH.cons (o:=⟨some 13,.call ⟨.value (.func 114),#[.tmp 11,.tmp 12],#[80,80]⟩,4, "ref.go:62",#[⟨0,.data⟩,⟨1,.data⟩],none⟩) rfl (fun K1 hK1=>?_) AllReadyH.nil
 go_simp
 first
  | (go_at_call 114;(with_reducible refine (rsame6 q r (by omega) (by omega) true HS.out).mono ?_);rintro e w_z ⟨rfl,hh⟩
     (try replace p:=p.below hh);(try replace q:=q.below hh);(try replace r:=r.below hh);(try replace d:=d.below hh);(try replace XA:=XA.below hh);(try replace XB:=XB.below hh);(try replace XC:=XC.below hh);(try replace XD:=XD.below hh);(try replace Z:=Z.below hh);replace hb:=bend hb hh)
 refine hK1.out _ _ ⟨XA.c0,XA.c1,XA.c2,XA.c3,XA.c4,XA.c5,XB.c0,XB.c1,XB.c2,XB.c3,XB.c4,XB.c5,XC.c0,XC.c1,XC.c2,XC.c3,XC.c4,XC.c5,XD.c0,XD.c1,XD.c2,XD.c3,XD.c4,XD.c5⟩ (fun hHeld=>?_)
 clear hK1 K1
 refine wpAnyH_take (i:=3) (oi:=⟨some 14,.move (.tmp 13),4, "ref.go:62",#[⟨2,.data⟩,⟨2,.chain⟩],none⟩) (v:=?_) rfl (by kernel_rfl) (by kernel_rfl) (by kernel_rfl) (fun _ _ _ h=>h) (Or.inl ⟨by rfl,?_⟩) hHeld ?_
 rotate_left
 · (intro w hSw;(try dsimp only at hSw);go_simp;try with_reducible rfl)
 simp only [Act.put,List.setIfInBounds_toArray,List.set_cons_zero,List.set_cons_succ]
 refine wpAnyH_take (i:=4) (oi:=⟨some 15,.load 80 (.tmp 3),80, "ref.go:62",#[⟨3,.guard⟩],some (3,false)⟩) (v:=undef) rfl (by kernel_rfl) (by kernel_rfl) (by kernel_rfl) (fun _ _ _ h=>h) (Or.inr ⟨by rfl,rfl⟩) hHeld ?_
 simp only [Act.put,List.setIfInBounds_toArray,List.set_cons_zero,List.set_cons_succ]
 refine wpAnyH_take (i:=5) (oi:=⟨some 16,.load 80 (.tmp 4),80, "ref.go:62",#[⟨3,.guard⟩],some (3,false)⟩) (v:=undef) rfl (by kernel_rfl) (by kernel_rfl) (by kernel_rfl) (fun _ _ _ h=>h) (Or.inr ⟨by rfl,rfl⟩) hHeld ?_
 simp only [Act.put,List.setIfInBounds_toArray,List.set_cons_zero,List.set_cons_succ]
 refine wpAnyH_take (i:=6) (oi:=⟨some 17,.call ⟨.value (.func 113),#[.tmp 15,.tmp 16],#[80,80]⟩,80, "ref.go:62",#[⟨4,.data⟩,⟨5,.data⟩,⟨3,.chain⟩,⟨3,.guard⟩],some (3,false)⟩) (v:=undef) rfl (by kernel_rfl) (by kernel_rfl) (by kernel_rfl) (fun _ _ _ h=>h) (Or.inr ⟨by rfl,rfl⟩) hHeld ?_
 simp only [Act.put,List.setIfInBounds_toArray,List.set_cons_zero,List.set_cons_succ]
 refine wpAnyH_take (i:=7) (oi:=⟨some 18,.load 80 (.tmp 7),80, "ref.go:62",#[⟨3,.guard⟩],some (3,false)⟩) (v:=undef) rfl (by kernel_rfl) (by kernel_rfl) (by kernel_rfl) (fun _ _ _ h=>h) (Or.inr ⟨by rfl,rfl⟩) hHeld ?_
 simp only [Act.put,List.setIfInBounds_toArray,List.set_cons_zero,List.set_cons_succ]
 refine wpAnyH_take (i:=8) (oi:=⟨some 19,.call ⟨.value (.func 112),#[.tmp 17,.tmp 18],#[80,80]⟩,43, "ref.go:62",#[⟨6,.data⟩,⟨7,.data⟩,⟨6,.chain⟩,⟨3,.guard⟩],some (3,false)⟩) (v:=undef) rfl (by kernel_rfl) (by kernel_rfl) (by kernel_rfl) (fun _ _ _ h=>h) (Or.inr ⟨by rfl,rfl⟩) hHeld ?_
 simp only [Act.put,List.setIfInBounds_toArray,List.set_cons_zero,List.set_cons_succ]
 refine wpAnyH_take (i:=9) (oi:=⟨some 20,.call ⟨.value (.func 31),#[.tmp 19],#[43]⟩,3, "ref.go:62",#[⟨8,.data⟩,⟨8,.chain⟩,⟨3,.guard⟩],some (3,false)⟩) (v:=undef) rfl (by kernel_rfl) (by kernel_rfl) (by kernel_rfl) (fun _ _ _ h=>h) (Or.inr ⟨by rfl,rfl⟩) hHeld ?_
 simp only [Act.put,List.setIfInBounds_toArray,List.set_cons_zero,List.set_cons_succ]
 refine wpAnyH_take (i:=10) (oi:=⟨some 21,.binOp BinOp.leq 3 (.tmp 20) (.const (Value.int IntKind.i64 0)) 3,4, "ref.go:62",#[⟨9,.data⟩,⟨3,.guard⟩],some (3,false)⟩) (v:=undef) rfl (by kernel_rfl) (by kernel_rfl) (by kernel_rfl) (fun _ _ _ h=>h) (Or.inr ⟨by rfl,rfl⟩) hHeld ?_
 simp only [Act.put,List.setIfInBounds_toArray,List.set_cons_zero,List.set_cons_succ]
 refine wpAnyH_take (i:=11) (oi:=⟨some 22,.pick (.tmp 14) (.const (Value.bool true)) (.tmp 21),4, "ref.go:62",#[⟨3,.data⟩,⟨10,.data⟩],none⟩) (v:=?_) rfl (by kernel_rfl) (by kernel_rfl) (by kernel_rfl) (fun _ _ _ h=>h) (Or.inl ⟨by rfl,?_⟩) hHeld ?_
 rotate_left
 · (intro w hSw;(try dsimp only at hSw);go_simp;try with_reducible rfl)
 simp only [Act.put,List.setIfInBounds_toArray,List.set_cons_zero,List.set_cons_succ]
 refine wpAnyH_done (by kernel_rfl) ?_ _
 clear hHeld;have zg0:=Z.f0;have zg1:=Z.f1;have zg2:=Z.f2;have zg3:=Z.f3;have zg4:=Z.f4;have zg5:=Z.f5;obtain ⟨zc0,zc1,zc2,zc3,zc4,zc5⟩:=Z.all;obtain ⟨xb0,xb1,xb2,xb3,xb4,xb5⟩:=XB.all
 go_wp2_with fail
 have Z2:=Z.set6 (.bool s_q) (.slice A_q n_q c_q) (.slice B_q m_q d_q) (.bool t_q) (.slice E_q i_q e_q) (.slice F_q j_q f_q)
 obtain ⟨g0,g1,g2,g3,g4,g5⟩:=Z2.all
 refine bodyPost_ret (v:=.agg #[.bool s_q,.slice A_q n_q c_q,.slice B_q m_q d_q,.bool t_q,.slice E_q i_q e_q,.slice F_q j_q f_q]) (by simp [results,Tryz.results84,go_sem,g0,g1,g2,g3,g4,g5]) rfl ?_
 exact ⟨s_q,A_q,n_q,c_q,B_q,m_q,d_q,t_q,E_q,i_q,e_q,F_q,j_q,f_q,rfl,(q.more (by omega)).set6 Z _ _ _ _ _ _,below_set6 hb (by omega) _ _ _ _ _ _⟩
theorem rnear_lo {kp k:Nat} {px py ax ay bx by_:Rat} (p:RP w s_p A_p n_p c_p B_p m_p d_p t_p E_p i_p e_p F_p j_p f_p px py kp) (q:RP w s_q A_q n_q c_q B_q m_q d_q t_q E_q i_q e_q F_q j_q f_q ax ay k) (r:RP w s_r A_r n_r c_r B_r m_r d_r t_r E_r i_r e_r F_r j_r f_r bx by_ k) (hkp:kp≤300) (hk:k≤40) (hs:¬ (ax=bx∧ay=by_)) (hf:forthQ px py ax ay bx by_≤0) :
 Calls Tryz.prog 84 #[.agg #[.bool s_p,.slice A_p n_p c_p,.slice B_p m_p d_p,.bool t_p,.slice E_p i_p e_p,.slice F_p j_p f_p],.agg #[.bool s_q,.slice A_q n_q c_q,.slice B_q m_q d_q,.bool t_q,.slice E_q i_q e_q,.slice F_q j_q f_q],.agg #[.bool s_r,.slice A_r n_r c_r,.slice B_r m_r d_r,.bool t_r,.slice E_r i_r e_r,.slice F_r j_r f_r]] w (GivesRP w ax ay (2*kp+17*k+12)):=by
 have HS:Hid (decide (ax=bx∧ay=by_)=false):=decide_eq_false hs
 obtain ⟨U,hU,hU0⟩:∃ U,sgnQ ((px - ax)*(bx - ax)+(py - ay)*(by_ - ay))=U∧decide (U≤0)=true:=⟨_,rfl,decide_eq_true (sgn_nonpos.2 hf)⟩
 have HU:=Lib.hid hU;clear hU;clear hs hf
 go_enter Tryz.func84,Tryz.ntmps84
 go_wp2_with fail
 generalize hW:World.alloc _ _=W
 obtain ⟨hb,XA,XB,XC,Z,hzW⟩:=mkbx40_16 hW;clear hW;replace p:=p.below hb;replace q:=q.below hb;replace r:=r.below hb;obtain ⟨xa0,xa1,xa2,xa3,xa4,xa5⟩:=XA.all;obtain ⟨xb0,xb1,xb2,xb3,xb4,xb5⟩:=XB.all;obtain ⟨xc0,xc1,xc2,xc3,xc4,xc5⟩:=XC.all
 go_upto_region 2 with (first
  | (go_at_call 113;(with_reducible refine (rsub6 r q (by omega) (by omega)).mono ?_);rintro e w_d ⟨s_d,A_d,n_d,c_d,B_d,m_d,d_d,t_d,E_d,i_d,e_d,F_d,j_d,f_d,rfl,d,hh⟩
     have hgd:w.heap.size+4≤w_d.heap.size:=by have:=hh.size;omega
     (try replace p:=p.below hh);(try replace q:=q.below hh);(try replace r:=r.below hh);(try replace XA:=XA.below hh);(try replace XB:=XB.below hh);(try replace XC:=XC.below hh);(try replace Z:=Z.below hh);replace hb:=bend hb hh;obtain ⟨xa0,xa1,xa2,xa3,xa4,xa5⟩:=XA.all;obtain ⟨xb0,xb1,xb2,xb3,xb4,xb5⟩:=XB.all;obtain ⟨xc0,xc1,xc2,xc3,xc4,xc5⟩:=XC.all))
 generalize hW:World.alloc _ _=W2
 obtain ⟨hh,XD,hzW2⟩:=mkbx31_12 hW;clear hW;(try replace p:=p.below hh);(try replace q:=q.below hh);(try replace r:=r.below hh);(try replace XA:=XA.below hh);(try replace XB:=XB.below hh);(try replace XC:=XC.below hh);(try replace Z:=Z.below hh);(try replace d:=d.below hh);replace hb:=bend hb hh
 replace p:=p.below (Below.refl _ _).drew
 replace q:=q.below (Below.refl _ _).drew
 replace r:=r.below (Below.refl _ _).drew
 replace d:=d.below (Below.refl _ _).drew
 replace XA:=XA.below (Below.refl _ _).drew
 replace XB:=XB.below (Below.refl _ _).drew
 replace XC:=XC.below (Below.refl _ _).drew
 replace XD:=XD.below (Below.refl _ _).drew
 replace Z:=Z.below (Below.refl _ _).drew
 replace hb:=hb.drew
 go_region_held3 (fun w'=>w'.cell? ⟨w.heap.size,0,none⟩=some (.bool s_p)∧w'.cell? ⟨w.heap.size,1,none⟩=some (.slice A_p n_p c_p)∧w'.cell? ⟨w.heap.size,2,none⟩=some (.slice B_p m_p d_p)∧w'.cell? ⟨w.heap.size,3,none⟩=some (.bool t_p)∧w'.cell? ⟨w.heap.size,4,none⟩=some (.slice E_p i_p e_p)∧w'.cell? ⟨w.heap.size,5,none⟩=some (.slice F_p j_p f_p)∧w'.cell? ⟨w.heap.size+1,0,none⟩=some (.bool s_q)∧w'.cell? ⟨w.heap.size+1,1,none⟩=some (.slice A_q n_q c_q)∧w'.cell? ⟨w.heap.size+1,2,none⟩=some (.slice B_q m_q d_q)∧w'.cell? ⟨w.heap.size+1,3,none⟩=some (.bool t_q)∧w'.cell? ⟨w.heap.size+1,4,none⟩=some (.slice E_q i_q e_q)∧w'.cell? ⟨w.heap.size+1,5,none⟩=some (.slice F_q j_q f_q)∧w'.cell? ⟨w.heap.size+1+1,0,none⟩=some (.bool s_r)∧w'.cell? ⟨w.heap.size+1+1,1,none⟩=some (.slice A_r n_r c_r)∧w'.cell? ⟨w.heap.size+1+1,2,none⟩=some (.slice B_r m_r d_r)∧w'.cell? ⟨w.heap.size+1+1,3,none⟩=some (.bool t_r)∧w'.cell? ⟨w.heap.size+1+1,4,none⟩=some (.slice E_r i_r e_r)∧w'.cell? ⟨w.heap.size+1+1,5,none⟩=some (.slice F_r j_r f_r)∧w'.cell? ⟨w_d.heap.size,0,none⟩=some (.bool s_d)∧w'.cell? ⟨w_d.heap.size,1,none⟩=some (.slice A_d n_d c_d)∧w'.cell? ⟨w_d.heap.size,2,none⟩=some (.slice B_d m_d d_d)∧w'.cell? ⟨w_d.heap.size,3,none⟩=some (.bool t_d)∧w'.cell? ⟨w_d.heap.size,4,none⟩=some (.slice E_d i_d e_d)∧w'.cell? ⟨w_d.heap.size,5,none⟩=some (.slice F_d j_d f_d))
  (first | with_reducible exact ⟨XA.c0,XA.c1,XA.c2,XA.c3,XA.c4,XA.c5,XB.c0,XB.c1,XB.c2,XB.c3,XB.c4,XB.c5,XC.c0,XC.c1,XC.c2,XC.c3,XC.c4,XC.c5,XD.c0,XD.c1,XD.c2,XD.c3,XD.c4,XD.c5⟩)
  (first
  | (go_at_call 114;(with_reducible refine (rsame6 q r (by omega) (by omega) false HS.out).mono ?_);rintro e w_z ⟨rfl,hh⟩
     (try replace p:=p.below hh);(try replace q:=q.below hh);(try replace r:=r.below hh);(try replace d:=d.below hh);(try replace XA:=XA.below hh);(try replace XB:=XB.below hh);(try replace XC:=XC.below hh);(try replace XD:=XD.below hh);(try replace Z:=Z.below hh);replace hb:=bend hb hh)
  | (go_at_call 113;(with_reducible refine (rsub6 p q (by omega) (by omega)).mono ?_);rintro e w_a ⟨s_a,A_a,n_a,c_a,B_a,m_a,d_a,t_a,E_a,i_a,e_a,F_a,j_a,f_a,rfl,a,hh⟩
     (try replace p:=p.below hh);(try replace q:=q.below hh);(try replace r:=r.below hh);(try replace d:=d.below hh);(try replace XA:=XA.below hh);(try replace XB:=XB.below hh);(try replace XC:=XC.below hh);(try replace XD:=XD.below hh);(try replace Z:=Z.below hh);replace hb:=bend hb hh)
  | (go_at_call 112;(with_reducible refine (rdot6 a d (by omega) (by omega)).mono ?_);rintro e w_f ⟨s_f,A_f,n_f,c_f,B_f,m_f,d_f,rfl,f,hh⟩
     (try replace p:=p.below hh);(try replace q:=q.below hh);(try replace r:=r.below hh);(try replace d:=d.below hh);(try replace XA:=XA.below hh);(try replace XB:=XB.below hh);(try replace XC:=XC.below hh);(try replace XD:=XD.below hh);(try replace Z:=Z.below hh);replace hb:=bend hb hh;clear a)
  | (go_at_call 31;(with_reducible refine (rsign3 f).mono ?_);rintro e w_z ⟨rfl,hh⟩
     rw [HU.out];clear f
     (try replace p:=p.below hh);(try replace q:=q.below hh);(try replace r:=r.below hh);(try replace d:=d.below hh);(try replace XA:=XA.below hh);(try replace XB:=XB.below hh);(try replace XC:=XC.below hh);(try replace XD:=XD.below hh);(try replace Z:=Z.below hh);replace hb:=bend hb hh))
 have zg0:=Z.f0;have zg1:=Z.f1;have zg2:=Z.f2;have zg3:=Z.f3;have zg4:=Z.f4;have zg5:=Z.f5;obtain ⟨zc0,zc1,zc2,zc3,zc4,zc5⟩:=Z.all;obtain ⟨xb0,xb1,xb2,xb3,xb4,xb5⟩:=XB.all
 go_wp2_with fail
 have Z2:=Z.set6 (.bool s_q) (.slice A_q n_q c_q) (.slice B_q m_q d_q) (.bool t_q) (.slice E_q i_q e_q) (.slice F_q j_q f_q)
 obtain ⟨g0,g1,g2,g3,g4,g5⟩:=Z2.all
 refine bodyPost_ret (v:=.agg #[.bool s_q,.slice A_q n_q c_q,.slice B_q m_q d_q,.bool t_q,.slice E_q i_q e_q,.slice F_q j_q f_q]) (by simp [results,Tryz.results84,go_sem,g0,g1,g2,g3,g4,g5]) rfl ?_
 exact ⟨s_q,A_q,n_q,c_q,B_q,m_q,d_q,t_q,E_q,i_q,e_q,F_q,j_q,f_q,rfl,(q.more (by omega)).set6 Z _ _ _ _ _ _,below_set6 hb (by omega) _ _ _ _ _ _⟩
theorem rnear_hi {kp k:Nat} {px py ax ay bx by_:Rat} (p:RP w s_p A_p n_p c_p B_p m_p d_p t_p E_p i_p e_p F_p j_p f_p px py kp) (q:RP w s_q A_q n_q c_q B_q m_q d_q t_q E_q i_q e_q F_q j_q f_q ax ay k) (r:RP w s_r A_r n_r c_r B_r m_r d_r t_r E_r i_r e_r F_r j_r f_r bx by_ k) (hkp:kp≤300) (hk:k≤40) (hs:¬ (ax=bx∧ay=by_)) (hf:¬ forthQ px py ax ay bx by_≤0) (hv:0≤near2 px py ax ay bx by_) :
 Calls Tryz.prog 84 #[.agg #[.bool s_p,.slice A_p n_p c_p,.slice B_p m_p d_p,.bool t_p,.slice E_p i_p e_p,.slice F_p j_p f_p],.agg #[.bool s_q,.slice A_q n_q c_q,.slice B_q m_q d_q,.bool t_q,.slice E_q i_q e_q,.slice F_q j_q f_q],.agg #[.bool s_r,.slice A_r n_r c_r,.slice B_r m_r d_r,.bool t_r,.slice E_r i_r e_r,.slice F_r j_r f_r]] w (GivesRP w bx by_ (2*kp+17*k+12)):=by
 have HS:Hid (decide (ax=bx∧ay=by_)=false):=decide_eq_false hs
 obtain ⟨U,hU,hU0⟩:∃ U,sgnQ ((px - ax)*(bx - ax)+(py - ay)*(by_ - ay))=U∧decide (U≤0)=false:=⟨_,rfl,decide_eq_false (fun e=>hf (sgn_nonpos.1 e))⟩
 have HU:=Lib.hid hU;clear hU
 obtain ⟨T,hT,hT0⟩:∃ T,sgnQ ((px - bx)*(bx - ax)+(py - by_)*(by_ - ay))=T∧decide (0≤T)=true:=⟨_,rfl,decide_eq_true (sgn_nonneg.2 hv)⟩
 have HT:=Lib.hid hT;clear hT;clear hs hf hv
 go_enter Tryz.func84,Tryz.ntmps84
 go_wp2_with fail
 generalize hW:World.alloc _ _=W
 obtain ⟨hb,XA,XB,XC,Z,hzW⟩:=mkbx40_16 hW;clear hW;replace p:=p.below hb;replace q:=q.below hb;replace r:=r.below hb;obtain ⟨xa0,xa1,xa2,xa3,xa4,xa5⟩:=XA.all;obtain ⟨xb0,xb1,xb2,xb3,xb4,xb5⟩:=XB.all;obtain ⟨xc0,xc1,xc2,xc3,xc4,xc5⟩:=XC.all
 go_upto_region 2 with (first
  | (go_at_call 113;(with_reducible refine (rsub6 r q (by omega) (by omega)).mono ?_);rintro e w_d ⟨s_d,A_d,n_d,c_d,B_d,m_d,d_d,t_d,E_d,i_d,e_d,F_d,j_d,f_d,rfl,d,hh⟩
     have hgd:w.heap.size+4≤w_d.heap.size:=by have:=hh.size;omega
     (try replace p:=p.below hh);(try replace q:=q.below hh);(try replace r:=r.below hh);(try replace XA:=XA.below hh);(try replace XB:=XB.below hh);(try replace XC:=XC.below hh);(try replace Z:=Z.below hh);replace hb:=bend hb hh;obtain ⟨xa0,xa1,xa2,xa3,xa4,xa5⟩:=XA.all;obtain ⟨xb0,xb1,xb2,xb3,xb4,xb5⟩:=XB.all;obtain ⟨xc0,xc1,xc2,xc3,xc4,xc5⟩:=XC.all))
 generalize hW:World.alloc _ _=W2
 obtain ⟨hh,XD,hzW2⟩:=mkbx31_12 hW;clear hW;(try replace p:=p.below hh);(try replace q:=q.below hh);(try replace r:=r.below hh);(try replace XA:=XA.below hh);(try replace XB:=XB.below hh);(try replace XC:=XC.below hh);(try replace Z:=Z.below hh);(try replace d:=d.below hh);replace hb:=bend hb hh
 replace p:=p.below (Below.refl _ _).drew
 replace q:=q.below (Below.refl _ _).drew
 replace r:=r.below (Below.refl _ _).drew
 replace d:=d.below (Below.refl _ _).drew
 replace XA:=XA.below (Below.refl _ _).drew
 replace XB:=XB.below (Below.refl _ _).drew
 replace XC:=XC.below (Below.refl _ _).drew
 replace XD:=XD.below (Below.refl _ _).drew
 replace Z:=Z.below (Below.refl _ _).drew
 replace hb:=hb.drew
 go_region_held3 (fun w'=>w'.cell? ⟨w.heap.size,0,none⟩=some (.bool s_p)∧w'.cell? ⟨w.heap.size,1,none⟩=some (.slice A_p n_p c_p)∧w'.cell? ⟨w.heap.size,2,none⟩=some (.slice B_p m_p d_p)∧w'.cell? ⟨w.heap.size,3,none⟩=some (.bool t_p)∧w'.cell? ⟨w.heap.size,4,none⟩=some (.slice E_p i_p e_p)∧w'.cell? ⟨w.heap.size,5,none⟩=some (.slice F_p j_p f_p)∧w'.cell? ⟨w.heap.size+1,0,none⟩=some (.bool s_q)∧w'.cell? ⟨w.heap.size+1,1,none⟩=some (.slice A_q n_q c_q)∧w'.cell? ⟨w.heap.size+1,2,none⟩=some (.slice B_q m_q d_q)∧w'.cell? ⟨w.heap.size+1,3,none⟩=some (.bool t_q)∧w'.cell? ⟨w.heap.size+1,4,none⟩=some (.slice E_q i_q e_q)∧w'.cell? ⟨w.heap.size+1,5,none⟩=some (.slice F_q j_q f_q)∧w'.cell? ⟨w.heap.size+1+1,0,none⟩=some (.bool s_r)∧w'.cell? ⟨w.heap.size+1+1,1,none⟩=some (.slice A_r n_r c_r)∧w'.cell? ⟨w.heap.size+1+1,2,none⟩=some (.slice B_r m_r d_r)∧w'.cell? ⟨w.heap.size+1+1,3,none⟩=some (.bool t_r)∧w'.cell? ⟨w.heap.size+1+1,4,none⟩=some (.slice E_r i_r e_r)∧w'.cell? ⟨w.heap.size+1+1,5,none⟩=some (.slice F_r j_r f_r)∧w'.cell? ⟨w_d.heap.size,0,none⟩=some (.bool s_d)∧w'.cell? ⟨w_d.heap.size,1,none⟩=some (.slice A_d n_d c_d)∧w'.cell? ⟨w_d.heap.size,2,none⟩=some (.slice B_d m_d d_d)∧w'.cell? ⟨w_d.heap.size,3,none⟩=some (.bool t_d)∧w'.cell? ⟨w_d.heap.size,4,none⟩=some (.slice E_d i_d e_d)∧w'.cell? ⟨w_d.heap.size,5,none⟩=some (.slice F_d j_d f_d))
  (first | with_reducible exact ⟨XA.c0,XA.c1,XA.c2,XA.c3,XA.c4,XA.c5,XB.c0,XB.c1,XB.c2,XB.c3,XB.c4,XB.c5,XC.c0,XC.c1,XC.c2,XC.c3,XC.c4,XC.c5,XD.c0,XD.c1,XD.c2,XD.c3,XD.c4,XD.c5⟩)
  (first
  | (go_at_call 114;(with_reducible refine (rsame6 q r (by omega) (by omega) false HS.out).mono ?_);rintro e w_z ⟨rfl,hh⟩
     (try replace p:=p.below hh);(try replace q:=q.below hh);(try replace r:=r.below hh);(try replace d:=d.below hh);(try replace XA:=XA.below hh);(try replace XB:=XB.below hh);(try replace XC:=XC.below hh);(try replace XD:=XD.below hh);(try replace Z:=Z.below hh);replace hb:=bend hb hh)
  | (go_at_call 113;(with_reducible refine (rsub6 p q (by omega) (by omega)).mono ?_);rintro e w_a ⟨s_a,A_a,n_a,c_a,B_a,m_a,d_a,t_a,E_a,i_a,e_a,F_a,j_a,f_a,rfl,a,hh⟩
     (try replace p:=p.below hh);(try replace q:=q.below hh);(try replace r:=r.below hh);(try replace d:=d.below hh);(try replace XA:=XA.below hh);(try replace XB:=XB.below hh);(try replace XC:=XC.below hh);(try replace XD:=XD.below hh);(try replace Z:=Z.below hh);replace hb:=bend hb hh)
  | (go_at_call 112;(with_reducible refine (rdot6 a d (by omega) (by omega)).mono ?_);rintro e w_f ⟨s_f,A_f,n_f,c_f,B_f,m_f,d_f,rfl,f,hh⟩
     (try replace p:=p.below hh);(try replace q:=q.below hh);(try replace r:=r.below hh);(try replace d:=d.below hh);(try replace XA:=XA.below hh);(try replace XB:=XB.below hh);(try replace XC:=XC.below hh);(try replace XD:=XD.below hh);(try replace Z:=Z.below hh);replace hb:=bend hb hh;clear a)
  | (go_at_call 31;(with_reducible refine (rsign3 f).mono ?_);rintro e w_z ⟨rfl,hh⟩
     rw [HU.out];clear f
     (try replace p:=p.below hh);(try replace q:=q.below hh);(try replace r:=r.below hh);(try replace d:=d.below hh);(try replace XA:=XA.below hh);(try replace XB:=XB.below hh);(try replace XC:=XC.below hh);(try replace XD:=XD.below hh);(try replace Z:=Z.below hh);replace hb:=bend hb hh))
 go_upto_region 4 with (fail)
 replace p:=p.below (Below.refl _ _).drew
 replace q:=q.below (Below.refl _ _).drew
 replace r:=r.below (Below.refl _ _).drew
 replace d:=d.below (Below.refl _ _).drew
 replace XA:=XA.below (Below.refl _ _).drew
 replace XB:=XB.below (Below.refl _ _).drew
 replace XC:=XC.below (Below.refl _ _).drew
 replace XD:=XD.below (Below.refl _ _).drew
 replace Z:=Z.below (Below.refl _ _).drew
 replace hb:=hb.drew
 go_region_held3 (fun w'=>w'.cell? ⟨w.heap.size,0,none⟩=some (.bool s_p)∧w'.cell? ⟨w.heap.size,1,none⟩=some (.slice A_p n_p c_p)∧w'.cell? ⟨w.heap.size,2,none⟩=some (.slice B_p m_p d_p)∧w'.cell? ⟨w.heap.size,3,none⟩=some (.bool t_p)∧w'.cell? ⟨w.heap.size,4,none⟩=some (.slice E_p i_p e_p)∧w'.cell? ⟨w.heap.size,5,none⟩=some (.slice F_p j_p f_p)∧w'.cell? ⟨w.heap.size+1,0,none⟩=some (.bool s_q)∧w'.cell? ⟨w.heap.size+1,1,none⟩=some (.slice A_q n_q c_q)∧w'.cell? ⟨w.heap.size+1,2,none⟩=some (.slice B_q m_q d_q)∧w'.cell? ⟨w.heap.size+1,3,none⟩=some (.bool t_q)∧w'.cell? ⟨w.heap.size+1,4,none⟩=some (.slice E_q i_q e_q)∧w'.cell? ⟨w.heap.size+1,5,none⟩=some (.slice F_q j_q f_q)∧w'.cell? ⟨w.heap.size+1+1,0,none⟩=some (.bool s_r)∧w'.cell? ⟨w.heap.size+1+1,1,none⟩=some (.slice A_r n_r c_r)∧w'.cell? ⟨w.heap.size+1+1,2,none⟩=some (.slice B_r m_r d_r)∧w'.cell? ⟨w.heap.size+1+1,3,none⟩=some (.bool t_r)∧w'.cell? ⟨w.heap.size+1+1,4,none⟩=some (.slice E_r i_r e_r)∧w'.cell? ⟨w.heap.size+1+1,5,none⟩=some (.slice F_r j_r f_r)∧w'.cell? ⟨w_d.heap.size,0,none⟩=some (.bool s_d)∧w'.cell? ⟨w_d.heap.size,1,none⟩=some (.slice A_d n_d c_d)∧w'.cell? ⟨w_d.heap.size,2,none⟩=some (.slice B_d m_d d_d)∧w'.cell? ⟨w_d.heap.size,3,none⟩=some (.bool t_d)∧w'.cell? ⟨w_d.heap.size,4,none⟩=some (.slice E_d i_d e_d)∧w'.cell? ⟨w_d.heap.size,5,none⟩=some (.slice F_d j_d f_d))
  (first | with_reducible exact ⟨XA.c0,XA.c1,XA.c2,XA.c3,XA.c4,XA.c5,XB.c0,XB.c1,XB.c2,XB.c3,XB.c4,XB.c5,XC.c0,XC.c1,XC.c2,XC.c3,XC.c4,XC.c5,XD.c0,XD.c1,XD.c2,XD.c3,XD.c4,XD.c5⟩)
  (first
  | (go_at_call 113;(with_reducible refine (rsub6 p r (by omega) (by omega)).mono ?_);rintro e w_b ⟨s_b,A_b,n_b,c_b,B_b,m_b,d_b,t_b,E_b,i_b,e_b,F_b,j_b,f_b,rfl,b,hh⟩
     (try replace p:=p.below hh);(try replace q:=q.below hh);(try replace r:=r.below hh);(try replace d:=d.below hh);(try replace XA:=XA.below hh);(try replace XB:=XB.below hh);(try replace XC:=XC.below hh);(try replace XD:=XD.below hh);(try replace Z:=Z.below hh);replace hb:=bend hb hh)
  | (go_at_call 112;(with_reducible refine (rdot6 b d (by omega) (by omega)).mono ?_);rintro e w_g ⟨s_g,A_g,n_g,c_g,B_g,m_g,d_g,rfl,g,hh⟩
     (try replace p:=p.below hh);(try replace q:=q.below hh);(try replace r:=r.below hh);(try replace d:=d.below hh);(try replace XA:=XA.below hh);(try replace XB:=XB.below hh);(try replace XC:=XC.below hh);(try replace XD:=XD.below hh);(try replace Z:=Z.below hh);replace hb:=bend hb hh;clear b)
  | (go_at_call 31;(with_reducible refine (rsign3 g).mono ?_);rintro e w_z ⟨rfl,hh⟩
     rw [HT.out];clear g
     (try replace p:=p.below hh);(try replace q:=q.below hh);(try replace r:=r.below hh);(try replace d:=d.below hh);(try replace XA:=XA.below hh);(try replace XB:=XB.below hh);(try replace XC:=XC.below hh);(try replace XD:=XD.below hh);(try replace Z:=Z.below hh);replace hb:=bend hb hh))
 have zg0:=Z.f0;have zg1:=Z.f1;have zg2:=Z.f2;have zg3:=Z.f3;have zg4:=Z.f4;have zg5:=Z.f5;obtain ⟨zc0,zc1,zc2,zc3,zc4,zc5⟩:=Z.all;obtain ⟨xc0,xc1,xc2,xc3,xc4,xc5⟩:=XC.all
 go_wp2_with fail
 have Z2:=Z.set6 (.bool s_r) (.slice A_r n_r c_r) (.slice B_r m_r d_r) (.bool t_r) (.slice E_r i_r e_r) (.slice F_r j_r f_r)
 obtain ⟨g0,g1,g2,g3,g4,g5⟩:=Z2.all
 refine bodyPost_ret (v:=.agg #[.bool s_r,.slice A_r n_r c_r,.slice B_r m_r d_r,.bool t_r,.slice E_r i_r e_r,.slice F_r j_r f_r]) (by simp [results,Tryz.results84,go_sem,g0,g1,g2,g3,g4,g5]) rfl ?_
 exact ⟨s_r,A_r,n_r,c_r,B_r,m_r,d_r,t_r,E_r,i_r,e_r,F_r,j_r,f_r,rfl,(r.more (by omega)).set6 Z _ _ _ _ _ _,below_set6 hb (by omega) _ _ _ _ _ _⟩
theorem rnear_mid {kp k:Nat} {px py ax ay bx by_:Rat} (p:RP w s_p A_p n_p c_p B_p m_p d_p t_p E_p i_p e_p F_p j_p f_p px py kp) (q:RP w s_q A_q n_q c_q B_q m_q d_q t_q E_q i_q e_q F_q j_q f_q ax ay k) (r:RP w s_r A_r n_r c_r B_r m_r d_r t_r E_r i_r e_r F_r j_r f_r bx by_ k) (hkp:kp≤300) (hk:k≤40) (hs:¬ (ax=bx∧ay=by_)) (hf:¬ forthQ px py ax ay bx by_≤0) (hv:¬ 0≤near2 px py ax ay bx by_) :
 Calls Tryz.prog 84 #[.agg #[.bool s_p,.slice A_p n_p c_p,.slice B_p m_p d_p,.bool t_p,.slice E_p i_p e_p,.slice F_p j_p f_p],.agg #[.bool s_q,.slice A_q n_q c_q,.slice B_q m_q d_q,.bool t_q,.slice E_q i_q e_q,.slice F_q j_q f_q],.agg #[.bool s_r,.slice A_r n_r c_r,.slice B_r m_r d_r,.bool t_r,.slice E_r i_r e_r,.slice F_r j_r f_r]] w (GivesRP w (ax+(bx - ax)*(((px - ax)*(bx - ax)+(py - ay)*(by_ - ay)) / ((bx - ax)*(bx - ax)+(by_ - ay)*(by_ - ay)))) (ay+(by_ - ay)*(((px - ax)*(bx - ax)+(py - ay)*(by_ - ay)) / ((bx - ax)*(bx - ax)+(by_ - ay)*(by_ - ay)))) (2*kp+17*k+12)):=by
 have HS:Hid (decide (ax=bx∧ay=by_)=false):=decide_eq_false hs
 obtain ⟨U,hU,hU0⟩:∃ U,sgnQ ((px - ax)*(bx - ax)+(py - ay)*(by_ - ay))=U∧decide (U≤0)=false:=⟨_,rfl,decide_eq_false (fun e=>hf (sgn_nonpos.1 e))⟩
 have HU:=Lib.hid hU;clear hU
 obtain ⟨T,hT,hT0⟩:∃ T,sgnQ ((px - bx)*(bx - ax)+(py - by_)*(by_ - ay))=T∧decide (0≤T)=false:=⟨_,rfl,decide_eq_false (fun e=>hv (sgn_nonneg.1 e))⟩
 have HT:=Lib.hid hT;clear hT
 have HG:Hid (((bx - ax)*(bx - ax)+(by_ - ay)*(by_ - ay)) ≠ 0):=fun e=>hs (whole_z ax ay bx by_ e)
 clear hs hf hv
 go_enter Tryz.func84,Tryz.ntmps84
 go_wp2_with fail
 generalize hW:World.alloc _ _=W
 obtain ⟨hb,XA,XB,XC,Z,hzW⟩:=mkbx40_16 hW;clear hW;replace p:=p.below hb;replace q:=q.below hb;replace r:=r.below hb;obtain ⟨xa0,xa1,xa2,xa3,xa4,xa5⟩:=XA.all;obtain ⟨xb0,xb1,xb2,xb3,xb4,xb5⟩:=XB.all;obtain ⟨xc0,xc1,xc2,xc3,xc4,xc5⟩:=XC.all
 go_upto_region 2 with (first
  | (go_at_call 113;(with_reducible refine (rsub6 r q (by omega) (by omega)).mono ?_);rintro e w_d ⟨s_d,A_d,n_d,c_d,B_d,m_d,d_d,t_d,E_d,i_d,e_d,F_d,j_d,f_d,rfl,d,hh⟩
     have hgd:w.heap.size+4≤w_d.heap.size:=by have:=hh.size;omega
     (try replace p:=p.below hh);(try replace q:=q.below hh);(try replace r:=r.below hh);(try replace XA:=XA.below hh);(try replace XB:=XB.below hh);(try replace XC:=XC.below hh);(try replace Z:=Z.below hh);replace hb:=bend hb hh;obtain ⟨xa0,xa1,xa2,xa3,xa4,xa5⟩:=XA.all;obtain ⟨xb0,xb1,xb2,xb3,xb4,xb5⟩:=XB.all;obtain ⟨xc0,xc1,xc2,xc3,xc4,xc5⟩:=XC.all))
 generalize hW:World.alloc _ _=W2
 obtain ⟨hh,XD,hzW2⟩:=mkbx31_12 hW;clear hW;(try replace p:=p.below hh);(try replace q:=q.below hh);(try replace r:=r.below hh);(try replace XA:=XA.below hh);(try replace XB:=XB.below hh);(try replace XC:=XC.below hh);(try replace Z:=Z.below hh);(try replace d:=d.below hh);replace hb:=bend hb hh
 replace p:=p.below (Below.refl _ _).drew
 replace q:=q.below (Below.refl _ _).drew
 replace r:=r.below (Below.refl _ _).drew
 replace d:=d.below (Below.refl _ _).drew
 replace XA:=XA.below (Below.refl _ _).drew
 replace XB:=XB.below (Below.refl _ _).drew
 replace XC:=XC.below (Below.refl _ _).drew
 replace XD:=XD.below (Below.refl _ _).drew
 replace Z:=Z.below (Below.refl _ _).drew
 replace hb:=hb.drew
 go_region_held3 (fun w'=>w'.cell? ⟨w.heap.size,0,none⟩=some (.bool s_p)∧w'.cell? ⟨w.heap.size,1,none⟩=some (.slice A_p n_p c_p)∧w'.cell? ⟨w.heap.size,2,none⟩=some (.slice B_p m_p d_p)∧w'.cell? ⟨w.heap.size,3,none⟩=some (.bool t_p)∧w'.cell? ⟨w.heap.size,4,none⟩=some (.slice E_p i_p e_p)∧w'.cell? ⟨w.heap.size,5,none⟩=some (.slice F_p j_p f_p)∧w'.cell? ⟨w.heap.size+1,0,none⟩=some (.bool s_q)∧w'.cell? ⟨w.heap.size+1,1,none⟩=some (.slice A_q n_q c_q)∧w'.cell? ⟨w.heap.size+1,2,none⟩=some (.slice B_q m_q d_q)∧w'.cell? ⟨w.heap.size+1,3,none⟩=some (.bool t_q)∧w'.cell? ⟨w.heap.size+1,4,none⟩=some (.slice E_q i_q e_q)∧w'.cell? ⟨w.heap.size+1,5,none⟩=some (.slice F_q j_q f_q)∧w'.cell? ⟨w.heap.size+1+1,0,none⟩=some (.bool s_r)∧w'.cell? ⟨w.heap.size+1+1,1,none⟩=some (.slice A_r n_r c_r)∧w'.cell? ⟨w.heap.size+1+1,2,none⟩=some (.slice B_r m_r d_r)∧w'.cell? ⟨w.heap.size+1+1,3,none⟩=some (.bool t_r)∧w'.cell? ⟨w.heap.size+1+1,4,none⟩=some (.slice E_r i_r e_r)∧w'.cell? ⟨w.heap.size+1+1,5,none⟩=some (.slice F_r j_r f_r)∧w'.cell? ⟨w_d.heap.size,0,none⟩=some (.bool s_d)∧w'.cell? ⟨w_d.heap.size,1,none⟩=some (.slice A_d n_d c_d)∧w'.cell? ⟨w_d.heap.size,2,none⟩=some (.slice B_d m_d d_d)∧w'.cell? ⟨w_d.heap.size,3,none⟩=some (.bool t_d)∧w'.cell? ⟨w_d.heap.size,4,none⟩=some (.slice E_d i_d e_d)∧w'.cell? ⟨w_d.heap.size,5,none⟩=some (.slice F_d j_d f_d))
  (first | with_reducible exact ⟨XA.c0,XA.c1,XA.c2,XA.c3,XA.c4,XA.c5,XB.c0,XB.c1,XB.c2,XB.c3,XB.c4,XB.c5,XC.c0,XC.c1,XC.c2,XC.c3,XC.c4,XC.c5,XD.c0,XD.c1,XD.c2,XD.c3,XD.c4,XD.c5⟩)
  (first
  | (go_at_call 114;(with_reducible refine (rsame6 q r (by omega) (by omega) false HS.out).mono ?_);rintro e w_z ⟨rfl,hh⟩
     (try replace p:=p.below hh);(try replace q:=q.below hh);(try replace r:=r.below hh);(try replace d:=d.below hh);(try replace XA:=XA.below hh);(try replace XB:=XB.below hh);(try replace XC:=XC.below hh);(try replace XD:=XD.below hh);(try replace Z:=Z.below hh);replace hb:=bend hb hh)
  | (go_at_call 113;(with_reducible refine (rsub6 p q (by omega) (by omega)).mono ?_);rintro e w_a ⟨s_a,A_a,n_a,c_a,B_a,m_a,d_a,t_a,E_a,i_a,e_a,F_a,j_a,f_a,rfl,a,hh⟩
     (try replace p:=p.below hh);(try replace q:=q.below hh);(try replace r:=r.below hh);(try replace d:=d.below hh);(try replace XA:=XA.below hh);(try replace XB:=XB.below hh);(try replace XC:=XC.below hh);(try replace XD:=XD.below hh);(try replace Z:=Z.below hh);replace hb:=bend hb hh)
  | (go_at_call 112;(with_reducible refine (rdot6 a d (by omega) (by omega)).mono ?_);rintro e w_f ⟨s_f,A_f,n_f,c_f,B_f,m_f,d_f,rfl,f,hh⟩
     (try replace p:=p.below hh);(try replace q:=q.below hh);(try replace r:=r.below hh);(try replace d:=d.below hh);(try replace XA:=XA.below hh);(try replace XB:=XB.below hh);(try replace XC:=XC.below hh);(try replace XD:=XD.below hh);(try replace Z:=Z.below hh);replace hb:=bend hb hh;clear a)
  | (go_at_call 31;(with_reducible refine (rsign3 f).mono ?_);rintro e w_z ⟨rfl,hh⟩
     rw [HU.out];clear f
     (try replace p:=p.below hh);(try replace q:=q.below hh);(try replace r:=r.below hh);(try replace d:=d.below hh);(try replace XA:=XA.below hh);(try replace XB:=XB.below hh);(try replace XC:=XC.below hh);(try replace XD:=XD.below hh);(try replace Z:=Z.below hh);replace hb:=bend hb hh))
 go_upto_region 4 with (fail)
 replace p:=p.below (Below.refl _ _).drew
 replace q:=q.below (Below.refl _ _).drew
 replace r:=r.below (Below.refl _ _).drew
 replace d:=d.below (Below.refl _ _).drew
 replace XA:=XA.below (Below.refl _ _).drew
 replace XB:=XB.below (Below.refl _ _).drew
 replace XC:=XC.below (Below.refl _ _).drew
 replace XD:=XD.below (Below.refl _ _).drew
 replace Z:=Z.below (Below.refl _ _).drew
 replace hb:=hb.drew
 go_region_held3 (fun w'=>w'.cell? ⟨w.heap.size,0,none⟩=some (.bool s_p)∧w'.cell? ⟨w.heap.size,1,none⟩=some (.slice A_p n_p c_p)∧w'.cell? ⟨w.heap.size,2,none⟩=some (.slice B_p m_p d_p)∧w'.cell? ⟨w.heap.size,3,none⟩=some (.bool t_p)∧w'.cell? ⟨w.heap.size,4,none⟩=some (.slice E_p i_p e_p)∧w'.cell? ⟨w.heap.size,5,none⟩=some (.slice F_p j_p f_p)∧w'.cell? ⟨w.heap.size+1,0,none⟩=some (.bool s_q)∧w'.cell? ⟨w.heap.size+1,1,none⟩=some (.slice A_q n_q c_q)∧w'.cell? ⟨w.heap.size+1,2,none⟩=some (.slice B_q m_q d_q)∧w'.cell? ⟨w.heap.size+1,3,none⟩=some (.bool t_q)∧w'.cell? ⟨w.heap.size+1,4,none⟩=some (.slice E_q i_q e_q)∧w'.cell? ⟨w.heap.size+1,5,none⟩=some (.slice F_q j_q f_q)∧w'.cell? ⟨w.heap.size+1+1,0,none⟩=some (.bool s_r)∧w'.cell? ⟨w.heap.size+1+1,1,none⟩=some (.slice A_r n_r c_r)∧w'.cell? ⟨w.heap.size+1+1,2,none⟩=some (.slice B_r m_r d_r)∧w'.cell? ⟨w.heap.size+1+1,3,none⟩=some (.bool t_r)∧w'.cell? ⟨w.heap.size+1+1,4,none⟩=some (.slice E_r i_r e_r)∧w'.cell? ⟨w.heap.size+1+1,5,none⟩=some (.slice F_r j_r f_r)∧w'.cell? ⟨w_d.heap.size,0,none⟩=some (.bool s_d)∧w'.cell? ⟨w_d.heap.size,1,none⟩=some (.slice A_d n_d c_d)∧w'.cell? ⟨w_d.heap.size,2,none⟩=some (.slice B_d m_d d_d)∧w'.cell? ⟨w_d.heap.size,3,none⟩=some (.bool t_d)∧w'.cell? ⟨w_d.heap.size,4,none⟩=some (.slice E_d i_d e_d)∧w'.cell? ⟨w_d.heap.size,5,none⟩=some (.slice F_d j_d f_d))
  (first | with_reducible exact ⟨XA.c0,XA.c1,XA.c2,XA.c3,XA.c4,XA.c5,XB.c0,XB.c1,XB.c2,XB.c3,XB.c4,XB.c5,XC.c0,XC.c1,XC.c2,XC.c3,XC.c4,XC.c5,XD.c0,XD.c1,XD.c2,XD.c3,XD.c4,XD.c5⟩)
  (first
  | (go_at_call 113;(with_reducible refine (rsub6 p r (by omega) (by omega)).mono ?_);rintro e w_b ⟨s_b,A_b,n_b,c_b,B_b,m_b,d_b,t_b,E_b,i_b,e_b,F_b,j_b,f_b,rfl,b,hh⟩
     (try replace p:=p.below hh);(try replace q:=q.below hh);(try replace r:=r.below hh);(try replace d:=d.below hh);(try replace XA:=XA.below hh);(try replace XB:=XB.below hh);(try replace XC:=XC.below hh);(try replace XD:=XD.below hh);(try replace Z:=Z.below hh);replace hb:=bend hb hh)
  | (go_at_call 112;(with_reducible refine (rdot6 b d (by omega) (by omega)).mono ?_);rintro e w_g ⟨s_g,A_g,n_g,c_g,B_g,m_g,d_g,rfl,g,hh⟩
     (try replace p:=p.below hh);(try replace q:=q.below hh);(try replace r:=r.below hh);(try replace d:=d.below hh);(try replace XA:=XA.below hh);(try replace XB:=XB.below hh);(try replace XC:=XC.below hh);(try replace XD:=XD.below hh);(try replace Z:=Z.below hh);replace hb:=bend hb hh;clear b)
  | (go_at_call 31;(with_reducible refine (rsign3 g).mono ?_);rintro e w_z ⟨rfl,hh⟩
     rw [HT.out];clear g
     (try replace p:=p.below hh);(try replace q:=q.below hh);(try replace r:=r.below hh);(try replace d:=d.below hh);(try replace XA:=XA.below hh);(try replace XB:=XB.below hh);(try replace XC:=XC.below hh);(try replace XD:=XD.below hh);(try replace Z:=Z.below hh);replace hb:=bend hb hh))
 go_upto_region 6 with (fail)
 replace p:=p.below (Below.refl _ _).drew
 replace q:=q.below (Below.refl _ _).drew
 replace r:=r.below (Below.refl _ _).drew
 replace d:=d.below (Below.refl _ _).drew
 replace XA:=XA.below (Below.refl _ _).drew
 replace XB:=XB.below (Below.refl _ _).drew
 replace XC:=XC.below (Below.refl _ _).drew
 replace XD:=XD.below (Below.refl _ _).drew
 replace Z:=Z.below (Below.refl _ _).drew
 replace hb:=hb.drew
 go_region_held3 (fun w'=>w'.cell? ⟨w.heap.size,0,none⟩=some (.bool s_p)∧w'.cell? ⟨w.heap.size,1,none⟩=some (.slice A_p n_p c_p)∧w'.cell? ⟨w.heap.size,2,none⟩=some (.slice B_p m_p d_p)∧w'.cell? ⟨w.heap.size,3,none⟩=some (.bool t_p)∧w'.cell? ⟨w.heap.size,4,none⟩=some (.slice E_p i_p e_p)∧w'.cell? ⟨w.heap.size,5,none⟩=some (.slice F_p j_p f_p)∧w'.cell? ⟨w.heap.size+1,0,none⟩=some (.bool s_q)∧w'.cell? ⟨w.heap.size+1,1,none⟩=some (.slice A_q n_q c_q)∧w'.cell? ⟨w.heap.size+1,2,none⟩=some (.slice B_q m_q d_q)∧w'.cell? ⟨w.heap.size+1,3,none⟩=some (.bool t_q)∧w'.cell? ⟨w.heap.size+1,4,none⟩=some (.slice E_q i_q e_q)∧w'.cell? ⟨w.heap.size+1,5,none⟩=some (.slice F_q j_q f_q)∧w'.cell? ⟨w.heap.size+1+1,0,none⟩=some (.bool s_r)∧w'.cell? ⟨w.heap.size+1+1,1,none⟩=some (.slice A_r n_r c_r)∧w'.cell? ⟨w.heap.size+1+1,2,none⟩=some (.slice B_r m_r d_r)∧w'.cell? ⟨w.heap.size+1+1,3,none⟩=some (.bool t_r)∧w'.cell? ⟨w.heap.size+1+1,4,none⟩=some (.slice E_r i_r e_r)∧w'.cell? ⟨w.heap.size+1+1,5,none⟩=some (.slice F_r j_r f_r)∧w'.cell? ⟨w_d.heap.size,0,none⟩=some (.bool s_d)∧w'.cell? ⟨w_d.heap.size,1,none⟩=some (.slice A_d n_d c_d)∧w'.cell? ⟨w_d.heap.size,2,none⟩=some (.slice B_d m_d d_d)∧w'.cell? ⟨w_d.heap.size,3,none⟩=some (.bool t_d)∧w'.cell? ⟨w_d.heap.size,4,none⟩=some (.slice E_d i_d e_d)∧w'.cell? ⟨w_d.heap.size,5,none⟩=some (.slice F_d j_d f_d))
  (first | with_reducible exact ⟨XA.c0,XA.c1,XA.c2,XA.c3,XA.c4,XA.c5,XB.c0,XB.c1,XB.c2,XB.c3,XB.c4,XB.c5,XC.c0,XC.c1,XC.c2,XC.c3,XC.c4,XC.c5,XD.c0,XD.c1,XD.c2,XD.c3,XD.c4,XD.c5⟩ | with_reducible exact ⟨(set6_cell _ _ _ _ _ _ _ _ _ _ (by omega)).trans XA.c0,(set6_cell _ _ _ _ _ _ _ _ _ _ (by omega)).trans XA.c1,(set6_cell _ _ _ _ _ _ _ _ _ _ (by omega)).trans XA.c2,(set6_cell _ _ _ _ _ _ _ _ _ _ (by omega)).trans XA.c3,(set6_cell _ _ _ _ _ _ _ _ _ _ (by omega)).trans XA.c4,(set6_cell _ _ _ _ _ _ _ _ _ _ (by omega)).trans XA.c5,(set6_cell _ _ _ _ _ _ _ _ _ _ (by omega)).trans XB.c0,(set6_cell _ _ _ _ _ _ _ _ _ _ (by omega)).trans XB.c1,(set6_cell _ _ _ _ _ _ _ _ _ _ (by omega)).trans XB.c2,(set6_cell _ _ _ _ _ _ _ _ _ _ (by omega)).trans XB.c3,(set6_cell _ _ _ _ _ _ _ _ _ _ (by omega)).trans XB.c4,(set6_cell _ _ _ _ _ _ _ _ _ _ (by omega)).trans XB.c5,(set6_cell _ _ _ _ _ _ _ _ _ _ (by omega)).trans XC.c0,(set6_cell _ _ _ _ _ _ _ _ _ _ (by omega)).trans XC.c1,(set6_cell _ _ _ _ _ _ _ _ _ _ (by omega)).trans XC.c2,(set6_cell _ _ _ _ _ _ _ _ _ _ (by omega)).trans XC.c3,(set6_cell _ _ _ _ _ _ _ _ _ _ (by omega)).trans XC.c4,(set6_cell _ _ _ _ _ _ _ _ _ _ (by omega)).trans XC.c5,(set6_cell _ _ _ _ _ _ _ _ _ _ (by omega)).trans XD.c0,(set6_cell _ _ _ _ _ _ _ _ _ _ (by omega)).trans XD.c1,(set6_cell _ _ _ _ _ _ _ _ _ _ (by omega)).trans XD.c2,(set6_cell _ _ _ _ _ _ _ _ _ _ (by omega)).trans XD.c3,(set6_cell _ _ _ _ _ _ _ _ _ _ (by omega)).trans XD.c4,(set6_cell _ _ _ _ _ _ _ _ _ _ (by omega)).trans XD.c5⟩)
  (first
  | (go_at_call 113;(with_reducible refine (rsub6 p q (by omega) (by omega)).mono ?_);rintro e w_a ⟨s_a,A_a,n_a,c_a,B_a,m_a,d_a,t_a,E_a,i_a,e_a,F_a,j_a,f_a,rfl,a,hh⟩
     (try replace p:=p.below hh);(try replace q:=q.below hh);(try replace r:=r.below hh);(try replace d:=d.below hh);(try replace XA:=XA.below hh);(try replace XB:=XB.below hh);(try replace XC:=XC.below hh);(try replace XD:=XD.below hh);(try replace Z:=Z.below hh);replace hb:=bend hb hh)
  | (go_at_call 112;(with_reducible refine (rdot6 a d (by omega) (by omega)).mono ?_);rintro e w_f ⟨s_f,A_f,n_f,c_f,B_f,m_f,d_f,rfl,f,hh⟩
     (try replace p:=p.below hh);(try replace q:=q.below hh);(try replace r:=r.below hh);(try replace d:=d.below hh);(try replace XA:=XA.below hh);(try replace XB:=XB.below hh);(try replace XC:=XC.below hh);(try replace XD:=XD.below hh);(try replace Z:=Z.below hh);(try replace g:=g.below hh);replace hb:=bend hb hh;clear a)
  | (go_at_call 112;(with_reducible refine (rdot6 d d (by omega) (by omega)).mono ?_);rintro e w_g ⟨s_g,A_g,n_g,c_g,B_g,m_g,d_g,rfl,g,hh⟩
     (try replace p:=p.below hh);(try replace q:=q.below hh);(try replace r:=r.below hh);(try replace d:=d.below hh);(try replace XA:=XA.below hh);(try replace XB:=XB.below hh);(try replace XC:=XC.below hh);(try replace XD:=XD.below hh);(try replace Z:=Z.below hh);(try replace f:=f.below hh);replace hb:=bend hb hh)
  | (go_at_call 81;(with_reducible refine (rdiv3 f g (by omega) (by omega) HG.out).mono ?_);rintro e w_h ⟨s_h,A_h,n_h,c_h,B_h,m_h,d_h,rfl,h,hh⟩
     (try replace p:=p.below hh);(try replace q:=q.below hh);(try replace r:=r.below hh);(try replace d:=d.below hh);(try replace XA:=XA.below hh);(try replace XB:=XB.below hh);(try replace XC:=XC.below hh);(try replace XD:=XD.below hh);(try replace Z:=Z.below hh);replace hb:=bend hb hh;clear f g)
  | (go_at_call 115;(with_reducible refine (rmix6 q r h (by omega) (by omega) (by omega)).mono ?_);rintro e w_m ⟨s_m,A_m,n_m,c_m,B_m,m_m,d_m,t_m,E_m,i_m,e_m,F_m,j_m,f_m,rfl,m,hh⟩
     (try replace p:=p.below hh);(try replace q:=q.below hh);(try replace r:=r.below hh);(try replace d:=d.below hh);(try replace XA:=XA.below hh);(try replace XB:=XB.below hh);(try replace XC:=XC.below hh);(try replace XD:=XD.below hh);(try replace Z:=Z.below hh);replace hb:=bend hb hh;clear h;have zg0:=Z.f0;have zg1:=Z.f1;have zg2:=Z.f2;have zg3:=Z.f3;have zg4:=Z.f4;have zg5:=Z.f5;obtain ⟨zc0,zc1,zc2,zc3,zc4,zc5⟩:=Z.all))
 go_wp2_with fail
 have Z2:=Z.set6 (.bool s_m) (.slice A_m n_m c_m) (.slice B_m m_m d_m) (.bool t_m) (.slice E_m i_m e_m) (.slice F_m j_m f_m)
 obtain ⟨g0,g1,g2,g3,g4,g5⟩:=Z2.all
 refine bodyPost_ret (v:=.agg #[.bool s_m,.slice A_m n_m c_m,.slice B_m m_m d_m,.bool t_m,.slice E_m i_m e_m,.slice F_m j_m f_m]) (by simp [results,Tryz.results84,go_sem,g0,g1,g2,g3,g4,g5]) rfl ?_
 exact ⟨s_m,A_m,n_m,c_m,B_m,m_m,d_m,t_m,E_m,i_m,e_m,F_m,j_m,f_m,rfl,(m.more (by omega)).set6 Z _ _ _ _ _ _,below_set6 hb (by omega) _ _ _ _ _ _⟩
def nearQ (px py ax ay bx by_:Rat):Rat × Rat:=if ax=bx∧ay=by_ then (ax,ay) else if forthQ px py ax ay bx by_≤0 then (ax,ay) else if 0≤near2 px py ax ay bx by_ then (bx,by_) else (ax+(bx - ax)*(((px - ax)*(bx - ax)+(py - ay)*(by_ - ay)) / ((bx - ax)*(bx - ax)+(by_ - ay)*(by_ - ay))),ay+(by_ - ay)*(((px - ax)*(bx - ax)+(py - ay)*(by_ - ay)) / ((bx - ax)*(bx - ax)+(by_ - ay)*(by_ - ay))))
theorem rnear6 {kp k:Nat} {px py ax ay bx by_:Rat} (p:RP w s_p A_p n_p c_p B_p m_p d_p t_p E_p i_p e_p F_p j_p f_p px py kp) (q:RP w s_q A_q n_q c_q B_q m_q d_q t_q E_q i_q e_q F_q j_q f_q ax ay k) (r:RP w s_r A_r n_r c_r B_r m_r d_r t_r E_r i_r e_r F_r j_r f_r bx by_ k) (hkp:kp≤300) (hk:k≤40):Calls Tryz.prog 84 #[.agg #[.bool s_p,.slice A_p n_p c_p,.slice B_p m_p d_p,.bool t_p,.slice E_p i_p e_p,.slice F_p j_p f_p],.agg #[.bool s_q,.slice A_q n_q c_q,.slice B_q m_q d_q,.bool t_q,.slice E_q i_q e_q,.slice F_q j_q f_q],.agg #[.bool s_r,.slice A_r n_r c_r,.slice B_r m_r d_r,.bool t_r,.slice E_r i_r e_r,.slice F_r j_r f_r]] w (GivesRP w (nearQ px py ax ay bx by_).1 (nearQ px py ax ay bx by_).2 (2*kp+17*k+12)):=by
 unfold nearQ
 split
 · rename_i h;exact rnear_same p q r hkp hk h
 · rename_i h
   split
   · rename_i h1;exact rnear_lo p q r hkp hk h h1
   · rename_i h1
     split
     · rename_i h2;exact rnear_hi p q r hkp hk h h1 h2
     · rename_i h2;exact rnear_mid p q r hkp hk h h1 h2
theorem seg_nearQ (px py ax ay bx by_:Rat):segQ px py ax ay bx by_=(px - (nearQ px py ax ay bx by_).1)*(px - (nearQ px py ax ay bx by_).1)+(py - (nearQ px py ax ay bx by_).2)*(py - (nearQ px py ax ay bx by_).2):=by
 unfold nearQ
 by_cases h:ax=bx∧ay=by_
 · rw [if_pos h]
   unfold segQ
   rw [if_pos (show forthQ px py ax ay bx by_≤0 by unfold forthQ;rw [h.1,h.2];grind)]
 · rw [if_neg h]
   by_cases h1:forthQ px py ax ay bx by_≤0
   · rw [if_pos h1]
     unfold segQ
     rw [if_pos h1]
   · rw [if_neg h1]
     by_cases h2:0≤near2 px py ax ay bx by_
     · rw [if_pos h2]
       unfold segQ
       rw [if_neg h1,if_pos (show wholeQ ax ay bx by_≤forthQ px py ax ay bx by_ by rw [near2_eq] at h2;grind)]
       unfold farQ;grind
     · rw [if_neg h2]
       unfold segQ
       rw [if_neg h1,if_neg (fun e=>h2 (by rw [near2_eq];grind))]
       exact mid_eq (fun e=>h (whole_z ax ay bx by_ e)) rfl
theorem mkbx41_16 {w W:World} {x0 x1 x2 x3 x4 x5 x6 x7 x8 x9 x10 x11 x12 x13 x14 x15 x16 x17 x18 x19 x20:Value} (h:((((w.alloc (Obj.cells #[x0,x1,x2,x3,x4,x5] 80)).alloc (Obj.cells #[x6,x7,x8,x9,x10,x11] 80)).alloc (Obj.cells #[x12,x13,x14,x15,x16,x17] 80)).alloc (Obj.cells #[x18,x19,x20] 43))=W):Below w.heap.size w W∧B6R W (w.heap.size) x0 x1 x2 x3 x4 x5∧B6R W (w.heap.size+1) x6 x7 x8 x9 x10 x11∧B6R W (w.heap.size+1+1) x12 x13 x14 x15 x16 x17∧B3R W (w.heap.size+1+1+1) x18 x19 x20∧W.heap.size=w.heap.size+4:=by subst h;exact ⟨by exact (((((Below.refl _ _).alloc (Nat.le_refl _) _).alloc (by simp) _).alloc (by simp;omega) _).alloc (by simp;omega) _),by exact (((B6R.new' _ _ _ _ _ _ _ _ rfl).alloc _).alloc _).alloc _,by exact ((B6R.new' _ _ _ _ _ _ _ _ (by simp)).alloc _).alloc _,by exact (B6R.new' _ _ _ _ _ _ _ _ (by simp)).alloc _,by exact B3R.new' _ _ _ _ _ (by simp),by simp⟩
theorem rtoseg6 {kp k:Nat} {px py ax ay bx by_:Rat} (p:RP w s_p A_p n_p c_p B_p m_p d_p t_p E_p i_p e_p F_p j_p f_p px py kp) (q:RP w s_q A_q n_q c_q B_q m_q d_q t_q E_q i_q e_q F_q j_q f_q ax ay k) (r:RP w s_r A_r n_r c_r B_r m_r d_r t_r E_r i_r e_r F_r j_r f_r bx by_ k) (hkp:kp≤300) (hk:k≤40) :
 Calls Tryz.prog 43 #[.agg #[.bool s_p,.slice A_p n_p c_p,.slice B_p m_p d_p,.bool t_p,.slice E_p i_p e_p,.slice F_p j_p f_p],.agg #[.bool s_q,.slice A_q n_q c_q,.slice B_q m_q d_q,.bool t_q,.slice E_q i_q e_q,.slice F_q j_q f_q],.agg #[.bool s_r,.slice A_r n_r c_r,.slice B_r m_r d_r,.bool t_r,.slice E_r i_r e_r,.slice F_r j_r f_r]] w (GivesRQ w (segQ px py ax ay bx by_) (4*(kp+(2*kp+17*k+12)+1)+1)):=by
 rw [seg_nearQ]
 obtain ⟨nx,hx⟩:∃ nx,(nearQ px py ax ay bx by_).1=nx:=⟨_,rfl⟩
 obtain ⟨ny,hy⟩:∃ ny,(nearQ px py ax ay bx by_).2=ny:=⟨_,rfl⟩
 rw [hx,hy]
 have HN:=Lib.hid hx;have HM:=Lib.hid hy;clear hx hy
 go_enter Tryz.func43,Tryz.ntmps43
 go_upto_region 1 with (fail)
 generalize hW:World.alloc _ _=W
 obtain ⟨hb,XA,XB,XC,Z,hzW⟩:=mkbx41_16 hW;clear hW;replace p:=p.below hb;replace q:=q.below hb;replace r:=r.below hb
 replace p:=p.below (Below.refl _ _).drew
 replace q:=q.below (Below.refl _ _).drew
 replace r:=r.below (Below.refl _ _).drew
 replace XA:=XA.below (Below.refl _ _).drew
 replace XB:=XB.below (Below.refl _ _).drew
 replace XC:=XC.below (Below.refl _ _).drew
 replace Z:=Z.below (Below.refl _ _).drew
 replace hb:=hb.drew
 go_region_held3 (fun w'=>w'.cell? ⟨w.heap.size,0,none⟩=some (.bool s_p)∧w'.cell? ⟨w.heap.size,1,none⟩=some (.slice A_p n_p c_p)∧w'.cell? ⟨w.heap.size,2,none⟩=some (.slice B_p m_p d_p)∧w'.cell? ⟨w.heap.size,3,none⟩=some (.bool t_p)∧w'.cell? ⟨w.heap.size,4,none⟩=some (.slice E_p i_p e_p)∧w'.cell? ⟨w.heap.size,5,none⟩=some (.slice F_p j_p f_p)∧w'.cell? ⟨w.heap.size+1,0,none⟩=some (.bool s_q)∧w'.cell? ⟨w.heap.size+1,1,none⟩=some (.slice A_q n_q c_q)∧w'.cell? ⟨w.heap.size+1,2,none⟩=some (.slice B_q m_q d_q)∧w'.cell? ⟨w.heap.size+1,3,none⟩=some (.bool t_q)∧w'.cell? ⟨w.heap.size+1,4,none⟩=some (.slice E_q i_q e_q)∧w'.cell? ⟨w.heap.size+1,5,none⟩=some (.slice F_q j_q f_q)∧w'.cell? ⟨w.heap.size+1+1,0,none⟩=some (.bool s_r)∧w'.cell? ⟨w.heap.size+1+1,1,none⟩=some (.slice A_r n_r c_r)∧w'.cell? ⟨w.heap.size+1+1,2,none⟩=some (.slice B_r m_r d_r)∧w'.cell? ⟨w.heap.size+1+1,3,none⟩=some (.bool t_r)∧w'.cell? ⟨w.heap.size+1+1,4,none⟩=some (.slice E_r i_r e_r)∧w'.cell? ⟨w.heap.size+1+1,5,none⟩=some (.slice F_r j_r f_r))
  (first | with_reducible exact ⟨XA.c0,XA.c1,XA.c2,XA.c3,XA.c4,XA.c5,XB.c0,XB.c1,XB.c2,XB.c3,XB.c4,XB.c5,XC.c0,XC.c1,XC.c2,XC.c3,XC.c4,XC.c5⟩ | with_reducible exact ⟨(set3_cell _ _ _ _ _ _ _ (by omega)).trans XA.c0,(set3_cell _ _ _ _ _ _ _ (by omega)).trans XA.c1,(set3_cell _ _ _ _ _ _ _ (by omega)).trans XA.c2,(set3_cell _ _ _ _ _ _ _ (by omega)).trans XA.c3,(set3_cell _ _ _ _ _ _ _ (by omega)).trans XA.c4,(set3_cell _ _ _ _ _ _ _ (by omega)).trans XA.c5,(set3_cell _ _ _ _ _ _ _ (by omega)).trans XB.c0,(set3_cell _ _ _ _ _ _ _ (by omega)).trans XB.c1,(set3_cell _ _ _ _ _ _ _ (by omega)).trans XB.c2,(set3_cell _ _ _ _ _ _ _ (by omega)).trans XB.c3,(set3_cell _ _ _ _ _ _ _ (by omega)).trans XB.c4,(set3_cell _ _ _ _ _ _ _ (by omega)).trans XB.c5,(set3_cell _ _ _ _ _ _ _ (by omega)).trans XC.c0,(set3_cell _ _ _ _ _ _ _ (by omega)).trans XC.c1,(set3_cell _ _ _ _ _ _ _ (by omega)).trans XC.c2,(set3_cell _ _ _ _ _ _ _ (by omega)).trans XC.c3,(set3_cell _ _ _ _ _ _ _ (by omega)).trans XC.c4,(set3_cell _ _ _ _ _ _ _ (by omega)).trans XC.c5⟩)
  (first
  | (go_at_call 84;(with_reducible refine (rnear6 p q r hkp hk).mono ?_);rintro e w_n ⟨s_n,A_n,n_n,c_n,B_n,m_n,d_n,t_n,E_n,i_n,e_n,F_n,j_n,f_n,rfl,n,hh⟩
     (try replace p:=p.below hh);(try replace q:=q.below hh);(try replace r:=r.below hh);(try replace XA:=XA.below hh);(try replace XB:=XB.below hh);(try replace XC:=XC.below hh);(try replace Z:=Z.below hh);replace hb:=bend hb hh
     rw [HN.out,HM.out] at n)
  | (go_at_call 83;(with_reducible refine (rfar6 p n (by omega) (by omega)).mono ?_);rintro e w_v ⟨s_v,A_v,n_v,c_v,B_v,m_v,d_v,rfl,v,hh⟩
     (try replace XA:=XA.below hh);(try replace XB:=XB.below hh);(try replace XC:=XC.below hh);(try replace Z:=Z.below hh);replace hb:=bend hb hh
     replace v:=v.more (k1:=4*(kp+(2*kp+17*k+12)+1)+1) (by omega)
     have zf0:=Z.f0;have zf1:=Z.f1;have zf2:=Z.f2;obtain ⟨z0,z1,z2⟩:=Z.all))
 go_wp2_with fail
 have Z2:=Z.set3 (.bool s_v) (.slice A_v n_v c_v) (.slice B_v m_v d_v)
 obtain ⟨g0,g1,g2⟩:=Z2.all
 refine bodyPost_ret (v:=.agg #[.bool s_v,.slice A_v n_v c_v,.slice B_v m_v d_v]) (by simp [results,Tryz.results43,go_sem,g0,g1,g2]) rfl ?_
 exact ⟨s_v,A_v,n_v,c_v,B_v,m_v,d_v,rfl,v.set3 Z _ _ _,below_set3 hb (by omega) _ _ _⟩
end
section
open Go Go.RowKit
theorem GivesLn.more {w w':World} {l:List (Rat × Rat)} {k k2:Nat} {en:Ending} (h:GivesLn w l k en w') (hk:k≤k2):GivesLn w l k2 en w':=by
 obtain ⟨v,L,h1,h2,h3,h4⟩:=h
 exact ⟨v,L,h1,h2,⟨h3.1,fun i p u hp hu=>PG.more (h3.2 i p u hp hu) hk⟩,h4⟩
end
section
open Go Go.RowKit
theorem Each.belowR {w w':World} {L:List PV} {l:List (Rat × Rat)} {k:Nat} (h:Each PV.RP w L l k) (hb:Below w.heap.size w w'):Each PV.RP w' L l k:=h.imp fun _ _ hp=>RP.below hp hb
theorem B6R.rest {w w':World} {g k:Nat} {x y z u v t:Value} (h:B6R w g x y z u v t) (hne:g ≠ k) (ho:Only k w w'):B6R w' g x y z u v t:=(ho.block g h.lt hne).trans h
end
section
open Go Go.RowKit
def PV.small (M:Nat) (p:PV):Prop:=(p.n≤M∧p.m≤M)∧p.i≤M∧p.j≤M
instance (M:Nat) (p:PV):Decidable (p.small M):=by unfold PV.small;exact inferInstance
end
section
open Go Go.RowKit
attribute [local go_sem ↓] open_LVH open_STH open_LVJ open_STJ
def QV.small (M:Nat) (q:QV):Prop:=q.n≤M∧q.m≤M
instance (M:Nat) (q:QV):Decidable (q.small M):=by unfold QV.small;exact inferInstance
def HV.small (M:Nat) (p:HV):Prop:=p.x.small M∧p.y.small M∧p.w.small M
theorem smallI (M:Nat) {MI:Int} (hMI:MI=(M:Int)) {s:Bool} {A A':Option Addr} {n c n' c':Nat} (w:World) (L:Bool) (hL:decide (n≤M∧n'≤M)=L) :
 Calls Tryz.prog 7 #[.agg #[.bool s,.slice A n c,.slice A' n' c'],.int .i64 MI] w fun e w'=>e=.returned (.bool L)∧Below w.heap.size w w':=by
 subst hMI;exact small_m M w L hL
theorem fair13 {A:Option Addr} {n c:Nat} {L:List HV} (hL:SV w A (hvs L)) (hn:L.length=n) (hm:n≤maxLen) (R:Bool) (hR0:R=true ↔ (∀ p ∈ L,p.small 4)∧n≤6) :
 Calls Tryz.prog 6 #[.slice A n c] w fun e w'=>e=.returned (.bool R)∧Below w.heap.size w w':=by
 unfold maxLen at hm
 have HN:=Lib.hid hn;have HL0:=Lib.hid hL;have HR0:=Lib.hid hR0
 have H4:Hid ((4:Int)=((4:Nat):Int)):=rfl
 clear hR0 hL hn
 go_enter Tryz.func6,Tryz.ntmps6
 go_wp2_with fail
 go_loopg [3] n (fun gk ix wr=>∃ (m:Nat),Hid (gk+m=n)∧ix=.int .i64 (m:Int)∧Hid (∀ (i:Nat) (p:HV),i < m→L[i]?=some p→p.small 4)∧Below w.heap.size w wr)
 case atStart=>exact ⟨0,Nat.add_zero _,rfl,fun i p hi=>absurd hi (by omega),Below.refl _ _⟩
 case round =>
  obtain ⟨m,HG,rfl,HS,hb⟩:=hrel
  by_cases hmn:m < n
  · have HMN:=Lib.hid hmn
    obtain ⟨P,hP1⟩:∃ P,L[m]?=some P:=⟨_,List.getElem?_eq_getElem (by rw [HN.out];exact hmn)⟩
    obtain ⟨g0,o0,hix0,EP,_⟩:=(HL0.out.below hb).ht hP1
    have hixa:∀ w',(Instr.indexAt 22 (.slice A n c) (.int .i64 (m:Int))).run Tryz.prog w'=.ok (.pointer (some ⟨g0,o0,none⟩)) w':=fun w'=>hix0 n c w' hmn
    have hlt:(m:Int) < (n:Int):=by omega
    have hwr:IntKind.i64.wrap ((m:Int)+1)=(m:Int)+1:=IntWalk.i64_in _ (by omega)
    have HP1:=Lib.hid hP1;obtain ⟨ep0,ep1,ep2,ep3,ep4,ep5,ep6,ep7,ep8⟩:=EP.all;clear hP1 hix0 hmn
    by_cases hx:P.x.small 4
    · have Hx:Hid (decide (P.x.n≤4∧P.x.m≤4)=true):=decide_eq_true hx
      by_cases hy:P.y.small 4
      · have Hy:Hid (decide (P.y.n≤4∧P.y.m≤4)=true):=decide_eq_true hy
        by_cases hw:P.w.small 4
        · have Hw:Hid (decide (P.w.n≤4∧P.w.m≤4)=true):=decide_eq_true hw
          have HSM:Hid (P.small 4):=⟨hx,hy,hw⟩
          clear hx hy hw
          go_wp2_with (first
           | (go_at_call 7;(with_reducible refine (smallI 4 H4.out (s:=P.x.s) (A:=P.x.A) (n:=P.x.n) (c:=P.x.c) (A':=P.x.B) (n':=P.x.m) (c':=P.x.d) _ true Hx.out).mono ?_);rintro e w_z ⟨rfl,hh⟩
              (try replace EP:=EP.below hh);replace hb:=bend hb hh;obtain ⟨ep0,ep1,ep2,ep3,ep4,ep5,ep6,ep7,ep8⟩:=EP.all)
           | (go_at_call 7;(with_reducible refine (smallI 4 H4.out (s:=P.y.s) (A:=P.y.A) (n:=P.y.n) (c:=P.y.c) (A':=P.y.B) (n':=P.y.m) (c':=P.y.d) _ true Hy.out).mono ?_);rintro e w_z ⟨rfl,hh⟩
              (try replace EP:=EP.below hh);replace hb:=bend hb hh;obtain ⟨ep0,ep1,ep2,ep3,ep4,ep5,ep6,ep7,ep8⟩:=EP.all)
           | (go_at_call 7;(with_reducible refine (smallI 4 H4.out (s:=P.w.s) (A:=P.w.A) (n:=P.w.n) (c:=P.w.c) (A':=P.w.B) (n':=P.w.m) (c':=P.w.d) _ true Hw.out).mono ?_);rintro e w_z ⟨rfl,hh⟩
              (try replace EP:=EP.below hh);replace hb:=bend hb hh;obtain ⟨ep0,ep1,ep2,ep3,ep4,ep5,ep6,ep7,ep8⟩:=EP.all))
          go_roundg (gk - 1)
          case measure=>have:=HG.out;have:=HMN.out;omega
          case rel =>
           refine ⟨m+1,by have:=HG.out;have:=HMN.out;show _=_;omega,by go_num,fun i p hi h5=>?_,hb⟩
           rcases Nat.lt_or_ge i m with h | h
           · exact HS.out i p h h5
           · obtain rfl:i=m:=by omega
             rw [HP1.out] at h5;cases h5;exact HSM.out
        · have Hw:Hid (decide (P.w.n≤4∧P.w.m≤4)=false):=decide_eq_false hw
          have HF:Hid (false=R):=by
           show _=_
           cases R with
           | false=>rfl
           | true=>exact absurd (((HR0.out.1 rfl).1 _ (List.mem_of_getElem? HP1.out)).2.2) hw
          clear hx hy hw
          go_wp2_with (first
           | (go_at_call 7;(with_reducible refine (smallI 4 H4.out (s:=P.x.s) (A:=P.x.A) (n:=P.x.n) (c:=P.x.c) (A':=P.x.B) (n':=P.x.m) (c':=P.x.d) _ true Hx.out).mono ?_);rintro e w_z ⟨rfl,hh⟩
              (try replace EP:=EP.below hh);replace hb:=bend hb hh;obtain ⟨ep0,ep1,ep2,ep3,ep4,ep5,ep6,ep7,ep8⟩:=EP.all)
           | (go_at_call 7;(with_reducible refine (smallI 4 H4.out (s:=P.y.s) (A:=P.y.A) (n:=P.y.n) (c:=P.y.c) (A':=P.y.B) (n':=P.y.m) (c':=P.y.d) _ true Hy.out).mono ?_);rintro e w_z ⟨rfl,hh⟩
              (try replace EP:=EP.below hh);replace hb:=bend hb hh;obtain ⟨ep0,ep1,ep2,ep3,ep4,ep5,ep6,ep7,ep8⟩:=EP.all)
           | (go_at_call 7;(with_reducible refine (smallI 4 H4.out (s:=P.w.s) (A:=P.w.A) (n:=P.w.n) (c:=P.w.c) (A':=P.w.B) (n':=P.w.m) (c':=P.w.d) _ false Hw.out).mono ?_);rintro e w_z ⟨rfl,hh⟩
              (try replace EP:=EP.below hh);replace hb:=bend hb hh;obtain ⟨ep0,ep1,ep2,ep3,ep4,ep5,ep6,ep7,ep8⟩:=EP.all))
          (try rw [Exit.noGoto_ret])
          go_ret
          exact ⟨by rw [← HF.out];rfl,hb⟩
      · have Hy:Hid (decide (P.y.n≤4∧P.y.m≤4)=false):=decide_eq_false hy
        have HF:Hid (false=R):=by
         show _=_
         cases R with
         | false=>rfl
         | true=>exact absurd (((HR0.out.1 rfl).1 _ (List.mem_of_getElem? HP1.out)).2.1) hy
        clear hx hy
        go_wp2_with (first
         | (go_at_call 7;(with_reducible refine (smallI 4 H4.out (s:=P.x.s) (A:=P.x.A) (n:=P.x.n) (c:=P.x.c) (A':=P.x.B) (n':=P.x.m) (c':=P.x.d) _ true Hx.out).mono ?_);rintro e w_z ⟨rfl,hh⟩
            (try replace EP:=EP.below hh);replace hb:=bend hb hh;obtain ⟨ep0,ep1,ep2,ep3,ep4,ep5,ep6,ep7,ep8⟩:=EP.all)
         | (go_at_call 7;(with_reducible refine (smallI 4 H4.out (s:=P.y.s) (A:=P.y.A) (n:=P.y.n) (c:=P.y.c) (A':=P.y.B) (n':=P.y.m) (c':=P.y.d) _ false Hy.out).mono ?_);rintro e w_z ⟨rfl,hh⟩
            (try replace EP:=EP.below hh);replace hb:=bend hb hh;obtain ⟨ep0,ep1,ep2,ep3,ep4,ep5,ep6,ep7,ep8⟩:=EP.all))
        (try rw [Exit.noGoto_ret])
        go_ret
        exact ⟨by rw [← HF.out];rfl,hb⟩
    · have Hx:Hid (decide (P.x.n≤4∧P.x.m≤4)=false):=decide_eq_false hx
      have HF:Hid (false=R):=by
       show _=_
       cases R with
       | false=>rfl
       | true=>exact absurd (((HR0.out.1 rfl).1 _ (List.mem_of_getElem? HP1.out)).1) hx
      clear hx
      go_wp2_with (first
       | (go_at_call 7;(with_reducible refine (smallI 4 H4.out (s:=P.x.s) (A:=P.x.A) (n:=P.x.n) (c:=P.x.c) (A':=P.x.B) (n':=P.x.m) (c':=P.x.d) _ false Hx.out).mono ?_);rintro e w_z ⟨rfl,hh⟩
          (try replace EP:=EP.below hh);replace hb:=bend hb hh;obtain ⟨ep0,ep1,ep2,ep3,ep4,ep5,ep6,ep7,ep8⟩:=EP.all))
      (try rw [Exit.noGoto_ret])
      go_ret
      exact ⟨by rw [← HF.out];rfl,hb⟩
  · have hlt:¬ (m:Int) < (n:Int):=by omega
    have HT:Hid (decide ((n:Int)≤6)=R):=by
     have ha:∀ p ∈ L,p.small 4:=fun p hp=>by
      obtain ⟨i,hi⟩:=List.getElem?_of_mem hp
      have h7:=(List.getElem?_eq_some_iff.1 hi).1
      rw [HN.out] at h7
      exact HS.out i p (by omega) hi
     show _=_
     cases R with
     | true=>exact decide_eq_true (by have:=(HR0.out.1 rfl).2;omega)
     | false=>exact decide_eq_false fun h6=>by have:=HR0.out.2 ⟨ha,by omega⟩;cases this
    clear hmn
    go_wp2_with fail
    (try rw [Exit.noGoto_ret])
    go_ret
    exact ⟨by rw [← HT.out];rfl,hb⟩
end
section
open Go Go.RowKit
attribute [local go_sem ↓] open_LVH open_STH open_LVJ open_STJ
theorem rins13 {A:Option Addr} {n c k:Nat} {L:List HV} {V:List AH} (hL:SV w A (hvs L)) (hE:EachH HR w L V k) (hn:L.length=n) (hm:n≤1000) (hk:k≤1000) (h1:1≤k) :
 Calls Tryz.prog 9 #[.slice A n c] w (GivesJs w V (2*k)):=by
 have HN:=Lib.hid hn
 have HVl:Hid (V.length=n):=hE.1.symm.trans hn
 have HL9:=Lib.hid hL;have E9:=Lib.hid hE;clear hL hE hn
 go_enter Tryz.func9,Tryz.ntmps9
 go_wp2_with fail
 go_loopg [3,4] n (fun gk out ix wr=>∃ (M:List HV) (m:Nat),Hid (gk+m=n)∧ix=.int .i64 (m:Int)∧LnH 65 w.heap.size wr out M∧Hid (EachH RH wr M (V.take m) (2*k))∧Below w.heap.size w wr)
 case atStart=>exact ⟨[],0,Nat.add_zero _,rfl,LnH.nil _ _ _,⟨rfl,fun i p u h=>by cases h⟩,Below.refl _ _⟩
 case round =>
  obtain ⟨M,m,HG9,rfl,LT,HQ,hB⟩:=hrel
  by_cases hmn:m < n
  · obtain ⟨P,u,hP1,hu1,p0⟩:=(EachH.belowR E9.out hB).at_ (i:=m) (by rw [HN.out];exact hmn)
    obtain ⟨g0,o0,hix0,EP0,_⟩:=HL9.out.ht hP1
    have hixa:∀ w',(Instr.indexAt 22 (.slice A n c) (.int .i64 (m:Int))).run Tryz.prog w'=.ok (.pointer (some ⟨g0,o0,none⟩)) w':=fun w'=>hix0 n c w' hmn
    have hlt:(m:Int) < (n:Int):=by omega
    have hwr:IntKind.i64.wrap ((m:Int)+1)=(m:Int)+1:=IntWalk.i64_in _ (by omega)
    have HU:=Lib.hid hu1
    have hMl:M.length≤1000000:=by have:=HQ.out.1;rw [List.length_take] at this;omega
    have HMN:=Lib.hid hmn;have EP:=EP0.below hB
    have hxg:∀ b,u3.ownBlock=some b→b ≠ g0:=fun b e=>by have:=LT.own_base e;have:=EP0.lt;omega
    have p:=p0;clear hP1 hu1 hix0 hmn EP0 p0
    go_upto_region 5 with (fail)
    replace LT:=LT.below (Below.refl _ _).drew
    replace EP:=EP.below (Below.refl _ _).drew
    replace p:=p.below (Below.refl _ _).drew
    replace HQ:=Lib.hid (EachH.belowJ HQ.out (Below.refl _ _).drew)
    replace hB:=hB.drew
    go_region_held3 (fun w'=>w'.cell? ⟨g0,o0,none⟩=some (.bool P.x.s)∧w'.cell? ⟨g0,o0+1,none⟩=some (.slice P.x.A P.x.n P.x.c)∧w'.cell? ⟨g0,o0+2,none⟩=some (.slice P.x.B P.x.m P.x.d)∧w'.cell? ⟨g0,o0+3,none⟩=some (.bool P.y.s)∧w'.cell? ⟨g0,o0+4,none⟩=some (.slice P.y.A P.y.n P.y.c)∧w'.cell? ⟨g0,o0+5,none⟩=some (.slice P.y.B P.y.m P.y.d)∧w'.cell? ⟨g0,o0+6,none⟩=some (.bool P.w.s)∧w'.cell? ⟨g0,o0+7,none⟩=some (.slice P.w.A P.w.n P.w.c)∧w'.cell? ⟨g0,o0+8,none⟩=some (.slice P.w.B P.w.m P.w.d))
     (first | with_reducible exact ⟨EPb.c0,EPb.c1,EPb.c2,EPb.c3,EPb.c4,EPb.c5,EPb.c6,EPb.c7,EPb.c8⟩ | with_reducible exact ⟨EP.c0,EP.c1,EP.c2,EP.c3,EP.c4,EP.c5,EP.c6,EP.c7,EP.c8⟩ | exact ⟨(EP.below ((Below.refl _ _).alloc (Nat.le_refl _) _)).c0,(EP.below ((Below.refl _ _).alloc (Nat.le_refl _) _)).c1,(EP.below ((Below.refl _ _).alloc (Nat.le_refl _) _)).c2,(EP.below ((Below.refl _ _).alloc (Nat.le_refl _) _)).c3,(EP.below ((Below.refl _ _).alloc (Nat.le_refl _) _)).c4,(EP.below ((Below.refl _ _).alloc (Nat.le_refl _) _)).c5,(EP.below ((Below.refl _ _).alloc (Nat.le_refl _) _)).c6,(EP.below ((Below.refl _ _).alloc (Nat.le_refl _) _)).c7,(EP.below ((Below.refl _ _).alloc (Nat.le_refl _) _)).c8⟩)
     (first
     | (go_at_call 13;(with_reducible refine (rin3 p.qx hk h1).mono ?_);rintro e w_r1 ⟨s_r1,A_r1,n_r1,c_r1,B_r1,m_r1,d_r1,rfl,r1,hh⟩
        (try replace LT:=LT.below hh);(try replace EP:=EP.below hh);(try replace p:=p.below hh);(try replace r2:=r2.below hh);(try replace r3:=r3.below hh)
        replace HQ:=Lib.hid (EachH.belowJ HQ.out hh)
        replace hB:=bend hB hh)
     | (go_at_call 13;(with_reducible refine (rin3 p.qy hk h1).mono ?_);rintro e w_r2 ⟨s_r2,A_r2,n_r2,c_r2,B_r2,m_r2,d_r2,rfl,r2,hh⟩
        (try replace LT:=LT.below hh);(try replace EP:=EP.below hh);(try replace p:=p.below hh);(try replace r1:=r1.below hh);(try replace r3:=r3.below hh)
        replace HQ:=Lib.hid (EachH.belowJ HQ.out hh)
        replace hB:=bend hB hh)
     | (go_at_call 13;(with_reducible refine (rin3 p.qw hk h1).mono ?_);rintro e w_r3 ⟨s_r3,A_r3,n_r3,c_r3,B_r3,m_r3,d_r3,rfl,r3,hh⟩
        (try replace LT:=LT.below hh);(try replace EP:=EP.below hh);(try replace p:=p.below hh);(try replace r1:=r1.below hh);(try replace r2:=r2.below hh)
        replace HQ:=Lib.hid (EachH.belowJ HQ.out hh)
        replace hB:=bend hB hh)
     | (have hal:Below w_r3.heap.size w_r3 (w_r3.alloc (Obj.cells #[Value.bool s_r1,Value.slice A_r1 n_r1 c_r1,Value.slice B_r1 m_r1 d_r1,Value.bool s_r2,Value.slice A_r2 n_r2 c_r2,Value.slice B_r2 m_r2 d_r2,Value.bool s_r3,Value.slice A_r3 n_r3 c_r3,Value.slice B_r3 m_r3 d_r3] 65)):=((Below.refl _ _).alloc (Nat.le_refl _) _)
        have EPa:=EP.below hal
        refine step_pushH Tryz.underlying31 info_rhom (by rfl) _ _ (by rfl) (p:=⟨⟨s_r1,A_r1,n_r1,c_r1,B_r1,m_r1,d_r1⟩,⟨s_r2,A_r2,n_r2,c_r2,B_r2,m_r2,d_r2⟩,⟨s_r3,A_r3,n_r3,c_r3,B_r3,m_r3,d_r3⟩⟩) (k0:=1) (b:=w_r3.heap.size) (by rfl) (by rfl) (LT.below hal) (Nat.le_trans hB.size hal.size) hMl (heap_alloc_new w_r3 _) ?_
        intro v3 w3 hn3 hg3 ho3
        have EPb:=EPa.push hg3 hxg))
    have hE3:EachH RH (w_r3.alloc (Obj.cells #[Value.bool s_r1,Value.slice A_r1 n_r1 c_r1,Value.slice B_r1 m_r1 d_r1,Value.bool s_r2,Value.slice A_r2 n_r2 c_r2,Value.slice B_r2 m_r2 d_r2,Value.bool s_r3,Value.slice A_r3 n_r3 c_r3,Value.slice B_r3 m_r3 d_r3] 65)) M (V.take m) (2*k):=EachH.belowJ HQ.out hal
    have hp3:RH (w_r3.alloc (Obj.cells #[Value.bool s_r1,Value.slice A_r1 n_r1 c_r1,Value.slice B_r1 m_r1 d_r1,Value.bool s_r2,Value.slice A_r2 n_r2 c_r2,Value.slice B_r2 m_r2 d_r2,Value.bool s_r3,Value.slice A_r3 n_r3 c_r3,Value.slice B_r3 m_r3 d_r3] 65)) ⟨⟨s_r1,A_r1,n_r1,c_r1,B_r1,m_r1,d_r1⟩,⟨s_r2,A_r2,n_r2,c_r2,B_r2,m_r2,d_r2⟩,⟨s_r3,A_r3,n_r3,c_r3,B_r3,m_r3,d_r3⟩⟩ u (2*k):=(RH.below (h:=⟨⟨s_r1,A_r1,n_r1,c_r1,B_r1,m_r1,d_r1⟩,⟨s_r2,A_r2,n_r2,c_r2,B_r2,m_r2,d_r2⟩,⟨s_r3,A_r3,n_r3,c_r3,B_r3,m_r3,d_r3⟩⟩) (v:=u) (k:=2*k) ⟨r1,r2,r3⟩ hal)
    have hB9:=LnH.under (T:=65) (base:=w.heap.size) (LT.below hal) hg3 (w0:=w) (bend hB hal) (Nat.le_refl _)
    have hE4:=takeH HU.out (EachH.push hE3 (fun _ _ h=>(LT.below hal).rh hg3 h) ((LT.below hal).rh hg3 hp3))
    clear hE3 hp3 EPa EPb EP p r1 r2 r3
    go_wp2_with fail
    go_roundg (gk - 1)
    case measure=>have:=HG9.out;have:=HMN.out;omega
    case rel=>exact ⟨M ++ [(⟨⟨s_r1,A_r1,n_r1,c_r1,B_r1,m_r1,d_r1⟩,⟨s_r2,A_r2,n_r2,c_r2,B_r2,m_r2,d_r2⟩,⟨s_r3,A_r3,n_r3,c_r3,B_r3,m_r3,d_r3⟩⟩:HV)],m+1,by have:=HG9.out;have:=HMN.out;show _=_;omega,by go_num,hn3,Lib.hid hE4,hB9⟩
  · have hlt:¬ (m:Int) < (n:Int):=by omega
    have HQ2:Hid (EachH RH wr M V (2*k)):=by
     have h:=HQ.out
     rwa [List.take_of_length_le (by rw [HVl.out];omega)] at h
    clear hmn
    go_wp2_with fail
    (try rw [Exit.noGoto_ret])
    go_ret
    exact ⟨_,M,rfl,LT,HQ2.out,hB⟩
end
section
open Go Go.RowKit
attribute [local go_sem ↓] open_LVH open_STH open_LVJ open_STJ
theorem mkbx42_16 {w W:World} {x0 x1 x2 x3 x4 x5 x6 x7 x8 x9 x10 x11 x12 x13 x14:Value} (h:((w.alloc (Obj.cells #[x0,x1,x2,x3,x4,x5,x6,x7,x8] 65)).alloc (Obj.cells #[x9,x10,x11,x12,x13,x14] 80))=W):Below w.heap.size w W∧BJ W (w.heap.size) x0 x1 x2 x3 x4 x5 x6 x7 x8∧B6R W (w.heap.size+1) x9 x10 x11 x12 x13 x14∧W.heap.size=w.heap.size+2:=by subst h;exact ⟨by exact (((Below.refl _ _).alloc (Nat.le_refl _) _).alloc (by simp) _),by exact (BJ.new' _ _ _ _ _ _ _ _ _ _ _ rfl).alloc _,by exact B6R.new' _ _ _ _ _ _ _ _ (by simp),by simp⟩
theorem rpoint13 {k:Nat} {v:AH} {h:HV} (H:RH w h v k) (hk:k≤9000) (h0:v.w ≠ 0) :
 Calls Tryz.prog 40 #[.agg #[.bool h.x.s,.slice h.x.A h.x.n h.x.c,.slice h.x.B h.x.m h.x.d,.bool h.y.s,.slice h.y.A h.y.n h.y.c,.slice h.y.B h.y.m h.y.d,.bool h.w.s,.slice h.w.A h.w.n h.w.c,.slice h.w.B h.w.m h.w.d]] w (GivesRP w (v.x / v.w) (v.y / v.w) (k+k)):=by
 go_enter Tryz.func40,Tryz.ntmps40
 go_upto_region 1 with (fail)
 generalize hW:World.alloc _ _=W
 obtain ⟨hb,XA,Z,hzW⟩:=mkbx42_16 hW;clear hW;replace H:=H.below hb
 replace H:=H.below (Below.refl _ _).drew
 replace XA:=XA.below (Below.refl _ _).drew
 replace Z:=Z.below (Below.refl _ _).drew
 replace hb:=hb.drew
 go_region_held3 (fun w'=>w'.cell? ⟨w.heap.size,0,none⟩=some (.bool h.x.s)∧w'.cell? ⟨w.heap.size,1,none⟩=some (.slice h.x.A h.x.n h.x.c)∧w'.cell? ⟨w.heap.size,2,none⟩=some (.slice h.x.B h.x.m h.x.d)∧w'.cell? ⟨w.heap.size,3,none⟩=some (.bool h.y.s)∧w'.cell? ⟨w.heap.size,4,none⟩=some (.slice h.y.A h.y.n h.y.c)∧w'.cell? ⟨w.heap.size,5,none⟩=some (.slice h.y.B h.y.m h.y.d)∧w'.cell? ⟨w.heap.size,6,none⟩=some (.bool h.w.s)∧w'.cell? ⟨w.heap.size,7,none⟩=some (.slice h.w.A h.w.n h.w.c)∧w'.cell? ⟨w.heap.size,8,none⟩=some (.slice h.w.B h.w.m h.w.d))
  (first | with_reducible exact ⟨XA.c0,XA.c1,XA.c2,XA.c3,XA.c4,XA.c5,XA.c6,XA.c7,XA.c8⟩ | with_reducible exact ⟨(XA.restm (by omega) (only_set6 _ _ _ _ _ _ _ _)).c0,(XA.restm (by omega) (only_set6 _ _ _ _ _ _ _ _)).c1,(XA.restm (by omega) (only_set6 _ _ _ _ _ _ _ _)).c2,(XA.restm (by omega) (only_set6 _ _ _ _ _ _ _ _)).c3,(XA.restm (by omega) (only_set6 _ _ _ _ _ _ _ _)).c4,(XA.restm (by omega) (only_set6 _ _ _ _ _ _ _ _)).c5,(XA.restm (by omega) (only_set6 _ _ _ _ _ _ _ _)).c6,(XA.restm (by omega) (only_set6 _ _ _ _ _ _ _ _)).c7,(XA.restm (by omega) (only_set6 _ _ _ _ _ _ _ _)).c8⟩)
  (first
  | (go_at_call 81;(with_reducible refine (rdiv3 H.qx H.qw (by omega) (by omega) h0).mono ?_);rintro e w_r ⟨s_r,A_r,n_r,c_r,B_r,m_r,d_r,rfl,r,hh⟩
     (try replace H:=H.below hh);(try replace XA:=XA.below hh);(try replace Z:=Z.below hh);(try replace u:=u.below hh);replace hb:=bend hb hh)
  | (go_at_call 81;(with_reducible refine (rdiv3 H.qy H.qw (by omega) (by omega) h0).mono ?_);rintro e w_u ⟨s_u,A_u,n_u,c_u,B_u,m_u,d_u,rfl,u,hh⟩
     (try replace H:=H.below hh);(try replace XA:=XA.below hh);(try replace Z:=Z.below hh);(try replace r:=r.below hh);replace hb:=bend hb hh;have zg0:=Z.f0;have zg1:=Z.f1;have zg2:=Z.f2;have zg3:=Z.f3;have zg4:=Z.f4;have zg5:=Z.f5;obtain ⟨zc0,zc1,zc2,zc3,zc4,zc5⟩:=Z.all))
 go_wp2_with fail
 have Z2:=Z.set6 (.bool s_r) (.slice A_r n_r c_r) (.slice B_r m_r d_r) (.bool s_u) (.slice A_u n_u c_u) (.slice B_u m_u d_u)
 obtain ⟨g0,g1,g2,g3,g4,g5⟩:=Z2.all
 refine bodyPost_ret (v:=.agg #[.bool s_r,.slice A_r n_r c_r,.slice B_r m_r d_r,.bool s_u,.slice A_u n_u c_u,.slice B_u m_u d_u]) (by simp [results,Tryz.results40,go_sem,g0,g1,g2,g3,g4,g5]) rfl ?_
 exact ⟨_,_,_,_,_,_,_,_,_,_,_,_,_,_,rfl,(show RP _ _ _ _ _ _ _ _ _ _ _ _ _ _ _ _ _ _ from ⟨r,u⟩).set6 Z _ _ _ _ _ _,below_set6 hb (by omega) _ _ _ _ _ _⟩
theorem i64In.lo {x:Int} (h:i64In x):-9223372036854775808≤x:=h.1
theorem i64In.hi {x:Int} (h:i64In x):x < 9223372036854775808:=h.2
theorem rgood13 {A:Option Addr} {n c k:Nat} {L:List HV} {V:List AH} (hL:SV w A (hvs L)) (hE:EachH RH w L V k) (hn:L.length=n) (hm:n≤1000) (R:Bool) (hR0:R=true ↔ GoodH V) :
 Calls Tryz.prog 14 #[.slice A n c] w fun e w'=>e=.returned (.bool R)∧Below w.heap.size w w':=by
 have HN:=Lib.hid hn
 have HVl:Hid (V.length=n):=hE.1.symm.trans hn
 have HL9:=Lib.hid hL;have E9:=Lib.hid hE;have HR0:=Lib.hid hR0;clear hL hE hn hR0
 go_enter Tryz.func14,Tryz.ntmps14
 go_wp2_with fail
 go_loopg [3] n (fun gk ix wr=>∃ (m:Nat),Hid (gk+m=n)∧ix=.int .i64 (m:Int)∧Hid (∀ (i:Nat) (u:AH),i < m→V[i]?=some u→0 < u.w)∧Below w.heap.size w wr)
 case atStart=>exact ⟨0,Nat.add_zero _,rfl,fun i p hi=>absurd hi (by omega),Below.refl _ _⟩
 case round =>
  obtain ⟨m,HG,rfl,HS,hb⟩:=hrel
  by_cases hmn:m < n
  · have HMN:=Lib.hid hmn
    obtain ⟨P,u,hP1,hu1,p0⟩:=E9.out.at_ (i:=m) (by rw [HN.out];exact hmn)
    obtain ⟨g0,o0,hix0,EP0,_⟩:=(HL9.out.below hb).jt hP1
    have hixa:∀ w',(Instr.indexAt 31 (.slice A n c) (.int .i64 (m:Int))).run Tryz.prog w'=.ok (.pointer (some ⟨g0,o0,none⟩)) w':=fun w'=>hix0 n c w' hmn
    have hlt:(m:Int) < (n:Int):=by omega
    have hwr:IntKind.i64.wrap ((m:Int)+1)=(m:Int)+1:=IntWalk.i64_in _ (by omega)
    have HU:=Lib.hid hu1
    have pw:=(p0.below hb).qw
    have ep6:=EP0.c6;have ep7:=EP0.c7;have ep8:=EP0.c8;clear hP1 hu1 hix0 hmn p0 EP0
    by_cases hs:0 < u.w
    · have HT:Hid (sgnQ u.w=1):=sgn_p hs
      have HSM:=Lib.hid hs;clear hs
      go_wp2_with (first
       | (go_at_call 31;(with_reducible refine (rsign3 pw).mono ?_);rintro e w_z ⟨rfl,hh⟩;rw [HT.out];replace hb:=bend hb hh))
      go_roundg (gk - 1)
      case measure=>have:=HG.out;have:=HMN.out;omega
      case rel =>
       refine ⟨m+1,by have:=HG.out;have:=HMN.out;show _=_;omega,by go_num,fun i v hi h5=>?_,hb⟩
       rcases Nat.lt_or_ge i m with h | h
       · exact HS.out i v h h5
       · obtain rfl:i=m:=by omega
         rw [HU.out] at h5;cases h5;exact HSM.out
    · obtain ⟨T,hT,hT0⟩:∃ T,sgnQ u.w=T∧T≤0:=⟨_,rfl,sgn_np hs⟩
      have HT:=Lib.hid hT
      have HF:Hid (false=R):=by
       show _=_
       cases R with
       | false=>rfl
       | true=>exact absurd ((HR0.out.1 rfl).2 _ (List.mem_of_getElem? HU.out)) hs
      clear hs hT
      go_wp2_with (first
       | (go_at_call 31;(with_reducible refine (rsign3 pw).mono ?_);rintro e w_z ⟨rfl,hh⟩;rw [HT.out];replace hb:=bend hb hh))
      (try rw [Exit.noGoto_ret])
      go_ret
      exact ⟨by rw [← HF.out];rfl,hb⟩
  · have hlt:¬ (m:Int) < (n:Int):=by omega
    have HA:Hid (∀ u ∈ V,0 < u.w):=by
     intro p hp
     obtain ⟨i,hi⟩:=List.getElem?_of_mem hp
     have h7:=(List.getElem?_eq_some_iff.1 hi).1
     rw [HVl.out] at h7
     exact HS.out i p (by omega) hi
    clear hmn
    by_cases h2:n < 2
    · have h2':¬ 2≤(n:Int):=by omega
      have HF:Hid (false=R):=by
       show _=_
       cases R with
       | false=>rfl
       | true=>have h5:=(HR0.out.1 rfl).1;rw [HVl.out] at h5;omega
      go_wp2_with fail
      (try rw [Exit.noGoto_ret])
      go_ret
      exact ⟨by rw [← HF.out];rfl,hb⟩
    · have h2':2≤(n:Int):=by omega
      by_cases h4:4 < n
      · have h4':¬ (n:Int)≤4:=by omega
        have HF:Hid (false=R):=by
         show _=_
         cases R with
         | false=>rfl
         | true=>have h5:=(HR0.out.1 rfl).1;rw [HVl.out] at h5;omega
        go_wp2_with fail
        (try rw [Exit.noGoto_ret])
        go_ret
        exact ⟨by rw [← HF.out];simp,hb⟩
      · have h4':(n:Int)≤4:=by omega
        have HF:Hid (true=R):=(HR0.out.2 ⟨by rw [HVl.out];omega,HA.out⟩).symm
        go_wp2_with fail
        (try rw [Exit.noGoto_ret])
        go_ret
        exact ⟨by rw [← HF.out];simp,hb⟩
end
end Go.Proofs.YtlpogecpdfdggaaGreat
