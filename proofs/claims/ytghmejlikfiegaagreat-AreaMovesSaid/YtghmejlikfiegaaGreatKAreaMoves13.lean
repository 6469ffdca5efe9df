/- AreaMoves: part 13. -/
import Derived.Test.YtghmejlikfiegaaGreatKAreaMoves0
import Derived.Test.YtghmejlikfiegaaGreatKAreaMoves9
import Derived.Test.YtghmejlikfiegaaGreatKAreaMoves10
import Derived.Test.YtghmejlikfiegaaGreatKAreaMoves11
import Derived.Test.YtghmejlikfiegaaGreatKAreaMoves12
set_option linter.unusedVariables false
set_option maxRecDepth 100000
set_option maxHeartbeats 16000000
variable {w:Go.World}
variable {s_p t_p:Bool} {A_p B_p E_p F_p:Option Go.Addr} {n_p c_p m_p d_p i_p e_p j_p f_p:Nat}
variable {s_q t_q:Bool} {A_q B_q E_q F_q:Option Go.Addr} {n_q c_q m_q d_q i_q e_q j_q f_q:Nat}
variable {s_r t_r:Bool} {A_r B_r E_r F_r:Option Go.Addr} {n_r c_r m_r d_r i_r e_r j_r f_r:Nat}
namespace Go.Proofs.YtghmejlikfiegaaGreat
section
open Go Go.RowKit
theorem zqr (w:World):QR w false none 0 0 none 0 0 0 1:=by
 refine ⟨0,0,⟨[],⟨rfl,fun h=>absurd h (by decide)⟩,Lim.nil,rfl,Nat.le_refl _,by decide,by decide⟩,⟨[],⟨rfl,fun h=>absurd h (by decide)⟩,Lim.nil,rfl,Nat.le_refl _,by decide⟩,by decide +kernel⟩
theorem zpr (w:World):PR w false none 0 0 none 0 0 false none 0 0 none 0 0 0 0 1:=⟨zqr w,zqr w⟩
theorem BoxAt.setp {T:TypeId} {g m:Nat} {M:List PV} (h:BoxAt T w g (pvs M).toArray) (hm:m < M.length) (q:PV) :
 BoxAt T ((((((w.setCell ⟨g,m*6,none⟩ (.bool q.s)).setCell ⟨g,m*6+1,none⟩ (.slice q.A q.n q.c)).setCell ⟨g,m*6+2,none⟩ (.slice q.B q.m q.d)).setCell ⟨g,m*6+3,none⟩ (.bool q.t)).setCell ⟨g,m*6+4,none⟩ (.slice q.E q.i q.e)).setCell ⟨g,m*6+5,none⟩ (.slice q.F q.j q.f)) g (pvs (M.set m q)).toArray:=by
 refine ⟨?_,arr_free (pvs_free _)⟩
 have h0:=h.at_
 have e2:((((((pvs M).set (m*6) (.bool q.s)).set (m*6+1) (.slice q.A q.n q.c)).set (m*6+2) (.slice q.B q.m q.d)).set (m*6+3) (.bool q.t)).set (m*6+4) (.slice q.E q.i q.e)).set (m*6+5) (.slice q.F q.j q.f)=pvs (M.set m q):=by
  apply List.ext_getElem?
  intro j
  have hl:(pvs M).length=M.length*6:=rows_length pvc_len M
  have:=rows_set pvc_len hm q j
  rw [show (pvs (M.set m q))[j]?=_ from this]
  simp only [List.getElem?_set,List.length_set,hl]
  by_cases h0:m*6≤j∧j < m*6+6
  · rw [if_pos h0]
    obtain ⟨a,rfl,ha⟩:∃ a,j=m*6+a∧a < 6:=⟨j - m*6,by omega,by omega⟩
    rw [Nat.add_sub_cancel_left]
    match a,ha with
    | 0,_=>rw [if_neg (by omega),if_neg (by omega),if_neg (by omega),if_neg (by omega),if_neg (by omega),if_pos (by omega),if_pos (by omega)];rfl
    | 1,_=>rw [if_neg (by omega),if_neg (by omega),if_neg (by omega),if_neg (by omega),if_pos (by omega),if_pos (by omega)];rfl
    | 2,_=>rw [if_neg (by omega),if_neg (by omega),if_neg (by omega),if_pos (by omega),if_pos (by omega)];rfl
    | 3,_=>rw [if_neg (by omega),if_neg (by omega),if_pos (by omega),if_pos (by omega)];rfl
    | 4,_=>rw [if_neg (by omega),if_pos (by omega),if_pos (by omega)];rfl
    | 5,_=>rw [if_pos (by omega),if_pos (by omega)];rfl
    | a+6,ha=>omega
  · rw [if_neg h0,if_neg (by omega),if_neg (by omega),if_neg (by omega),if_neg (by omega),if_neg (by omega),if_neg (by omega)];rfl
 simp [World.setCell,Array.getElem?_modify,h0,e2]
theorem onlyp (w:World) (g o:Nat) (a b c d e f:Value):Only g w ((((((w.setCell ⟨g,o,none⟩ a).setCell ⟨g,o+1,none⟩ b).setCell ⟨g,o+2,none⟩ c).setCell ⟨g,o+3,none⟩ d).setCell ⟨g,o+4,none⟩ e).setCell ⟨g,o+5,none⟩ f):=((((((Only.refl g w).setCell o a).setCell (o+1) b).setCell (o+2) c).setCell (o+3) d).setCell (o+4) e).setCell (o+5) f
theorem setp_cell (W:World) (g k o p:Nat) (a b c d e f:Value) (h:k ≠ g):((((((W.setCell ⟨g,o,none⟩ a).setCell ⟨g,o+1,none⟩ b).setCell ⟨g,o+2,none⟩ c).setCell ⟨g,o+3,none⟩ d).setCell ⟨g,o+4,none⟩ e).setCell ⟨g,o+5,none⟩ f).cell? ⟨k,p,none⟩=W.cell? ⟨k,p,none⟩:=by
 rw [World.cell?_of_block (Below.heap_setCell _ _ _ _ h),World.cell?_of_block (Below.heap_setCell _ _ _ _ h),World.cell?_of_block (Below.heap_setCell _ _ _ _ h),World.cell?_of_block (Below.heap_setCell _ _ _ _ h),World.cell?_of_block (Below.heap_setCell _ _ _ _ h),World.cell?_of_block (Below.heap_setCell _ _ _ _ h)]
theorem BoxAt.p6 {T:TypeId} {g m:Nat} {M:List PV} {p:PV} (h:BoxAt T w g (pvs M).toArray) (hp:M[m]?=some p):E6x w g (m*6) p:=by
 have key:∀ j,j < 6→∀ u,p.cells[j]?=some u→w.cell? ⟨g,m*6+j,none⟩=some u:=fun j hj u hu=>by
  rw [cell_of_row w g (m*6+j) _ _ (0,0) h.at_,← hu,← rows_get pvc_len hp hj];simp [pvs]
 exact ⟨h.lt,key 0 (by decide) _ rfl,key 1 (by decide) _ rfl,key 2 (by decide) _ rfl,key 3 (by decide) _ rfl,key 4 (by decide) _ rfl,key 5 (by decide) _ rfl⟩
theorem afresh_p {k:Nat} {x y:Rat} (p:PR w s_p A_p n_p c_p B_p m_p d_p t_p E_p i_p e_p F_p j_p f_p x y k) (hk:k≤300) (h1:1≤k) :
 Calls Tryz.prog 48 #[.agg #[.bool s_p,.slice A_p n_p c_p,.slice B_p m_p d_p,.bool t_p,.slice E_p i_p e_p,.slice F_p j_p f_p]] w (GivesPt w x y (k+1+1)):=by
 rw [show x=x+0 by grind,show y=y+0 by grind]
 go_enter Tryz.func48,Tryz.ntmps48
 go_upto_region 1 with (fail)
 generalize hW:World.alloc _ _=W
 obtain ⟨hb,XA,Z,hzW⟩:=mkbx22_10 hW;clear hW;replace p:=p.below hb;obtain ⟨xa0,xa1,xa2,xa3,xa4,xa5⟩:=XA.all
 go_wp2_with (first
  | (go_at_call 33;(with_reducible refine (padd_p p (zpr _) hk (by omega) (.inl (by omega)) h1 (by omega)).mono ?_);rintro e w_r ⟨s_r,A_r,n_r,c_r,B_r,m_r,d_r,t_r,E_r,i_r,e_r,F_r,j_r,f_r,rfl,r,hh⟩
     (try replace Z:=Z.below hh);replace hb:=bend hb hh;have zg0:=Z.f0;have zg1:=Z.f1;have zg2:=Z.f2;have zg3:=Z.f3;have zg4:=Z.f4;have zg5:=Z.f5;obtain ⟨zc0,zc1,zc2,zc3,zc4,zc5⟩:=Z.all))
 have Z2:=Z.set6 (.bool s_r) (.slice A_r n_r c_r) (.slice B_r m_r d_r) (.bool t_r) (.slice E_r i_r e_r) (.slice F_r j_r f_r)
 obtain ⟨g0,g1,g2,g3,g4,g5⟩:=Z2.all
 refine bodyPost_ret (v:=.agg #[.bool s_r,.slice A_r n_r c_r,.slice B_r m_r d_r,.bool t_r,.slice E_r i_r e_r,.slice F_r j_r f_r]) (by simp [results,Tryz.results48,go_sem,g0,g1,g2,g3,g4,g5]) rfl ?_
 exact ⟨s_r,A_r,n_r,c_r,B_r,m_r,d_r,t_r,E_r,i_r,e_r,F_r,j_r,f_r,rfl,r.set6 Z _ _ _ _ _ _,below_set6 hb (by omega) _ _ _ _ _ _⟩
theorem down_p {k:Nat} {x y:Rat} (p:PR w s_p A_p n_p c_p B_p m_p d_p t_p E_p i_p e_p F_p j_p f_p x y k) (hk:k≤900) (h1:1≤k) (R:Bool) (hR:decide (y < 0)=R) :
 Calls Tryz.prog 64 #[.agg #[.bool s_p,.slice A_p n_p c_p,.slice B_p m_p d_p,.bool t_p,.slice E_p i_p e_p,.slice F_p j_p f_p]] w fun e w'=>e=.returned (.bool R)∧Below w.heap.size w w':=by
 obtain ⟨K,hK⟩:∃ K,sgnQ y=K:=⟨_,rfl⟩
 have HK:=Lib.hid hK
 have HR:Hid (decide (K < 0)=R):=by
  show _=_
  rw [← hR,← hK];unfold sgnQ
  split
  · rename_i h;rw [decide_eq_true h];rfl
  · rename_i h;rw [decide_eq_false h];split <;> rfl
 clear hK hR
 go_enter Tryz.func64,Tryz.ntmps64
 go_upto_region 1 with (fail)
 generalize hW:World.alloc _ _=W
 obtain ⟨hb,XA,hzW⟩:=mkbx16_9 hW;clear hW;replace p:=p.below hb;obtain ⟨xa0,xa1,xa2,xa3,xa4,xa5⟩:=XA.all
 go_wp2_with (first
  | (go_at_call 31;(with_reducible refine (rsign_q p.qy hk h1).mono ?_);rintro e w_z ⟨rfl,hh⟩
     rw [HK.out];replace hb:=bend hb hh))
 (try rw [Exit.noGoto_ret])
 go_ret
 exact ⟨by rw [← HR.out];first | rfl | simp,hb⟩
theorem sgnQ_cases (v:Rat):(sgnQ v=1∧0 < v) ∨ (sgnQ v=0∧v=0) ∨ (sgnQ v=-1∧v < 0):=by
 unfold sgnQ
 split
 · exact .inr (.inr ⟨rfl,by assumption⟩)
 · split
   · exact .inr (.inl ⟨rfl,by assumption⟩)
   · exact .inl ⟨rfl,by grind⟩
theorem left_pos {k:Nat} {ax ay bx by_:Rat} (p:PR w s_p A_p n_p c_p B_p m_p d_p t_p E_p i_p e_p F_p j_p f_p ax ay k) (q:PR w s_q A_q n_q c_q B_q m_q d_q t_q E_q i_q e_q F_q j_q f_q bx by_ k) (hk:k+k≤200) (h1:1≤k) (hc:0 < ax*by_ - ay*bx) :
 Calls Tryz.prog 63 #[.agg #[.bool s_p,.slice A_p n_p c_p,.slice B_p m_p d_p,.bool t_p,.slice E_p i_p e_p,.slice F_p j_p f_p],.agg #[.bool s_q,.slice A_q n_q c_q,.slice B_q m_q d_q,.bool t_q,.slice E_q i_q e_q,.slice F_q j_q f_q]] w fun e w'=>e=.returned (.bool (true))∧Below w.heap.size w w':=by
 have HC:Hid (sgnQ (ax*by_ - ay*bx)=1):=by
  rcases sgnQ_cases (ax*by_ - ay*bx) with h | h | h
  · exact h.1
  · exfalso;have:=h.2;grind
  · exfalso;have:=h.2;grind
 clear hc
 go_enter Tryz.func63,Tryz.ntmps63
 go_upto_region 1 with (fail)
 generalize hW:World.alloc _ _=W
 obtain ⟨hb,XA,XB,hzW⟩:=mkbx22_10 hW;clear hW;replace p:=p.below hb;replace q:=q.below hb;obtain ⟨xa0,xa1,xa2,xa3,xa4,xa5⟩:=XA.all;obtain ⟨xb0,xb1,xb2,xb3,xb4,xb5⟩:=XB.all
 go_wp2_with (first
  | (go_at_call 56;(with_reducible refine (pcross_p p q hk h1 h1).mono ?_);rintro e w_r ⟨s_r,A_r,n_r,c_r,B_r,m_r,d_r,rfl,r,hh⟩
     (try replace p:=p.below hh);(try replace q:=q.below hh);(try replace XA:=XA.below hh);(try replace XB:=XB.below hh);replace hb:=bend hb hh;obtain ⟨xa0,xa1,xa2,xa3,xa4,xa5⟩:=XA.all;obtain ⟨xb0,xb1,xb2,xb3,xb4,xb5⟩:=XB.all)
  | (go_at_call 31;(with_reducible refine (rsign_q r.qr (by omega) (by omega)).mono ?_);rintro e w_z ⟨rfl,hh⟩
     rw [HC.out];(try replace p:=p.below hh);(try replace q:=q.below hh);(try replace XA:=XA.below hh);(try replace XB:=XB.below hh);replace hb:=bend hb hh;obtain ⟨xa0,xa1,xa2,xa3,xa4,xa5⟩:=XA.all;obtain ⟨xb0,xb1,xb2,xb3,xb4,xb5⟩:=XB.all))
 (try rw [Exit.noGoto_ret])
 go_ret;exact ⟨rfl,hb⟩
theorem left_neg {k:Nat} {ax ay bx by_:Rat} (p:PR w s_p A_p n_p c_p B_p m_p d_p t_p E_p i_p e_p F_p j_p f_p ax ay k) (q:PR w s_q A_q n_q c_q B_q m_q d_q t_q E_q i_q e_q F_q j_q f_q bx by_ k) (hk:k+k≤200) (h1:1≤k) (hc:ax*by_ - ay*bx < 0) :
 Calls Tryz.prog 63 #[.agg #[.bool s_p,.slice A_p n_p c_p,.slice B_p m_p d_p,.bool t_p,.slice E_p i_p e_p,.slice F_p j_p f_p],.agg #[.bool s_q,.slice A_q n_q c_q,.slice B_q m_q d_q,.bool t_q,.slice E_q i_q e_q,.slice F_q j_q f_q]] w fun e w'=>e=.returned (.bool (false))∧Below w.heap.size w w':=by
 have HC:Hid (sgnQ (ax*by_ - ay*bx)=(-1)):=by
  rcases sgnQ_cases (ax*by_ - ay*bx) with h | h | h
  · exfalso;have:=h.2;grind
  · exfalso;have:=h.2;grind
  · exact h.1
 clear hc
 go_enter Tryz.func63,Tryz.ntmps63
 go_upto_region 1 with (fail)
 generalize hW:World.alloc _ _=W
 obtain ⟨hb,XA,XB,hzW⟩:=mkbx22_10 hW;clear hW;replace p:=p.below hb;replace q:=q.below hb;obtain ⟨xa0,xa1,xa2,xa3,xa4,xa5⟩:=XA.all;obtain ⟨xb0,xb1,xb2,xb3,xb4,xb5⟩:=XB.all
 go_wp2_with (first
  | (go_at_call 56;(with_reducible refine (pcross_p p q hk h1 h1).mono ?_);rintro e w_r ⟨s_r,A_r,n_r,c_r,B_r,m_r,d_r,rfl,r,hh⟩
     (try replace p:=p.below hh);(try replace q:=q.below hh);(try replace XA:=XA.below hh);(try replace XB:=XB.below hh);replace hb:=bend hb hh;obtain ⟨xa0,xa1,xa2,xa3,xa4,xa5⟩:=XA.all;obtain ⟨xb0,xb1,xb2,xb3,xb4,xb5⟩:=XB.all)
  | (go_at_call 31;(with_reducible refine (rsign_q r.qr (by omega) (by omega)).mono ?_);rintro e w_z ⟨rfl,hh⟩
     rw [HC.out];(try replace p:=p.below hh);(try replace q:=q.below hh);(try replace XA:=XA.below hh);(try replace XB:=XB.below hh);replace hb:=bend hb hh;obtain ⟨xa0,xa1,xa2,xa3,xa4,xa5⟩:=XA.all;obtain ⟨xb0,xb1,xb2,xb3,xb4,xb5⟩:=XB.all))
 (try rw [Exit.noGoto_ret])
 go_ret;exact ⟨rfl,hb⟩
theorem left_nul {k:Nat} {ax ay bx by_:Rat} (p:PR w s_p A_p n_p c_p B_p m_p d_p t_p E_p i_p e_p F_p j_p f_p ax ay k) (q:PR w s_q A_q n_q c_q B_q m_q d_q t_q E_q i_q e_q F_q j_q f_q bx by_ k) (hk:k+k≤200) (h1:1≤k) (hc:ax*by_ - ay*bx=0) :
 Calls Tryz.prog 63 #[.agg #[.bool s_p,.slice A_p n_p c_p,.slice B_p m_p d_p,.bool t_p,.slice E_p i_p e_p,.slice F_p j_p f_p],.agg #[.bool s_q,.slice A_q n_q c_q,.slice B_q m_q d_q,.bool t_q,.slice E_q i_q e_q,.slice F_q j_q f_q]] w fun e w'=>e=.returned (.bool (decide (0 < ax*bx+ay*by_)))∧Below w.heap.size w w':=by
 have HC:Hid (sgnQ (ax*by_ - ay*bx)=0):=by
  rcases sgnQ_cases (ax*by_ - ay*bx) with h | h | h
  · exfalso;have:=h.2;grind
  · exact h.1
  · exfalso;have:=h.2;grind
 obtain ⟨K,hK⟩:∃ K,sgnQ (ax*bx+ay*by_)=K:=⟨_,rfl⟩
 have HK:=Lib.hid hK
 have HR:Hid (decide (0 < K)=decide (0 < ax*bx+ay*by_)):=by
  show _=_
  rw [← hK]
  rcases sgnQ_cases (ax*bx+ay*by_) with h | h | h
  · have e:decide (0 < ax*bx+ay*by_)=true:=decide_eq_true h.2
    rw [h.1,e];rfl
  · have e:decide (0 < ax*bx+ay*by_)=false:=decide_eq_false (by have:=h.2;grind)
    rw [h.1,e];rfl
  · have e:decide (0 < ax*bx+ay*by_)=false:=decide_eq_false (by have:=h.2;grind)
    rw [h.1,e];rfl
 clear hK;clear hc
 go_enter Tryz.func63,Tryz.ntmps63
 go_upto_region 1 with (fail)
 generalize hW:World.alloc _ _=W
 obtain ⟨hb,XA,XB,hzW⟩:=mkbx22_10 hW;clear hW;replace p:=p.below hb;replace q:=q.below hb;obtain ⟨xa0,xa1,xa2,xa3,xa4,xa5⟩:=XA.all;obtain ⟨xb0,xb1,xb2,xb3,xb4,xb5⟩:=XB.all
 go_wp2_with (first
  | (go_at_call 56;(with_reducible refine (pcross_p p q hk h1 h1).mono ?_);rintro e w_r ⟨s_r,A_r,n_r,c_r,B_r,m_r,d_r,rfl,r,hh⟩
     (try replace p:=p.below hh);(try replace q:=q.below hh);(try replace XA:=XA.below hh);(try replace XB:=XB.below hh);replace hb:=bend hb hh;obtain ⟨xa0,xa1,xa2,xa3,xa4,xa5⟩:=XA.all;obtain ⟨xb0,xb1,xb2,xb3,xb4,xb5⟩:=XB.all)
  | (go_at_call 108;(with_reducible refine (pdot_p p q hk h1 h1).mono ?_);rintro e w_u ⟨s_u,A_u,n_u,c_u,B_u,m_u,d_u,rfl,u,hh⟩
     (try replace p:=p.below hh);(try replace q:=q.below hh);(try replace XA:=XA.below hh);(try replace XB:=XB.below hh);replace hb:=bend hb hh;obtain ⟨xa0,xa1,xa2,xa3,xa4,xa5⟩:=XA.all;obtain ⟨xb0,xb1,xb2,xb3,xb4,xb5⟩:=XB.all)
  | (go_at_call 31;(with_reducible refine (rsign_q u.qr (by omega) (by omega)).mono ?_);rintro e w_z ⟨rfl,hh⟩
     rw [HK.out];(try replace p:=p.below hh);(try replace q:=q.below hh);(try replace XA:=XA.below hh);(try replace XB:=XB.below hh);replace hb:=bend hb hh;obtain ⟨xa0,xa1,xa2,xa3,xa4,xa5⟩:=XA.all;obtain ⟨xb0,xb1,xb2,xb3,xb4,xb5⟩:=XB.all)
  | (go_at_call 31;(with_reducible refine (rsign_q r.qr (by omega) (by omega)).mono ?_);rintro e w_z ⟨rfl,hh⟩
     rw [HC.out];(try replace p:=p.below hh);(try replace q:=q.below hh);(try replace XA:=XA.below hh);(try replace XB:=XB.below hh);replace hb:=bend hb hh;obtain ⟨xa0,xa1,xa2,xa3,xa4,xa5⟩:=XA.all;obtain ⟨xb0,xb1,xb2,xb3,xb4,xb5⟩:=XB.all))
 (try rw [Exit.noGoto_ret])
 go_ret
 exact ⟨by rw [← HR.out];first | rfl | simp,hb⟩
instance (a b c d:Rat):Decidable (LeftV a b c d):=by unfold LeftV;exact inferInstance
theorem left_p {k:Nat} {ax ay bx by_:Rat} (p:PR w s_p A_p n_p c_p B_p m_p d_p t_p E_p i_p e_p F_p j_p f_p ax ay k) (q:PR w s_q A_q n_q c_q B_q m_q d_q t_q E_q i_q e_q F_q j_q f_q bx by_ k) (hk:k+k≤200) (h1:1≤k) (R:Bool) (hR:decide (LeftV ax ay bx by_)=R) :
 Calls Tryz.prog 63 #[.agg #[.bool s_p,.slice A_p n_p c_p,.slice B_p m_p d_p,.bool t_p,.slice E_p i_p e_p,.slice F_p j_p f_p],.agg #[.bool s_q,.slice A_q n_q c_q,.slice B_q m_q d_q,.bool t_q,.slice E_q i_q e_q,.slice F_q j_q f_q]] w fun e w'=>e=.returned (.bool R)∧Below w.heap.size w w':=by
 subst hR
 rcases sgnQ_cases (ax*by_ - ay*bx) with h | h | h
 · rw [decide_eq_true (show LeftV ax ay bx by_ from .inl h.2)];exact left_pos p q hk h1 h.2
 · have e : decide (LeftV ax ay bx by_) = decide (0 < ax * bx + ay * by_) := by
     have h2:=h.2
     by_cases g:0 < ax*bx+ay*by_
     · rw [decide_eq_true g,decide_eq_true];exact .inr ⟨h2,g⟩
     · rw [decide_eq_false g,decide_eq_false];rintro (q | q)
       · unfold crs at q;grind
       · exact g q.2
   rw [e];exact left_nul p q hk h1 h.2
 · rw [decide_eq_false (show ¬ LeftV ax ay bx by_ from fun e=>by rcases e with q | q <;> unfold crs at q <;> have:=h.2 <;> grind)];exact left_neg p q hk h1 h.2
def HasQ (l:List (Rat × Rat)) (px py:Rat):Prop:=3≤l.length∧∀ (i:Nat) (u v:Rat × Rat),(ringL l)[i]?=some u→(ringL l)[i+1]?=some v→0≤orientQ u.1 u.2 v.1 v.2 px py
theorem has_p {A:Option Addr} {n c k:Nat} {L:List PV} {l:List (Rat × Rat)} {px py:Rat} (hL:SV w A (pvs L)) (hE:Each PV.PR w L l k) (r:PR w s_r A_r n_r c_r B_r m_r d_r t_r E_r i_r e_r F_r j_r f_r px py k) (hn:L.length=n) (hm:n≤1000) (hnc:n≤c) (h1:1≤k) (hk:k≤40) (R:Bool) (hR0:R=true ↔ HasQ l px py) :
 Calls Tryz.prog 21 #[.slice A n c,.agg #[.bool s_r,.slice A_r n_r c_r,.slice B_r m_r d_r,.bool t_r,.slice E_r i_r e_r,.slice F_r j_r f_r]] w fun e w'=>e=.returned (.bool R)∧Below w.heap.size w w':=by
 have HN:=Lib.hid hn;have HL0:=Lib.hid hL;have E0:=Lib.hid hE;have HR0:=Lib.hid hR0;have RP0:=Lib.hid r;clear hR0
 go_enter Tryz.func21,Tryz.ntmps21
 go_upto_region 1 with (fail)
 generalize hW:World.alloc _ _=W
 obtain ⟨hb,XC,hzW⟩:=mkbx16_9 hW;clear hW;replace hL:=hL.below hb;replace r:=r.below hb
 by_cases h3:n < 3
 · have h4:(n:Int) < 3:=by omega
   have HF:Hid (false=R):=by
    show _=_
    cases R with
    | false=>rfl
    | true=>exact absurd (HR0.out.1 rfl).1 (by rw [← E0.out.1,HN.out];omega)
   clear h3
   go_wp2_with fail
   (try rw [Exit.noGoto_ret])
   go_ret
   exact ⟨by rw [← HF.out];rfl,hb⟩
 · have h4:¬ (n:Int) < 3:=by omega
   go_upto_region 4 with (first
    | (go_at_call 55;(with_reducible refine (closed_p hL hn (by omega) hnc (Nat.le_refl _)).mono ?_);rintro e w_z ⟨A1,c1,rfl,hR1_,hh⟩
       (try replace XC:=XC.below hh);(try replace r:=r.below hh);replace hb:=bend hb hh))
   have hR0:=hR1_;clear hR1_
   rw [show n+min 1 n=(ringL L).length by unfold ringL;rw [List.length_append,List.length_take,hn,Nat.min_comm]]
   have HR1:Hid ((ringL L).length=n+min 1 n):=by show _=_;unfold ringL;rw [List.length_append,List.length_take,hn,Nat.min_comm]
   generalize hN1:(ringL L).length=N1 at HR1 ⊢
   have HR2:=Lib.hid hN1;clear hN1 hL hE
   go_wp2_with fail
   go_loopg [15] n (fun gk ix wr=>∃ (m:Nat),Hid (gk+m=n)∧ix=.int .i64 (m:Int)∧Hid (∀ i,i < m→∀ u v,(ringL l)[i]?=some u→(ringL l)[i+1]?=some v→0≤orientQ u.1 u.2 v.1 v.2 px py)∧SNr 29 W.heap.size n (pvs (ringL L)) wr A1∧B6 wr w.heap.size (.bool s_r) (.slice A_r n_r c_r) (.slice B_r m_r d_r) (.bool t_r) (.slice E_r i_r e_r) (.slice F_r j_r f_r)∧Below w.heap.size w wr)
   case atStart=>exact ⟨0,Nat.add_zero _,rfl,fun i hi=>absurd hi (by omega),hR0,XC,hb⟩
   case round =>
    clear hR0 r XC
    obtain ⟨m,HG,rfl,HS,hR,XC,hb⟩:=hrel
    have r:=PR.below RP0.out hb
    by_cases hmn:m < n
    · have HMN:=Lib.hid hmn
      obtain ⟨P,u,hP1,hu1,p⟩:=(E0.out.imp (fun p u h=>PR.below h hb)).at_ (i:=m) (by rw [HN.out];exact hmn)
      obtain ⟨Q,v,hP2,hu2,q⟩:=(E0.out.imp (fun p u h=>PR.below h hb)).ring.at_ (i:=m+1) (by have h:=HR1.out;have h2:=HR2.out;rw [h2,h];omega)
      have hv1:(ringL l)[m]?=some u:=by rw [ringL_at (by rw [← E0.out.1,HN.out];exact hmn)];exact hu1
      obtain ⟨g0,o0,hix0,E,_⟩:=(HL0.out.below hb).pt hP1
      obtain ⟨g1,o1,hix1,E',o1_,hA1⟩:=(hR.sv (by omega)).pt hP2
      have hixa:∀ w',(Instr.indexAt 22 (.slice A n c) (.int .i64 (m:Int))).run Tryz.prog w'=.ok (.pointer (some ⟨g0,o0,none⟩)) w':=fun w'=>hix0 n c w' hmn
      have hixb:∀ w',(Instr.indexAt 22 (.slice A1 N1 c1) (.int .i64 ((m:Int)+1))).run Tryz.prog w'=.ok (.pointer (some ⟨g1,o1,none⟩)) w':=fun w'=>hix1 N1 c1 w' (by have:=HR1.out;omega)
      have hwr:IntKind.i64.wrap ((m:Int)+1)=(m:Int)+1:=IntWalk.i64_in _ (by omega)
      have hlt:(m:Int) < (n:Int):=by omega
      have HU:=Lib.hid hv1;have HV:=Lib.hid hu2
      obtain ⟨ux,uy⟩:=u
      obtain ⟨vx,vy⟩:=v
      obtain ⟨s_p,A_p,n_p,c_p,B_p,m_p,d_p,t_p,E_p,i_p,e_p,F_p,j_p,f_p⟩:=P
      obtain ⟨s_q,A_q,n_q,c_q,B_q,m_q,d_q,t_q,E_q,i_q,e_q,F_q,j_q,f_q⟩:=Q
      replace p:PR wr s_p A_p n_p c_p B_p m_p d_p t_p E_p i_p e_p F_p j_p f_p ux uy k:=p
      replace q:PR wr s_q A_q n_q c_q B_q m_q d_q t_q E_q i_q e_q F_q j_q f_q vx vy k:=q
      have hx1:w.heap.size < wr.heap.size:=XC.lt
      obtain ⟨e0,e1,e2,e3,e4,e5⟩:=E.all
      simp only at e0 e1 e2 e3 e4 e5
      obtain ⟨K,hK⟩:∃ K,orientQ ux uy vx vy px py=K:=⟨_,rfl⟩
      have HK:=Lib.hid hK;clear hK hP1 hP2 hu1 hu2 hix0 hix1 hA1 hv1 hmn
      go_upto_region 7 with (fail)
      generalize hW:World.alloc _ _=W2
      obtain ⟨hh,X,hzW2⟩:=mkbx16_9 hW;clear hW;(try replace p:=p.below hh);(try replace q:=q.below hh);(try replace r:=r.below hh);(try replace hR:=hR.below hh);(try replace XC:=XC.below hh)
      try replace E':=E'.below hh
      replace hb:=bend hb hh
      replace p:=p.below (Below.refl _ _).drew
      replace q:=q.below (Below.refl _ _).drew
      replace r:=r.below (Below.refl _ _).drew
      replace hR:=hR.below (Below.refl _ _).drew
      replace XC:=XC.below (Below.refl _ _).drew
      replace E':=E'.below (Below.refl _ _).drew
      replace X:=X.below (Below.refl _ _).drew
      replace hb:=hb.drew
      go_region_held3 (fun w'=>w'.cell? ⟨wr.heap.size,0,none⟩=some (.bool s_p)∧w'.cell? ⟨wr.heap.size,1,none⟩=some (.slice A_p n_p c_p)∧w'.cell? ⟨wr.heap.size,2,none⟩=some (.slice B_p m_p d_p)∧w'.cell? ⟨wr.heap.size,3,none⟩=some (.bool t_p)∧w'.cell? ⟨wr.heap.size,4,none⟩=some (.slice E_p i_p e_p)∧w'.cell? ⟨wr.heap.size,5,none⟩=some (.slice F_p j_p f_p)∧w'.cell? ⟨w.heap.size,0,none⟩=some (.bool s_r)∧w'.cell? ⟨w.heap.size,1,none⟩=some (.slice A_r n_r c_r)∧w'.cell? ⟨w.heap.size,2,none⟩=some (.slice B_r m_r d_r)∧w'.cell? ⟨w.heap.size,3,none⟩=some (.bool t_r)∧w'.cell? ⟨w.heap.size,4,none⟩=some (.slice E_r i_r e_r)∧w'.cell? ⟨w.heap.size,5,none⟩=some (.slice F_r j_r f_r)∧w'.cell? ⟨g1,o1,none⟩=some (.bool s_q)∧w'.cell? ⟨g1,o1+1,none⟩=some (.slice A_q n_q c_q)∧w'.cell? ⟨g1,o1+2,none⟩=some (.slice B_q m_q d_q)∧w'.cell? ⟨g1,o1+3,none⟩=some (.bool t_q)∧w'.cell? ⟨g1,o1+4,none⟩=some (.slice E_q i_q e_q)∧w'.cell? ⟨g1,o1+5,none⟩=some (.slice F_q j_q f_q))
       (first | with_reducible exact ⟨X.c0,X.c1,X.c2,X.c3,X.c4,X.c5,XC.c0,XC.c1,XC.c2,XC.c3,XC.c4,XC.c5,E'.c0,E'.c1,E'.c2,E'.c3,E'.c4,E'.c5⟩)
       (first
       | (go_at_call 32;(with_reducible refine (porient_p p q r hk h1).mono ?_);rintro e w_z ⟨rfl,hh⟩
          rw [HK.out];(try replace p:=p.below hh);(try replace q:=q.below hh);(try replace r:=r.below hh);(try replace hR:=hR.below hh);(try replace XC:=XC.below hh)
          try replace E':=E'.below hh
          (try replace X:=X.below hh);replace hb:=bend hb hh))
      by_cases hK2:K < 0
      · have HF : Hid (false = R) := by
          show _=_
          cases R with
          | false=>rfl
          | true =>
            have:=(HR0.out.1 rfl).2 m _ _ HU.out HV.out
            rw [show orientQ (ux,uy).1 (ux,uy).2 (vx,vy).1 (vx,vy).2 px py=K from HK.out] at this
            omega
        go_wp2_with fail
        (try rw [Exit.noGoto_ret])
        go_ret
        exact ⟨by rw [← HF.out];rfl,hb⟩
      · have HK2:=Lib.hid hK2
        go_wp2_with fail
        go_roundg (gk - 1)
        case measure=>have:=HG.out;have:=HMN.out;omega
        case rel =>
         refine ⟨m+1,by have:=HG.out;have:=HMN.out;show _=_;omega,by go_num,fun i hi u v h5 h6=>?_,hR,XC,hb⟩
         rcases Nat.lt_or_ge i m with h | h
         · exact HS.out i h u v h5 h6
         · obtain rfl:i=m:=by omega
           rw [HU.out] at h5;rw [HV.out] at h6
           cases h5;cases h6
           rw [show orientQ (ux,uy).1 (ux,uy).2 (vx,vy).1 (vx,vy).2 px py=K from HK.out]
           have:=HK2.out;omega
    · have hlt:¬ (m:Int) < (n:Int):=by omega
      have HT:Hid (true=R):=by
       refine (HR0.out.2 ⟨by rw [← E0.out.1,HN.out];omega,fun i u v h5 h6=>HS.out i ?_ u v h5 h6⟩).symm
       have h7:=(List.getElem?_eq_some_iff.1 h6).1
       rw [ringL_len l (by rw [← E0.out.1,HN.out];omega),← E0.out.1,HN.out] at h7
       omega
      clear hmn
      go_wp2_with fail
      (try rw [Exit.noGoto_ret])
      go_ret
      exact ⟨by rw [← HT.out];rfl,hb⟩
end
section
open Go Go.ChangeShapes Go.WideShapes Go.ChangeAt Go.RowKit
def PV.Raw (w:World) (p:PV):Prop:=∃ z1 z2 z3 z4,IsRow64 w p.A p.n p.c z1∧IsRow64 w p.B p.m p.d z2∧IsRow64 w p.E p.i p.e z3∧IsRow64 w p.F p.j p.f z4
theorem open_zpts {H:Type} {enc:TypeId × Value→H} {base:Nat} {held:Bool} {r:Reach} {b0:Nat} {v:Value} {d:DataW H} {p:List MemPlace}
 (hv:Value.okWide Tryz.prog w r b0 22 v) (h:DataW.Trod enc Tryz.prog w base (fun _=>true) held 22 v d p) :
 ∃ (A:Option Addr) (n c:Nat) (L:List PV),v=.slice A n c∧SV w A (pvs L)∧L.length=n∧n≤c∧n≤maxLen∧∀ q ∈ L,q.Raw w:=by
 obtain ⟨A,n,c,rfl⟩:=okWide_slice Tryz.underlying22 hv
 have e6:Tryz.prog.cellsOf 29=6:=by kernel_rfl
 obtain ⟨fuel,hf⟩:=h
 rcases DataW.trod_slice Tryz.underlying22 hf with ⟨h0,_⟩ | ⟨a,len,cap,elems,rest,m,_,h0,_,hb,hl,hm,hlen,hel,_,_⟩
 · simp [Value.cells] at h0
   obtain ⟨rfl,rfl,rfl⟩:=h0
   exact ⟨none,0,0,[],rfl,SV.nil _ _,rfl,Nat.le_refl _,Nat.zero_le _,fun q hq=>by cases hq⟩
 · simp [Value.cells] at h0
   obtain ⟨rfl,rfl,rfl⟩:=h0
   rw [e6] at hel
   have each:∀ i,i < n→∃ q:PV,(∀ j u,q.cells[j]?=some u→w.cell? ((a.add (i*6)).add j)=some u)∧q.Raw w:=by
    intro i hi
    have h1:=hel i hi
    rw [List.getElem?_eq_getElem (by rw [hlen];exact hi)] at h1
    obtain ⟨cs,hc1,hc2⟩:=Option.bind_eq_some_iff.1 h1
    unfold World.cells? at hc1
    split at hc1
    · have hcl:=mapM_some_length hc1
      have hcg:=fun k (hk:k < 6)=>mapM_some_get hc1 k k (by simp [hk])
      rw [List.length_range] at hcl
      match cs,hcl with
      | [x0,x1,x2,x3,x4,x5],_ =>
        obtain ⟨s,A',n',c',zs,B,m',d',ys,t,E,i',e,xs,F,j',f,us,rfl,rfl,rfl,rfl,rfl,rfl,r1,r2,r3,r4⟩:=open_pt6 hc2
        refine ⟨PV.mk s A' n' c' B m' d' t E i' e F j' f,fun j u hu=>?_,zs,ys,xs,us,r1,r2,r3,r4⟩
        have hj:j < 6:=(List.getElem?_eq_some_iff.1 hu).1
        have:=hcg j hj
        rw [this];exact hu
    · cases hc1
   obtain ⟨L,hL,hq⟩:∃ L:List PV,L.length=n∧∀ i q,L[i]?=some q→(∀ j u,q.cells[j]?=some u→w.cell? ((a.add (i*6)).add j)=some u)∧q.Raw w:=by
    have:∀ m,m≤n→∃ L:List PV,L.length=m∧∀ i q,L[i]?=some q→(∀ j u,q.cells[j]?=some u→w.cell? ((a.add (i*6)).add j)=some u)∧q.Raw w:=by
     intro m
     induction m with
     | zero=>intro _;exact ⟨[],rfl,fun i q h=>by cases h⟩
     | succ m ih =>
       intro hm
       obtain ⟨L,h1,h2⟩:=ih (by omega)
       obtain ⟨q,h3⟩:=each m (by omega)
       refine ⟨L ++ [q],by rw [List.length_append,h1];rfl,fun i x hx=>?_⟩
       rcases Nat.lt_or_ge i L.length with k | k
       · rw [List.getElem?_append_left k] at hx;exact h2 i x hx
       · rw [List.getElem?_append_right k] at hx
         have:i - L.length=0:=by
          have:=(List.getElem?_eq_some_iff.1 hx).1
          simp at this;omega
         rw [this] at hx
         cases hx
         rw [show i=m by omega];exact h3
    exact this n (Nat.le_refl _)
   refine ⟨some a,n,c,L,rfl,fun hn=>?_,hL,hl,by omega,fun q hq2=>?_⟩
   · have hn0:0 < n:=by rw [show (pvs L).length=L.length*6 from rows_length pvc_len L,hL] at hn;omega
     obtain ⟨b,o,spot⟩:=a
     have hx:=(hq 0 _ (List.getElem?_eq_getElem (by rw [hL];exact hn0))).1 0 _ rfl
     have hspot:spot=none:=by simpa [Addr.add] using World.cell?_spot hx
     subst hspot
     refine ⟨b,o,rfl,?_,fun j u hu=>?_⟩
     · rw [add_at,add_at] at hx
       exact World.block_lt_of_cell? w _ hx
     · have hj:=(List.getElem?_eq_some_iff.1 hu).1
       rw [show (pvs L).length=L.length*6 from rows_length pvc_len L,hL] at hj
       obtain ⟨i,k,hk,rfl⟩:∃ i k,k < 6∧j=i*6+k:=⟨j / 6,j % 6,Nat.mod_lt _ (by decide),by omega⟩
       have hi:i < L.length:=by omega
       have hg:=List.getElem?_eq_getElem hi
       have:=(hq i _ hg).1 k u (by rw [← rows_get pvc_len hg hk];exact hu)
       rw [add_at,add_at] at this
       rwa [← Nat.add_assoc]
   · obtain ⟨i,hi⟩:=List.getElem?_of_mem hq2
     exact (hq i q hi).2
theorem raw_pr {p:PV} {M:Nat} (h:p.Raw w) (hs:(p.n≤M∧p.m≤M)∧p.i≤M∧p.j≤M):∃ u,PV.PR w p u M:=by
 obtain ⟨z1,z2,z3,z4,r1,r2,r3,r4⟩:=h
 obtain ⟨l1,a1,b1,c1,_⟩:=r1.rd
 obtain ⟨l2,a2,b2,c2,_⟩:=r2.rd
 obtain ⟨l3,a3,b3,c3,_⟩:=r3.rd
 obtain ⟨l4,a4,b4,c4,_⟩:=r4.rd
 exact ⟨(_,_),QR.of_rd a1 b1 c1 a2 b2 c2 hs.1.1 hs.1.2,QR.of_rd a3 b3 c3 a4 b4 c4 hs.2.1 hs.2.2⟩
theorem raw_each {M:Nat}:∀ {L:List PV},(∀ p ∈ L,p.Raw w)→(∀ p ∈ L,(p.n≤M∧p.m≤M)∧p.i≤M∧p.j≤M)→∃ l,Each PV.PR w L l M
 | [],_,_=>⟨[],Each.nil⟩
 | p :: L,h,hs=>by
   obtain ⟨u,hu⟩:=raw_pr (h p List.mem_cons_self) (hs p List.mem_cons_self)
   obtain ⟨l,hl⟩:=raw_each (L:=L) (fun q hq=>h q (List.mem_cons_of_mem _ hq)) (fun q hq=>hs q (List.mem_cons_of_mem _ hq))
   refine ⟨u :: l,by rw [List.length_cons,List.length_cons,hl.1],fun i q v h1 h2=>?_⟩
   match i,h1,h2 with
   | 0,h1,h2=>cases h1;cases h2;exact hu
   | i+1,h1,h2=>exact hl.2 i q v h1 h2
end
section
open Go Go.RowKit
def wayP (u v:Rat × Rat):Rat × Rat:=(v.1 - u.1,v.2 - u.2)
def waysL (l:List (Rat × Rat)):List (Rat × Rat):=List.zipWith wayP (ringL l) (ringL l).tail
theorem waysL_at {l:List (Rat × Rat)} {i:Nat} {u v:Rat × Rat} (hu:(ringL l)[i]?=some u) (hv:(ringL l)[i+1]?=some v):(waysL l)[i]?=some (wayP u v):=by
 unfold waysL
 rw [List.getElem?_zipWith,hu,List.getElem?_tail,hv]
theorem waysL_len (l:List (Rat × Rat)):(waysL l).length=l.length:=by
 unfold waysL
 rw [List.length_zipWith,List.length_tail]
 rcases Nat.eq_zero_or_pos l.length with h | h
 · rw [List.length_eq_zero_iff] at h;subst h;rfl
 · rw [ringL_len l h];omega
def GivesPts (w:World) (n:Nat) (l:List (Rat × Rat)) (k:Nat) (e:Ending) (w':World):Prop:=∃ g M,e=.returned (.slice (some ⟨g,0,none⟩) n n)∧w.heap.size≤g∧BoxAt 29 w' g (pvs M).toArray∧M.length=n∧Each PV.PG w' M l k∧Below w.heap.size w w'
theorem Each.boxG {T:TypeId} {w w':World} {L:List PV} {l:List (Rat × Rat)} {k g:Nat} {cs:Array Value} (h:Each PV.PG w L l k) (B:BoxAt T w g cs) (ho:Only g w w'):Each PV.PG w' L l k:=h.imp fun _ _ hp=>PG.box hp B ho
abbrev L_ways1:List Nat:=[7,8,9,10,11,3,4]
def o0_ways1:Oper:=⟨some 7,.move (.tmp 0),22, "convex.go:32",#[],none⟩
def o1_ways1:Oper:=⟨some 8,.call ⟨.value (.func 55),#[.tmp 7],#[22]⟩,22, "convex.go:32",#[⟨0,.data⟩],none⟩
def o2_ways1:Oper:=⟨some 9,.move (.tmp 0),22, "convex.go:32",#[],none⟩
def o3_ways1:Oper:=⟨some 10,.call ⟨.builtin Builtin.len,#[.tmp 9],#[22]⟩,3, "convex.go:32",#[⟨2,.data⟩],none⟩
def o4_ways1:Oper:=⟨some 11,.makeSlice 22 (.tmp 10) (.tmp 10),22, "convex.go:32",#[⟨3,.data⟩,⟨3,.data⟩],none⟩
def o5_ways1:Oper:=⟨some 3,.assign (.tmp 8),22, "convex.go:32",#[⟨1,.data⟩,⟨1,.chain⟩,⟨0,.phase⟩,⟨1,.phase⟩,⟨2,.textOnly .lateStores⟩,⟨3,.textOnly .lateStoresUnsure⟩,⟨4,.textOnly .lateStoresUnsure⟩],none⟩
def o6_ways1:Oper:=⟨some 4,.assign (.tmp 11),22, "convex.go:32",#[⟨4,.data⟩,⟨5,.chain⟩,⟨0,.phase⟩,⟨1,.phase⟩,⟨2,.phase⟩,⟨3,.phase⟩,⟨4,.phase⟩,⟨5,.phase⟩],none⟩
def F_ways1 (A:Option Addr) (n:Nat) (c:Nat) (base:Nat) (L:List PV) (sl:Nat):Value→World→Prop :=
 match sl with
 | 7=>fun x _=>x=Value.slice A n c
 | 8=>VSB (29) (base) (n) (n+min 1 n) (pvs (L ++ L.take 1))
 | 9=>fun x _=>x=Value.slice A n c
 | 10=>fun x _=>x=Value.int .i64 (n:Int)
 | 11=>VMK (29) ((pvs (List.replicate n zpv)).toArray) (n) (base)
 | 3=>VSB (29) (base) (n) (n+min 1 n) (pvs (L ++ L.take 1))
 | 4=>VMK (29) ((pvs (List.replicate n zpv)).toArray) (n) (base)
 | _=>fun _ _=>True
theorem ways1_region {id:Nat} {ac:Act} {Q:Exit→Act→World→Prop} {A:Option Addr} {n c base:Nat} {L:List PV}
 (hsz:11 < ac.tmps.size) (e0:ac.eval (.tmp 0)=Value.slice A n c) (hL:SV w A (pvs L)) (hn:L.length=n) (hm:n≤100000) (hnc:n≤c) (hbs:base≤w.heap.size)
 (hend:∀ (V:Nat→Value) (w':World),(VSB (29) (base) (n) (n+min 1 n) (pvs (L ++ L.take 1))) (V 3) w'→(VMK (29) ((pvs (List.replicate n zpv)).toArray) (n) (base)) (V 4) w'→Below w.heap.size w w'→Q .normal (putAll ac [7,8,9,10,11,3,4] V) w') :
 (Code.region id #[o0_ways1,o1_ways1,o2_ways1,o3_ways1,o4_ways1,o5_ways1,o6_ways1] true).wp Tryz.prog Q ac w:=by
 have hnd:L_ways1.Nodup:=by decide
 have G:∀ (sv:Nat→Value) (t:Nat),t ∈ L_ways1→t≤11→(putAll ac L_ways1 sv).eval (.tmp t)=sv t:=fun sv t ht h=>eval_putAll_mem (t:=t) L_ways1 ac hnd ht (Nat.lt_of_le_of_lt h hsz)
 have E0:∀ sv:Nat→Value,(putAll ac L_ways1 sv).eval (.tmp 0)=Value.slice A n c:=fun sv=>(eval_putAll_not (v:=sv) L_ways1 ac (show 0 ∉ _ by decide)).trans e0
 have NE:∀ t:Nat,(True)→∀ p ∈ ([]:List BoxOp),t ≠ p.tA:=by
  intro t ht p hp
  cases hp
 refine wp_region_flowsT L_ways1 ([]:List BoxOp) (F_ways1 A n c base L) (by kernel_rfl) (by kernel_rfl) rfl hnd ?_ ?_ ?_ ?_ ?_ ?_ ?_ ?_
 · intro p hp
   cases hp
 · intro p hp;cases hp
 · intro p hp;cases hp
 · intro i o h1 h2
   match i,h1 with
   | 0,h1=>cases h1;cases h2
   | 1,h1=>cases h1;cases h2
   | 2,h1=>cases h1;cases h2
   | 3,h1=>cases h1;cases h2
   | 4,h1=>cases h1;cases h2
   | 5,h1=>cases h1;cases h2
   | 6,h1=>cases h1;cases h2
   | i+7,h1=>cases h1
 · intro t
   unfold F_ways1
   split <;> first | exact (stays_eq _).inn _ | exact (stays_q _ _).inn _ | exact (stays_z _ _).inn _ | exact (stays_r _ _).inn _ | exact (stays_rq _ _).inn _ | exact (stays_pg _ _ _).inn _ | exact (stays_true).inn _ | exact stays_sb _ _ _ _ _ _ (fun p hp=>by cases hp) | exact stays_mk _ _ _ _ _ (fun p hp=>by cases hp)
 · intro i o t sv w' ho hia hd J0 hf
   have hL:=hL.below J0
   match i,ho with
   | 0,ho =>
     obtain rfl:o0_ways1=o:=Option.some.inj ho
     cases hd
     refine wpOp_plain' (o:=o0_ways1) rfl rfl ?_
     unfold Oper.wp o0_ways1
     rw [run_move (E0 sv),Oper.upon_value]
     exact ⟨_,rfl,Below.refl _ _,rfl⟩
   | 1,ho =>
     obtain rfl:o1_ways1=o:=Option.some.inj ho
     cases hd
     have f7:sv 7=Value.slice A n c:=hf ⟨0,.data⟩ (by simp [o1_ways1]) rfl _ 7 rfl rfl (NE _ (by decide))
     refine wpOp_plain' (o:=o1_ways1) rfl rfl ?_
     unfold Oper.wp o1_ways1
     rw [rc_gesso_area_closed_gesso_api_Pt_ ((G sv 7 (by decide) (by decide)).trans f7) rfl,Oper.upon_enter]
     refine (closed_p hL hn hm hnc (Nat.le_trans hbs J0.size)).mono ?_
     rintro e w1 ⟨A_,c_,rfl,hq,hh⟩
     exact ⟨_,rfl,hh,A_,c_,rfl,hq⟩
   | 2,ho =>
     obtain rfl:o2_ways1=o:=Option.some.inj ho
     cases hd
     refine wpOp_plain' (o:=o2_ways1) rfl rfl ?_
     unfold Oper.wp o2_ways1
     rw [run_move (E0 sv),Oper.upon_value]
     exact ⟨_,rfl,Below.refl _ _,rfl⟩
   | 3,ho =>
     obtain rfl:o3_ways1=o:=Option.some.inj ho
     cases hd
     have f9:sv 9=Value.slice A n c:=hf ⟨2,.data⟩ (by simp [o3_ways1]) rfl _ 9 rfl rfl (NE _ (by decide))
     refine wpOp_plain' (o:=o3_ways1) rfl rfl ?_
     unfold Oper.wp o3_ways1
     rw [run_len_p ((G sv 9 (by decide) (by decide)).trans f9) ,Oper.upon_value]
     exact ⟨_,rfl,Below.refl _ _,rfl⟩
   | 4,ho =>
     obtain rfl:o4_ways1=o:=Option.some.inj ho
     cases hd
     have f10:sv 10=Value.int .i64 (n:Int):=hf ⟨3,.data⟩ (by simp [o4_ways1]) rfl _ 10 rfl rfl (NE _ (by decide))
     refine wpOp_plain' (o:=o4_ways1) rfl rfl ?_
     unfold Oper.wp o4_ways1
     rw [run_make_p ((G sv 10 (by decide) (by decide)).trans f10) ((G sv 10 (by decide) (by decide)).trans f10) hm,Oper.upon_value]
     exact ⟨_,rfl,(Below.refl _ _).alloc (Nat.le_refl _) _,_,rfl,made_p w' n base (Nat.le_trans hbs J0.size)⟩
   | 5,ho =>
     obtain rfl:o5_ways1=o:=Option.some.inj ho
     cases hd
     have f:=hf ⟨1,.data⟩ (by simp [o5_ways1]) rfl _ 8 rfl rfl (NE _ (by decide))
     refine wpOp_plain' (o:=o5_ways1) rfl rfl ?_
     unfold Oper.wp o5_ways1
     rw [run_assign (G sv 8 (by decide) (by decide)),Oper.upon_value]
     exact ⟨_,rfl,Below.refl _ _,f⟩
   | 6,ho =>
     obtain rfl:o6_ways1=o:=Option.some.inj ho
     cases hd
     have f:=hf ⟨4,.data⟩ (by simp [o6_ways1]) rfl _ 11 rfl rfl (NE _ (by decide))
     refine wpOp_plain' (o:=o6_ways1) rfl rfl ?_
     unfold Oper.wp o6_ways1
     rw [run_assign (G sv 11 (by decide) (by decide)),Oper.upon_value]
     exact ⟨_,rfl,Below.refl _ _,f⟩
   | i+7,ho=>cases ho
 · intro p hp os sv w' g hos J0 p1 p3 hf
   cases hp
 · intro sv w' J0 hF hB hap
   exact hend sv w'   (hF 5 _ 3 rfl rfl (NE _ (by decide))) (hF 6 _ 4 rfl rfl (NE _ (by decide))) J0
theorem ways_p {A:Option Addr} {n c k:Nat} {L:List PV} {l:List (Rat × Rat)} (hL:SV w A (pvs L)) (hE:Each PV.PR w L l k) (hn:L.length=n) (hm:n≤1000) (hnc:n≤c) (h1:1≤k) (hk:k≤300) :
 Calls Tryz.prog 62 #[.slice A n c] w (GivesPts w n (waysL l) (k+k+1)):=by
 have HN:=Lib.hid hn;have HL0:=Lib.hid hL;have E0:=Lib.hid hE
 have HR1:Hid ((ringL L).length=n+min 1 n):=by show _=_;unfold ringL;rw [List.length_append,List.length_take,hn,Nat.min_comm]
 go_enter Tryz.func62,Tryz.ntmps62
 go_upto_region 1 with (fail)
 refine ways1_region (by simp) rfl hL hn (by omega) hnc (Nat.le_refl _) ?_
 intro V w1 hF3 hF4 hb
 obtain ⟨A1,c1,hv3,hR0⟩:=hF3
 obtain ⟨gP,hv4,hgP,hP0⟩:=hF4
 simp only [putAll,Act.put,List.setIfInBounds_toArray,List.set_cons_zero,List.set_cons_succ,hv3,hv4]
 clear hv3 hv4
 rw [show n+min 1 n=(ringL L).length from HR1.out.symm]
 generalize hN1:(ringL L).length=N1 at HR1 ⊢
 have HR2:=Lib.hid hN1;clear hN1 hL hE
 go_wp2_with fail
 go_loopg [14] n (fun gk ix wr=>∃ (M:List PV) (m:Nat),Hid (gk+m=n)∧ix=.int .i64 (m:Int)∧Hid (M.length=n)∧BoxAt 29 wr gP (pvs M).toArray∧Hid (Each PV.PG wr (M.take m) ((waysL l).take m) (k+k+1))∧SNr 29 w.heap.size n (pvs (ringL L)) wr A1∧Below w.heap.size w wr)
 case atStart=>exact ⟨List.replicate n zpv,0,Nat.add_zero _,rfl,by show _=_;rw [List.length_replicate],hP0,Each.nil,hR0,hb⟩
 case round =>
  clear hP0 hR0
  obtain ⟨M,m,HG,rfl,HM,hP,HQ,hR,hb⟩:=hrel
  by_cases hmn:m < n
  · have hmn':m < M.length:=by rw [HM.out];exact hmn
    obtain ⟨pm,hpm⟩:∃ pm,M[m]?=some pm:=⟨_,List.getElem?_eq_getElem hmn'⟩
    have HPM:=Lib.hid hpm
    have HL1:=Lib.hid hmn'
    have hixq:∀ w',(Instr.indexAt 22 (.slice (some ⟨gP,0,none⟩) n n) (.int .i64 (m:Int))).run Tryz.prog w'=.ok (.pointer (some ⟨gP,m*6,none⟩)) w':=idx_pt hmn
    obtain ⟨P,u,hP1,hu1,p⟩:=(E0.out.imp (fun p u h=>PR.below h hb)).at_ (i:=m) (by rw [HN.out];exact hmn)
    obtain ⟨Q,v,hP2,hu2,q⟩:=(E0.out.imp (fun p u h=>PR.below h hb)).ring.at_ (i:=m+1) (by have h:=HR1.out;have h2:=HR2.out;rw [h2,h];omega)
    have hv1:(ringL l)[m]?=some u:=by rw [ringL_at (by rw [← E0.out.1,HN.out];exact hmn)];exact hu1
    obtain ⟨g0,o0,hix0,E,_⟩:=(HL0.out.below hb).pt hP1
    obtain ⟨g1,o1,hix1,E',o1_,hA1⟩:=(hR.sv (by omega)).pt hP2
    have hixa:∀ w',(Instr.indexAt 22 (.slice A n c) (.int .i64 (m:Int))).run Tryz.prog w'=.ok (.pointer (some ⟨g0,o0,none⟩)) w':=fun w'=>hix0 n c w' hmn
    have hixb:∀ w',(Instr.indexAt 22 (.slice A1 N1 c1) (.int .i64 ((m:Int)+1))).run Tryz.prog w'=.ok (.pointer (some ⟨g1,o1,none⟩)) w':=fun w'=>hix1 N1 c1 w' (by have:=HR1.out;omega)
    have hwr:IntKind.i64.wrap ((m:Int)+1)=(m:Int)+1:=IntWalk.i64_in _ (by omega)
    have hlt:(m:Int) < (n:Int):=by omega
    have HU:=Lib.hid hv1;have HV:=Lib.hid hu2
    obtain ⟨ux,uy⟩:=u
    obtain ⟨vx,vy⟩:=v
    obtain ⟨s_p,A_p,n_p,c_p,B_p,m_p,d_p,t_p,E_p,i_p,e_p,F_p,j_p,f_p⟩:=P
    obtain ⟨s_q,A_q,n_q,c_q,B_q,m_q,d_q,t_q,E_q,i_q,e_q,F_q,j_q,f_q⟩:=Q
    replace p:PR wr s_p A_p n_p c_p B_p m_p d_p t_p E_p i_p e_p F_p j_p f_p ux uy k:=p
    replace q:PR wr s_q A_q n_q c_q B_q m_q d_q t_q E_q i_q e_q F_q j_q f_q vx vy k:=q
    have hgg:g1 ≠ gP:=by
     obtain ⟨g2,e2,_,cs2,h3,h4,_⟩:=hR (by omega)
     rw [hA1] at e2
     cases e2
     refine BoxAt.ne h3 hP (.inr ?_)
     rw [show (pvs (ringL L)).length=(ringL L).length*6 from rows_length pvc_len _,HR2.out,HR1.out] at h4
     have e5:(pvs M).toArray.size=n*6:=by rw [List.size_toArray,show (pvs M).length=M.length*6 from rows_length pvc_len _,HM.out]
     rw [e5]
     omega
    obtain ⟨e0,e1,e2,e3,e4,e5⟩:=E.all
    simp only at e0 e1 e2 e3 e4 e5
    clear hpm hP1 hP2 hu1 hu2 hix0 hix1 hA1 hv1 hmn' hmn
    go_upto_region 5 with (fail)
    replace HQ:=HQ.out
    have hx1:wr.heap.size ≠ gP:=by have:=hP.lt;omega
    generalize hW:World.alloc _ _=W2
    obtain ⟨hh,X,hzW2⟩:=mkbx16_9 hW;clear hW;(try replace p:=p.below hh);(try replace q:=q.below hh);(try replace hP:=hP.below hh);(try replace HQ:=HQ.below hh);(try replace hR:=hR.below hh)
    try replace E':=E'.below hh
    replace hb:=bend hb hh
    replace p:=p.below (Below.refl _ _).drew
    replace q:=q.below (Below.refl _ _).drew
    replace hP:=hP.below (Below.refl _ _).drew
    replace HQ:=HQ.below (Below.refl _ _).drew
    replace hR:=hR.below (Below.refl _ _).drew
    replace E':=E'.below (Below.refl _ _).drew
    replace X:=X.below (Below.refl _ _).drew
    replace hb:=hb.drew
    go_region_held3 (fun w'=>w'.cell? ⟨wr.heap.size,0,none⟩=some (.bool s_p)∧w'.cell? ⟨wr.heap.size,1,none⟩=some (.slice A_p n_p c_p)∧w'.cell? ⟨wr.heap.size,2,none⟩=some (.slice B_p m_p d_p)∧w'.cell? ⟨wr.heap.size,3,none⟩=some (.bool t_p)∧w'.cell? ⟨wr.heap.size,4,none⟩=some (.slice E_p i_p e_p)∧w'.cell? ⟨wr.heap.size,5,none⟩=some (.slice F_p j_p f_p)∧w'.cell? ⟨g1,o1,none⟩=some (.bool s_q)∧w'.cell? ⟨g1,o1+1,none⟩=some (.slice A_q n_q c_q)∧w'.cell? ⟨g1,o1+2,none⟩=some (.slice B_q m_q d_q)∧w'.cell? ⟨g1,o1+3,none⟩=some (.bool t_q)∧w'.cell? ⟨g1,o1+4,none⟩=some (.slice E_q i_q e_q)∧w'.cell? ⟨g1,o1+5,none⟩=some (.slice F_q j_q f_q))
     (first | with_reducible exact ⟨X.c0,X.c1,X.c2,X.c3,X.c4,X.c5,E'.c0,E'.c1,E'.c2,E'.c3,E'.c4,E'.c5⟩ | with_reducible exact ⟨(setp_cell _ _ _ _ _ _ _ _ _ _ _ hx1).trans X.c0,(setp_cell _ _ _ _ _ _ _ _ _ _ _ hx1).trans X.c1,(setp_cell _ _ _ _ _ _ _ _ _ _ _ hx1).trans X.c2,(setp_cell _ _ _ _ _ _ _ _ _ _ _ hx1).trans X.c3,(setp_cell _ _ _ _ _ _ _ _ _ _ _ hx1).trans X.c4,(setp_cell _ _ _ _ _ _ _ _ _ _ _ hx1).trans X.c5,(setp_cell _ _ _ _ _ _ _ _ _ _ _ hgg).trans E'.c0,(setp_cell _ _ _ _ _ _ _ _ _ _ _ hgg).trans E'.c1,(setp_cell _ _ _ _ _ _ _ _ _ _ _ hgg).trans E'.c2,(setp_cell _ _ _ _ _ _ _ _ _ _ _ hgg).trans E'.c3,(setp_cell _ _ _ _ _ _ _ _ _ _ _ hgg).trans E'.c4,(setp_cell _ _ _ _ _ _ _ _ _ _ _ hgg).trans E'.c5⟩)
     (first
     | (go_at_call 83;(with_reducible refine (psub_p q p hk hk (.inl (by omega)) h1 h1).mono ?_);rintro e w_r ⟨s_r,A_r,n_r,c_r,B_r,m_r,d_r,t_r,E_r,i_r,e_r,F_r,j_r,f_r,rfl,r,hh⟩
        (try replace p:=p.below hh);(try replace q:=q.below hh);(try replace hP:=hP.below hh);(try replace HQ:=HQ.below hh);(try replace hR:=hR.below hh)
        try replace E':=E'.below hh
        (try replace X:=X.below hh);replace hb:=bend hb hh;have Eq:=hP.p6 HPM.out;obtain ⟨q0,q1,q2,q3,q4,q5⟩:=Eq.all
        have qf0:=hP.frz (j:=m*6)
        have qf1:=hP.frz (j:=m*6+1)
        have qf2:=hP.frz (j:=m*6+2)
        have qf3:=hP.frz (j:=m*6+3)
        have qf4:=hP.frz (j:=m*6+4)
        have qf5:=hP.frz (j:=m*6+5)))
    have ho:=onlyp w_r gP (m*6) (.bool s_r) (.slice A_r n_r c_r) (.slice B_r m_r d_r) (.bool t_r) (.slice E_r i_r e_r) (.slice F_r j_r f_r)
    have hP2:=hP.setp HL1.out (PV.mk s_r A_r n_r c_r B_r m_r d_r t_r E_r i_r e_r F_r j_r f_r)
    replace r:=PG.box r hP ho
    replace HQ:=(Each.boxG HQ hP ho).push (p:=(PV.mk s_r A_r n_r c_r B_r m_r d_r t_r E_r i_r e_r F_r j_r f_r)) (fun _ _ h=>h) (show PV.PG _ (PV.mk s_r A_r n_r c_r B_r m_r d_r t_r E_r i_r e_r F_r j_r f_r) (vx - ux,vy - uy) (k+k+1) from r)
    replace hR:=hR.box hP (.inr (by
     rw [List.size_toArray,show (pvs M).length=M.length*6 from rows_length pvc_len _,HM.out,show (pvs (ringL L)).length=(ringL L).length*6 from rows_length pvc_len _,HR2.out,HR1.out];omega)) ho
    replace hb:=Below.only hb (by omega) hb.size ho
    have hcr:(waysL l)[m]?=some (vx - ux,vy - uy):=waysL_at HU.out HV.out
    rw [← take_snoc hcr,← take_set HL1.out (PV.mk s_r A_r n_r c_r B_r m_r d_r t_r E_r i_r e_r F_r j_r f_r)] at HQ
    clear hP ho Eq q0 qf0 q1 qf1 q2 qf2 q3 qf3 q4 qf4 q5 qf5 E' X p q hcr
    generalize ((((((w_r.setCell ⟨gP,m*6,none⟩ (.bool s_r)).setCell ⟨gP,m*6+1,none⟩ (.slice A_r n_r c_r)).setCell ⟨gP,m*6+2,none⟩ (.slice B_r m_r d_r)).setCell ⟨gP,m*6+3,none⟩ (.bool t_r)).setCell ⟨gP,m*6+4,none⟩ (.slice E_r i_r e_r)).setCell ⟨gP,m*6+5,none⟩ (.slice F_r j_r f_r))=W3 at *
    go_wp2_with fail
    go_roundg (gk - 1)
    case measure=>have:=HG.out;omega
    case rel=>exact ⟨M.set m (PV.mk s_r A_r n_r c_r B_r m_r d_r t_r E_r i_r e_r F_r j_r f_r),m+1,by have:=HG.out;show _=_;omega,by go_num,by show _=_;rw [List.length_set];exact HM.out,hP2,HQ,hR,hb⟩
  · have hlt:¬ (m:Int) < (n:Int):=by omega
    obtain rfl:m=n:=by have:=HG.out;omega
    replace HQ:=HQ.out
    rw [List.take_of_length_le (by rw [HM.out];exact Nat.le_refl _),List.take_of_length_le (by rw [waysL_len,← E0.out.1,HN.out];exact Nat.le_refl _)] at HQ
    clear hmn hR
    go_wp2_with fail
    (try rw [Exit.noGoto_ret])
    go_ret
    exact ⟨gP,M,rfl,hgP,hP,HM.out,HQ,hb⟩
end
section
open Go Go.RowKit
theorem run_ixp {e1:Operand→Value} {d1:Option Tmp} {y1:Nat} {pos:String} {af:Array Edge} {x1 x2:Operand} {A:Option Addr} {n c g o:Nat} {M:Int} (h:e1 x1=.slice A n c) (h2:e1 x2=.int .i64 M) (hx:∀ w',(Instr.indexAt 22 (.slice A n c) (.int .i64 M)).run Tryz.prog w'=.ok (.pointer (some ⟨g,o,none⟩)) w') :
 (execOp e1 ⟨d1,.indexAddr 22 x1 x2,y1,pos,af,none⟩).run Tryz.prog w=.ok (.value (.pointer (some ⟨g,o,none⟩))) w:=by
 have h1:=hx w
 go_simp
theorem run_ldp {e1:Operand→Value} {d1:Option Tmp} {y1:Nat} {pos:String} {af:Array Edge} {x1:Operand} {g o:Nat} {p:PV} (h:e1 x1=.pointer (some ⟨g,o,none⟩)) (E:E6x w g o p) :
 (execOp e1 ⟨d1,.load 29 x1,y1,pos,af,none⟩).run Tryz.prog w=.ok (.value (.agg #[.bool p.s,.slice p.A p.n p.c,.slice p.B p.m p.d,.bool p.t,.slice p.E p.i p.e,.slice p.F p.j p.f])) w:=by
 obtain ⟨e0,e1,e2,e3,e4,e5⟩:=E.all
 go_simp
theorem run_add1 {e1:Operand→Value} {d1:Option Tmp} {y1:Nat} {pos:String} {af:Array Edge} {x1:Operand} {M:Int} (h:e1 x1=.int .i64 M) (hc:e1 (.const (Value.int IntKind.i64 1))=.int .i64 1) (hw:IntKind.i64.wrap (M+1)=M+1) :
 (execOp e1 ⟨d1,.binOp BinOp.add 3 x1 (.const (Value.int IntKind.i64 1)) 3,y1,pos,af,none⟩).run Tryz.prog w=.ok (.value (.int .i64 (M+1))) w:=by
 go_simp
def lowsW (r:List (Rat × Rat)):Nat→Nat
 | 0=>0
 | m+1=>lowsW r m+if (r.getD m (0,0)).2 < 0∧¬ (r.getD (m+1) (0,0)).2 < 0 then 1 else 0
theorem lowsW_le (r:List (Rat × Rat)) (m:Nat):lowsW r m≤m:=by
 induction m with
 | zero=>exact Nat.le_refl _
 | succ m ih=>rw [lowsW];split <;> omega
theorem lowsW_at {r:List (Rat × Rat)} {m:Nat} {u v:Rat × Rat} (hu:r[m]?=some u) (hv:r[m+1]?=some v):lowsW r (m+1)=lowsW r m+if u.2 < 0∧¬ v.2 < 0 then 1 else 0:=by
 rw [lowsW,List.getD_eq_getElem?_getD,List.getD_eq_getElem?_getD,hu,hv];rfl
def ConvQ (l:List (Rat × Rat)):Prop:=(∀ (i:Nat) (u v:Rat × Rat),(ringL (waysL l))[i]?=some u→(ringL (waysL l))[i+1]?=some v→LeftV u.1 u.2 v.1 v.2)∧lowsW (ringL (waysL l)) l.length=1
abbrev L_conv5:List Nat:=[16,17,18,19,20,21,22,23,24,6,7]
def o0_conv5:Oper:=⟨some 16,.move (.tmp 3),22, "convex.go:18",#[],none⟩
def o1_conv5:Oper:=⟨some 17,.move (.tmp 5),3, "convex.go:18",#[],none⟩
def o2_conv5:Oper:=⟨some 18,.indexAddr 22 (.tmp 16) (.tmp 17),0, "convex.go:18",#[⟨0,.data⟩,⟨1,.data⟩],none⟩
def o3_conv5:Oper:=⟨some 19,.load 29 (.tmp 18),29, "convex.go:18",#[⟨2,.data⟩],none⟩
def o4_conv5:Oper:=⟨some 20,.move (.tmp 3),22, "convex.go:18",#[⟨11,.gcOnly .lateStores⟩],none⟩
def o5_conv5:Oper:=⟨some 21,.move (.tmp 5),3, "convex.go:18",#[⟨11,.gcOnly .lateStores⟩],none⟩
def o6_conv5:Oper:=⟨some 22,.binOp BinOp.add 3 (.tmp 21) (.const (Value.int IntKind.i64 1)) 3,3, "convex.go:18",#[⟨5,.data⟩,⟨11,.gcOnly .lateStores⟩],none⟩
def o7_conv5:Oper:=⟨some 23,.indexAddr 22 (.tmp 20) (.tmp 22),0, "convex.go:18",#[⟨4,.data⟩,⟨6,.data⟩,⟨11,.gcOnly .lateStores⟩],none⟩
def o8_conv5:Oper:=⟨some 24,.load 29 (.tmp 23),29, "convex.go:18",#[⟨7,.data⟩,⟨11,.gcOnly .lateStores⟩],none⟩
def o9_conv5:Oper:=⟨some 6,.alloc 29,0, "convex.go:18",#[],none⟩
def o10_conv5:Oper:=⟨some 7,.alloc 29,0, "convex.go:18",#[],none⟩
def o11_conv5:Oper:=⟨none,.store 29 (.tmp 6) (.tmp 19),0, "convex.go:18",#[⟨9,.data⟩,⟨3,.data⟩,⟨0,.phase⟩,⟨1,.phase⟩,⟨2,.phase⟩,⟨3,.phase⟩,⟨4,.textOnly .lateStores⟩,⟨5,.textOnly .lateStores⟩,⟨6,.textOnly .lateStores⟩,⟨7,.textOnly .lateStores⟩,⟨8,.textOnly .lateStores⟩,⟨9,.phase⟩,⟨10,.phase⟩],none⟩
def o12_conv5:Oper:=⟨none,.store 29 (.tmp 7) (.tmp 24),0, "convex.go:18",#[⟨10,.data⟩,⟨8,.data⟩,⟨11,.chain⟩,⟨0,.phase⟩,⟨1,.phase⟩,⟨2,.phase⟩,⟨3,.phase⟩,⟨4,.phase⟩,⟨5,.phase⟩,⟨6,.phase⟩,⟨7,.phase⟩,⟨8,.phase⟩,⟨9,.phase⟩,⟨10,.phase⟩,⟨11,.phase⟩],none⟩
def F_conv5 (A1:Option Addr) (N1:Nat) (c1:Nat) (m:Nat) (g0:Nat) (o0:Nat) (g1:Nat) (o1:Nat) (s_p:Bool) (t_p:Bool) (A_p:Option Addr) (B_p:Option Addr) (E_p:Option Addr) (F_p:Option Addr) (n_p:Nat) (c_p:Nat) (m_p:Nat) (d_p:Nat) (i_p:Nat) (e_p:Nat) (j_p:Nat) (f_p:Nat) (s_q:Bool) (t_q:Bool) (A_q:Option Addr) (B_q:Option Addr) (E_q:Option Addr) (F_q:Option Addr) (n_q:Nat) (c_q:Nat) (m_q:Nat) (d_q:Nat) (i_q:Nat) (e_q:Nat) (j_q:Nat) (f_q:Nat) (sl:Nat):Value→World→Prop :=
 match sl with
 | 16=>fun x _=>x=Value.slice A1 N1 c1
 | 17=>fun x _=>x=Value.int .i64 (m:Int)
 | 18=>fun x _=>x=Value.pointer (some ⟨g0,o0,none⟩)
 | 19=>VK (#[.bool s_p,.slice A_p n_p c_p,.slice B_p m_p d_p,.bool t_p,.slice E_p i_p e_p,.slice F_p j_p f_p])
 | 20=>fun x _=>x=Value.slice A1 N1 c1
 | 21=>fun x _=>x=Value.int .i64 (m:Int)
 | 22=>fun x _=>x=Value.int .i64 ((m:Int)+1)
 | 23=>fun x _=>x=Value.pointer (some ⟨g1,o1,none⟩)
 | 24=>VK (#[.bool s_q,.slice A_q n_q c_q,.slice B_q m_q d_q,.bool t_q,.slice E_q i_q e_q,.slice F_q j_q f_q])
 | _=>fun _ _=>True
def B0_conv5 (s_p:Bool) (t_p:Bool) (A_p:Option Addr) (B_p:Option Addr) (E_p:Option Addr) (F_p:Option Addr) (n_p:Nat) (c_p:Nat) (m_p:Nat) (d_p:Nat) (i_p:Nat) (e_p:Nat) (j_p:Nat) (f_p:Nat):BoxOp :=
 ⟨9,11,6,29,#[.bool false,.slice none 0 0,.slice none 0 0,.bool false,.slice none 0 0,.slice none 0 0],fun cs _=>cs=#[.bool s_p,.slice A_p n_p c_p,.slice B_p m_p d_p,.bool t_p,.slice E_p i_p e_p,.slice F_p j_p f_p]⟩
def B1_conv5 (s_q:Bool) (t_q:Bool) (A_q:Option Addr) (B_q:Option Addr) (E_q:Option Addr) (F_q:Option Addr) (n_q:Nat) (c_q:Nat) (m_q:Nat) (d_q:Nat) (i_q:Nat) (e_q:Nat) (j_q:Nat) (f_q:Nat):BoxOp :=
 ⟨10,12,7,29,#[.bool false,.slice none 0 0,.slice none 0 0,.bool false,.slice none 0 0,.slice none 0 0],fun cs _=>cs=#[.bool s_q,.slice A_q n_q c_q,.slice B_q m_q d_q,.bool t_q,.slice E_q i_q e_q,.slice F_q j_q f_q]⟩
theorem conv5_region {id:Nat} {ac:Act} {Q:Exit→Act→World→Prop} {A1:Option Addr} {N1 c1 m g0 o0 g1 o1:Nat} 
 (hsz:24 < ac.tmps.size) (e3:ac.eval (.tmp 3)=Value.slice A1 N1 c1) (e5:ac.eval (.tmp 5)=Value.int .i64 (m:Int)) (Ep:E6x w g0 o0 (PV.mk s_p A_p n_p c_p B_p m_p d_p t_p E_p i_p e_p F_p j_p f_p)) (Eq:E6x w g1 o1 (PV.mk s_q A_q n_q c_q B_q m_q d_q t_q E_q i_q e_q F_q j_q f_q)) (hixa:∀ w',(Instr.indexAt 22 (.slice A1 N1 c1) (.int .i64 (m:Int))).run Tryz.prog w'=.ok (.pointer (some ⟨g0,o0,none⟩)) w') (hixb:∀ w',(Instr.indexAt 22 (.slice A1 N1 c1) (.int .i64 ((m:Int)+1))).run Tryz.prog w'=.ok (.pointer (some ⟨g1,o1,none⟩)) w') (hwr:IntKind.i64.wrap ((m:Int)+1)=(m:Int)+1)
 (hend:∀ (V:Nat→Value) (w':World) (g0:Nat) (g1:Nat),B6 w' g0 (.bool s_p) (.slice A_p n_p c_p) (.slice B_p m_p d_p) (.bool t_p) (.slice E_p i_p e_p) (.slice F_p j_p f_p)→w.heap.size≤g0→V 6=.pointer (some ⟨g0,0,none⟩)→B6 w' g1 (.bool s_q) (.slice A_q n_q c_q) (.slice B_q m_q d_q) (.bool t_q) (.slice E_q i_q e_q) (.slice F_q j_q f_q)→w.heap.size≤g1→V 7=.pointer (some ⟨g1,0,none⟩)→g1 ≠ g0→Below w.heap.size w w'→Q .normal (putAll ac [16,17,18,19,20,21,22,23,24,6,7] V) w') :
 (Code.region id #[o0_conv5,o1_conv5,o2_conv5,o3_conv5,o4_conv5,o5_conv5,o6_conv5,o7_conv5,o8_conv5,o9_conv5,o10_conv5,o11_conv5,o12_conv5] true).wp Tryz.prog Q ac w:=by
 have hnd:L_conv5.Nodup:=by decide
 have G:∀ (sv:Nat→Value) (t:Nat),t ∈ L_conv5→t≤24→(putAll ac L_conv5 sv).eval (.tmp t)=sv t:=fun sv t ht h=>eval_putAll_mem (t:=t) L_conv5 ac hnd ht (Nat.lt_of_le_of_lt h hsz)
 have E3:∀ sv:Nat→Value,(putAll ac L_conv5 sv).eval (.tmp 3)=Value.slice A1 N1 c1:=fun sv=>(eval_putAll_not (v:=sv) L_conv5 ac (show 3 ∉ _ by decide)).trans e3
 have E5:∀ sv:Nat→Value,(putAll ac L_conv5 sv).eval (.tmp 5)=Value.int .i64 (m:Int):=fun sv=>(eval_putAll_not (v:=sv) L_conv5 ac (show 5 ∉ _ by decide)).trans e5
 have NE:∀ t:Nat,(t ≠ 6∧t ≠ 7)→∀ p ∈ [B0_conv5 s_p t_p A_p B_p E_p F_p n_p c_p m_p d_p i_p e_p j_p f_p,B1_conv5 s_q t_q A_q B_q E_q F_q n_q c_q m_q d_q i_q e_q j_q f_q],t ≠ p.tA:=by
  intro t ht p hp
  simp only [List.mem_cons,List.not_mem_nil,or_false] at hp
  rcases hp with rfl | rfl
  · exact ht.1
  · exact ht.2
 refine wp_region_flowsT L_conv5 [B0_conv5 s_p t_p A_p B_p E_p F_p n_p c_p m_p d_p i_p e_p j_p f_p,B1_conv5 s_q t_q A_q B_q E_q F_q n_q c_q m_q d_q i_q e_q j_q f_q] (F_conv5 A1 N1 c1 m g0 o0 g1 o1 s_p t_p A_p B_p E_p F_p n_p c_p m_p d_p i_p e_p j_p f_p s_q t_q A_q B_q E_q F_q n_q c_q m_q d_q i_q e_q j_q f_q) (by kernel_rfl) (by kernel_rfl) rfl hnd ?_ ?_ ?_ ?_ ?_ ?_ ?_ ?_
 · intro p hp
   simp only [List.mem_cons,List.not_mem_nil,or_false] at hp
   rcases hp with rfl | rfl
   · refine ⟨⟨o9_conv5,rfl,rfl,rfl,fun e w'=>run_alloc6⟩,⟨o11_conv5,rfl,rfl,rfl,⟨9,.data⟩,by simp [o11_conv5],rfl,rfl⟩,free6 _ _ _ _ _ _ _ _ _ _ _ _ _ _,?_,?_⟩
     · rintro cs w1 w2 rfl hb;rfl
     · rintro T cs w1 w2 g c0 rfl hB ho;rfl
   · refine ⟨⟨o10_conv5,rfl,rfl,rfl,fun e w'=>run_alloc6⟩,⟨o12_conv5,rfl,rfl,rfl,⟨10,.data⟩,by simp [o12_conv5],rfl,rfl⟩,free6 _ _ _ _ _ _ _ _ _ _ _ _ _ _,?_,?_⟩
     · rintro cs w1 w2 rfl hb;rfl
     · rintro T cs w1 w2 g c0 rfl hB ho;rfl
 · intro p hp q hq h
   simp only [List.mem_cons,List.not_mem_nil,or_false] at hp hq
   rcases hp with rfl | rfl <;> rcases hq with rfl | rfl
   · rfl
   · exact absurd (show (6:Nat)=7 from h) (by decide)
   · exact absurd (show (7:Nat)=6 from h) (by decide)
   · rfl
 · intro p hp q hq h
   simp only [List.mem_cons,List.not_mem_nil,or_false] at hp hq
   rcases hp with rfl | rfl <;> rcases hq with rfl | rfl
   · rfl
   · exact absurd (show (11:Nat)=12 from h) (by decide)
   · exact absurd (show (12:Nat)=11 from h) (by decide)
   · rfl
 · intro i o h1 h2
   match i,h1 with
   | 0,h1=>cases h1;cases h2
   | 1,h1=>cases h1;cases h2
   | 2,h1=>cases h1;cases h2
   | 3,h1=>cases h1;cases h2
   | 4,h1=>cases h1;cases h2
   | 5,h1=>cases h1;cases h2
   | 6,h1=>cases h1;cases h2
   | 7,h1=>cases h1;cases h2
   | 8,h1=>cases h1;cases h2
   | 9,h1=>cases h1;cases h2
   | 10,h1=>cases h1;cases h2
   | 11,h1=>exact ⟨B0_conv5 s_p t_p A_p B_p E_p F_p n_p c_p m_p d_p i_p e_p j_p f_p,List.Mem.head _,rfl⟩
   | 12,h1=>exact ⟨B1_conv5 s_q t_q A_q B_q E_q F_q n_q c_q m_q d_q i_q e_q j_q f_q,List.Mem.tail _ (List.Mem.head _),rfl⟩
   | i+13,h1=>cases h1
 · intro t
   unfold F_conv5
   split <;> first | exact (stays_eq _).inn _ | exact (stays_q _ _).inn _ | exact (stays_z _ _).inn _ | exact (stays_r _ _).inn _ | exact (stays_rq _ _).inn _ | exact (stays_pg _ _ _).inn _ | exact (stays_true).inn _ | exact (stays_k _).inn _
 · intro i o t sv w' ho hia hd J0 hf
   have Ep:=Ep.below J0;have Eq:=Eq.below J0
   match i,ho with
   | 0,ho =>
     obtain rfl:o0_conv5=o:=Option.some.inj ho
     cases hd
     refine wpOp_plain' (o:=o0_conv5) rfl rfl ?_
     unfold Oper.wp o0_conv5
     rw [run_move (E3 sv),Oper.upon_value]
     exact ⟨_,rfl,Below.refl _ _,rfl⟩
   | 1,ho =>
     obtain rfl:o1_conv5=o:=Option.some.inj ho
     cases hd
     refine wpOp_plain' (o:=o1_conv5) rfl rfl ?_
     unfold Oper.wp o1_conv5
     rw [run_move (E5 sv),Oper.upon_value]
     exact ⟨_,rfl,Below.refl _ _,rfl⟩
   | 2,ho =>
     obtain rfl:o2_conv5=o:=Option.some.inj ho
     cases hd
     have f16:sv 16=Value.slice A1 N1 c1:=hf ⟨0,.data⟩ (by simp [o2_conv5]) rfl _ 16 rfl rfl (NE _ (by decide))
     have f17:sv 17=Value.int .i64 (m:Int):=hf ⟨1,.data⟩ (by simp [o2_conv5]) rfl _ 17 rfl rfl (NE _ (by decide))
     refine wpOp_plain' (o:=o2_conv5) rfl rfl ?_
     unfold Oper.wp o2_conv5
     rw [run_ixp ((G sv 16 (by decide) (by decide)).trans f16) ((G sv 17 (by decide) (by decide)).trans f17) hixa,Oper.upon_value]
     exact ⟨_,rfl,Below.refl _ _,rfl⟩
   | 3,ho =>
     obtain rfl:o3_conv5=o:=Option.some.inj ho
     cases hd
     have f18:sv 18=Value.pointer (some ⟨g0,o0,none⟩):=hf ⟨2,.data⟩ (by simp [o3_conv5]) rfl _ 18 rfl rfl (NE _ (by decide))
     refine wpOp_plain' (o:=o3_conv5) rfl rfl ?_
     unfold Oper.wp o3_conv5
     rw [run_ldp ((G sv 18 (by decide) (by decide)).trans f18) Ep,Oper.upon_value]
     exact ⟨_,rfl,Below.refl _ _,rfl⟩
   | 4,ho =>
     obtain rfl:o4_conv5=o:=Option.some.inj ho
     cases hd
     refine wpOp_plain' (o:=o4_conv5) rfl rfl ?_
     unfold Oper.wp o4_conv5
     rw [run_move (E3 sv),Oper.upon_value]
     exact ⟨_,rfl,Below.refl _ _,rfl⟩
   | 5,ho =>
     obtain rfl:o5_conv5=o:=Option.some.inj ho
     cases hd
     refine wpOp_plain' (o:=o5_conv5) rfl rfl ?_
     unfold Oper.wp o5_conv5
     rw [run_move (E5 sv),Oper.upon_value]
     exact ⟨_,rfl,Below.refl _ _,rfl⟩
   | 6,ho =>
     obtain rfl:o6_conv5=o:=Option.some.inj ho
     cases hd
     have f21:sv 21=Value.int .i64 (m:Int):=hf ⟨5,.data⟩ (by simp [o6_conv5]) rfl _ 21 rfl rfl (NE _ (by decide))
     refine wpOp_plain' (o:=o6_conv5) rfl rfl ?_
     unfold Oper.wp o6_conv5
     rw [run_add1 ((G sv 21 (by decide) (by decide)).trans f21) (show (putAll ac L_conv5 sv).eval (.const (Value.int IntKind.i64 1))=(Value.int IntKind.i64 1) from rfl) hwr,Oper.upon_value]
     exact ⟨_,rfl,Below.refl _ _,rfl⟩
   | 7,ho =>
     obtain rfl:o7_conv5=o:=Option.some.inj ho
     cases hd
     have f20:sv 20=Value.slice A1 N1 c1:=hf ⟨4,.data⟩ (by simp [o7_conv5]) rfl _ 20 rfl rfl (NE _ (by decide))
     have f22:sv 22=Value.int .i64 ((m:Int)+1):=hf ⟨6,.data⟩ (by simp [o7_conv5]) rfl _ 22 rfl rfl (NE _ (by decide))
     refine wpOp_plain' (o:=o7_conv5) rfl rfl ?_
     unfold Oper.wp o7_conv5
     rw [run_ixp ((G sv 20 (by decide) (by decide)).trans f20) ((G sv 22 (by decide) (by decide)).trans f22) hixb,Oper.upon_value]
     exact ⟨_,rfl,Below.refl _ _,rfl⟩
   | 8,ho =>
     obtain rfl:o8_conv5=o:=Option.some.inj ho
     cases hd
     have f23:sv 23=Value.pointer (some ⟨g1,o1,none⟩):=hf ⟨7,.data⟩ (by simp [o8_conv5]) rfl _ 23 rfl rfl (NE _ (by decide))
     refine wpOp_plain' (o:=o8_conv5) rfl rfl ?_
     unfold Oper.wp o8_conv5
     rw [run_ldp ((G sv 23 (by decide) (by decide)).trans f23) Eq,Oper.upon_value]
     exact ⟨_,rfl,Below.refl _ _,rfl⟩
   | 9,ho=>cases ho;cases hd;exact absurd rfl (hia (B0_conv5 s_p t_p A_p B_p E_p F_p n_p c_p m_p d_p i_p e_p j_p f_p) (List.Mem.head _))
   | 10,ho=>cases ho;cases hd;exact absurd rfl (hia (B1_conv5 s_q t_q A_q B_q E_q F_q n_q c_q m_q d_q i_q e_q j_q f_q) (List.Mem.tail _ (List.Mem.head _)))
   | 11,ho=>cases ho;cases hd
   | 12,ho=>cases ho;cases hd
   | i+13,ho=>cases ho
 · intro p hp os sv w' g hos J0 p1 p3 hf
   simp only [List.mem_cons,List.not_mem_nil,or_false] at hp
   rcases hp with rfl | rfl
   · obtain rfl:o11_conv5=os:=Option.some.inj hos
     have h1:VK (#[.bool s_p,.slice A_p n_p c_p,.slice B_p m_p d_p,.bool t_p,.slice E_p i_p e_p,.slice F_p j_p f_p]) (sv 19) w':=hf ⟨3,.data⟩ (by simp [o11_conv5]) rfl _ 19 rfl rfl (NE _ (by decide))
     rw [← G sv 19 (by decide) (by decide)] at h1
     refine store_k  (ac:=putAll ac L_conv5 sv) (z:=.tmp 19) ?_ ?_ ?_
     · exact (G sv 6 (by decide) (by decide)).trans p1
     · exact h1
     · exact p3
   · obtain rfl:o12_conv5=os:=Option.some.inj hos
     have h1:VK (#[.bool s_q,.slice A_q n_q c_q,.slice B_q m_q d_q,.bool t_q,.slice E_q i_q e_q,.slice F_q j_q f_q]) (sv 24) w':=hf ⟨8,.data⟩ (by simp [o12_conv5]) rfl _ 24 rfl rfl (NE _ (by decide))
     rw [← G sv 24 (by decide) (by decide)] at h1
     refine store_k  (ac:=putAll ac L_conv5 sv) (z:=.tmp 24) ?_ ?_ ?_
     · exact (G sv 7 (by decide) (by decide)).trans p1
     · exact h1
     · exact p3
 · intro sv w' J0 hF hB hap
   obtain ⟨g0,cs0,p0,r0,b0,rfl⟩:=hB (B0_conv5 s_p t_p A_p B_p E_p F_p n_p c_p m_p d_p i_p e_p j_p f_p) (List.Mem.head _)
   obtain ⟨g1,cs1,p1,r1,b1,rfl⟩:=hB (B1_conv5 s_q t_q A_q B_q E_q F_q n_q c_q m_q d_q i_q e_q j_q f_q) (List.Mem.tail _ (List.Mem.head _))
   have p0':sv 6=.pointer (some ⟨g0,0,none⟩):=p0
   have p1':sv 7=.pointer (some ⟨g1,0,none⟩):=p1
   exact hend sv w' g0 g1 b0.at_ r0 p0' b1.at_ r1 p1' (fun q=>hap (B1_conv5 s_q t_q A_q B_q E_q F_q n_q c_q m_q d_q i_q e_q j_q f_q) (List.Mem.tail _ (List.Mem.head _)) (B0_conv5 s_p t_p A_p B_p E_p F_p n_p c_p m_p d_p i_p e_p j_p f_p) (List.Mem.head _) (show (7:Nat) ≠ 6 by decide) (by rw [show (B1_conv5 s_q t_q A_q B_q E_q F_q n_q c_q m_q d_q i_q e_q j_q f_q).tA=7 from rfl,show (B0_conv5 s_p t_p A_p B_p E_p F_p n_p c_p m_p d_p i_p e_p j_p f_p).tA=6 from rfl,p1',p0',q]))   J0
theorem convex_p {A:Option Addr} {n c k:Nat} {L:List PV} {l:List (Rat × Rat)} (hL:SV w A (pvs L)) (hE:Each PV.PR w L l k) (hn:L.length=n) (hm:n≤1000) (hnc:n≤c) (h1:1≤k) (hk:k+k+1+(k+k+1)≤200) (R:Bool) (hR0:R=true ↔ ConvQ l) :
 Calls Tryz.prog 19 #[.slice A n c] w fun e w'=>e=.returned (.bool R)∧Below w.heap.size w w':=by
 have HN:=Lib.hid hn;have HR0:=Lib.hid hR0
 have HNl:Hid (l.length=n):=hE.1.symm.trans hn
 clear hR0
 have hb:Below w.heap.size w w:=Below.refl _ _
 go_enter Tryz.func19,Tryz.ntmps19
 go_upto_region 3 with (first
  | (go_at_call 62;(with_reducible refine (ways_p hL hE hn hm hnc h1 (by omega)).mono ?_);rintro e w_y ⟨gW,M,rfl,hgW,hW,hM,hQ,hb1⟩
     have hWS:=hW.sv)
  | (go_at_call 55;(with_reducible refine (closed_p hWS hM (by omega) (Nat.le_refl _) hb1.size).mono ?_);rintro e w_z ⟨A1,c1,rfl,hR1_,hh⟩
     replace hb:=bend hb1 hh))
 have E0:Hid (Each PV.PG w_z M (waysL l) (k+k+1)):=Each.below hQ hh
 have HM:=Lib.hid hM
 rw [show n+min 1 n=(ringL M).length by unfold ringL;rw [List.length_append,List.length_take,hM,Nat.min_comm]]
 have HR1:Hid ((ringL M).length=n+min 1 n):=by show _=_;unfold ringL;rw [List.length_append,List.length_take,hM,Nat.min_comm]
 generalize hN1:(ringL M).length=N1 at HR1 ⊢
 have HR2:=Lib.hid hN1
 have hR0:SNr 29 w.heap.size n (pvs (ringL M)) w_z A1:=hR1_
 clear hN1 hL hE hWS hW hQ hb1 hh hR1_ hM
 go_loopg [4,13] n (fun gk rr ix wr=>∃ (m:Nat),Hid (gk+m=n)∧rr=.int .i64 (lowsW (ringL (waysL l)) m:Int)∧ix=.int .i64 (m:Int)∧Hid (∀ i,i < m→∀ u v,(ringL (waysL l))[i]?=some u→(ringL (waysL l))[i+1]?=some v→LeftV u.1 u.2 v.1 v.2)∧Below w_z.heap.size w_z wr)
 case atStart=>exact ⟨0,Nat.add_zero _,rfl,rfl,fun i hi=>absurd hi (by omega),Below.refl _ _⟩
 case round =>
  obtain ⟨m,HG,rfl,rfl,HS,hB⟩:=hrel
  replace hb:=bend hb hB;have hR:=hR0.below hB
  by_cases hmn:m < n
  · have HMN:=Lib.hid hmn
    obtain ⟨P,u,hP1,hu1,p⟩:=(E0.out.below hB).ring.at_ (i:=m) (by have h:=HR1.out;have h2:=HR2.out;rw [h2,h];omega)
    obtain ⟨Q,v,hP2,hu2,q⟩:=(E0.out.below hB).ring.at_ (i:=m+1) (by have h:=HR1.out;have h2:=HR2.out;rw [h2,h];omega)
    obtain ⟨g0,o0,hix0,Ep,_⟩:=(hR.sv (by omega)).pt hP1
    obtain ⟨g1,o1,hix1,Eq,_⟩:=(hR.sv (by omega)).pt hP2
    have hixa:∀ w',(Instr.indexAt 22 (.slice A1 N1 c1) (.int .i64 (m:Int))).run Tryz.prog w'=.ok (.pointer (some ⟨g0,o0,none⟩)) w':=fun w'=>hix0 N1 c1 w' (by have:=HR1.out;omega)
    have hixb:∀ w',(Instr.indexAt 22 (.slice A1 N1 c1) (.int .i64 ((m:Int)+1))).run Tryz.prog w'=.ok (.pointer (some ⟨g1,o1,none⟩)) w':=fun w'=>hix1 N1 c1 w' (by have:=HR1.out;omega)
    have hwr:IntKind.i64.wrap ((m:Int)+1)=(m:Int)+1:=IntWalk.i64_in _ (by omega)
    have hlt:(m:Int) < (n:Int):=by omega
    have HU:=Lib.hid hu1;have HV:=Lib.hid hu2
    have HC:=Lib.hid (lowsW_at hu1 hu2)
    have hcl:=lowsW_le (ringL (waysL l)) m
    obtain ⟨ct,hct⟩:∃ ct,lowsW (ringL (waysL l)) m=ct:=⟨_,rfl⟩
    rw [hct] at hcl ⊢
    have HCT:=Lib.hid hct
    have hwc:IntKind.i64.wrap ((ct:Int)+1)=(ct:Int)+1:=IntWalk.i64_in _ (by omega)
    obtain ⟨ux,uy⟩:=u
    obtain ⟨vx,vy⟩:=v
    obtain ⟨s_p,A_p,n_p,c_p,B_p,m_p,d_p,t_p,E_p,i_p,e_p,F_p,j_p,f_p⟩:=P
    obtain ⟨s_q,A_q,n_q,c_q,B_q,m_q,d_q,t_q,E_q,i_q,e_q,F_q,j_q,f_q⟩:=Q
    replace p:PG wr s_p A_p n_p c_p B_p m_p d_p t_p E_p i_p e_p F_p j_p f_p ux uy (k+k+1):=p
    replace q:PG wr s_q A_q n_q c_q B_q m_q d_q t_q E_q i_q e_q F_q j_q f_q vx vy (k+k+1):=q
    clear hP1 hP2 hu1 hu2 hix0 hix1 hmn hct
    go_upto_region 5 with (fail)
    refine conv5_region (by simp) rfl rfl Ep Eq hixa hixb hwr ?_
    intro V w_b gX gY X hgX hv6 Y hgY hv7 hXY hh
    simp only [putAll,Act.put,List.setIfInBounds_toArray,List.set_cons_zero,List.set_cons_succ,hv6,hv7]
    clear hv6 hv7 Ep Eq hixa hixb;replace p:=p.below hh;replace q:=q.below hh;replace hb:=bend hb hh;replace hB:=bend hB hh;have x0:=X.c0;have y0:=Y.c0;have x1:=X.c1;have y1:=Y.c1;have x2:=X.c2;have y2:=Y.c2;have x3:=X.c3;have y3:=Y.c3;have x4:=X.c4;have y4:=Y.c4;have x5:=X.c5;have y5:=Y.c5
    by_cases hlv:LeftV ux uy vx vy
    · have HLV:Hid (decide (LeftV ux uy vx vy)=true):=decide_eq_true hlv
      clear hlv
      go_upto_region 8 with (first
       | (go_at_call 63;(with_reducible refine (left_p p.pr q.pr hk (by omega) true HLV.out).mono ?_);rintro e w_z ⟨rfl,hh⟩
          (try replace p:=p.below hh);(try replace q:=q.below hh);(try replace X:=X.below hh);(try replace Y:=Y.below hh);replace hb:=bend hb hh;replace hB:=bend hB hh;have x0:=X.c0;have y0:=Y.c0;have x1:=X.c1;have y1:=Y.c1;have x2:=X.c2;have y2:=Y.c2;have x3:=X.c3;have y3:=Y.c3;have x4:=X.c4;have y4:=Y.c4;have x5:=X.c5;have y5:=Y.c5))
      by_cases hd1:uy < 0
      · have HD1:Hid (decide (uy < 0)=true):=decide_eq_true hd1
        have HE1:=Lib.hid hd1;clear hd1
        by_cases hd2:vy < 0
        · have HD2:Hid (decide (vy < 0)=true):=decide_eq_true hd2
          have HE2:=Lib.hid hd2;clear hd2
          go_wp2_with (first
          | (go_at_call 64;(with_reducible refine (down_p p.pr (by omega) (by omega) true HD1.out).mono ?_);rintro e w_z ⟨rfl,hh⟩
             (try replace p:=p.below hh);(try replace q:=q.below hh);(try replace X:=X.below hh);(try replace Y:=Y.below hh);replace hb:=bend hb hh;replace hB:=bend hB hh;have x0:=X.c0;have y0:=Y.c0;have x1:=X.c1;have y1:=Y.c1;have x2:=X.c2;have y2:=Y.c2;have x3:=X.c3;have y3:=Y.c3;have x4:=X.c4;have y4:=Y.c4;have x5:=X.c5;have y5:=Y.c5)
          | (go_at_call 64;(with_reducible refine (down_p q.pr (by omega) (by omega) true HD2.out).mono ?_);rintro e w_z ⟨rfl,hh⟩
             (try replace p:=p.below hh);(try replace q:=q.below hh);(try replace X:=X.below hh);(try replace Y:=Y.below hh);replace hb:=bend hb hh;replace hB:=bend hB hh;have x0:=X.c0;have y0:=Y.c0;have x1:=X.c1;have y1:=Y.c1;have x2:=X.c2;have y2:=Y.c2;have x3:=X.c3;have y3:=Y.c3;have x4:=X.c4;have y4:=Y.c4;have x5:=X.c5;have y5:=Y.c5))
          go_roundg (gk - 1)
          case measure=>have:=HG.out;have:=HMN.out;omega
          case rel =>
           refine ⟨m+1,by have:=HG.out;have:=HMN.out;show _=_;omega,?_,by go_num,fun i hi u v h5 h6=>?_,hB⟩
           · have:=HC.out
             rw [HCT.out,if_neg (fun e=>e.2 HE2.out)] at this
             rw [this];go_num
           · rcases Nat.lt_or_ge i m with h | h
             · exact HS.out i h u v h5 h6
             · obtain rfl:i=m:=by omega
               rw [HU.out] at h5;rw [HV.out] at h6
               cases h5;cases h6
               exact of_decide_eq_true HLV.out
        · have HD2:Hid (decide (vy < 0)=false):=decide_eq_false hd2
          have HE2:=Lib.hid hd2;clear hd2
          go_wp2_with (first
          | (go_at_call 64;(with_reducible refine (down_p p.pr (by omega) (by omega) true HD1.out).mono ?_);rintro e w_z ⟨rfl,hh⟩
             (try replace p:=p.below hh);(try replace q:=q.below hh);(try replace X:=X.below hh);(try replace Y:=Y.below hh);replace hb:=bend hb hh;replace hB:=bend hB hh;have x0:=X.c0;have y0:=Y.c0;have x1:=X.c1;have y1:=Y.c1;have x2:=X.c2;have y2:=Y.c2;have x3:=X.c3;have y3:=Y.c3;have x4:=X.c4;have y4:=Y.c4;have x5:=X.c5;have y5:=Y.c5)
          | (go_at_call 64;(with_reducible refine (down_p q.pr (by omega) (by omega) false HD2.out).mono ?_);rintro e w_z ⟨rfl,hh⟩
             (try replace p:=p.below hh);(try replace q:=q.below hh);(try replace X:=X.below hh);(try replace Y:=Y.below hh);replace hb:=bend hb hh;replace hB:=bend hB hh;have x0:=X.c0;have y0:=Y.c0;have x1:=X.c1;have y1:=Y.c1;have x2:=X.c2;have y2:=Y.c2;have x3:=X.c3;have y3:=Y.c3;have x4:=X.c4;have y4:=Y.c4;have x5:=X.c5;have y5:=Y.c5))
          go_roundg (gk - 1)
          case measure=>have:=HG.out;have:=HMN.out;omega
          case rel =>
           refine ⟨m+1,by have:=HG.out;have:=HMN.out;show _=_;omega,?_,by go_num,fun i hi u v h5 h6=>?_,hB⟩
           · have:=HC.out
             rw [HCT.out,if_pos ⟨HE1.out,HE2.out⟩] at this
             rw [this];go_num
           · rcases Nat.lt_or_ge i m with h | h
             · exact HS.out i h u v h5 h6
             · obtain rfl:i=m:=by omega
               rw [HU.out] at h5;rw [HV.out] at h6
               cases h5;cases h6
               exact of_decide_eq_true HLV.out
      · have HD1:Hid (decide (uy < 0)=false):=decide_eq_false hd1
        have HE1:=Lib.hid hd1;clear hd1
        go_wp2_with (first
         | (go_at_call 64;(with_reducible refine (down_p p.pr (by omega) (by omega) false HD1.out).mono ?_);rintro e w_z ⟨rfl,hh⟩
            (try replace p:=p.below hh);(try replace q:=q.below hh);(try replace X:=X.below hh);(try replace Y:=Y.below hh);replace hb:=bend hb hh;replace hB:=bend hB hh;have x0:=X.c0;have y0:=Y.c0;have x1:=X.c1;have y1:=Y.c1;have x2:=X.c2;have y2:=Y.c2;have x3:=X.c3;have y3:=Y.c3;have x4:=X.c4;have y4:=Y.c4;have x5:=X.c5;have y5:=Y.c5))
        go_roundg (gk - 1)
        case measure=>have:=HG.out;have:=HMN.out;omega
        case rel =>
         refine ⟨m+1,by have:=HG.out;have:=HMN.out;show _=_;omega,?_,by go_num,fun i hi u v h5 h6=>?_,hB⟩
         · have:=HC.out
           rw [HCT.out,if_neg (fun e=>HE1.out e.1)] at this
           rw [this];go_num
         · rcases Nat.lt_or_ge i m with h | h
           · exact HS.out i h u v h5 h6
           · obtain rfl:i=m:=by omega
             rw [HU.out] at h5;rw [HV.out] at h6
             cases h5;cases h6
             exact of_decide_eq_true HLV.out
    · have HLV:Hid (decide (LeftV ux uy vx vy)=false):=decide_eq_false hlv
      have HF:Hid (false=R):=by
       show _=_
       cases R with
       | false=>rfl
       | true=>exact absurd ((HR0.out.1 rfl).1 m _ _ HU.out HV.out) hlv
      clear hlv
      go_wp2_with (first
       | (go_at_call 63;(with_reducible refine (left_p p.pr q.pr hk (by omega) false HLV.out).mono ?_);rintro e w_z ⟨rfl,hh⟩
          (try replace p:=p.below hh);(try replace q:=q.below hh);(try replace X:=X.below hh);(try replace Y:=Y.below hh);replace hb:=bend hb hh;replace hB:=bend hB hh;have x0:=X.c0;have y0:=Y.c0;have x1:=X.c1;have y1:=Y.c1;have x2:=X.c2;have y2:=Y.c2;have x3:=X.c3;have y3:=Y.c3;have x4:=X.c4;have y4:=Y.c4;have x5:=X.c5;have y5:=Y.c5))
      (try rw [Exit.noGoto_ret])
      go_ret
      exact ⟨by rw [← HF.out];rfl,hb⟩
  · have hlt:¬ (m:Int) < (n:Int):=by omega
    obtain rfl:m=n:=by have:=HG.out;omega
    obtain ⟨ct,hct⟩:∃ ct,lowsW (ringL (waysL l)) m=ct:=⟨_,rfl⟩
    rw [hct]
    have HT:Hid (((ct:Int) == 1)=R):=by
     show _=_
     rw [Bool.eq_iff_iff,beq_iff_eq,HR0.out]
     constructor
     · intro h
       refine ⟨fun i u v h5 h6=>HS.out i ?_ u v h5 h6,by rw [HNl.out,hct];omega⟩
       have h7:=(List.getElem?_eq_some_iff.1 h6).1
       have h8:=waysL_len l;rw [HNl.out] at h8
       rcases Nat.eq_zero_or_pos m with h9 | h9
       · subst h9
         rw [show lowsW (ringL (waysL l)) 0=0 from rfl] at hct;omega
       · rw [ringL_len _ (by rw [h8];exact h9),h8] at h7
         omega
     · intro h
       have h2:=h.2
       rw [HNl.out,hct] at h2;omega
    clear hmn hct
    go_wp2_with fail
    (try rw [Exit.noGoto_ret])
    go_ret
    exact ⟨by rw [← HT.out];first | rfl | simp,hb⟩
end
section
open Go Go.RowKit
theorem RP.box {T:TypeId} {w w':World} {g:Nat} {cs:Array Value} {s t:Bool} {A B E F:Option Addr} {n c m d i e j f:Nat} {x y:Rat} {k:Nat} (h:RP w s A n c B m d t E i e F j f x y k) (Z:BoxAt T w g cs) (ho:Only g w w'):RP w' s A n c B m d t E i e F j f x y k:=⟨h.1.box Z ho,h.2.box Z ho⟩
end
section
open Go Go.RowKit
theorem GivesLn.more {w w':World} {l:List (Rat × Rat)} {k k2:Nat} {en:Ending} (h:GivesLn w l k en w') (hk:k≤k2):GivesLn w l k2 en w':=by
 obtain ⟨v,L,h1,h2,h3,h4⟩:=h
 exact ⟨v,L,h1,h2,⟨h3.1,fun i p u hp hu=>PG.more (h3.2 i p u hp hu) hk⟩,h4⟩
end
section
open Go Go.RowKit
theorem B6R.rest {w w':World} {g k:Nat} {x y z u v t:Value} (h:B6R w g x y z u v t) (hne:g ≠ k) (ho:Only k w w'):B6R w' g x y z u v t:=(ho.block g h.lt hne).trans h
end
section
open Go Go.RowKit
section
variable {W W':World} {g:Nat} {v0 v1 v2 v3 v4 v5 v6 v7 v8 v9 v10 v11 v12 v13 v14 v15 v16 v17 v18 v19 v20 v21 v22 v23:Value}
end
def BL4 (W:World) (g:Nat) (v0:Value) (v1:Value) (v2:Value) (v3:Value) (v4:Value) (v5:Value) (v6:Value) (v7:Value) (v8:Value) (v9:Value) (v10:Value) (v11:Value) (v12:Value) (v13:Value) (v14:Value) (v15:Value) (v16:Value) (v17:Value) (v18:Value) (v19:Value) (v20:Value) (v21:Value) (v22:Value) (v23:Value):Prop:=W.heap[g]?=some (.cells #[v0,v1,v2,v3,v4,v5,v6,v7,v8,v9,v10,v11,v12,v13,v14,v15,v16,v17,v18,v19,v20,v21,v22,v23] 29 (0,0))
section
variable {W W':World} {g:Nat} {v0 v1 v2 v3 v4 v5 v6 v7 v8 v9 v10 v11 v12 v13 v14 v15 v16 v17 v18 v19 v20 v21 v22 v23:Value}
theorem BL4.c0 (h:BL4 W g v0 v1 v2 v3 v4 v5 v6 v7 v8 v9 v10 v11 v12 v13 v14 v15 v16 v17 v18 v19 v20 v21 v22 v23):W.cell? ⟨g,0,none⟩=some v0:=by rw [cell_of_row W g 0 _ _ (0,0) h];rfl
theorem BL4.c1 (h:BL4 W g v0 v1 v2 v3 v4 v5 v6 v7 v8 v9 v10 v11 v12 v13 v14 v15 v16 v17 v18 v19 v20 v21 v22 v23):W.cell? ⟨g,1,none⟩=some v1:=by rw [cell_of_row W g 1 _ _ (0,0) h];rfl
theorem BL4.c2 (h:BL4 W g v0 v1 v2 v3 v4 v5 v6 v7 v8 v9 v10 v11 v12 v13 v14 v15 v16 v17 v18 v19 v20 v21 v22 v23):W.cell? ⟨g,2,none⟩=some v2:=by rw [cell_of_row W g 2 _ _ (0,0) h];rfl
theorem BL4.c3 (h:BL4 W g v0 v1 v2 v3 v4 v5 v6 v7 v8 v9 v10 v11 v12 v13 v14 v15 v16 v17 v18 v19 v20 v21 v22 v23):W.cell? ⟨g,3,none⟩=some v3:=by rw [cell_of_row W g 3 _ _ (0,0) h];rfl
theorem BL4.c4 (h:BL4 W g v0 v1 v2 v3 v4 v5 v6 v7 v8 v9 v10 v11 v12 v13 v14 v15 v16 v17 v18 v19 v20 v21 v22 v23):W.cell? ⟨g,4,none⟩=some v4:=by rw [cell_of_row W g 4 _ _ (0,0) h];rfl
theorem BL4.c5 (h:BL4 W g v0 v1 v2 v3 v4 v5 v6 v7 v8 v9 v10 v11 v12 v13 v14 v15 v16 v17 v18 v19 v20 v21 v22 v23):W.cell? ⟨g,5,none⟩=some v5:=by rw [cell_of_row W g 5 _ _ (0,0) h];rfl
theorem BL4.c6 (h:BL4 W g v0 v1 v2 v3 v4 v5 v6 v7 v8 v9 v10 v11 v12 v13 v14 v15 v16 v17 v18 v19 v20 v21 v22 v23):W.cell? ⟨g,6,none⟩=some v6:=by rw [cell_of_row W g 6 _ _ (0,0) h];rfl
theorem BL4.c7 (h:BL4 W g v0 v1 v2 v3 v4 v5 v6 v7 v8 v9 v10 v11 v12 v13 v14 v15 v16 v17 v18 v19 v20 v21 v22 v23):W.cell? ⟨g,7,none⟩=some v7:=by rw [cell_of_row W g 7 _ _ (0,0) h];rfl
theorem BL4.c8 (h:BL4 W g v0 v1 v2 v3 v4 v5 v6 v7 v8 v9 v10 v11 v12 v13 v14 v15 v16 v17 v18 v19 v20 v21 v22 v23):W.cell? ⟨g,8,none⟩=some v8:=by rw [cell_of_row W g 8 _ _ (0,0) h];rfl
theorem BL4.c9 (h:BL4 W g v0 v1 v2 v3 v4 v5 v6 v7 v8 v9 v10 v11 v12 v13 v14 v15 v16 v17 v18 v19 v20 v21 v22 v23):W.cell? ⟨g,9,none⟩=some v9:=by rw [cell_of_row W g 9 _ _ (0,0) h];rfl
theorem BL4.all (h:BL4 W g v0 v1 v2 v3 v4 v5 v6 v7 v8 v9 v10 v11 v12 v13 v14 v15 v16 v17 v18 v19 v20 v21 v22 v23):W.cell? ⟨g,0,none⟩=some v0∧W.cell? ⟨g,1,none⟩=some v1∧W.cell? ⟨g,2,none⟩=some v2∧W.cell? ⟨g,3,none⟩=some v3∧W.cell? ⟨g,4,none⟩=some v4∧W.cell? ⟨g,5,none⟩=some v5∧W.cell? ⟨g,6,none⟩=some v6∧W.cell? ⟨g,7,none⟩=some v7∧W.cell? ⟨g,8,none⟩=some v8∧W.cell? ⟨g,9,none⟩=some v9:=⟨h.c0,h.c1,h.c2,h.c3,h.c4,h.c5,h.c6,h.c7,h.c8,h.c9⟩
theorem BL4.lt (h:BL4 W g v0 v1 v2 v3 v4 v5 v6 v7 v8 v9 v10 v11 v12 v13 v14 v15 v16 v17 v18 v19 v20 v21 v22 v23):g < W.heap.size:=World.block_lt_of_cell? W _ h.c0
theorem BL4.below (h:BL4 W g v0 v1 v2 v3 v4 v5 v6 v7 v8 v9 v10 v11 v12 v13 v14 v15 v16 v17 v18 v19 v20 v21 v22 v23) (hb:Below W.heap.size W W'):BL4 W' g v0 v1 v2 v3 v4 v5 v6 v7 v8 v9 v10 v11 v12 v13 v14 v15 v16 v17 v18 v19 v20 v21 v22 v23:=(hb.block g h.lt).trans h
theorem BL4.alloc (h:BL4 W g v0 v1 v2 v3 v4 v5 v6 v7 v8 v9 v10 v11 v12 v13 v14 v15 v16 v17 v18 v19 v20 v21 v22 v23) (o:Obj):BL4 (W.alloc o) g v0 v1 v2 v3 v4 v5 v6 v7 v8 v9 v10 v11 v12 v13 v14 v15 v16 v17 v18 v19 v20 v21 v22 v23:=(Below.heap_alloc W o g h.lt).trans h
end
theorem BL4.new' (W:World) (v0 v1 v2 v3 v4 v5 v6 v7 v8 v9 v10 v11 v12 v13 v14 v15 v16 v17 v18 v19 v20 v21 v22 v23:Value) (g:Nat) (hg:g=W.heap.size):BL4 (W.alloc (.cells #[v0,v1,v2,v3,v4,v5,v6,v7,v8,v9,v10,v11,v12,v13,v14,v15,v16,v17,v18,v19,v20,v21,v22,v23] 29)) g v0 v1 v2 v3 v4 v5 v6 v7 v8 v9 v10 v11 v12 v13 v14 v15 v16 v17 v18 v19 v20 v21 v22 v23:=by subst hg;exact heap_alloc_new W _
end
section
open Go Go.RowKit
theorem Each.more {L:List PV} {l:List (Rat × Rat)} {k k2:Nat} (h:Each PV.PG w L l k) (hk:k≤k2):Each PV.PG w L l k2:=⟨h.1,fun i p u hp hu=>PG.more (h.2 i p u hp hu) hk⟩
def BL (K:Nat) (l:List (Rat × Rat)):Prop:=∀ u ∈ l,u.1.num.natAbs < B64 ^ K∧u.1.den < B64 ^ K∧u.2.num.natAbs < B64 ^ K∧u.2.den < B64 ^ K
theorem each_take {M:List PV} {l:List (Rat × Rat)} {K m:Nat} {P:PV} {u:Rat × Rat} (hu:l[m]?=some u) (h:Each PV.PG w (M ++ [P]) (l.take m ++ [u]) K):Each PV.PG w (M ++ [P]) (l.take (m+1)) K:=by
 obtain ⟨hm,hv⟩:=List.getElem?_eq_some_iff.1 hu
 rwa [List.take_succ_eq_append_getElem hm,hv]
section
variable {W W':World} {g:Nat} {v0 v1 v2 v3 v4 v5 v6 v7 v8 v9 v10 v11 v12 v13 v14 v15 v16 v17 v18 v19 v20 v21 v22 v23:Value}
end
end
end Go.Proofs.YtghmejlikfiegaaGreat
