/- AreaBoxes: part 17. -/
import Derived.Test.YtghmejlikfiegaaGreatKAreaBoxes13
import Derived.Test.YtghmejlikfiegaaGreatKAreaBoxes16
set_option linter.unusedVariables false
set_option maxRecDepth 100000
set_option maxHeartbeats 16000000
variable {w:Go.World}
variable {s_p t_p:Bool} {A_p B_p E_p F_p:Option Go.Addr} {n_p c_p m_p d_p i_p e_p j_p f_p:Nat}
namespace Go.Proofs.YtghmejlikfiegaaGreat
open Go Go.RowKit
theorem boxes_5 {A:Option Addr} {n c:Nat} {L:List PV} (hL:SV w A (pvs L)) (hn:L.length=n) (hnc:n≤c) {l:List (Rat × Rat)} (hE:Each PV.PR w L l 4) {px py:Rat} (p:PR w s_p A_p n_p c_p B_p m_p d_p t_p E_p i_p e_p F_p j_p f_p px py 6) (h:n≤10) (h2:∀ q ∈ L,q.small 4) (h3:((n_p≤6∧m_p≤6)∧i_p≤6∧j_p≤6)) (h4:ConvQ l) :
 Calls Tryz.prog 7 #[.slice A n c,.agg #[.bool s_p,.slice A_p n_p c_p,.slice B_p m_p d_p,.bool t_p,.slice E_p i_p e_p,.slice F_p j_p f_p]] w fun e w'=>e=.returned (.bool true)∧Below w.heap.size w w':=by
 have H10:Hid ((10:Int)=((10:Nat):Int)):=rfl
 have HNN:=Lib.hid h
 have HF8:Hid (∀ q ∈ L,q.small 4):=h2
 have HF6:Hid (∀ q ∈ [(PV.mk s_p A_p n_p c_p B_p m_p d_p t_p E_p i_p e_p F_p j_p f_p)],q.small 6):=fun q hq=>by rw [List.mem_singleton.1 hq];exact h3
 have HC:Hid (ConvQ l):=h4
 have E0:=Lib.hid hE;have HN:=Lib.hid hn
 have h0:0 < n:=by rw [← hn,hE.1];have:=((convQ_iff l).1 h4).three;omega
 clear h h2 h3 h4 hE
 go_enter Tryz.func7,Tryz.ntmps7
 go_upto_region 1 with (fail)
 generalize hW:World.alloc _ _=W
 obtain ⟨hb,XA,hzW⟩:=mkbx15_9 hW;clear hW;replace hL:=hL.below hb;replace p:=p.below hb;obtain ⟨xa0,xa1,xa2,xa3,xa4,xa5⟩:=XA.all
 go_wp2_with (first
  | (go_at_call 8;(with_reducible refine (fair8_t (N:=10) H10.out hL hn (by decide) hnc HNN.out HF8.out).mono ?_);rintro e w_z ⟨rfl,hh⟩
     (try replace hL:=hL.below hh);(try replace p:=p.below hh);(try replace XA:=XA.below hh);replace hb:=bend hb hh;obtain ⟨xa0,xa1,xa2,xa3,xa4,xa5⟩:=XA.all))
 have hOne:SV (w_z.alloc (Obj.cells #[Value.bool s_p,Value.slice A_p n_p c_p,Value.slice B_p m_p d_p,Value.bool t_p,Value.slice E_p i_p e_p,Value.slice F_p j_p f_p] 29)) (some ⟨w_z.heap.size,0,none⟩) (pvs [(PV.mk s_p A_p n_p c_p B_p m_p d_p t_p E_p i_p e_p F_p j_p f_p)]):=(show BoxAt 29 (w_z.alloc (Obj.cells #[Value.bool s_p,Value.slice A_p n_p c_p,Value.slice B_p m_p d_p,Value.bool t_p,Value.slice E_p i_p e_p,Value.slice F_p j_p f_p] 29)) w_z.heap.size (pvs [(PV.mk s_p A_p n_p c_p B_p m_p d_p t_p E_p i_p e_p F_p j_p f_p)]).toArray from ⟨heap_alloc_new w_z _,arr_free (pvs_free _)⟩).sv
 have hOn1:[(PV.mk s_p A_p n_p c_p B_p m_p d_p t_p E_p i_p e_p F_p j_p f_p)].length=1:=rfl
 have hh:Below w_z.heap.size w_z (w_z.alloc (Obj.cells #[Value.bool s_p,Value.slice A_p n_p c_p,Value.slice B_p m_p d_p,Value.bool t_p,Value.slice E_p i_p e_p,Value.slice F_p j_p f_p] 29)):=(Below.refl _ _).alloc (Nat.le_refl _) _
 replace hL:=hL.below hh;replace p:=p.below hh;replace XA:=XA.below hh;replace hb:=bend hb hh
 generalize (w_z.alloc (Obj.cells #[Value.bool s_p,Value.slice A_p n_p c_p,Value.slice B_p m_p d_p,Value.bool t_p,Value.slice E_p i_p e_p,Value.slice F_p j_p f_p] 29))=W9 at *
 generalize w_z.heap.size=g9 at *
 obtain ⟨xa0,xa1,xa2,xa3,xa4,xa5⟩:=XA.all;have hn10:=HNN.out
 go_upto_region 4 with (first
  | (go_at_call 9;(with_reducible refine (fair6_t hOne hOn1 (by decide) (by decide) HF6.out).mono ?_);rintro e w_z ⟨rfl,hh⟩
     (try replace hL:=hL.below hh);(try replace p:=p.below hh);(try replace XA:=XA.below hh);replace hb:=bend hb hh;obtain ⟨xa0,xa1,xa2,xa3,xa4,xa5⟩:=XA.all)
  | (go_at_call 19;(with_reducible refine (convex_t hL (Each.belowP E0.out hb) hn (by omega) hnc (by decide) (by decide) HC.out).mono ?_);rintro e w_z ⟨rfl,hh⟩
     (try replace hL:=hL.below hh);(try replace p:=p.below hh);(try replace XA:=XA.below hh);replace hb:=bend hb hh;obtain ⟨xa0,xa1,xa2,xa3,xa4,xa5⟩:=XA.all)
  | (go_at_call 13;(with_reducible refine (box_p hL (Each.belowP E0.out hb) hn h0 (by omega) hnc (by decide) (by decide)).mono ?_);rintro e w_b ⟨x0,y0,x1,y1,⟨s_q,A_q,n_q,c_q,B_q,m_q,d_q,t_q,E_q,i_q,e_q,F_q,j_q,f_q⟩,⟨s_r,A_r,n_r,c_r,B_r,m_r,d_r,t_r,E_r,i_r,e_r,F_r,j_r,f_r⟩,hbx,rfl,q,r,hh⟩
     (try replace hL:=hL.below hh);(try replace p:=p.below hh);(try replace XA:=XA.below hh);replace hb:=bend hb hh;obtain ⟨xa0,xa1,xa2,xa3,xa4,xa5⟩:=XA.all
     replace q:PG w_b s_q A_q n_q c_q B_q m_q d_q t_q E_q i_q e_q F_q j_q f_q x0 y0 6:=q
     replace r:PG w_b s_r A_r n_r c_r B_r m_r d_r t_r E_r i_r e_r F_r j_r f_r x1 y1 6:=r))
 clear hOne hOn1
 generalize hW:World.alloc _ _=W2
 obtain ⟨hh,XB,XD,hzW2⟩:=mkbx21_10 hW;clear hW;(try replace hL:=hL.below hh);(try replace p:=p.below hh);(try replace XA:=XA.below hh);(try replace q:=q.below hh);(try replace r:=r.below hh);replace hb:=bend hb hh
 have MATH:=Lib.hid (boxes_math HC.out hbx)
 clear hbx;obtain ⟨xa0,xa1,xa2,xa3,xa4,xa5⟩:=XA.all;obtain ⟨xb0,xb1,xb2,xb3,xb4,xb5⟩:=XB.all;obtain ⟨xd0,xd1,xd2,xd3,xd4,xd5⟩:=XD.all
 go_upto_region 6 with (fail)
 refine boxes6_region (by simp) rfl rfl XB XD q.pr r.pr ?_
 intro V w_s g_t s_t A_t n_t c_t B_t m_t d_t t XT hg_t hv8 hh
 simp only [putAll,Act.put,List.setIfInBounds_toArray,List.set_cons_zero,List.set_cons_succ,hv8]
 clear hv8;replace hL:=hL.below hh;replace p:=p.below hh;replace XA:=XA.below hh;replace q:=q.below hh;replace r:=r.below hh;replace XB:=XB.below hh;replace XD:=XD.below hh;replace hb:=bend hb hh
 obtain ⟨IN,hIN⟩:∃ b:Bool,(b=true ↔ x0≤px∧px≤x1∧y0≤py∧py≤y1):=bool_of _
 have HIN:=Lib.hid hIN;clear hIN hh
 generalize w_b.heap.size=gq at *
 obtain ⟨xa0,xa1,xa2,xa3,xa4,xa5⟩:=XA.all;obtain ⟨xb0,xb1,xb2,xb3,xb4,xb5⟩:=XB.all;obtain ⟨xd0,xd1,xd2,xd3,xd4,xd5⟩:=XD.all
 go_upto_region 7 with (fail)
 go_cut [9] from 45 to 74 (fun t9 wx=>t9=.bool IN∧Below w_s.heap.size w_s wx)
 case first =>
  replace hb:Below w_s.heap.size w_s w_s:=Below.refl _ _
  obtain ⟨K0,hK0⟩:∃ K,cmpQ px x0=K:=⟨_,rfl⟩
  have HK0:=Lib.hid hK0;clear hK0
  obtain ⟨K1,hK1⟩:∃ K,cmpQ px x1=K:=⟨_,rfl⟩
  have HK1:=Lib.hid hK1;clear hK1
  obtain ⟨K2,hK2⟩:∃ K,cmpQ py y0=K:=⟨_,rfl⟩
  have HK2:=Lib.hid hK2;clear hK2
  obtain ⟨K3,hK3⟩:∃ K,cmpQ py y1=K:=⟨_,rfl⟩
  have HK3:=Lib.hid hK3;clear hK3
  by_cases c0:x0≤px
  case neg =>
   have t0:¬ 0≤K0:=by rw [← HK0.out];exact fun e=>c0 ((cmp_ge px x0).1 e)
   have HF:Hid (false=IN):=by
    show _=_
    cases IN with
    | false=>rfl
    | true=>exact absurd ((HIN.out.1 rfl).1) c0
   clear c0
   go_wp2_with (first
    | (go_at_call 29;(with_reducible refine (rcmp_q p.qx q.pr.qx (by decide) (by decide) (.inl (by decide)) (by decide) (by decide)).mono ?_);rintro e w_z ⟨rfl,hh⟩
       rw [HK0.out];(try replace p:=p.below hh);(try replace q:=q.below hh);(try replace r:=r.below hh);(try replace XA:=XA.below hh);(try replace XB:=XB.below hh);(try replace XD:=XD.below hh);replace hb:=bend hb hh;obtain ⟨xa0,xa1,xa2,xa3,xa4,xa5⟩:=XA.all;obtain ⟨xb0,xb1,xb2,xb3,xb4,xb5⟩:=XB.all;obtain ⟨xd0,xd1,xd2,xd3,xd4,xd5⟩:=XD.all))
   go_meet
   exact ⟨by have h5:=HF.out;subst h5;first | rfl | (simp;done) | (simp;omega),hb⟩
  have t0:0≤K0:=by rw [← HK0.out];exact (cmp_ge px x0).2 c0
  by_cases c1:px≤x1
  case neg =>
   have t1:¬ K1≤0:=by rw [← HK1.out];exact fun e=>c1 ((cmpQ_le).1 e)
   have HF:Hid (false=IN):=by
    show _=_
    cases IN with
    | false=>rfl
    | true=>exact absurd ((HIN.out.1 rfl).2.1) c1
   clear c0 c1
   go_wp2_with (first
    | (go_at_call 29;(with_reducible refine (rcmp_q p.qx q.pr.qx (by decide) (by decide) (.inl (by decide)) (by decide) (by decide)).mono ?_);rintro e w_z ⟨rfl,hh⟩
       rw [HK0.out];(try replace p:=p.below hh);(try replace q:=q.below hh);(try replace r:=r.below hh);(try replace XA:=XA.below hh);(try replace XB:=XB.below hh);(try replace XD:=XD.below hh);replace hb:=bend hb hh;obtain ⟨xa0,xa1,xa2,xa3,xa4,xa5⟩:=XA.all;obtain ⟨xb0,xb1,xb2,xb3,xb4,xb5⟩:=XB.all;obtain ⟨xd0,xd1,xd2,xd3,xd4,xd5⟩:=XD.all)
    | (go_at_call 29;(with_reducible refine (rcmp_q p.qx r.pr.qx (by decide) (by decide) (.inl (by decide)) (by decide) (by decide)).mono ?_);rintro e w_z ⟨rfl,hh⟩
       rw [HK1.out];(try replace p:=p.below hh);(try replace q:=q.below hh);(try replace r:=r.below hh);(try replace XA:=XA.below hh);(try replace XB:=XB.below hh);(try replace XD:=XD.below hh);replace hb:=bend hb hh;obtain ⟨xa0,xa1,xa2,xa3,xa4,xa5⟩:=XA.all;obtain ⟨xb0,xb1,xb2,xb3,xb4,xb5⟩:=XB.all;obtain ⟨xd0,xd1,xd2,xd3,xd4,xd5⟩:=XD.all))
   go_meet
   exact ⟨by have h5:=HF.out;subst h5;first | rfl | (simp;done) | (simp;omega),hb⟩
  have t1:K1≤0:=by rw [← HK1.out];exact (cmpQ_le).2 c1
  by_cases c2:y0≤py
  case neg =>
   have t2:¬ 0≤K2:=by rw [← HK2.out];exact fun e=>c2 ((cmp_ge py y0).1 e)
   have HF:Hid (false=IN):=by
    show _=_
    cases IN with
    | false=>rfl
    | true=>exact absurd ((HIN.out.1 rfl).2.2.1) c2
   clear c0 c1 c2
   go_wp2_with (first
    | (go_at_call 29;(with_reducible refine (rcmp_q p.qx q.pr.qx (by decide) (by decide) (.inl (by decide)) (by decide) (by decide)).mono ?_);rintro e w_z ⟨rfl,hh⟩
       rw [HK0.out];(try replace p:=p.below hh);(try replace q:=q.below hh);(try replace r:=r.below hh);(try replace XA:=XA.below hh);(try replace XB:=XB.below hh);(try replace XD:=XD.below hh);replace hb:=bend hb hh;obtain ⟨xa0,xa1,xa2,xa3,xa4,xa5⟩:=XA.all;obtain ⟨xb0,xb1,xb2,xb3,xb4,xb5⟩:=XB.all;obtain ⟨xd0,xd1,xd2,xd3,xd4,xd5⟩:=XD.all)
    | (go_at_call 29;(with_reducible refine (rcmp_q p.qx r.pr.qx (by decide) (by decide) (.inl (by decide)) (by decide) (by decide)).mono ?_);rintro e w_z ⟨rfl,hh⟩
       rw [HK1.out];(try replace p:=p.below hh);(try replace q:=q.below hh);(try replace r:=r.below hh);(try replace XA:=XA.below hh);(try replace XB:=XB.below hh);(try replace XD:=XD.below hh);replace hb:=bend hb hh;obtain ⟨xa0,xa1,xa2,xa3,xa4,xa5⟩:=XA.all;obtain ⟨xb0,xb1,xb2,xb3,xb4,xb5⟩:=XB.all;obtain ⟨xd0,xd1,xd2,xd3,xd4,xd5⟩:=XD.all)
    | (go_at_call 29;(with_reducible refine (rcmp_q p.qy q.pr.qy (by decide) (by decide) (.inl (by decide)) (by decide) (by decide)).mono ?_);rintro e w_z ⟨rfl,hh⟩
       rw [HK2.out];(try replace p:=p.below hh);(try replace q:=q.below hh);(try replace r:=r.below hh);(try replace XA:=XA.below hh);(try replace XB:=XB.below hh);(try replace XD:=XD.below hh);replace hb:=bend hb hh;obtain ⟨xa0,xa1,xa2,xa3,xa4,xa5⟩:=XA.all;obtain ⟨xb0,xb1,xb2,xb3,xb4,xb5⟩:=XB.all;obtain ⟨xd0,xd1,xd2,xd3,xd4,xd5⟩:=XD.all))
   go_meet
   exact ⟨by have h5:=HF.out;subst h5;first | rfl | (simp;done) | (simp;omega),hb⟩
  have t2:0≤K2:=by rw [← HK2.out];exact (cmp_ge py y0).2 c2
  by_cases c3:py≤y1
  case neg =>
   have t3:¬ K3≤0:=by rw [← HK3.out];exact fun e=>c3 ((cmpQ_le).1 e)
   have HF:Hid (false=IN):=by
    show _=_
    cases IN with
    | false=>rfl
    | true=>exact absurd ((HIN.out.1 rfl).2.2.2) c3
   clear c0 c1 c2 c3
   go_wp2_with (first
    | (go_at_call 29;(with_reducible refine (rcmp_q p.qx q.pr.qx (by decide) (by decide) (.inl (by decide)) (by decide) (by decide)).mono ?_);rintro e w_z ⟨rfl,hh⟩
       rw [HK0.out];(try replace p:=p.below hh);(try replace q:=q.below hh);(try replace r:=r.below hh);(try replace XA:=XA.below hh);(try replace XB:=XB.below hh);(try replace XD:=XD.below hh);replace hb:=bend hb hh;obtain ⟨xa0,xa1,xa2,xa3,xa4,xa5⟩:=XA.all;obtain ⟨xb0,xb1,xb2,xb3,xb4,xb5⟩:=XB.all;obtain ⟨xd0,xd1,xd2,xd3,xd4,xd5⟩:=XD.all)
    | (go_at_call 29;(with_reducible refine (rcmp_q p.qx r.pr.qx (by decide) (by decide) (.inl (by decide)) (by decide) (by decide)).mono ?_);rintro e w_z ⟨rfl,hh⟩
       rw [HK1.out];(try replace p:=p.below hh);(try replace q:=q.below hh);(try replace r:=r.below hh);(try replace XA:=XA.below hh);(try replace XB:=XB.below hh);(try replace XD:=XD.below hh);replace hb:=bend hb hh;obtain ⟨xa0,xa1,xa2,xa3,xa4,xa5⟩:=XA.all;obtain ⟨xb0,xb1,xb2,xb3,xb4,xb5⟩:=XB.all;obtain ⟨xd0,xd1,xd2,xd3,xd4,xd5⟩:=XD.all)
    | (go_at_call 29;(with_reducible refine (rcmp_q p.qy q.pr.qy (by decide) (by decide) (.inl (by decide)) (by decide) (by decide)).mono ?_);rintro e w_z ⟨rfl,hh⟩
       rw [HK2.out];(try replace p:=p.below hh);(try replace q:=q.below hh);(try replace r:=r.below hh);(try replace XA:=XA.below hh);(try replace XB:=XB.below hh);(try replace XD:=XD.below hh);replace hb:=bend hb hh;obtain ⟨xa0,xa1,xa2,xa3,xa4,xa5⟩:=XA.all;obtain ⟨xb0,xb1,xb2,xb3,xb4,xb5⟩:=XB.all;obtain ⟨xd0,xd1,xd2,xd3,xd4,xd5⟩:=XD.all)
    | (go_at_call 29;(with_reducible refine (rcmp_q p.qy r.pr.qy (by decide) (by decide) (.inl (by decide)) (by decide) (by decide)).mono ?_);rintro e w_z ⟨rfl,hh⟩
       rw [HK3.out];(try replace p:=p.below hh);(try replace q:=q.below hh);(try replace r:=r.below hh);(try replace XA:=XA.below hh);(try replace XB:=XB.below hh);(try replace XD:=XD.below hh);replace hb:=bend hb hh;obtain ⟨xa0,xa1,xa2,xa3,xa4,xa5⟩:=XA.all;obtain ⟨xb0,xb1,xb2,xb3,xb4,xb5⟩:=XB.all;obtain ⟨xd0,xd1,xd2,xd3,xd4,xd5⟩:=XD.all))
   go_meet
   exact ⟨by have h5:=HF.out;subst h5;first | rfl | (simp;done) | (simp;omega),hb⟩
  have t3:K3≤0:=by rw [← HK3.out];exact (cmpQ_le).2 c3
  have HF:Hid (true=IN):=(HIN.out.2 ⟨c0,c1,c2,c3⟩).symm
  clear c0 c1 c2 c3
  go_wp2_with (first
   | (go_at_call 29;(with_reducible refine (rcmp_q p.qx q.pr.qx (by decide) (by decide) (.inl (by decide)) (by decide) (by decide)).mono ?_);rintro e w_z ⟨rfl,hh⟩
      rw [HK0.out];(try replace p:=p.below hh);(try replace q:=q.below hh);(try replace r:=r.below hh);(try replace XA:=XA.below hh);(try replace XB:=XB.below hh);(try replace XD:=XD.below hh);replace hb:=bend hb hh;obtain ⟨xa0,xa1,xa2,xa3,xa4,xa5⟩:=XA.all;obtain ⟨xb0,xb1,xb2,xb3,xb4,xb5⟩:=XB.all;obtain ⟨xd0,xd1,xd2,xd3,xd4,xd5⟩:=XD.all)
   | (go_at_call 29;(with_reducible refine (rcmp_q p.qx r.pr.qx (by decide) (by decide) (.inl (by decide)) (by decide) (by decide)).mono ?_);rintro e w_z ⟨rfl,hh⟩
      rw [HK1.out];(try replace p:=p.below hh);(try replace q:=q.below hh);(try replace r:=r.below hh);(try replace XA:=XA.below hh);(try replace XB:=XB.below hh);(try replace XD:=XD.below hh);replace hb:=bend hb hh;obtain ⟨xa0,xa1,xa2,xa3,xa4,xa5⟩:=XA.all;obtain ⟨xb0,xb1,xb2,xb3,xb4,xb5⟩:=XB.all;obtain ⟨xd0,xd1,xd2,xd3,xd4,xd5⟩:=XD.all)
   | (go_at_call 29;(with_reducible refine (rcmp_q p.qy q.pr.qy (by decide) (by decide) (.inl (by decide)) (by decide) (by decide)).mono ?_);rintro e w_z ⟨rfl,hh⟩
      rw [HK2.out];(try replace p:=p.below hh);(try replace q:=q.below hh);(try replace r:=r.below hh);(try replace XA:=XA.below hh);(try replace XB:=XB.below hh);(try replace XD:=XD.below hh);replace hb:=bend hb hh;obtain ⟨xa0,xa1,xa2,xa3,xa4,xa5⟩:=XA.all;obtain ⟨xb0,xb1,xb2,xb3,xb4,xb5⟩:=XB.all;obtain ⟨xd0,xd1,xd2,xd3,xd4,xd5⟩:=XD.all)
   | (go_at_call 29;(with_reducible refine (rcmp_q p.qy r.pr.qy (by decide) (by decide) (.inl (by decide)) (by decide) (by decide)).mono ?_);rintro e w_z ⟨rfl,hh⟩
      rw [HK3.out];(try replace p:=p.below hh);(try replace q:=q.below hh);(try replace r:=r.below hh);(try replace XA:=XA.below hh);(try replace XB:=XB.below hh);(try replace XD:=XD.below hh);replace hb:=bend hb hh;obtain ⟨xa0,xa1,xa2,xa3,xa4,xa5⟩:=XA.all;obtain ⟨xb0,xb1,xb2,xb3,xb4,xb5⟩:=XB.all;obtain ⟨xd0,xd1,xd2,xd3,xd4,xd5⟩:=XD.all))
  go_meet
  exact ⟨by have h5:=HF.out;subst h5;first | rfl | (simp;done) | (simp;omega),hb⟩
 case rest =>
  obtain ⟨rfl,hh⟩:=hcut
  replace hL:=hL.below hh;replace p:=p.below hh;replace XA:=XA.below hh;replace t:=t.below hh;replace XT:=XT.below hh;replace hb:=bend hb hh;clear q r XB XD hh xa0 xa1 xa2 xa3 xa4 xa5;have HL0:=Lib.hid hL;have P0:=Lib.hid p;have T0:=Lib.hid t
  have E1:=Lib.hid (Each.belowP E0.out hb)
  have hb0:=Lib.hid hb;have XA0:=Lib.hid XA;have XT0:=Lib.hid XT;clear hL p t hb XA XT
  go_wp2_with fail
  go_loopg [10] n (fun gk ix wr=>∃ (m:Nat),Hid (gk+m=n)∧ix=.int .i64 (m:Int)∧Below wc.heap.size wc wr)
  case atStart=>exact ⟨0,Nat.add_zero _,rfl,Below.refl _ _⟩
  case round =>
   obtain ⟨m,HG,rfl,hB⟩:=hrel
   have hb:=bend hb0.out hB
   by_cases hmn:m < n
   · have HMN:=Lib.hid hmn
     obtain ⟨P,u,hP1,hu1,q⟩:=(Each.belowP E1.out hB).at_ (i:=m) (by rw [HN.out];exact hmn)
     obtain ⟨g0,o0,hix0,E,_⟩:=(HL0.out.below hB).pt hP1
     have hixa:∀ w',(Instr.indexAt 22 (.slice A n c) (.int .i64 (m:Int))).run Tryz.prog w'=.ok (.pointer (some ⟨g0,o0,none⟩)) w':=fun w'=>hix0 n c w' hmn
     have hlt:(m:Int) < (n:Int):=by omega
     have hwr:IntKind.i64.wrap ((m:Int)+1)=(m:Int)+1:=IntWalk.i64_in _ (by omega)
     have HH:=Lib.hid (MATH.out.1 m u hu1)
     obtain ⟨ux,uy⟩:=u
     obtain ⟨s_q,A_q,n_q,c_q,B_q,m_q,d_q,t_q,E_q,i_q,e_q,F_q,j_q,f_q⟩:=P
     replace q:PR wr s_q A_q n_q c_q B_q m_q d_q t_q E_q i_q e_q F_q j_q f_q ux uy 4:=q
     obtain ⟨e0,e1,e2,e3,e4,e5⟩:=E.all
     simp only at e0 e1 e2 e3 e4 e5
     clear hP1 hu1 hix0 hmn
     go_wp2_with (first
      | (go_at_call 21;(with_reducible refine (has_t (HL0.out.below hB) (Each.belowP E1.out hB) q HN.out (by omega) hnc (by decide) (by decide) HH.out).mono ?_);rintro e w_z ⟨rfl,hh⟩
         replace hb:=bend hb hh;replace hB:=bend hB hh))
     go_roundg (gk - 1)
     case measure=>have:=HG.out;have:=HMN.out;omega
     case rel=>exact ⟨m+1,by have:=HG.out;have:=HMN.out;show _=_;omega,by go_num,hB⟩
   · have hlt:¬ (m:Int) < (n:Int):=by omega
     clear hmn;have XA:=XA0.out.below hB;have XT:=XT0.out.below hB;have p:=PR.below P0.out hB;have t:=T0.out.below hB;have hL:=HL0.out.below hB;have hE:=Each.belowP E1.out hB
     obtain ⟨K4,hK4⟩:∃ K,cmpQ (areaQ l) ((x1 - x0)*(y1 - y0))=K:=⟨_,rfl⟩
     have HK4:=Lib.hid hK4
     have hK4a:K4≤0:=by rw [← hK4];exact cmpQ_le.2 MATH.out.2.1
     obtain ⟨K5,hK5⟩:∃ K,sgnQ (areaQ l)=K:=⟨_,rfl⟩
     have HK5:=Lib.hid hK5
     have hK5a:0 < K5:=by rw [← hK5];exact sgnQ_pos.2 MATH.out.2.2.1
     have hArea:n*(4+4+(4+4)+1+2)+1+1≤400:=by omega
     have hArea2:n*(4+4+(4+4)+1+2)+2≤400:=by omega
     have HA:=Lib.hid hArea;have HA2:=Lib.hid hArea2;clear hK4 hK5 hArea hArea2
     go_upto_region 13 with (fail)
     replace XA:=XA.below (Below.refl _ _).drew
     replace XT:=XT.below (Below.refl _ _).drew
     replace p:=p.below (Below.refl _ _).drew
     replace t:=t.below (Below.refl _ _).drew
     replace hL:=hL.below (Below.refl _ _).drew
     replace hE:=Each.belowP hE (Below.refl _ _).drew
     replace hb:=hb.drew
     by_cases hhp:HasQ l px py
     · have HHP:=Lib.hid hhp
       have hin:IN=true:=HIN.out.2 (MATH.out.2.2.2 px py hhp)
       subst hin
       clear hhp
       go_region_held3 (fun w'=>w'.cell? ⟨w.heap.size,0,none⟩=some (.bool s_p)∧w'.cell? ⟨w.heap.size,1,none⟩=some (.slice A_p n_p c_p)∧w'.cell? ⟨w.heap.size,2,none⟩=some (.slice B_p m_p d_p)∧w'.cell? ⟨w.heap.size,3,none⟩=some (.bool t_p)∧w'.cell? ⟨w.heap.size,4,none⟩=some (.slice E_p i_p e_p)∧w'.cell? ⟨w.heap.size,5,none⟩=some (.slice F_p j_p f_p)∧w'.cell? ⟨g_t,0,none⟩=some (.bool s_t)∧w'.cell? ⟨g_t,1,none⟩=some (.slice A_t n_t c_t)∧w'.cell? ⟨g_t,2,none⟩=some (.slice B_t m_t d_t))
        (first | with_reducible exact ⟨XA.c0,XA.c1,XA.c2,XA.c3,XA.c4,XA.c5,XT.c0,XT.c1,XT.c2⟩)
        (first
        | (go_at_call 17;(with_reducible refine (area_p hL hE hn (by omega) hnc (by decide) (by decide) HA2.out).mono ?_);rintro e w_a ⟨s_a,A_a,n_a,c_a,B_a,m_a,d_a,rfl,a,hh⟩
           (try replace XA:=XA.below hh);(try replace XT:=XT.below hh);(try replace p:=p.below hh);(try replace t:=t.below hh);(try replace hL:=hL.below hh);(try replace a:=a.below hh);replace hb:=bend hb hh;replace hE:=Each.belowP hE hh)
        | (go_at_call 29;(with_reducible refine (rcmp_q a.qr t.qr HA.out (by decide) (.inl HA.out) (by omega) (by decide)).mono ?_);rintro e w_z ⟨rfl,hh⟩
           rw [HK4.out];(try replace XA:=XA.below hh);(try replace XT:=XT.below hh);(try replace p:=p.below hh);(try replace t:=t.below hh);(try replace hL:=hL.below hh);(try replace a:=a.below hh);replace hb:=bend hb hh;clear a;replace hE:=Each.belowP hE hh)
        | (go_at_call 31;(with_reducible refine (rsign_q a.qr (Nat.le_trans HA.out (by decide)) (by omega)).mono ?_);rintro e w_z ⟨rfl,hh⟩
           rw [HK5.out];(try replace XA:=XA.below hh);(try replace XT:=XT.below hh);(try replace p:=p.below hh);(try replace t:=t.below hh);(try replace hL:=hL.below hh);(try replace a:=a.below hh);replace hb:=bend hb hh;clear a;replace hE:=Each.belowP hE hh)
        | (go_at_call 21;(with_reducible refine (has_t hL (Each.moreP hE (by decide)) p hn (by omega) hnc (by decide) (by decide) HHP.out).mono ?_);rintro e w_z ⟨rfl,hh⟩
           (try replace XA:=XA.below hh);(try replace XT:=XT.below hh);(try replace p:=p.below hh);(try replace t:=t.below hh);(try replace hL:=hL.below hh);(try replace a:=a.below hh);replace hb:=bend hb hh;replace hE:=Each.belowP hE hh)
        | (go_at_call 10;(with_reducible refine (areawakes_any _).mono ?_);rintro e w_z ⟨rfl,hh⟩
           (try replace XA:=XA.below hh);(try replace XT:=XT.below hh);(try replace p:=p.below hh);(try replace t:=t.below hh);(try replace hL:=hL.below hh);(try replace a:=a.below hh);replace hb:=bend hb hh;replace hE:=Each.belowP hE hh))
       go_wp2_with fail
       (try rw [Exit.noGoto_ret])
       go_ret;exact ⟨rfl,hb⟩
     · have HHP:=Lib.hid hhp
       clear hhp
       refine wp_region_held_drew (S:=(fun w'=>w'.cell? ⟨w.heap.size,0,none⟩=some (.bool s_p)∧w'.cell? ⟨w.heap.size,1,none⟩=some (.slice A_p n_p c_p)∧w'.cell? ⟨w.heap.size,2,none⟩=some (.slice B_p m_p d_p)∧w'.cell? ⟨w.heap.size,3,none⟩=some (.bool t_p)∧w'.cell? ⟨w.heap.size,4,none⟩=some (.slice E_p i_p e_p)∧w'.cell? ⟨w.heap.size,5,none⟩=some (.slice F_p j_p f_p)∧w'.cell? ⟨g_t,0,none⟩=some (.bool s_t)∧w'.cell? ⟨g_t,1,none⟩=some (.slice A_t n_t c_t)∧w'.cell? ⟨g_t,2,none⟩=some (.slice B_t m_t d_t))) (by kernel_rfl) ⟨XA.c0,XA.c1,XA.c2,XA.c3,XA.c4,XA.c5,XT.c0,XT.c1,XT.c2⟩ (fun hHeld=>?_)
       refine wpAnyH_take (i:=0) (oi:=⟨some 88,.move (.tmp 0),22, "law.go:105",#[],none⟩) (v:=?_) rfl (by kernel_rfl) (by kernel_rfl) (by kernel_rfl) (fun _ _ _ h=>h) (Or.inl ⟨by rfl,?_⟩) hHeld ?_
       rotate_left
       · (intro w hSw;(try dsimp only at hSw);go_simp;try with_reducible rfl)
       simp only [Act.put,List.setIfInBounds_toArray,List.set_cons_zero,List.set_cons_succ]
       refine wpAnyH_take (i:=2) (oi:=⟨some 90,.load 27 (.tmp 8),27, "law.go:105",#[],none⟩) (v:=?_) rfl (by kernel_rfl) (by kernel_rfl) (by kernel_rfl) (fun _ _ _ h=>h) (Or.inl ⟨by rfl,?_⟩) hHeld ?_
       rotate_left
       · (intro w hSw;(try dsimp only at hSw);go_simp;try with_reducible rfl)
       simp only [Act.put,List.setIfInBounds_toArray,List.set_cons_zero,List.set_cons_succ]
       refine wpAnyH_ready (rs:=[1]) (by kernel_rfl) (by simp) ?_
       refine AllReadyH.cons (o:=⟨some 89,.call ⟨.value (.func 17),#[.tmp 88],#[22]⟩,27, "law.go:105",#[⟨0,.data⟩],none⟩) rfl (fun K1 hK1=>?_) AllReadyH.nil
       go_simp
       first
        | (go_at_call 17;(with_reducible refine (area_p hL hE hn (by omega) hnc (by decide) (by decide) HA2.out).mono ?_);rintro e w_a ⟨s_a,A_a,n_a,c_a,B_a,m_a,d_a,rfl,a,hh⟩
           (try replace XA:=XA.below hh);(try replace XT:=XT.below hh);(try replace p:=p.below hh);(try replace t:=t.below hh);(try replace hL:=hL.below hh);(try replace a:=a.below hh);replace hb:=bend hb hh;replace hE:=Each.belowP hE hh)
       refine hK1.out _ _ ⟨XA.c0,XA.c1,XA.c2,XA.c3,XA.c4,XA.c5,XT.c0,XT.c1,XT.c2⟩ (fun hHeld=>?_)
       clear hK1 K1
       refine wpAnyH_ready (rs:=[3]) (by kernel_rfl) (by simp) ?_
       refine AllReadyH.cons (o:=⟨some 91,.call ⟨.value (.func 29),#[.tmp 89,.tmp 90],#[27,27]⟩,3, "law.go:105",#[⟨1,.data⟩,⟨2,.data⟩,⟨1,.chain⟩],none⟩) rfl (fun K1 hK1=>?_) AllReadyH.nil
       go_simp
       first
        | (go_at_call 29;(with_reducible refine (rcmp_q a.qr t.qr HA.out (by decide) (.inl HA.out) (by omega) (by decide)).mono ?_);rintro e w_z ⟨rfl,hh⟩
           rw [HK4.out];(try replace XA:=XA.below hh);(try replace XT:=XT.below hh);(try replace p:=p.below hh);(try replace t:=t.below hh);(try replace hL:=hL.below hh);(try replace a:=a.below hh);replace hb:=bend hb hh;clear a;replace hE:=Each.belowP hE hh)
       refine hK1.out _ _ ⟨XA.c0,XA.c1,XA.c2,XA.c3,XA.c4,XA.c5,XT.c0,XT.c1,XT.c2⟩ (fun hHeld=>?_)
       clear hK1 K1
       refine wpAnyH_take (i:=4) (oi:=⟨some 92,.binOp BinOp.leq 3 (.tmp 91) (.const (Value.int IntKind.i64 0)) 3,4, "law.go:105",#[⟨3,.data⟩],none⟩) (v:=?_) rfl (by kernel_rfl) (by kernel_rfl) (by kernel_rfl) (fun _ _ _ h=>h) (Or.inl ⟨by rfl,?_⟩) hHeld ?_
       rotate_left
       · (intro w hSw;(try dsimp only at hSw);go_simp;try with_reducible rfl)
       simp only [Act.put,List.setIfInBounds_toArray,List.set_cons_zero,List.set_cons_succ]
       refine wpAnyH_take (i:=5) (oi:=⟨some 93,.move (.tmp 92),4, "law.go:105",#[⟨4,.data⟩,⟨3,.chain⟩],none⟩) (v:=?_) rfl (by kernel_rfl) (by kernel_rfl) (by kernel_rfl) (fun _ _ _ h=>h) (Or.inl ⟨by rfl,?_⟩) hHeld ?_
       rotate_left
       · (intro w hSw;(try dsimp only at hSw);go_simp;try with_reducible rfl)
       simp only [Act.put,List.setIfInBounds_toArray,List.set_cons_zero,List.set_cons_succ]
       refine wpAnyH_take (i:=6) (oi:=⟨some 94,.move (.tmp 0),22, "law.go:105",#[⟨5,.guard⟩],some (5,true)⟩) (v:=?_) rfl (by kernel_rfl) (by kernel_rfl) (by kernel_rfl) (fun _ _ _ h=>h) (Or.inl ⟨by rfl,?_⟩) hHeld ?_
       rotate_left
       · (intro w hSw;(try dsimp only at hSw);go_simp;try with_reducible rfl)
       simp only [Act.put,List.setIfInBounds_toArray,List.set_cons_zero,List.set_cons_succ]
       refine wpAnyH_ready (rs:=[7]) (by kernel_rfl) (by simp) ?_
       refine AllReadyH.cons (o:=⟨some 95,.call ⟨.value (.func 17),#[.tmp 94],#[22]⟩,27, "law.go:105",#[⟨6,.data⟩,⟨5,.chain⟩,⟨5,.guard⟩],some (5,true)⟩) rfl (fun K1 hK1=>?_) AllReadyH.nil
       go_simp
       first
        | (go_at_call 17;(with_reducible refine (area_p hL hE hn (by omega) hnc (by decide) (by decide) HA2.out).mono ?_);rintro e w_a ⟨s_a,A_a,n_a,c_a,B_a,m_a,d_a,rfl,a,hh⟩
           (try replace XA:=XA.below hh);(try replace XT:=XT.below hh);(try replace p:=p.below hh);(try replace t:=t.below hh);(try replace hL:=hL.below hh);(try replace a:=a.below hh);replace hb:=bend hb hh;replace hE:=Each.belowP hE hh)
       refine hK1.out _ _ ⟨XA.c0,XA.c1,XA.c2,XA.c3,XA.c4,XA.c5,XT.c0,XT.c1,XT.c2⟩ (fun hHeld=>?_)
       clear hK1 K1
       refine wpAnyH_ready (rs:=[8]) (by kernel_rfl) (by simp) ?_
       refine AllReadyH.cons (o:=⟨some 96,.call ⟨.value (.func 31),#[.tmp 95],#[27]⟩,3, "law.go:105",#[⟨7,.data⟩,⟨7,.chain⟩,⟨5,.guard⟩],some (5,true)⟩) rfl (fun K1 hK1=>?_) AllReadyH.nil
       go_simp
       first
        | (go_at_call 31;(with_reducible refine (rsign_q a.qr (Nat.le_trans HA.out (by decide)) (by omega)).mono ?_);rintro e w_z ⟨rfl,hh⟩
           rw [HK5.out];(try replace XA:=XA.below hh);(try replace XT:=XT.below hh);(try replace p:=p.below hh);(try replace t:=t.below hh);(try replace hL:=hL.below hh);(try replace a:=a.below hh);replace hb:=bend hb hh;clear a;replace hE:=Each.belowP hE hh)
       refine hK1.out _ _ ⟨XA.c0,XA.c1,XA.c2,XA.c3,XA.c4,XA.c5,XT.c0,XT.c1,XT.c2⟩ (fun hHeld=>?_)
       clear hK1 K1
       refine wpAnyH_take (i:=9) (oi:=⟨some 97,.binOp BinOp.gtr 3 (.tmp 96) (.const (Value.int IntKind.i64 0)) 3,4, "law.go:105",#[⟨8,.data⟩,⟨5,.guard⟩],some (5,true)⟩) (v:=?_) rfl (by kernel_rfl) (by kernel_rfl) (by kernel_rfl) (fun _ _ _ h=>h) (Or.inl ⟨by rfl,?_⟩) hHeld ?_
       rotate_left
       · (intro w hSw;(try dsimp only at hSw);go_simp;try with_reducible rfl)
       simp only [Act.put,List.setIfInBounds_toArray,List.set_cons_zero,List.set_cons_succ]
       refine wpAnyH_take (i:=10) (oi:=⟨some 98,.pick (.tmp 93) (.tmp 97) (.const (Value.bool false)),4, "law.go:105",#[⟨5,.data⟩,⟨9,.data⟩],none⟩) (v:=?_) rfl (by kernel_rfl) (by kernel_rfl) (by kernel_rfl) (fun _ _ _ h=>h) (Or.inl ⟨by rfl,?_⟩) hHeld ?_
       rotate_left
       · (intro w hSw;(try dsimp only at hSw);go_simp;try with_reducible rfl)
       simp only [Act.put,List.setIfInBounds_toArray,List.set_cons_zero,List.set_cons_succ]
       refine wpAnyH_take (i:=11) (oi:=⟨some 99,.move (.tmp 98),4, "law.go:105",#[⟨10,.data⟩,⟨8,.chain⟩],none⟩) (v:=?_) rfl (by kernel_rfl) (by kernel_rfl) (by kernel_rfl) (fun _ _ _ h=>h) (Or.inl ⟨by rfl,?_⟩) hHeld ?_
       rotate_left
       · (intro w hSw;(try dsimp only at hSw);go_simp;try with_reducible rfl)
       simp only [Act.put,List.setIfInBounds_toArray,List.set_cons_zero,List.set_cons_succ]
       refine wpAnyH_take (i:=12) (oi:=⟨some 100,.move (.tmp 0),22, "law.go:105",#[⟨11,.guard⟩],some (11,true)⟩) (v:=?_) rfl (by kernel_rfl) (by kernel_rfl) (by kernel_rfl) (fun _ _ _ h=>h) (Or.inl ⟨by rfl,?_⟩) hHeld ?_
       rotate_left
       · (intro w hSw;(try dsimp only at hSw);go_simp;try with_reducible rfl)
       simp only [Act.put,List.setIfInBounds_toArray,List.set_cons_zero,List.set_cons_succ]
       refine wpAnyH_take (i:=13) (oi:=⟨some 101,.load 29 (.tmp 3),29, "law.go:105",#[⟨11,.guard⟩],some (11,true)⟩) (v:=?_) rfl (by kernel_rfl) (by kernel_rfl) (by kernel_rfl) (fun _ _ _ h=>h) (Or.inl ⟨by rfl,?_⟩) hHeld ?_
       rotate_left
       · (intro w hSw;(try dsimp only at hSw);go_simp;try with_reducible rfl)
       simp only [Act.put,List.setIfInBounds_toArray,List.set_cons_zero,List.set_cons_succ]
       refine wpAnyH_ready (rs:=[14]) (by kernel_rfl) (by simp) ?_
       refine AllReadyH.cons (o:=⟨some 102,.call ⟨.value (.func 21),#[.tmp 100,.tmp 101],#[22,29]⟩,4, "law.go:105",#[⟨12,.data⟩,⟨13,.data⟩,⟨11,.chain⟩,⟨11,.guard⟩],some (11,true)⟩) rfl (fun K1 hK1=>?_) AllReadyH.nil
       go_simp
       first
        | (go_at_call 21;(with_reducible refine (has_f hL (Each.moreP hE (by decide)) p hn (by omega) hnc (by decide) (by decide) HHP.out).mono ?_);rintro e w_z ⟨rfl,hh⟩
           (try replace XA:=XA.below hh);(try replace XT:=XT.below hh);(try replace p:=p.below hh);(try replace t:=t.below hh);(try replace hL:=hL.below hh);(try replace a:=a.below hh);replace hb:=bend hb hh;replace hE:=Each.belowP hE hh)
       refine hK1.out _ _ ⟨XA.c0,XA.c1,XA.c2,XA.c3,XA.c4,XA.c5,XT.c0,XT.c1,XT.c2⟩ (fun hHeld=>?_)
       clear hK1 K1
       refine wpAnyH_take (i:=15) (oi:=⟨some 103,.unOp UnOp.not 4 (.tmp 102),4, "law.go:105",#[⟨14,.data⟩,⟨11,.guard⟩],some (11,true)⟩) (v:=?_) rfl (by kernel_rfl) (by kernel_rfl) (by kernel_rfl) (fun _ _ _ h=>h) (Or.inl ⟨by rfl,?_⟩) hHeld ?_
       rotate_left
       · (intro w hSw;(try dsimp only at hSw);go_simp;try with_reducible rfl)
       simp only [Act.put,List.setIfInBounds_toArray,List.set_cons_zero,List.set_cons_succ]
       refine wpAnyH_take (i:=16) (oi:=⟨some 104,.move (.tmp 103),4, "law.go:105",#[⟨15,.data⟩,⟨14,.chain⟩,⟨11,.guard⟩],some (11,true)⟩) (v:=?_) rfl (by kernel_rfl) (by kernel_rfl) (by kernel_rfl) (fun _ _ _ h=>h) (Or.inl ⟨by rfl,?_⟩) hHeld ?_
       rotate_left
       · (intro w hSw;(try dsimp only at hSw);go_simp;try with_reducible rfl)
       simp only [Act.put,List.setIfInBounds_toArray,List.set_cons_zero,List.set_cons_succ]
       refine wpAnyH_take (i:=17) (oi:=⟨some 105,.move (.tmp 9),4, "law.go:105",#[⟨16,.guard⟩],some (16,false)⟩) (v:=undef) rfl (by kernel_rfl) (by kernel_rfl) (by kernel_rfl) (fun _ _ _ h=>h) (Or.inr ⟨by rfl,rfl⟩) hHeld ?_
       simp only [Act.put,List.setIfInBounds_toArray,List.set_cons_zero,List.set_cons_succ]
       refine wpAnyH_take (i:=18) (oi:=⟨some 106,.pick (.tmp 104) (.const (Value.bool true)) (.tmp 105),4, "law.go:105",#[⟨16,.data⟩,⟨17,.data⟩,⟨11,.guard⟩],some (11,true)⟩) (v:=?_) rfl (by kernel_rfl) (by kernel_rfl) (by kernel_rfl) (fun _ _ _ h=>h) (Or.inl ⟨by rfl,?_⟩) hHeld ?_
       rotate_left
       · (intro w hSw;(try dsimp only at hSw);go_simp;try with_reducible rfl)
       simp only [Act.put,List.setIfInBounds_toArray,List.set_cons_zero,List.set_cons_succ]
       refine wpAnyH_take (i:=19) (oi:=⟨some 107,.pick (.tmp 99) (.tmp 106) (.const (Value.bool false)),4, "law.go:105",#[⟨11,.data⟩,⟨18,.data⟩],none⟩) (v:=?_) rfl (by kernel_rfl) (by kernel_rfl) (by kernel_rfl) (fun _ _ _ h=>h) (Or.inl ⟨by rfl,?_⟩) hHeld ?_
       rotate_left
       · (intro w hSw;(try dsimp only at hSw);go_simp;try with_reducible rfl)
       simp only [Act.put,List.setIfInBounds_toArray,List.set_cons_zero,List.set_cons_succ]
       refine wpAnyH_take (i:=20) (oi:=⟨some 108,.move (.tmp 107),4, "law.go:105",#[⟨19,.data⟩,⟨16,.chain⟩],none⟩) (v:=?_) rfl (by kernel_rfl) (by kernel_rfl) (by kernel_rfl) (fun _ _ _ h=>h) (Or.inl ⟨by rfl,?_⟩) hHeld ?_
       rotate_left
       · (intro w hSw;(try dsimp only at hSw);go_simp;try with_reducible rfl)
       simp only [Act.put,List.setIfInBounds_toArray,List.set_cons_zero,List.set_cons_succ]
       refine wpAnyH_ready (rs:=[21]) (by kernel_rfl) (by simp) ?_
       refine AllReadyH.cons (o:=⟨some 109,.call ⟨.value (.func 10),#[],#[]⟩,4, "law.go:105",#[⟨20,.chain⟩,⟨20,.guard⟩],some (20,true)⟩) rfl (fun K1 hK1=>?_) AllReadyH.nil
       go_simp
       first
        | (go_at_call 10;(with_reducible refine (areawakes_any _).mono ?_);rintro e w_z ⟨rfl,hh⟩
           (try replace XA:=XA.below hh);(try replace XT:=XT.below hh);(try replace p:=p.below hh);(try replace t:=t.below hh);(try replace hL:=hL.below hh);(try replace a:=a.below hh);replace hb:=bend hb hh;replace hE:=Each.belowP hE hh)
       refine hK1.out _ _ ⟨XA.c0,XA.c1,XA.c2,XA.c3,XA.c4,XA.c5,XT.c0,XT.c1,XT.c2⟩ (fun hHeld=>?_)
       clear hK1 K1
       refine wpAnyH_take (i:=22) (oi:=⟨some 110,.pick (.tmp 108) (.tmp 109) (.const (Value.bool false)),4, "law.go:105",#[⟨20,.data⟩,⟨21,.data⟩],none⟩) (v:=?_) rfl (by kernel_rfl) (by kernel_rfl) (by kernel_rfl) (fun _ _ _ h=>h) (Or.inl ⟨by rfl,?_⟩) hHeld ?_
       rotate_left
       · (intro w hSw;(try dsimp only at hSw);go_simp;try with_reducible rfl)
       simp only [Act.put,List.setIfInBounds_toArray,List.set_cons_zero,List.set_cons_succ]
       refine wpAnyH_take (i:=23) (oi:=⟨some 4,.assign (.tmp 110),4, "law.go:105",#[⟨22,.data⟩,⟨21,.chain⟩,⟨0,.phase⟩,⟨1,.phase⟩,⟨2,.phase⟩,⟨3,.phase⟩,⟨4,.phase⟩,⟨5,.phase⟩,⟨6,.phase⟩,⟨7,.phase⟩,⟨8,.phase⟩,⟨9,.phase⟩,⟨10,.phase⟩,⟨11,.phase⟩,⟨12,.phase⟩,⟨13,.phase⟩,⟨14,.phase⟩,⟨15,.phase⟩,⟨16,.phase⟩,⟨17,.phase⟩,⟨18,.phase⟩,⟨19,.phase⟩,⟨20,.phase⟩,⟨21,.phase⟩,⟨22,.phase⟩],none⟩) (v:=?_) rfl (by kernel_rfl) (by kernel_rfl) (by kernel_rfl) (fun _ _ _ h=>h) (Or.inl ⟨by rfl,?_⟩) hHeld ?_
       rotate_left
       · (intro w hSw;(try dsimp only at hSw);go_simp;try with_reducible rfl)
       simp only [Act.put,List.setIfInBounds_toArray,List.set_cons_zero,List.set_cons_succ]
       refine wpAnyH_done (by kernel_rfl) ?_ _
       clear hHeld
       go_wp2_with fail
       (try rw [Exit.noGoto_ret])
       go_ret;exact ⟨rfl,hb⟩
theorem law_boxes {A:Option Addr} {n c:Nat} {L:List PV} (hL:SV w A (pvs L)) (hn:L.length=n) (hnc:n≤c) (hR:∀ q ∈ L,q.Raw w) {l1 l2 l3 l4:List Nat} (r1:Rd .u64 w A_p n_p l1) (r2:Rd .u64 w B_p m_p l2) (r3:Rd .u64 w E_p i_p l3) (r4:Rd .u64 w F_p j_p l4) (t1:Lim B64 l1) (t2:Lim B64 l2) (t3:Lim B64 l3) (t4:Lim B64 l4) (e1:n_p≤c_p) (e2:m_p≤d_p) (e3:i_p≤e_p) (e4:j_p≤f_p) :
 Calls Tryz.prog 7 #[.slice A n c,.agg #[.bool s_p,.slice A_p n_p c_p,.slice B_p m_p d_p,.bool t_p,.slice E_p i_p e_p,.slice F_p j_p f_p]] w fun e w'=>e=.returned (.bool true)∧Below w.heap.size w w':=by
 by_cases h:n≤10
 · by_cases h2:∀ q ∈ L,q.small 4
   · by_cases h3:((n_p≤6∧m_p≤6)∧i_p≤6∧j_p≤6)
     · obtain ⟨l,hE⟩:=raw_each hR h2
       by_cases h4:ConvQ l
       · exact boxes_5 hL hn hnc hE ⟨QR.of_rd r1 t1 e1 r2 t2 e2 h3.1.1 h3.1.2,QR.of_rd r3 t3 e3 r4 t4 e4 h3.2.1 h3.2.2⟩ h h2 h3 h4
       · exact boxes_4 hL hn hnc hE h h2 h3 h4
     · exact boxes_3 hL hn hnc h h2 h3
   · exact boxes_2 hL hn hnc h h2
 · exact boxes_1 hL hn hnc h
end Go.Proofs.YtghmejlikfiegaaGreat
