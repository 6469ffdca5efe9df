/- AreaCuts: part 17. -/
import Derived.Test.YthbhngeiiabagaaGreatKAreaCuts14
import Derived.Test.YthbhngeiiabagaaGreatKAreaCuts15
import Derived.Test.YthbhngeiiabagaaGreatKAreaCuts16
set_option linter.unusedVariables false
set_option maxRecDepth 100000
set_option maxHeartbeats 16000000
variable {w:Go.World}
variable {s_a t_a:Bool} {A_a B_a E_a F_a:Option Go.Addr} {n_a c_a m_a d_a i_a e_a j_a f_a:Nat}
variable {s_b t_b:Bool} {A_b B_b E_b F_b:Option Go.Addr} {n_b c_b m_b d_b i_b e_b j_b f_b:Nat}
variable {s_p t_p:Bool} {A_p B_p E_p F_p:Option Go.Addr} {n_p c_p m_p d_p i_p e_p j_p f_p:Nat}
variable {s_q t_q:Bool} {A_q B_q E_q F_q:Option Go.Addr} {n_q c_q m_q d_q i_q e_q j_q f_q:Nat}
namespace Go.Proofs.YthbhngeiiabagaaGreat
section
open Go Go.RowKit
theorem Qns {A:Option Addr} {n c k k2 ka:Nat} {L:List PV} {l:List (Rat × Rat)} {ax ay bx by_:Rat} (hL:SV w A (pvs L)) (hE:Each PV.PR w L l k) (a:PR w s_a A_a n_a c_a B_a m_a d_a t_a E_a i_a e_a F_a j_a f_a ax ay k2) (b:PR w s_b A_b n_b c_b B_b m_b d_b t_b E_b i_b e_b F_b j_b f_b bx by_ k2) (hn:L.length=n) (hm:n≤1000) (hnc:n≤c) (h1:1≤k) (h2:1≤k2) (hk:k2+k2+1+(k+k2+1)≤20000) (hk6:k≤60) (hka:ka=(k2+k2+1+(k+k2+1)+(k2+k2+1+(k+k2+1))+1)) (hka2:ka+(ka+ka+1)≤170) :
 Calls Tryz.prog 11 #[.slice A n c,.agg #[.bool s_a,.slice A_a n_a c_a,.slice B_a m_a d_a,.bool t_a,.slice E_a i_a e_a,.slice F_a j_a f_a],.agg #[.bool s_b,.slice A_b n_b c_b,.slice B_b m_b d_b,.bool t_b,.slice E_b i_b e_b,.slice F_b j_b f_b]] w (QsV w (QaH (QaN ax ay bx by_) l) (k+(k+k+1+(ka+(ka+ka+1)))+1)):=by
 have HN:=Lib.hid hn
 have HNl:Hid (l.length=n):=hE.1.symm.trans hn
 have HKA:=Lib.hid hka
 have hka1:1≤ka:=by omega
 clear hka
 go_enter Tryz.func11,Tryz.ntmps11
 go_upto_region 1 with (fail)
 generalize hW:World.alloc _ _=W
 obtain ⟨hb,XA,XB,hzW⟩:=Qbn hW;clear hW;replace hL:=hL.below hb;replace a:=a.below hb;replace b:=b.below hb;obtain ⟨xa0,xa1,xa2,xa3,xa4,xa5⟩:=XA.all;obtain ⟨xb0,xb1,xb2,xb3,xb4,xb5⟩:=XB.all
 replace hE:=hE.imp (fun p u h=>PR.below h hb)
 go_upto_region 3 with (first
  | (go_at_call 28;(with_reducible refine (QpW hL hE a b hn hm h1 h2 hk).mono ?_);rintro e w_y ⟨gW,M,rfl,hgW,hW,hM,hQ,hb1⟩
     have hWS:=hW.sv)
  | (go_at_call 27;(with_reducible refine (Qqh hWS hM (by omega) (Nat.le_refl _) (Nat.le_trans hb.size hb1.size)).mono ?_);rintro e w_c ⟨A1,c1,rfl,hR1_,hh⟩
     replace hb:=Qaj (Qaj hb hb1) hh))
 have E0:Hid (EachC w_c M l (QaN ax ay bx by_) k ka):=by rw [HKA.out];exact hQ.below hh
 rw [show n+min 1 n=(Qav M).length by unfold Qav;rw [List.length_append,List.length_take,hM,Nat.min_comm]]
 have HR1:Hid ((Qav M).length=n+min 1 n):=by show _=_;unfold Qav;rw [List.length_append,List.length_take,hM,Nat.min_comm]
 generalize hN1:(Qav M).length=N1 at HR1 ⊢
 have HR2:=Lib.hid hN1
 have hR0:SNr 67 w.heap.size n (cvs (Qav M)) w_c A1:=hR1_
 clear hN1 hL hE hWS hW hQ hb1 hh hR1_ hM a b XA XB
 go_wp2_with fail
 go_loopg [7,19] n (fun gk out ix wr=>∃ (M':List PV) (m:Nat),Hid (gk+m=n)∧ix=.int .i64 (m:Int)∧Ln 29 w_c.heap.size wr out M'∧Hid (M'.length≤2*m)∧Hid (Each PV.PG wr M' (QcI (QaN ax ay bx by_) (Qav l) m) (k+(k+k+1+(ka+(ka+ka+1)))+1))∧Below w_c.heap.size w_c wr)
 case atStart=>exact ⟨[],0,Nat.add_zero _,rfl,Ln.nil _ _ _,by show _≤_;simp,Each.nil,Below.refl _ _⟩
 case round =>
  obtain ⟨M',m,HG,rfl,LT,HLn,HQ,hB⟩:=hrel
  by_cases hmn:m < n
  · have HMN:=Lib.hid hmn
    obtain ⟨P,u,hP1,hu1,p0,a0⟩:=E0.out.ring.at_ (i:=m) (by have h:=HR1.out;have h2:=HR2.out;rw [h2,h];omega)
    obtain ⟨Q,v,hP2,hu2,q0,b0⟩:=E0.out.ring.at_ (i:=m+1) (by have h:=HR1.out;have h2:=HR2.out;rw [h2,h];omega)
    obtain ⟨g0,o0,hix0,Ep,_⟩:=((hR0.below hB).sv (by omega)).ct hP1
    obtain ⟨g1,o1,hix1,Eq,_⟩:=((hR0.below hB).sv (by omega)).ct hP2
    have hixa:∀ w',(Instr.indexAt 64 (.slice A1 N1 c1) (.int .i64 (m:Int))).run Tryz.prog w'=.ok (.pointer (some ⟨g0,o0,none⟩)) w':=fun w'=>hix0 N1 c1 w' (by have:=HR1.out;omega)
    have hixb:∀ w',(Instr.indexAt 64 (.slice A1 N1 c1) (.int .i64 ((m:Int)+1))).run Tryz.prog w'=.ok (.pointer (some ⟨g1,o1,none⟩)) w':=fun w'=>hix1 N1 c1 w' (by have:=HR1.out;omega)
    have hwr:IntKind.i64.wrap ((m:Int)+1)=(m:Int)+1:=IntWalk.i64_in _ (by omega)
    have hlt:(m:Int) < (n:Int):=by omega
    have HS0:=QgU (f:=(QaN ax ay bx by_)) hu1 hu2
    unfold QaM at HS0
    have hMl:M'.length≤1000000:=by have:=HLn.out;omega
    generalize hfu:(QaN ax ay bx by_) u=fu at a0 HS0
    generalize hfv:(QaN ax ay bx by_) v=fv at b0 HS0
    have HS:=Lib.hid HS0;clear HS0
    obtain ⟨ux,uy⟩:=u
    obtain ⟨vx,vy⟩:=v
    obtain ⟨⟨s_p,A_p,n_p,c_p,B_p,m_p,d_p,t_p,E_p,i_p,e_p,F_p,j_p,f_p⟩,⟨s_a,A_a,n_a,c_a,B_a,m_a,d_a⟩⟩:=P
    obtain ⟨⟨s_q,A_q,n_q,c_q,B_q,m_q,d_q,t_q,E_q,i_q,e_q,F_q,j_q,f_q⟩,⟨s_b,A_b,n_b,c_b,B_b,m_b,d_b⟩⟩:=Q
    replace p0:PR w_c s_p A_p n_p c_p B_p m_p d_p t_p E_p i_p e_p F_p j_p f_p ux uy k:=p0
    replace q0:PR w_c s_q A_q n_q c_q B_q m_q d_q t_q E_q i_q e_q F_q j_q f_q vx vy k:=q0
    replace a0:QG w_c s_a A_a n_a c_a B_a m_a d_a fu ka:=a0
    replace b0:QG w_c s_b A_b n_b c_b B_b m_b d_b fv ka:=b0
    have P0:=Lib.hid p0;have Q0:=Lib.hid q0;have A0:=Lib.hid a0;have B0:=Lib.hid b0
    obtain ⟨K1,hK1⟩:∃ K,Qck fu=K:=⟨_,rfl⟩
    obtain ⟨K2,hK2⟩:∃ K,Qck fv=K:=⟨_,rfl⟩
    have HK1:=Lib.hid hK1;have HK2:=Lib.hid hK2
    have hw12:IntKind.i64.wrap (K1*K2)=K1*K2:=by rw [← hK1,← hK2];exact Qjx fu fv
    have hL0:=LT;clear hP1 hP2 hu1 hu2 hix0 hix1 hmn hK1 hK2 hfu hfv p0 q0 a0 b0
    go_upto_region 6 with (fail)
    refine Qi3 (by simp) rfl rfl Ep Eq hixa hixb hwr ?_
    intro V w_b gX gY X hgX hv10 Y hgY hv11 hXY hh
    simp only [Qam,Act.put,List.setIfInBounds_toArray,List.set_cons_zero,List.set_cons_succ,hv10,hv11]
    have hXo:∀ g,u7.ownBlock=some g→g ≠ gX:=fun g hg=>by have:=LT.own_lt hg;omega
    have hYo:∀ g,u7.ownBlock=some g→g ≠ gY:=fun g hg=>by have:=LT.own_lt hg;omega
    clear hv10 hv11 Ep Eq hixa hixb hL0;replace LT:=LT.below hh
    replace HQ:=Lib.hid (Each.below HQ.out hh)
    replace hB:=Qaj hB hh;have p:=PR.below P0.out hB;have a:=QG.below A0.out hB;have q:=PR.below Q0.out hB;have b:=QG.below B0.out hB;have x0:=X.c0;have y0:=Y.c0;have x1:=X.c1;have y1:=Y.c1;have x2:=X.c2;have y2:=Y.c2;have x3:=X.c3;have y3:=Y.c3;have x4:=X.c4;have y4:=Y.c4;have x5:=X.c5;have y5:=Y.c5;have x6:=X.c6;have y6:=Y.c6;have x7:=X.c7;have y7:=Y.c7;have x8:=X.c8;have y8:=Y.c8
    by_cases hx1:0≤fu
    · have hk1:0≤K1:=by rw [← HK1.out];exact (QhP fu).2 hx1
      have HX1:=Lib.hid hx1;clear hx1
      go_upto_region 9 with (first
       | (go_at_call 15;(with_reducible refine (QbI a.qr (by omega) (by omega)).mono ?_);rintro e w_z ⟨rfl,hh⟩
          rw [HK1.out];(try replace p:=p.below hh);(try replace a:=a.below hh);(try replace q:=q.below hh);(try replace b:=b.below hh);(try replace LT:=LT.below hh);(try replace X:=X.below hh);(try replace Y:=Y.below hh)
          replace HQ:=Lib.hid (Each.below HQ.out hh)
          replace hB:=Qaj hB hh;have x0:=X.c0;have y0:=Y.c0;have x1:=X.c1;have y1:=Y.c1;have x2:=X.c2;have y2:=Y.c2;have x3:=X.c3;have y3:=Y.c3;have x4:=X.c4;have y4:=Y.c4;have x5:=X.c5;have y5:=Y.c5;have x6:=X.c6;have y6:=Y.c6;have x7:=X.c7;have y7:=Y.c7;have x8:=X.c8;have y8:=Y.c8)
       | (go_at_call 29;(with_reducible refine (Qie p (by omega) h1).mono ?_);rintro e w_r ⟨s_r,A_r,n_r,c_r,B_r,m_r,d_r,t_r,E_r,i_r,e_r,F_r,j_r,f_r,rfl,r,hh⟩
          (try replace p:=p.below hh);(try replace a:=a.below hh);(try replace q:=q.below hh);(try replace b:=b.below hh);(try replace LT:=LT.below hh);(try replace X:=X.below hh);(try replace Y:=Y.below hh)
          replace HQ:=Lib.hid (Each.below HQ.out hh)
          replace hB:=Qaj hB hh;have x0:=X.c0;have y0:=Y.c0;have x1:=X.c1;have y1:=Y.c1;have x2:=X.c2;have y2:=Y.c2;have x3:=X.c3;have y3:=Y.c3;have x4:=X.c4;have y4:=Y.c4;have x5:=X.c5;have y5:=Y.c5;have x6:=X.c6;have y6:=Y.c6;have x7:=X.c7;have y7:=Y.c7;have x8:=X.c8;have y8:=Y.c8)
       | (at_builtin
          have hal:Below w_r.heap.size w_r (w_r.alloc (Obj.cells #[Value.bool s_r,Value.slice A_r n_r c_r,Value.slice B_r m_r d_r,Value.bool t_r,Value.slice E_r i_r e_r,Value.slice F_r j_r f_r] 29)):=(Below.refl _ _).alloc (Nat.le_refl _) _
          refine Qdo Tryz.underlying22 QiK rfl (.tmp 35) (.tmp 39) rfl (p:=(PV.mk s_r A_r n_r c_r B_r m_r d_r t_r E_r i_r e_r F_r j_r f_r)) (k0:=1) (b:=w_r.heap.size) rfl rfl (LT.below hal) (Nat.le_trans hB.size hal.size) (by omega) (heap_alloc_new w_r _) ?_
          intro v_r w3r hnr hgr))
      have hE3:Each PV.PG (w_r.alloc (Obj.cells #[Value.bool s_r,Value.slice A_r n_r c_r,Value.slice B_r m_r d_r,Value.bool t_r,Value.slice E_r i_r e_r,Value.slice F_r j_r f_r] 29)) _ _ (k+(k+k+1+(ka+(ka+ka+1)))+1):=Each.below HQ.out hal
      have hp3:PV.PG (w_r.alloc (Obj.cells #[Value.bool s_r,Value.slice A_r n_r c_r,Value.slice B_r m_r d_r,Value.bool t_r,Value.slice E_r i_r e_r,Value.slice F_r j_r f_r] 29)) (PV.mk s_r A_r n_r c_r B_r m_r d_r t_r E_r i_r e_r F_r j_r f_r) (ux,uy) (k+(k+k+1+(ka+(ka+ka+1)))+1):=PG.more (PG.below r hal) (by omega)
      have hst:=Each.stays hE3 (LT.below hal) hgr
      replace X:=(X.below hal).push hgr hXo
      replace Y:=(Y.below hal).push hgr hYo
      replace hB:=Ln.under (LT.below hal) hgr (Qaj hB hal) (Nat.le_refl _)
      have HQ2:=Lib.hid (Each.push hE3 hst (hst _ _ hp3))
      clear hE3 hp3 hst r;have HLr:=Lib.hid hnr;replace LT:=hnr;clear hgr hal;replace HQ:=HQ2;clear hXo hYo hnr;replace p:=PR.below P0.out hB;replace a:=QG.below A0.out hB;replace q:=PR.below Q0.out hB;replace b:=QG.below B0.out hB
      have hMr:(M' ++ [(PV.mk s_r A_r n_r c_r B_r m_r d_r t_r E_r i_r e_r F_r j_r f_r)]).length≤1000000:=by have:=HLn.out;have:=HMN.out;rw [List.length_append];show M'.length+1≤_;omega
      replace p:=p.below (Below.refl _ _).drew
      replace a:=a.below (Below.refl _ _).drew
      replace q:=q.below (Below.refl _ _).drew
      replace b:=b.below (Below.refl _ _).drew
      replace LT:=LT.below (Below.refl _ _).drew
      replace X:=X.below (Below.refl _ _).drew
      replace Y:=Y.below (Below.refl _ _).drew
      replace HQ:=Lib.hid (Each.below HQ.out (Below.refl _ _).drew)
      replace hB:=hB.drew
      go_region_held3 (fun w'=>w'.cell? ⟨gX,6,none⟩=some (.bool s_a)∧w'.cell? ⟨gX,7,none⟩=some (.slice A_a n_a c_a)∧w'.cell? ⟨gX,8,none⟩=some (.slice B_a m_a d_a)∧w'.cell? ⟨gY,6,none⟩=some (.bool s_b)∧w'.cell? ⟨gY,7,none⟩=some (.slice A_b n_b c_b)∧w'.cell? ⟨gY,8,none⟩=some (.slice B_b m_b d_b))
       (first | with_reducible exact ⟨X.c6,X.c7,X.c8,Y.c6,Y.c7,Y.c8⟩)
       (first
        | (go_at_call 15;(with_reducible refine (QbI a.qr (by omega) (by omega)).mono ?_);rintro e w_z ⟨rfl,hh⟩
           rw [HK1.out];(try replace p:=p.below hh);(try replace a:=a.below hh);(try replace q:=q.below hh);(try replace b:=b.below hh);(try replace LT:=LT.below hh);(try replace X:=X.below hh);(try replace Y:=Y.below hh)
           replace HQ:=Lib.hid (Each.below HQ.out hh)
           replace hB:=Qaj hB hh)
        | (go_at_call 15;(with_reducible refine (QbI b.qr (by omega) (by omega)).mono ?_);rintro e w_z ⟨rfl,hh⟩
           rw [HK2.out];(try replace p:=p.below hh);(try replace a:=a.below hh);(try replace q:=q.below hh);(try replace b:=b.below hh);(try replace LT:=LT.below hh);(try replace X:=X.below hh);(try replace Y:=Y.below hh)
           replace HQ:=Lib.hid (Each.below HQ.out hh)
           replace hB:=Qaj hB hh))
      have x0:=X.c0;have y0:=Y.c0;have x1:=X.c1;have y1:=Y.c1;have x2:=X.c2;have y2:=Y.c2;have x3:=X.c3;have y3:=Y.c3;have x4:=X.c4;have y4:=Y.c4;have x5:=X.c5;have y5:=Y.c5;have x6:=X.c6;have y6:=Y.c6;have x7:=X.c7;have y7:=Y.c7;have x8:=X.c8;have y8:=Y.c8
      by_cases hx2:fu*fv < 0
      · have hk12:K1*K2 < 0:=by rw [← HK1.out,← HK2.out];exact (Qd9 fu fv).2 hx2
        have HNE:Hid (fu - fv ≠ 0):=fun e=>by
         have e2:fv=fu:=by grind
         rw [e2] at hx2
         have:=Qjn fu
         grind
        have HX2:=Lib.hid hx2;clear hx2
        go_wp2_with (first
         | (go_at_call 30;(with_reducible refine (QiR p q a.qr b.qr hk6 h1 hka2 (by omega) HNE.out).mono ?_);rintro e w_t ⟨s_t,A_t,n_t,c_t,B_t,m_t,d_t,t_t,E_t,i_t,e_t,F_t,j_t,f_t,rfl,t,hh⟩
            (try replace p:=p.below hh);(try replace a:=a.below hh);(try replace q:=q.below hh);(try replace b:=b.below hh);(try replace LT:=LT.below hh);(try replace X:=X.below hh);(try replace Y:=Y.below hh)
            replace HQ:=Lib.hid (Each.below HQ.out hh)
            replace hB:=Qaj hB hh)
         | (at_builtin
            have hal:Below w_t.heap.size w_t (w_t.alloc (Obj.cells #[Value.bool s_t,Value.slice A_t n_t c_t,Value.slice B_t m_t d_t,Value.bool t_t,Value.slice E_t i_t e_t,Value.slice F_t j_t f_t] 29)):=(Below.refl _ _).alloc (Nat.le_refl _) _
            refine Qdo Tryz.underlying22 QiK rfl (.tmp 49) (.tmp 53) rfl (p:=(PV.mk s_t A_t n_t c_t B_t m_t d_t t_t E_t i_t e_t F_t j_t f_t)) (k0:=1) (b:=w_t.heap.size) rfl rfl (LT.below hal) (Nat.le_trans hB.size hal.size) (by omega) (heap_alloc_new w_t _) ?_
            intro v_t w3t hnt hgt))
        have hE3:Each PV.PG (w_t.alloc (Obj.cells #[Value.bool s_t,Value.slice A_t n_t c_t,Value.slice B_t m_t d_t,Value.bool t_t,Value.slice E_t i_t e_t,Value.slice F_t j_t f_t] 29)) _ _ (k+(k+k+1+(ka+(ka+ka+1)))+1):=Each.below HQ.out hal
        have hp3:PV.PG (w_t.alloc (Obj.cells #[Value.bool s_t,Value.slice A_t n_t c_t,Value.slice B_t m_t d_t,Value.bool t_t,Value.slice E_t i_t e_t,Value.slice F_t j_t f_t] 29)) (PV.mk s_t A_t n_t c_t B_t m_t d_t t_t E_t i_t e_t F_t j_t f_t) (QfR (ux,uy) (vx,vy) (fu / (fu - fv))) (k+(k+k+1+(ka+(ka+ka+1)))+1):=PG.below t hal
        have hst:=Each.stays hE3 (LT.below hal) hgt
        replace hB:=Ln.under (LT.below hal) hgt (Qaj hB hal) (Nat.le_refl _)
        have HQ3:=Lib.hid (Each.push hE3 hst (hst _ _ hp3))
        clear hE3 hp3 hst t
        go_roundg (gk - 1)
        case measure=>have:=HG.out;have:=HMN.out;omega
        case rel =>
         refine ⟨(M' ++ [(PV.mk s_r A_r n_r c_r B_r m_r d_r t_r E_r i_r e_r F_r j_r f_r)]) ++ [(PV.mk s_t A_t n_t c_t B_t m_t d_t t_t E_t i_t e_t F_t j_t f_t)],m+1,by have:=HG.out;have:=HMN.out;show _=_;omega,by go_num,?_,?_,?_,hB⟩
         · exact hnt
         · have:=HLn.out;show List.length _≤_;(try simp only [List.length_append,List.length_cons,List.length_nil]);omega
         · rw [HS.out,if_pos HX1.out,if_pos HX2.out];exact Lib.hid (by simpa [List.append_assoc] using HQ3.out)
      · have hk12:¬ K1*K2 < 0:=by rw [← HK1.out,← HK2.out];exact fun e=>hx2 ((Qd9 fu fv).1 e)
        have HX2:=Lib.hid hx2;clear hx2
        go_wp2_with fail
        go_roundg (gk - 1)
        case measure=>have:=HG.out;have:=HMN.out;omega
        case rel =>
         refine ⟨M' ++ [(PV.mk s_r A_r n_r c_r B_r m_r d_r t_r E_r i_r e_r F_r j_r f_r)],m+1,by have:=HG.out;have:=HMN.out;show _=_;omega,by go_num,?_,?_,?_,hB⟩
         · exact LT
         · have:=HLn.out;show List.length _≤_;(try simp only [List.length_append,List.length_cons,List.length_nil]);omega
         · rw [HS.out,if_pos HX1.out,if_neg HX2.out];exact Lib.hid (by simpa using HQ.out)
    · have hk1:¬ 0≤K1:=by rw [← HK1.out];exact fun e=>hx1 ((QhP fu).1 e)
      have HX1:=Lib.hid hx1;clear hx1
      go_upto_region 9 with (first
       | (go_at_call 15;(with_reducible refine (QbI a.qr (by omega) (by omega)).mono ?_);rintro e w_z ⟨rfl,hh⟩
          rw [HK1.out];(try replace p:=p.below hh);(try replace a:=a.below hh);(try replace q:=q.below hh);(try replace b:=b.below hh);(try replace LT:=LT.below hh);(try replace X:=X.below hh);(try replace Y:=Y.below hh)
          replace HQ:=Lib.hid (Each.below HQ.out hh)
          replace hB:=Qaj hB hh;have x0:=X.c0;have y0:=Y.c0;have x1:=X.c1;have y1:=Y.c1;have x2:=X.c2;have y2:=Y.c2;have x3:=X.c3;have y3:=Y.c3;have x4:=X.c4;have y4:=Y.c4;have x5:=X.c5;have y5:=Y.c5;have x6:=X.c6;have y6:=Y.c6;have x7:=X.c7;have y7:=Y.c7;have x8:=X.c8;have y8:=Y.c8))
      replace p:=p.below (Below.refl _ _).drew
      replace a:=a.below (Below.refl _ _).drew
      replace q:=q.below (Below.refl _ _).drew
      replace b:=b.below (Below.refl _ _).drew
      replace LT:=LT.below (Below.refl _ _).drew
      replace X:=X.below (Below.refl _ _).drew
      replace Y:=Y.below (Below.refl _ _).drew
      replace HQ:=Lib.hid (Each.below HQ.out (Below.refl _ _).drew)
      replace hB:=hB.drew
      go_region_held3 (fun w'=>w'.cell? ⟨gX,6,none⟩=some (.bool s_a)∧w'.cell? ⟨gX,7,none⟩=some (.slice A_a n_a c_a)∧w'.cell? ⟨gX,8,none⟩=some (.slice B_a m_a d_a)∧w'.cell? ⟨gY,6,none⟩=some (.bool s_b)∧w'.cell? ⟨gY,7,none⟩=some (.slice A_b n_b c_b)∧w'.cell? ⟨gY,8,none⟩=some (.slice B_b m_b d_b))
       (first | with_reducible exact ⟨X.c6,X.c7,X.c8,Y.c6,Y.c7,Y.c8⟩)
       (first
        | (go_at_call 15;(with_reducible refine (QbI a.qr (by omega) (by omega)).mono ?_);rintro e w_z ⟨rfl,hh⟩
           rw [HK1.out];(try replace p:=p.below hh);(try replace a:=a.below hh);(try replace q:=q.below hh);(try replace b:=b.below hh);(try replace LT:=LT.below hh);(try replace X:=X.below hh);(try replace Y:=Y.below hh)
           replace HQ:=Lib.hid (Each.below HQ.out hh)
           replace hB:=Qaj hB hh)
        | (go_at_call 15;(with_reducible refine (QbI b.qr (by omega) (by omega)).mono ?_);rintro e w_z ⟨rfl,hh⟩
           rw [HK2.out];(try replace p:=p.below hh);(try replace a:=a.below hh);(try replace q:=q.below hh);(try replace b:=b.below hh);(try replace LT:=LT.below hh);(try replace X:=X.below hh);(try replace Y:=Y.below hh)
           replace HQ:=Lib.hid (Each.below HQ.out hh)
           replace hB:=Qaj hB hh))
      have x0:=X.c0;have y0:=Y.c0;have x1:=X.c1;have y1:=Y.c1;have x2:=X.c2;have y2:=Y.c2;have x3:=X.c3;have y3:=Y.c3;have x4:=X.c4;have y4:=Y.c4;have x5:=X.c5;have y5:=Y.c5;have x6:=X.c6;have y6:=Y.c6;have x7:=X.c7;have y7:=Y.c7;have x8:=X.c8;have y8:=Y.c8
      by_cases hx2:fu*fv < 0
      · have hk12:K1*K2 < 0:=by rw [← HK1.out,← HK2.out];exact (Qd9 fu fv).2 hx2
        have HNE:Hid (fu - fv ≠ 0):=fun e=>by
         have e2:fv=fu:=by grind
         rw [e2] at hx2
         have:=Qjn fu
         grind
        have HX2:=Lib.hid hx2;clear hx2
        go_wp2_with (first
         | (go_at_call 30;(with_reducible refine (QiR p q a.qr b.qr hk6 h1 hka2 (by omega) HNE.out).mono ?_);rintro e w_t ⟨s_t,A_t,n_t,c_t,B_t,m_t,d_t,t_t,E_t,i_t,e_t,F_t,j_t,f_t,rfl,t,hh⟩
            (try replace p:=p.below hh);(try replace a:=a.below hh);(try replace q:=q.below hh);(try replace b:=b.below hh);(try replace LT:=LT.below hh);(try replace X:=X.below hh);(try replace Y:=Y.below hh)
            replace HQ:=Lib.hid (Each.below HQ.out hh)
            replace hB:=Qaj hB hh)
         | (at_builtin
            have hal:Below w_t.heap.size w_t (w_t.alloc (Obj.cells #[Value.bool s_t,Value.slice A_t n_t c_t,Value.slice B_t m_t d_t,Value.bool t_t,Value.slice E_t i_t e_t,Value.slice F_t j_t f_t] 29)):=(Below.refl _ _).alloc (Nat.le_refl _) _
            refine Qdo Tryz.underlying22 QiK rfl (.tmp 49) (.tmp 53) rfl (p:=(PV.mk s_t A_t n_t c_t B_t m_t d_t t_t E_t i_t e_t F_t j_t f_t)) (k0:=1) (b:=w_t.heap.size) rfl rfl (LT.below hal) (Nat.le_trans hB.size hal.size) (by omega) (heap_alloc_new w_t _) ?_
            intro v_t w3t hnt hgt))
        have hE3:Each PV.PG (w_t.alloc (Obj.cells #[Value.bool s_t,Value.slice A_t n_t c_t,Value.slice B_t m_t d_t,Value.bool t_t,Value.slice E_t i_t e_t,Value.slice F_t j_t f_t] 29)) _ _ (k+(k+k+1+(ka+(ka+ka+1)))+1):=Each.below HQ.out hal
        have hp3:PV.PG (w_t.alloc (Obj.cells #[Value.bool s_t,Value.slice A_t n_t c_t,Value.slice B_t m_t d_t,Value.bool t_t,Value.slice E_t i_t e_t,Value.slice F_t j_t f_t] 29)) (PV.mk s_t A_t n_t c_t B_t m_t d_t t_t E_t i_t e_t F_t j_t f_t) (QfR (ux,uy) (vx,vy) (fu / (fu - fv))) (k+(k+k+1+(ka+(ka+ka+1)))+1):=PG.below t hal
        have hst:=Each.stays hE3 (LT.below hal) hgt
        replace hB:=Ln.under (LT.below hal) hgt (Qaj hB hal) (Nat.le_refl _)
        have HQ2:=Lib.hid (Each.push hE3 hst (hst _ _ hp3))
        clear hE3 hp3 hst t
        go_roundg (gk - 1)
        case measure=>have:=HG.out;have:=HMN.out;omega
        case rel =>
         refine ⟨M' ++ [(PV.mk s_t A_t n_t c_t B_t m_t d_t t_t E_t i_t e_t F_t j_t f_t)],m+1,by have:=HG.out;have:=HMN.out;show _=_;omega,by go_num,?_,?_,?_,hB⟩
         · exact hnt
         · have:=HLn.out;show List.length _≤_;(try simp only [List.length_append,List.length_cons,List.length_nil]);omega
         · rw [HS.out,if_neg HX1.out,if_pos HX2.out];exact Lib.hid (by simpa using HQ2.out)
      · have hk12:¬ K1*K2 < 0:=by rw [← HK1.out,← HK2.out];exact fun e=>hx2 ((Qd9 fu fv).1 e)
        have HX2:=Lib.hid hx2;clear hx2
        go_wp2_with fail
        go_roundg (gk - 1)
        case measure=>have:=HG.out;have:=HMN.out;omega
        case rel =>
         refine ⟨M',m+1,by have:=HG.out;have:=HMN.out;show _=_;omega,by go_num,?_,?_,?_,hB⟩
         · exact LT
         · have:=HLn.out;show List.length _≤_;(try simp only [List.length_append,List.length_cons,List.length_nil]);omega
         · rw [HS.out,if_neg HX1.out,if_neg HX2.out];exact Lib.hid (by simpa using HQ.out)
  · have hlt:¬ (m:Int) < (n:Int):=by omega
    obtain rfl:m=n:=by have:=HG.out;omega
    clear hmn
    go_wp2_with fail
    (try rw [Exit.noGoto_ret])
    go_ret;have HQ3:=HQ.out
    unfold QaH
    rw [HNl.out]
    exact ⟨_,M',rfl,LT.base_le hb.size,HQ3,Qaj hb hB⟩
end
section
open Go Go.RowKit
theorem Qn3 {e1:Operand→Value} {d1:Option Tmp} {y1:Nat} {pos:String} {af:Array Edge} {x1 x2:Operand} {A:Option Addr} {n c g o:Nat} {M:Int} (h:e1 x1=.slice A n c) (h2:e1 x2=.int .i64 M) (hx:∀ w',(Instr.indexAt 34 (.slice A n c) (.int .i64 M)).run Tryz.prog w'=.ok (.pointer (some ⟨g,o,none⟩)) w') :
 (execOp e1 ⟨d1,.indexAddr 34 x1 x2,y1,pos,af,none⟩).run Tryz.prog w=.ok (.value (.pointer (some ⟨g,o,none⟩))) w:=by
 have h1:=hx w
 go_simp
theorem Qnz {e1:Operand→Value} {d1:Option Tmp} {y1:Nat} {pos:String} {af:Array Edge} {x1:Operand} {g o:Nat} {p:PV} (h:e1 x1=.pointer (some ⟨g,o,none⟩)) (E:E6x w g o p) :
 (execOp e1 ⟨d1,.load 44 x1,y1,pos,af,none⟩).run Tryz.prog w=.ok (.value (.agg #[.bool p.s,.slice p.A p.n p.c,.slice p.B p.m p.d,.bool p.t,.slice p.E p.i p.e,.slice p.F p.j p.f])) w:=by
 obtain ⟨e0,e1,e2,e3,e4,e5⟩:=E.all
 go_simp
theorem Qpj {e1:Operand→Value} {d1:Option Tmp} {y1:Nat} {pos:String} {af:Array Edge} {x1:Operand} {A:Option Addr} {n c:Nat} (h:e1 x1=.slice A n c) :
 (execOp e1 ⟨d1,.call ⟨.builtin Builtin.len,#[x1],#[34]⟩,y1,pos,af,none⟩).run Tryz.prog w=.ok (.value (.int .i64 (n:Int))) w:=by
 go_simp
theorem Qp8 {e1:Operand→Value} {d1:Option Tmp} {y1:Nat} {pos:String} {af:Array Edge} {x1 x2:Operand} {a b:Int} (h:e1 x1=.int .i64 a) (h2:e1 x2=.int .i64 b) (hb:¬ b=0) :
 (execOp e1 ⟨d1,.binOp BinOp.rem 3 x1 x2 3,y1,pos,af,none⟩).run Tryz.prog w=.ok (.value (.int .i64 (a.tmod b))) w:=by
 go_simp
theorem Qlp {ac:Act} {x1 z:Operand} {y1 g:Nat} {pos:String} {af:Array Edge} {Q:Exit→Act→World→Prop} {s t:Bool} {A B E F:Option Addr} {n c m d i e j f:Nat} (p1:ac.eval x1=.pointer (some ⟨g,0,none⟩)) (h:VK #[.bool s,.slice A n c,.slice B m d,.bool t,.slice E i e,.slice F j f] (ac.eval z) w) (Z0:BoxAt 44 w g #[.bool false,.slice none 0 0,.slice none 0 0,.bool false,.slice none 0 0,.slice none 0 0]) :
 (⟨none,.store 44 x1 z,y1,pos,af,none⟩:Oper).wp Tryz.prog ac w (fun a'' w''=>a''=ac∧Only g w w''∧∃ cs',BoxAt 44 w'' g cs'∧(fun cs _=>cs=#[.bool s,.slice A n c,.slice B m d,.bool t,.slice E i e,.slice F j f]) cs' w'') Q:=by
 have Z:B6R w g (.bool false) (.slice none 0 0) (.slice none 0 0) (.bool false) (.slice none 0 0) (.slice none 0 0):=Z0.at_
 unfold Oper.wp
 rw [Qmu p1 h Z,Oper.upon_skip]
 have ho:=((((((Only.refl g w).setCell 0 (.bool s)).setCell 1 (.slice A n c)).setCell 2 (.slice B m d)).setCell 3 (.bool t)).setCell 4 (.slice E i e)).setCell 5 (.slice F j f)
 exact ⟨Qd7 ac undef,ho,_,⟨Z.set6 _ _ _ _ _ _,Qfw _ _ _ _ _ _ _ _ _ _ _ _ _ _⟩,rfl⟩
end
section
open Go Go.RowKit
theorem SV.rpt {A:Option Addr} {L:List PV} (h:SV w A (pvs L)) {i:Nat} {p:PV} (hi:L[i]?=some p):∃ g o,(∀ (n c:Nat) (w':World),i < n→(Instr.indexAt 34 (.slice A n c) (.int .i64 (i:Int))).run Tryz.prog w'=.ok (.pointer (some ⟨g,o,none⟩)) w')∧E6x w g o p∧∃ o0,A=some ⟨g,o0,none⟩:=by
 have hl:=(List.getElem?_eq_some_iff.1 hi).1
 obtain ⟨g,o,e,h1,h2⟩:=h (by rw [show (pvs L).length=L.length*6 from Qas Qa9 L];omega)
 have key:∀ j,j < 6→∀ u,p.cells[j]?=some u→w.cell? ⟨g,o+i*6+j,none⟩=some u:=fun j hj u hu=>by
  rw [Nat.add_assoc];exact h2 _ u ((Qci Qa9 hi hj).trans hu)
 refine ⟨g,o+i*6,fun n c w' hn=>?_,⟨h1,key 0 (by decide) _ rfl,key 1 (by decide) _ rfl,key 2 (by decide) _ rfl,key 3 (by decide) _ rfl,key 4 (by decide) _ rfl,key 5 (by decide) _ rfl⟩,o,e⟩
 subst e
 have ha:∀ j,(⟨g,o,none⟩:Addr).add j=⟨g,o+j,none⟩:=fun j=>by unfold Addr.add;split <;> simp_all
 obtain ⟨i0,hi0,hz,hs,hby⟩:=info_parts (show (Tryz.prog.info? 44).map (fun i=>(i.zero,i.size,i.bytes))=some (some (.agg #[.bool false,.slice none 0 0,.slice none 0 0,.bool false,.slice none 0 0,.slice none 0 0]),6,112) by kernel_rfl)
 have k1:(0:Int)≤(i:Int):=by omega
 have k2:(i:Int) < (n:Int):=by omega
 simp [Instr.indexAt,asIntOf,run_underlying Tryz.underlying34,k1,sizeOf,typeInfo,hi0,hs,ha]
 exact fun e=>absurd hn (by omega)
theorem Qnh (m n:Nat):((m:Int)+1).tmod (n:Int)=(((m+1) % n:Nat):Int):=by
 rw [show ((m:Int)+1)=((m+1:Nat):Int) by omega,Int.ofNat_tmod]
end
section
open Go Go.RowKit
theorem cmpQ_lt {x y:Rat}:Qdf x y < 0 ↔ x < y:=by
 unfold Qdf
 by_cases h:x < y
 · rw [if_pos h];exact ⟨fun _=>h,fun _=>by decide⟩
 · rw [if_neg h]
   refine ⟨fun e=>?_,fun e=>absurd e h⟩
   exfalso
   split at e <;> exact absurd e (by decide)
theorem cmpQ_gt {x y:Rat}:0 < Qdf x y ↔ y < x:=by
 rw [QoP y x]
 constructor
 · intro h;exact cmpQ_lt.1 (by omega)
 · intro h;have:=cmpQ_lt.2 h;omega
theorem byX_p {k:Nat} {px py qx qy:Rat} (p:PR w s_p A_p n_p c_p B_p m_p d_p t_p E_p i_p e_p F_p j_p f_p px py k) (q:PR w s_q A_q n_q c_q B_q m_q d_q t_q E_q i_q e_q F_q j_q f_q qx qy k) (hk:k≤40000) (h1:1≤k) (K:Int) (hK:Qdf px qx=K) :
 Calls Tryz.prog 61 #[.agg #[.bool s_p,.slice A_p n_p c_p,.slice B_p m_p d_p,.bool t_p,.slice E_p i_p e_p,.slice F_p j_p f_p],.agg #[.bool s_q,.slice A_q n_q c_q,.slice B_q m_q d_q,.bool t_q,.slice E_q i_q e_q,.slice F_q j_q f_q]] w fun e w'=>e=.returned (.int .i64 K)∧Below w.heap.size w w':=by
 have HK:=Lib.hid hK;clear hK
 go_enter Tryz.func61,Tryz.ntmps61
 go_upto_region 1 with (fail)
 generalize hW:World.alloc _ _=W
 obtain ⟨hb,XA,XB,hzW⟩:=Qbn hW;clear hW;replace p:=p.below hb;replace q:=q.below hb;obtain ⟨xa0,xa1,xa2,xa3,xa4,xa5⟩:=XA.all;obtain ⟨xb0,xb1,xb2,xb3,xb4,xb5⟩:=XB.all
 go_wp2_with (first
  | (go_at_call 12;(with_reducible refine (QfC p.qx q.qx hk hk (.inl hk) h1 h1).mono ?_);rintro e w_z ⟨rfl,hh⟩
     rw [HK.out];replace hb:=Qaj hb hh))
 (try rw [Exit.noGoto_ret])
 go_ret;exact ⟨rfl,hb⟩
theorem byY_p {k:Nat} {px py qx qy:Rat} (p:PR w s_p A_p n_p c_p B_p m_p d_p t_p E_p i_p e_p F_p j_p f_p px py k) (q:PR w s_q A_q n_q c_q B_q m_q d_q t_q E_q i_q e_q F_q j_q f_q qx qy k) (hk:k≤40000) (h1:1≤k) (K:Int) (hK:Qdf py qy=K) :
 Calls Tryz.prog 62 #[.agg #[.bool s_p,.slice A_p n_p c_p,.slice B_p m_p d_p,.bool t_p,.slice E_p i_p e_p,.slice F_p j_p f_p],.agg #[.bool s_q,.slice A_q n_q c_q,.slice B_q m_q d_q,.bool t_q,.slice E_q i_q e_q,.slice F_q j_q f_q]] w fun e w'=>e=.returned (.int .i64 K)∧Below w.heap.size w w':=by
 have HK:=Lib.hid hK;clear hK
 go_enter Tryz.func62,Tryz.ntmps62
 go_upto_region 1 with (fail)
 generalize hW:World.alloc _ _=W
 obtain ⟨hb,XA,XB,hzW⟩:=Qbn hW;clear hW;replace p:=p.below hb;replace q:=q.below hb;obtain ⟨xa0,xa1,xa2,xa3,xa4,xa5⟩:=XA.all;obtain ⟨xb0,xb1,xb2,xb3,xb4,xb5⟩:=XB.all
 go_wp2_with (first
  | (go_at_call 12;(with_reducible refine (QfC p.qy q.qy hk hk (.inl hk) h1 h1).mono ?_);rintro e w_z ⟨rfl,hh⟩
     rw [HK.out];replace hb:=Qaj hb hh))
 (try rw [Exit.noGoto_ret])
 go_ret;exact ⟨rfl,hb⟩
def Qiw (w:World) (L:List PV) (l:List (Rat × Rat)) (e:Ending) (w':World):Prop:=∃ (j:Nat) (p:PV) (v:Rat × Rat),L[j]?=some p∧l[j]?=some v∧(∀ (i:Nat) (u:Rat × Rat),l[i]?=some u→v.1≤u.1)∧e=.returned (.agg #[.bool p.s,.slice p.A p.n p.c,.slice p.B p.m p.d,.bool p.t,.slice p.E p.i p.e,.slice p.F p.j p.f])∧Below w.heap.size w w'
theorem QsS {A:Option Addr} {n c k:Nat} {L:List PV} {l:List (Rat × Rat)} (hL:SV w A (pvs L)) (hE:Each PV.PR w L l k) (hn:L.length=n) (h0:0 < n) (hm:n≤1000) (hnc:n≤c) (h1:1≤k) (hk:k≤40000) :
 Calls Tryz.prog 60 #[.slice A n c,.func (.func 61) #[] #[]] w (Qiw w L l):=by
 have HN:=Lib.hid hn;have HL0:=Lib.hid hL;have E0:=Lib.hid hE;have H0:=Lib.hid h0
 obtain ⟨P,u,hP1,hu1,p⟩:=hE.at_ (i:=0) (by rw [hn];exact h0)
 obtain ⟨g0,o0,hix0,E,_⟩:=hL.pt hP1
 have hixa:∀ w',(Instr.indexAt 22 (.slice A n c) (.int .i64 0)).run Tryz.prog w'=.ok (.pointer (some ⟨g0,o0,none⟩)) w':=fun w'=>hix0 n c w' h0
 have h4:¬ (n:Int) < 1:=by omega
 have HP0:=Lib.hid hP1;have HU0:=Lib.hid hu1
 obtain ⟨s_p,A_p,n_p,c_p,B_p,m_p,d_p,t_p,E_p,i_p,e_p,F_p,j_p,f_p⟩:=P
 clear hix0 hP1 hu1 p hL hE
 go_enter Tryz.func60,Tryz.ntmps60
 go_upto_region 1 with (fail)
 generalize hW:World.alloc _ _=W
 obtain ⟨hb,Z,hzW⟩:=QaD hW;clear hW;replace E:=E.below hb;obtain ⟨e0,e1,e2,e3,e4,e5⟩:=E.all
 simp only at e0 e1 e2 e3 e4 e5
 go_upto_region 4 with (fail)
 generalize hW:World.alloc _ _=W2
 obtain ⟨hh,X,hzW2⟩:=QaD hW;clear hW;(try replace Z:=Z.below hh);replace hb:=Qaj hb hh;clear E e0 e1 e2 e3 e4 e5 hixa;rw [hzW] at X
 have hgZ:w.heap.size < w.heap.size+1:=by omega
 have hgZ2:w.heap.size+1≤W.heap.size:=by omega
 clear hzW hzW2
 generalize w.heap.size+1=gM at X hgZ hgZ2 ⊢
 go_wp2_with fail
 go_loopg [6] n (fun gk ix wr=>∃ (m j:Nat) (P:PV),Hid (gk+m=n+1∧m≤n)∧ix=.int .i64 (m:Int)∧Hid (1≤m)∧Hid (j < m)∧Hid (L[j]?=some P)∧B6 wr gM (.bool P.s) (.slice P.A P.n P.c) (.slice P.B P.m P.d) (.bool P.t) (.slice P.E P.i P.e) (.slice P.F P.j P.f)∧Hid (∀ i,i < m→∀ u v:Rat × Rat,l[i]?=some u→l[j]?=some v→v.1≤u.1)∧B6 wr w.heap.size (.bool false) (.slice none 0 0) (.slice none 0 0) (.bool false) (.slice none 0 0) (.slice none 0 0)∧Below w.heap.size w wr)
 case atStart =>
  refine ⟨1,0,(PV.mk s_p A_p n_p c_p B_p m_p d_p t_p E_p i_p e_p F_p j_p f_p),by have:=H0.out;exact ⟨by omega,by omega⟩,rfl,by show _≤_;decide,by show _ < _;decide,HP0.out,X,fun i hi u v h5 h6=>?_,Z,hb⟩
  obtain rfl:i=0:=by omega
  rw [h5] at h6;cases h6;exact Rat.le_refl
 case round =>
  clear X Z HP0 HU0
  obtain ⟨m,j,P,HG,rfl,HM1,HJ,HPj,X,HS,Z,hb⟩:=hrel
  obtain ⟨s_q,A_q,n_q,c_q,B_q,m_q,d_q,t_q,E_q,i_q,e_q,F_q,j_q,f_q⟩:=P
  replace X:B6 wr gM (.bool s_q) (.slice A_q n_q c_q) (.slice B_q m_q d_q) (.bool t_q) (.slice E_q i_q e_q) (.slice F_q j_q f_q):=X
  by_cases hmn:m < n
  · have HMN:=Lib.hid hmn
    obtain ⟨P,u,hP1,hu1,p⟩:=(E0.out.imp (fun p u h=>PR.below h hb)).at_ (i:=m) (by rw [HN.out];exact hmn)
    obtain ⟨Pj,v,hPj,hvj,q⟩:=(E0.out.imp (fun p u h=>PR.below h hb)).at_ (i:=j) (by have:=HJ.out;rw [HN.out];omega)
    rw [HPj.out] at hPj
    cases hPj
    obtain ⟨g1,o1,hix0,E,_⟩:=(HL0.out.below hb).pt hP1
    have hixa:∀ w',(Instr.indexAt 22 (.slice A n c) (.int .i64 (m:Int))).run Tryz.prog w'=.ok (.pointer (some ⟨g1,o1,none⟩)) w':=fun w'=>hix0 n c w' hmn
    have hlt:(m:Int) < (n:Int):=by omega
    have hwr:IntKind.i64.wrap ((m:Int)+1)=(m:Int)+1:=IntWalk.i64_in _ (by omega)
    have hg1:g1 ≠ gM:=fun e=>by
     obtain ⟨g2,o2,e2,h3,_⟩:=HL0.out (by rw [show (pvs L).length=L.length*6 from Qas Qa9 L,HN.out];omega)
     have h5:=hix0 n c wr hmn;rw [e2] at h5
     have h6:=(SV.pt HL0.out hP1)
     obtain ⟨g3,o3,h7,h8,o4,h9⟩:=h6
     have h10:=h7 n c wr hmn;rw [e2] at h10;rw [h5] at h10
     cases h10
     have:=h8.lt
     omega
    have HU:=Lib.hid hu1;have HV:=Lib.hid hvj;have HPm:=Lib.hid hP1
    obtain ⟨ux,uy⟩:=u
    obtain ⟨vx,vy⟩:=v
    obtain ⟨s_p,A_p,n_p,c_p,B_p,m_p,d_p,t_p,E_p,i_p,e_p,F_p,j_p,f_p⟩:=P
    replace p:PR wr s_p A_p n_p c_p B_p m_p d_p t_p E_p i_p e_p F_p j_p f_p ux uy k:=p
    replace q:PR wr s_q A_q n_q c_q B_q m_q d_q t_q E_q i_q e_q F_q j_q f_q vx vy k:=q
    obtain ⟨K,hK⟩:∃ K,Qdf ux vx=K:=⟨_,rfl⟩
    have HK:=Lib.hid hK;obtain ⟨e0,e1,e2,e3,e4,e5⟩:=E.all
    simp only at e0 e1 e2 e3 e4 e5
    clear hP1 hu1 hvj hix0 hmn hK
    go_upto_region 7 with (fail)
    replace p:=p.below (Below.refl _ _).drew
    replace q:=q.below (Below.refl _ _).drew
    replace E:=E.below (Below.refl _ _).drew
    replace X:=X.below (Below.refl _ _).drew
    replace Z:=Z.below (Below.refl _ _).drew
    replace hb:=hb.drew
    go_region_held3 (fun w'=>w'.cell? ⟨gM,0,none⟩=some (.bool s_q)∧w'.cell? ⟨gM,1,none⟩=some (.slice A_q n_q c_q)∧w'.cell? ⟨gM,2,none⟩=some (.slice B_q m_q d_q)∧w'.cell? ⟨gM,3,none⟩=some (.bool t_q)∧w'.cell? ⟨gM,4,none⟩=some (.slice E_q i_q e_q)∧w'.cell? ⟨gM,5,none⟩=some (.slice F_q j_q f_q)∧w'.cell? ⟨g1,o1,none⟩=some (.bool s_p)∧w'.cell? ⟨g1,o1+1,none⟩=some (.slice A_p n_p c_p)∧w'.cell? ⟨g1,o1+2,none⟩=some (.slice B_p m_p d_p)∧w'.cell? ⟨g1,o1+3,none⟩=some (.bool t_p)∧w'.cell? ⟨g1,o1+4,none⟩=some (.slice E_p i_p e_p)∧w'.cell? ⟨g1,o1+5,none⟩=some (.slice F_p j_p f_p))
     (first | with_reducible exact ⟨X.c0,X.c1,X.c2,X.c3,X.c4,X.c5,E.c0,E.c1,E.c2,E.c3,E.c4,E.c5⟩)
     (first
     | (go_at_call 61;(with_reducible refine (byX_p p q hk h1 K HK.out).mono ?_);rintro e w_z ⟨rfl,hh⟩
        (try replace p:=p.below hh);(try replace q:=q.below hh);(try replace E:=E.below hh);(try replace X:=X.below hh);(try replace Z:=Z.below hh);replace hb:=Qaj hb hh;obtain ⟨x0,x1,x2,x3,x4,x5⟩:=X.all;have xf0:=X.f0;have xf1:=X.f1;have xf2:=X.f2;have xf3:=X.f3;have xf4:=X.f4;have xf5:=X.f5;obtain ⟨e0,e1,e2,e3,e4,e5⟩:=E.all
        simp only at e0 e1 e2 e3 e4 e5))
    by_cases hK2:K < 0
    · have hlt2:ux < vx:=by rw [← HK.out] at hK2;exact cmpQ_lt.1 hK2
      have HLT:=Lib.hid hlt2;clear hlt2
      go_wp2_with fail
      have ho:=Qjy w_z gM (.bool s_p) (.slice A_p n_p c_p) (.slice B_p m_p d_p) (.bool t_p) (.slice E_p i_p e_p) (.slice F_p j_p f_p)
      have X2:=X.set6 (.bool s_p) (.slice A_p n_p c_p) (.slice B_p m_p d_p) (.bool t_p) (.slice E_p i_p e_p) (.slice F_p j_p f_p)
      replace Z:=(ho.block _ Z.lt (by omega)).trans Z
      replace hb:=Below.only hb (by omega) hb.size ho
      clear X ho p q E x0 xf0 x1 xf1 x2 xf2 x3 xf3 x4 xf4 x5 xf5 e0 e1 e2 e3 e4 e5
      generalize ((((((w_z.setCell ⟨gM,0,none⟩ (.bool s_p)).setCell ⟨gM,1,none⟩ (.slice A_p n_p c_p)).setCell ⟨gM,2,none⟩ (.slice B_p m_p d_p)).setCell ⟨gM,3,none⟩ (.bool t_p)).setCell ⟨gM,4,none⟩ (.slice E_p i_p e_p)).setCell ⟨gM,5,none⟩ (.slice F_p j_p f_p))=W3 at *
      go_roundg (gk - 1)
      case measure=>have:=HG.out;have:=HMN.out;omega
      case rel =>
       refine ⟨m+1,m,(PV.mk s_p A_p n_p c_p B_p m_p d_p t_p E_p i_p e_p F_p j_p f_p),by have:=HG.out;have:=HMN.out;exact ⟨by omega,by omega⟩,by go_num,by show _≤_;omega,by show _ < _;omega,HPm.out,X2,fun i hi u v h5 h6=>?_,Z,hb⟩
       rw [HU.out] at h6
       cases h6
       rcases Nat.lt_or_ge i m with h | h
       · have:=HS.out i h u _ h5 HV.out
         have:=HLT.out
         grind
       · obtain rfl:i=m:=by omega
         rw [HU.out] at h5;cases h5;exact Rat.le_refl
    · have hlt2:vx≤ux:=by rw [← HK.out] at hK2;exact Rat.not_lt.1 (fun e=>hK2 (cmpQ_lt.2 e))
      have HLT:=Lib.hid hlt2;clear hlt2
      go_wp2_with fail
      go_roundg (gk - 1)
      case measure=>have:=HG.out;have:=HMN.out;omega
      case rel =>
       refine ⟨m+1,j,(PV.mk s_q A_q n_q c_q B_q m_q d_q t_q E_q i_q e_q F_q j_q f_q),by have:=HG.out;have:=HMN.out;exact ⟨by omega,by omega⟩,by go_num,by show _≤_;omega,by have:=HJ.out;show _ < _;omega,HPj.out,X,fun i hi u v h5 h6=>?_,Z,hb⟩
       rcases Nat.lt_or_ge i m with h | h
       · exact HS.out i h u v h5 h6
       · obtain rfl:i=m:=by omega
         rw [HU.out] at h5;rw [HV.out] at h6;cases h5;cases h6;exact HLT.out
  · have hlt:¬ (m:Int) < (n:Int):=by omega
    obtain rfl:m=n:=by have:=HG.out;omega
    obtain ⟨Pj,v,hPj,hvj,_⟩:=E0.out.at_ (i:=j) (by have:=HJ.out;rw [HN.out];omega)
    have HV:=Lib.hid hvj;clear hmn hPj hvj;obtain ⟨x0,x1,x2,x3,x4,x5⟩:=X.all;have zg0:=Z.f0;have zc0:=Z.c0;have zg1:=Z.f1;have zc1:=Z.c1;have zg2:=Z.f2;have zc2:=Z.c2;have zg3:=Z.f3;have zc3:=Z.c3;have zg4:=Z.f4;have zc4:=Z.c4;have zg5:=Z.f5;have zc5:=Z.c5
    go_wp2_with fail
    have Z2:=Z.set6 (.bool s_q) (.slice A_q n_q c_q) (.slice B_q m_q d_q) (.bool t_q) (.slice E_q i_q e_q) (.slice F_q j_q f_q)
    obtain ⟨g0,g1,g2,g3,g4,g5⟩:=Z2.all
    refine bodyPost_ret (v:=.agg #[.bool s_q,.slice A_q n_q c_q,.slice B_q m_q d_q,.bool t_q,.slice E_q i_q e_q,.slice F_q j_q f_q]) (by simp [results,Tryz.results60,go_sem,g0,g1,g2,g3,g4,g5]) rfl ?_
    refine ⟨j,(PV.mk s_q A_q n_q c_q B_q m_q d_q t_q E_q i_q e_q F_q j_q f_q),v,HPj.out,HV.out,fun i u h5=>HS.out i ?_ u v h5 HV.out,rfl,QaE hb (Nat.le_refl _) _ _ _ _ _ _⟩
    have h7:=(List.getElem?_eq_some_iff.1 h5).1
    rw [← E0.out.1,HN.out] at h7
    exact h7
def Qih (w:World) (L:List PV) (l:List (Rat × Rat)) (e:Ending) (w':World):Prop:=∃ (j:Nat) (p:PV) (v:Rat × Rat),L[j]?=some p∧l[j]?=some v∧(∀ (i:Nat) (u:Rat × Rat),l[i]?=some u→v.2≤u.2)∧e=.returned (.agg #[.bool p.s,.slice p.A p.n p.c,.slice p.B p.m p.d,.bool p.t,.slice p.E p.i p.e,.slice p.F p.j p.f])∧Below w.heap.size w w'
theorem QsZ {A:Option Addr} {n c k:Nat} {L:List PV} {l:List (Rat × Rat)} (hL:SV w A (pvs L)) (hE:Each PV.PR w L l k) (hn:L.length=n) (h0:0 < n) (hm:n≤1000) (hnc:n≤c) (h1:1≤k) (hk:k≤40000) :
 Calls Tryz.prog 60 #[.slice A n c,.func (.func 62) #[] #[]] w (Qih w L l):=by
 have HN:=Lib.hid hn;have HL0:=Lib.hid hL;have E0:=Lib.hid hE;have H0:=Lib.hid h0
 obtain ⟨P,u,hP1,hu1,p⟩:=hE.at_ (i:=0) (by rw [hn];exact h0)
 obtain ⟨g0,o0,hix0,E,_⟩:=hL.pt hP1
 have hixa:∀ w',(Instr.indexAt 22 (.slice A n c) (.int .i64 0)).run Tryz.prog w'=.ok (.pointer (some ⟨g0,o0,none⟩)) w':=fun w'=>hix0 n c w' h0
 have h4:¬ (n:Int) < 1:=by omega
 have HP0:=Lib.hid hP1;have HU0:=Lib.hid hu1
 obtain ⟨s_p,A_p,n_p,c_p,B_p,m_p,d_p,t_p,E_p,i_p,e_p,F_p,j_p,f_p⟩:=P
 clear hix0 hP1 hu1 p hL hE
 go_enter Tryz.func60,Tryz.ntmps60
 go_upto_region 1 with (fail)
 generalize hW:World.alloc _ _=W
 obtain ⟨hb,Z,hzW⟩:=QaD hW;clear hW;replace E:=E.below hb;obtain ⟨e0,e1,e2,e3,e4,e5⟩:=E.all
 simp only at e0 e1 e2 e3 e4 e5
 go_upto_region 4 with (fail)
 generalize hW:World.alloc _ _=W2
 obtain ⟨hh,X,hzW2⟩:=QaD hW;clear hW;(try replace Z:=Z.below hh);replace hb:=Qaj hb hh;clear E e0 e1 e2 e3 e4 e5 hixa;rw [hzW] at X
 have hgZ:w.heap.size < w.heap.size+1:=by omega
 have hgZ2:w.heap.size+1≤W.heap.size:=by omega
 clear hzW hzW2
 generalize w.heap.size+1=gM at X hgZ hgZ2 ⊢
 go_wp2_with fail
 go_loopg [6] n (fun gk ix wr=>∃ (m j:Nat) (P:PV),Hid (gk+m=n+1∧m≤n)∧ix=.int .i64 (m:Int)∧Hid (1≤m)∧Hid (j < m)∧Hid (L[j]?=some P)∧B6 wr gM (.bool P.s) (.slice P.A P.n P.c) (.slice P.B P.m P.d) (.bool P.t) (.slice P.E P.i P.e) (.slice P.F P.j P.f)∧Hid (∀ i,i < m→∀ u v:Rat × Rat,l[i]?=some u→l[j]?=some v→v.2≤u.2)∧B6 wr w.heap.size (.bool false) (.slice none 0 0) (.slice none 0 0) (.bool false) (.slice none 0 0) (.slice none 0 0)∧Below w.heap.size w wr)
 case atStart =>
  refine ⟨1,0,(PV.mk s_p A_p n_p c_p B_p m_p d_p t_p E_p i_p e_p F_p j_p f_p),by have:=H0.out;exact ⟨by omega,by omega⟩,rfl,by show _≤_;decide,by show _ < _;decide,HP0.out,X,fun i hi u v h5 h6=>?_,Z,hb⟩
  obtain rfl:i=0:=by omega
  rw [h5] at h6;cases h6;exact Rat.le_refl
 case round =>
  clear X Z HP0 HU0
  obtain ⟨m,j,P,HG,rfl,HM1,HJ,HPj,X,HS,Z,hb⟩:=hrel
  obtain ⟨s_q,A_q,n_q,c_q,B_q,m_q,d_q,t_q,E_q,i_q,e_q,F_q,j_q,f_q⟩:=P
  replace X:B6 wr gM (.bool s_q) (.slice A_q n_q c_q) (.slice B_q m_q d_q) (.bool t_q) (.slice E_q i_q e_q) (.slice F_q j_q f_q):=X
  by_cases hmn:m < n
  · have HMN:=Lib.hid hmn
    obtain ⟨P,u,hP1,hu1,p⟩:=(E0.out.imp (fun p u h=>PR.below h hb)).at_ (i:=m) (by rw [HN.out];exact hmn)
    obtain ⟨Pj,v,hPj,hvj,q⟩:=(E0.out.imp (fun p u h=>PR.below h hb)).at_ (i:=j) (by have:=HJ.out;rw [HN.out];omega)
    rw [HPj.out] at hPj
    cases hPj
    obtain ⟨g1,o1,hix0,E,_⟩:=(HL0.out.below hb).pt hP1
    have hixa:∀ w',(Instr.indexAt 22 (.slice A n c) (.int .i64 (m:Int))).run Tryz.prog w'=.ok (.pointer (some ⟨g1,o1,none⟩)) w':=fun w'=>hix0 n c w' hmn
    have hlt:(m:Int) < (n:Int):=by omega
    have hwr:IntKind.i64.wrap ((m:Int)+1)=(m:Int)+1:=IntWalk.i64_in _ (by omega)
    have hg1:g1 ≠ gM:=fun e=>by
     obtain ⟨g2,o2,e2,h3,_⟩:=HL0.out (by rw [show (pvs L).length=L.length*6 from Qas Qa9 L,HN.out];omega)
     have h5:=hix0 n c wr hmn;rw [e2] at h5
     have h6:=(SV.pt HL0.out hP1)
     obtain ⟨g3,o3,h7,h8,o4,h9⟩:=h6
     have h10:=h7 n c wr hmn;rw [e2] at h10;rw [h5] at h10
     cases h10
     have:=h8.lt
     omega
    have HU:=Lib.hid hu1;have HV:=Lib.hid hvj;have HPm:=Lib.hid hP1
    obtain ⟨ux,uy⟩:=u
    obtain ⟨vx,vy⟩:=v
    obtain ⟨s_p,A_p,n_p,c_p,B_p,m_p,d_p,t_p,E_p,i_p,e_p,F_p,j_p,f_p⟩:=P
    replace p:PR wr s_p A_p n_p c_p B_p m_p d_p t_p E_p i_p e_p F_p j_p f_p ux uy k:=p
    replace q:PR wr s_q A_q n_q c_q B_q m_q d_q t_q E_q i_q e_q F_q j_q f_q vx vy k:=q
    obtain ⟨K,hK⟩:∃ K,Qdf uy vy=K:=⟨_,rfl⟩
    have HK:=Lib.hid hK;obtain ⟨e0,e1,e2,e3,e4,e5⟩:=E.all
    simp only at e0 e1 e2 e3 e4 e5
    clear hP1 hu1 hvj hix0 hmn hK
    go_upto_region 7 with (fail)
    replace p:=p.below (Below.refl _ _).drew
    replace q:=q.below (Below.refl _ _).drew
    replace E:=E.below (Below.refl _ _).drew
    replace X:=X.below (Below.refl _ _).drew
    replace Z:=Z.below (Below.refl _ _).drew
    replace hb:=hb.drew
    go_region_held3 (fun w'=>w'.cell? ⟨gM,0,none⟩=some (.bool s_q)∧w'.cell? ⟨gM,1,none⟩=some (.slice A_q n_q c_q)∧w'.cell? ⟨gM,2,none⟩=some (.slice B_q m_q d_q)∧w'.cell? ⟨gM,3,none⟩=some (.bool t_q)∧w'.cell? ⟨gM,4,none⟩=some (.slice E_q i_q e_q)∧w'.cell? ⟨gM,5,none⟩=some (.slice F_q j_q f_q)∧w'.cell? ⟨g1,o1,none⟩=some (.bool s_p)∧w'.cell? ⟨g1,o1+1,none⟩=some (.slice A_p n_p c_p)∧w'.cell? ⟨g1,o1+2,none⟩=some (.slice B_p m_p d_p)∧w'.cell? ⟨g1,o1+3,none⟩=some (.bool t_p)∧w'.cell? ⟨g1,o1+4,none⟩=some (.slice E_p i_p e_p)∧w'.cell? ⟨g1,o1+5,none⟩=some (.slice F_p j_p f_p))
     (first | with_reducible exact ⟨X.c0,X.c1,X.c2,X.c3,X.c4,X.c5,E.c0,E.c1,E.c2,E.c3,E.c4,E.c5⟩)
     (first
     | (go_at_call 62;(with_reducible refine (byY_p p q hk h1 K HK.out).mono ?_);rintro e w_z ⟨rfl,hh⟩
        (try replace p:=p.below hh);(try replace q:=q.below hh);(try replace E:=E.below hh);(try replace X:=X.below hh);(try replace Z:=Z.below hh);replace hb:=Qaj hb hh;obtain ⟨x0,x1,x2,x3,x4,x5⟩:=X.all;have xf0:=X.f0;have xf1:=X.f1;have xf2:=X.f2;have xf3:=X.f3;have xf4:=X.f4;have xf5:=X.f5;obtain ⟨e0,e1,e2,e3,e4,e5⟩:=E.all
        simp only at e0 e1 e2 e3 e4 e5))
    by_cases hK2:K < 0
    · have hlt2:uy < vy:=by rw [← HK.out] at hK2;exact cmpQ_lt.1 hK2
      have HLT:=Lib.hid hlt2;clear hlt2
      go_wp2_with fail
      have ho:=Qjy w_z gM (.bool s_p) (.slice A_p n_p c_p) (.slice B_p m_p d_p) (.bool t_p) (.slice E_p i_p e_p) (.slice F_p j_p f_p)
      have X2:=X.set6 (.bool s_p) (.slice A_p n_p c_p) (.slice B_p m_p d_p) (.bool t_p) (.slice E_p i_p e_p) (.slice F_p j_p f_p)
      replace Z:=(ho.block _ Z.lt (by omega)).trans Z
      replace hb:=Below.only hb (by omega) hb.size ho
      clear X ho p q E x0 xf0 x1 xf1 x2 xf2 x3 xf3 x4 xf4 x5 xf5 e0 e1 e2 e3 e4 e5
      generalize ((((((w_z.setCell ⟨gM,0,none⟩ (.bool s_p)).setCell ⟨gM,1,none⟩ (.slice A_p n_p c_p)).setCell ⟨gM,2,none⟩ (.slice B_p m_p d_p)).setCell ⟨gM,3,none⟩ (.bool t_p)).setCell ⟨gM,4,none⟩ (.slice E_p i_p e_p)).setCell ⟨gM,5,none⟩ (.slice F_p j_p f_p))=W3 at *
      go_roundg (gk - 1)
      case measure=>have:=HG.out;have:=HMN.out;omega
      case rel =>
       refine ⟨m+1,m,(PV.mk s_p A_p n_p c_p B_p m_p d_p t_p E_p i_p e_p F_p j_p f_p),by have:=HG.out;have:=HMN.out;exact ⟨by omega,by omega⟩,by go_num,by show _≤_;omega,by show _ < _;omega,HPm.out,X2,fun i hi u v h5 h6=>?_,Z,hb⟩
       rw [HU.out] at h6
       cases h6
       rcases Nat.lt_or_ge i m with h | h
       · have:=HS.out i h u _ h5 HV.out
         have:=HLT.out
         grind
       · obtain rfl:i=m:=by omega
         rw [HU.out] at h5;cases h5;exact Rat.le_refl
    · have hlt2:vy≤uy:=by rw [← HK.out] at hK2;exact Rat.not_lt.1 (fun e=>hK2 (cmpQ_lt.2 e))
      have HLT:=Lib.hid hlt2;clear hlt2
      go_wp2_with fail
      go_roundg (gk - 1)
      case measure=>have:=HG.out;have:=HMN.out;omega
      case rel =>
       refine ⟨m+1,j,(PV.mk s_q A_q n_q c_q B_q m_q d_q t_q E_q i_q e_q F_q j_q f_q),by have:=HG.out;have:=HMN.out;exact ⟨by omega,by omega⟩,by go_num,by show _≤_;omega,by have:=HJ.out;show _ < _;omega,HPj.out,X,fun i hi u v h5 h6=>?_,Z,hb⟩
       rcases Nat.lt_or_ge i m with h | h
       · exact HS.out i h u v h5 h6
       · obtain rfl:i=m:=by omega
         rw [HU.out] at h5;rw [HV.out] at h6;cases h5;cases h6;exact HLT.out
  · have hlt:¬ (m:Int) < (n:Int):=by omega
    obtain rfl:m=n:=by have:=HG.out;omega
    obtain ⟨Pj,v,hPj,hvj,_⟩:=E0.out.at_ (i:=j) (by have:=HJ.out;rw [HN.out];omega)
    have HV:=Lib.hid hvj;clear hmn hPj hvj;obtain ⟨x0,x1,x2,x3,x4,x5⟩:=X.all;have zg0:=Z.f0;have zc0:=Z.c0;have zg1:=Z.f1;have zc1:=Z.c1;have zg2:=Z.f2;have zc2:=Z.c2;have zg3:=Z.f3;have zc3:=Z.c3;have zg4:=Z.f4;have zc4:=Z.c4;have zg5:=Z.f5;have zc5:=Z.c5
    go_wp2_with fail
    have Z2:=Z.set6 (.bool s_q) (.slice A_q n_q c_q) (.slice B_q m_q d_q) (.bool t_q) (.slice E_q i_q e_q) (.slice F_q j_q f_q)
    obtain ⟨g0,g1,g2,g3,g4,g5⟩:=Z2.all
    refine bodyPost_ret (v:=.agg #[.bool s_q,.slice A_q n_q c_q,.slice B_q m_q d_q,.bool t_q,.slice E_q i_q e_q,.slice F_q j_q f_q]) (by simp [results,Tryz.results60,go_sem,g0,g1,g2,g3,g4,g5]) rfl ?_
    refine ⟨j,(PV.mk s_q A_q n_q c_q B_q m_q d_q t_q E_q i_q e_q F_q j_q f_q),v,HPj.out,HV.out,fun i u h5=>HS.out i ?_ u v h5 HV.out,rfl,QaE hb (Nat.le_refl _) _ _ _ _ _ _⟩
    have h7:=(List.getElem?_eq_some_iff.1 h5).1
    rw [← E0.out.1,HN.out] at h7
    exact h7
def Qh4 (w:World) (L:List PV) (l:List (Rat × Rat)) (e:Ending) (w':World):Prop:=∃ (j:Nat) (p:PV) (v:Rat × Rat),L[j]?=some p∧l[j]?=some v∧(∀ (i:Nat) (u:Rat × Rat),l[i]?=some u→u.1≤v.1)∧e=.returned (.agg #[.bool p.s,.slice p.A p.n p.c,.slice p.B p.m p.d,.bool p.t,.slice p.E p.i p.e,.slice p.F p.j p.f])∧Below w.heap.size w w'
theorem QrN {A:Option Addr} {n c k:Nat} {L:List PV} {l:List (Rat × Rat)} (hL:SV w A (pvs L)) (hE:Each PV.PR w L l k) (hn:L.length=n) (h0:0 < n) (hm:n≤1000) (hnc:n≤c) (h1:1≤k) (hk:k≤40000) :
 Calls Tryz.prog 63 #[.slice A n c,.func (.func 61) #[] #[]] w (Qh4 w L l):=by
 have HN:=Lib.hid hn;have HL0:=Lib.hid hL;have E0:=Lib.hid hE;have H0:=Lib.hid h0
 obtain ⟨P,u,hP1,hu1,p⟩:=hE.at_ (i:=0) (by rw [hn];exact h0)
 obtain ⟨g0,o0,hix0,E,_⟩:=hL.pt hP1
 have hixa:∀ w',(Instr.indexAt 22 (.slice A n c) (.int .i64 0)).run Tryz.prog w'=.ok (.pointer (some ⟨g0,o0,none⟩)) w':=fun w'=>hix0 n c w' h0
 have h4:¬ (n:Int) < 1:=by omega
 have HP0:=Lib.hid hP1;have HU0:=Lib.hid hu1
 obtain ⟨s_p,A_p,n_p,c_p,B_p,m_p,d_p,t_p,E_p,i_p,e_p,F_p,j_p,f_p⟩:=P
 clear hix0 hP1 hu1 p hL hE
 go_enter Tryz.func63,Tryz.ntmps63
 go_upto_region 1 with (fail)
 generalize hW:World.alloc _ _=W
 obtain ⟨hb,Z,hzW⟩:=QaD hW;clear hW;replace E:=E.below hb;obtain ⟨e0,e1,e2,e3,e4,e5⟩:=E.all
 simp only at e0 e1 e2 e3 e4 e5
 go_upto_region 4 with (fail)
 generalize hW:World.alloc _ _=W2
 obtain ⟨hh,X,hzW2⟩:=QaD hW;clear hW;(try replace Z:=Z.below hh);replace hb:=Qaj hb hh;clear E e0 e1 e2 e3 e4 e5 hixa;rw [hzW] at X
 have hgZ:w.heap.size < w.heap.size+1:=by omega
 have hgZ2:w.heap.size+1≤W.heap.size:=by omega
 clear hzW hzW2
 generalize w.heap.size+1=gM at X hgZ hgZ2 ⊢
 go_wp2_with fail
 go_loopg [6] n (fun gk ix wr=>∃ (m j:Nat) (P:PV),Hid (gk+m=n+1∧m≤n)∧ix=.int .i64 (m:Int)∧Hid (1≤m)∧Hid (j < m)∧Hid (L[j]?=some P)∧B6 wr gM (.bool P.s) (.slice P.A P.n P.c) (.slice P.B P.m P.d) (.bool P.t) (.slice P.E P.i P.e) (.slice P.F P.j P.f)∧Hid (∀ i,i < m→∀ u v:Rat × Rat,l[i]?=some u→l[j]?=some v→u.1≤v.1)∧B6 wr w.heap.size (.bool false) (.slice none 0 0) (.slice none 0 0) (.bool false) (.slice none 0 0) (.slice none 0 0)∧Below w.heap.size w wr)
 case atStart =>
  refine ⟨1,0,(PV.mk s_p A_p n_p c_p B_p m_p d_p t_p E_p i_p e_p F_p j_p f_p),by have:=H0.out;exact ⟨by omega,by omega⟩,rfl,by show _≤_;decide,by show _ < _;decide,HP0.out,X,fun i hi u v h5 h6=>?_,Z,hb⟩
  obtain rfl:i=0:=by omega
  rw [h5] at h6;cases h6;exact Rat.le_refl
 case round =>
  clear X Z HP0 HU0
  obtain ⟨m,j,P,HG,rfl,HM1,HJ,HPj,X,HS,Z,hb⟩:=hrel
  obtain ⟨s_q,A_q,n_q,c_q,B_q,m_q,d_q,t_q,E_q,i_q,e_q,F_q,j_q,f_q⟩:=P
  replace X:B6 wr gM (.bool s_q) (.slice A_q n_q c_q) (.slice B_q m_q d_q) (.bool t_q) (.slice E_q i_q e_q) (.slice F_q j_q f_q):=X
  by_cases hmn:m < n
  · have HMN:=Lib.hid hmn
    obtain ⟨P,u,hP1,hu1,p⟩:=(E0.out.imp (fun p u h=>PR.below h hb)).at_ (i:=m) (by rw [HN.out];exact hmn)
    obtain ⟨Pj,v,hPj,hvj,q⟩:=(E0.out.imp (fun p u h=>PR.below h hb)).at_ (i:=j) (by have:=HJ.out;rw [HN.out];omega)
    rw [HPj.out] at hPj
    cases hPj
    obtain ⟨g1,o1,hix0,E,_⟩:=(HL0.out.below hb).pt hP1
    have hixa:∀ w',(Instr.indexAt 22 (.slice A n c) (.int .i64 (m:Int))).run Tryz.prog w'=.ok (.pointer (some ⟨g1,o1,none⟩)) w':=fun w'=>hix0 n c w' hmn
    have hlt:(m:Int) < (n:Int):=by omega
    have hwr:IntKind.i64.wrap ((m:Int)+1)=(m:Int)+1:=IntWalk.i64_in _ (by omega)
    have hg1:g1 ≠ gM:=fun e=>by
     obtain ⟨g2,o2,e2,h3,_⟩:=HL0.out (by rw [show (pvs L).length=L.length*6 from Qas Qa9 L,HN.out];omega)
     have h5:=hix0 n c wr hmn;rw [e2] at h5
     have h6:=(SV.pt HL0.out hP1)
     obtain ⟨g3,o3,h7,h8,o4,h9⟩:=h6
     have h10:=h7 n c wr hmn;rw [e2] at h10;rw [h5] at h10
     cases h10
     have:=h8.lt
     omega
    have HU:=Lib.hid hu1;have HV:=Lib.hid hvj;have HPm:=Lib.hid hP1
    obtain ⟨ux,uy⟩:=u
    obtain ⟨vx,vy⟩:=v
    obtain ⟨s_p,A_p,n_p,c_p,B_p,m_p,d_p,t_p,E_p,i_p,e_p,F_p,j_p,f_p⟩:=P
    replace p:PR wr s_p A_p n_p c_p B_p m_p d_p t_p E_p i_p e_p F_p j_p f_p ux uy k:=p
    replace q:PR wr s_q A_q n_q c_q B_q m_q d_q t_q E_q i_q e_q F_q j_q f_q vx vy k:=q
    obtain ⟨K,hK⟩:∃ K,Qdf ux vx=K:=⟨_,rfl⟩
    have HK:=Lib.hid hK;obtain ⟨e0,e1,e2,e3,e4,e5⟩:=E.all
    simp only at e0 e1 e2 e3 e4 e5
    clear hP1 hu1 hvj hix0 hmn hK
    go_upto_region 7 with (fail)
    replace p:=p.below (Below.refl _ _).drew
    replace q:=q.below (Below.refl _ _).drew
    replace E:=E.below (Below.refl _ _).drew
    replace X:=X.below (Below.refl _ _).drew
    replace Z:=Z.below (Below.refl _ _).drew
    replace hb:=hb.drew
    go_region_held3 (fun w'=>w'.cell? ⟨gM,0,none⟩=some (.bool s_q)∧w'.cell? ⟨gM,1,none⟩=some (.slice A_q n_q c_q)∧w'.cell? ⟨gM,2,none⟩=some (.slice B_q m_q d_q)∧w'.cell? ⟨gM,3,none⟩=some (.bool t_q)∧w'.cell? ⟨gM,4,none⟩=some (.slice E_q i_q e_q)∧w'.cell? ⟨gM,5,none⟩=some (.slice F_q j_q f_q)∧w'.cell? ⟨g1,o1,none⟩=some (.bool s_p)∧w'.cell? ⟨g1,o1+1,none⟩=some (.slice A_p n_p c_p)∧w'.cell? ⟨g1,o1+2,none⟩=some (.slice B_p m_p d_p)∧w'.cell? ⟨g1,o1+3,none⟩=some (.bool t_p)∧w'.cell? ⟨g1,o1+4,none⟩=some (.slice E_p i_p e_p)∧w'.cell? ⟨g1,o1+5,none⟩=some (.slice F_p j_p f_p))
     (first | with_reducible exact ⟨X.c0,X.c1,X.c2,X.c3,X.c4,X.c5,E.c0,E.c1,E.c2,E.c3,E.c4,E.c5⟩)
     (first
     | (go_at_call 61;(with_reducible refine (byX_p p q hk h1 K HK.out).mono ?_);rintro e w_z ⟨rfl,hh⟩
        (try replace p:=p.below hh);(try replace q:=q.below hh);(try replace E:=E.below hh);(try replace X:=X.below hh);(try replace Z:=Z.below hh);replace hb:=Qaj hb hh;obtain ⟨x0,x1,x2,x3,x4,x5⟩:=X.all;have xf0:=X.f0;have xf1:=X.f1;have xf2:=X.f2;have xf3:=X.f3;have xf4:=X.f4;have xf5:=X.f5;obtain ⟨e0,e1,e2,e3,e4,e5⟩:=E.all
        simp only at e0 e1 e2 e3 e4 e5))
    by_cases hK2:0 < K
    · have hlt2:vx < ux:=by rw [← HK.out] at hK2;exact cmpQ_gt.1 hK2
      have HLT:=Lib.hid hlt2;clear hlt2
      go_wp2_with fail
      have ho:=Qjy w_z gM (.bool s_p) (.slice A_p n_p c_p) (.slice B_p m_p d_p) (.bool t_p) (.slice E_p i_p e_p) (.slice F_p j_p f_p)
      have X2:=X.set6 (.bool s_p) (.slice A_p n_p c_p) (.slice B_p m_p d_p) (.bool t_p) (.slice E_p i_p e_p) (.slice F_p j_p f_p)
      replace Z:=(ho.block _ Z.lt (by omega)).trans Z
      replace hb:=Below.only hb (by omega) hb.size ho
      clear X ho p q E x0 xf0 x1 xf1 x2 xf2 x3 xf3 x4 xf4 x5 xf5 e0 e1 e2 e3 e4 e5
      generalize ((((((w_z.setCell ⟨gM,0,none⟩ (.bool s_p)).setCell ⟨gM,1,none⟩ (.slice A_p n_p c_p)).setCell ⟨gM,2,none⟩ (.slice B_p m_p d_p)).setCell ⟨gM,3,none⟩ (.bool t_p)).setCell ⟨gM,4,none⟩ (.slice E_p i_p e_p)).setCell ⟨gM,5,none⟩ (.slice F_p j_p f_p))=W3 at *
      go_roundg (gk - 1)
      case measure=>have:=HG.out;have:=HMN.out;omega
      case rel =>
       refine ⟨m+1,m,(PV.mk s_p A_p n_p c_p B_p m_p d_p t_p E_p i_p e_p F_p j_p f_p),by have:=HG.out;have:=HMN.out;exact ⟨by omega,by omega⟩,by go_num,by show _≤_;omega,by show _ < _;omega,HPm.out,X2,fun i hi u v h5 h6=>?_,Z,hb⟩
       rw [HU.out] at h6
       cases h6
       rcases Nat.lt_or_ge i m with h | h
       · have:=HS.out i h u _ h5 HV.out
         have:=HLT.out
         grind
       · obtain rfl:i=m:=by omega
         rw [HU.out] at h5;cases h5;exact Rat.le_refl
    · have hlt2:ux≤vx:=by rw [← HK.out] at hK2;exact Rat.not_lt.1 (fun e=>hK2 (cmpQ_gt.2 e))
      have HLT:=Lib.hid hlt2;clear hlt2
      go_wp2_with fail
      go_roundg (gk - 1)
      case measure=>have:=HG.out;have:=HMN.out;omega
      case rel =>
       refine ⟨m+1,j,(PV.mk s_q A_q n_q c_q B_q m_q d_q t_q E_q i_q e_q F_q j_q f_q),by have:=HG.out;have:=HMN.out;exact ⟨by omega,by omega⟩,by go_num,by show _≤_;omega,by have:=HJ.out;show _ < _;omega,HPj.out,X,fun i hi u v h5 h6=>?_,Z,hb⟩
       rcases Nat.lt_or_ge i m with h | h
       · exact HS.out i h u v h5 h6
       · obtain rfl:i=m:=by omega
         rw [HU.out] at h5;rw [HV.out] at h6;cases h5;cases h6;exact HLT.out
  · have hlt:¬ (m:Int) < (n:Int):=by omega
    obtain rfl:m=n:=by have:=HG.out;omega
    obtain ⟨Pj,v,hPj,hvj,_⟩:=E0.out.at_ (i:=j) (by have:=HJ.out;rw [HN.out];omega)
    have HV:=Lib.hid hvj;clear hmn hPj hvj;obtain ⟨x0,x1,x2,x3,x4,x5⟩:=X.all;have zg0:=Z.f0;have zc0:=Z.c0;have zg1:=Z.f1;have zc1:=Z.c1;have zg2:=Z.f2;have zc2:=Z.c2;have zg3:=Z.f3;have zc3:=Z.c3;have zg4:=Z.f4;have zc4:=Z.c4;have zg5:=Z.f5;have zc5:=Z.c5
    go_wp2_with fail
    have Z2:=Z.set6 (.bool s_q) (.slice A_q n_q c_q) (.slice B_q m_q d_q) (.bool t_q) (.slice E_q i_q e_q) (.slice F_q j_q f_q)
    obtain ⟨g0,g1,g2,g3,g4,g5⟩:=Z2.all
    refine bodyPost_ret (v:=.agg #[.bool s_q,.slice A_q n_q c_q,.slice B_q m_q d_q,.bool t_q,.slice E_q i_q e_q,.slice F_q j_q f_q]) (by simp [results,Tryz.results63,go_sem,g0,g1,g2,g3,g4,g5]) rfl ?_
    refine ⟨j,(PV.mk s_q A_q n_q c_q B_q m_q d_q t_q E_q i_q e_q F_q j_q f_q),v,HPj.out,HV.out,fun i u h5=>HS.out i ?_ u v h5 HV.out,rfl,QaE hb (Nat.le_refl _) _ _ _ _ _ _⟩
    have h7:=(List.getElem?_eq_some_iff.1 h5).1
    rw [← E0.out.1,HN.out] at h7
    exact h7
def QiH (w:World) (L:List PV) (l:List (Rat × Rat)) (e:Ending) (w':World):Prop:=∃ (j:Nat) (p:PV) (v:Rat × Rat),L[j]?=some p∧l[j]?=some v∧(∀ (i:Nat) (u:Rat × Rat),l[i]?=some u→u.2≤v.2)∧e=.returned (.agg #[.bool p.s,.slice p.A p.n p.c,.slice p.B p.m p.d,.bool p.t,.slice p.E p.i p.e,.slice p.F p.j p.f])∧Below w.heap.size w w'
theorem Qr4 {A:Option Addr} {n c k:Nat} {L:List PV} {l:List (Rat × Rat)} (hL:SV w A (pvs L)) (hE:Each PV.PR w L l k) (hn:L.length=n) (h0:0 < n) (hm:n≤1000) (hnc:n≤c) (h1:1≤k) (hk:k≤40000) :
 Calls Tryz.prog 63 #[.slice A n c,.func (.func 62) #[] #[]] w (QiH w L l):=by
 have HN:=Lib.hid hn;have HL0:=Lib.hid hL;have E0:=Lib.hid hE;have H0:=Lib.hid h0
 obtain ⟨P,u,hP1,hu1,p⟩:=hE.at_ (i:=0) (by rw [hn];exact h0)
 obtain ⟨g0,o0,hix0,E,_⟩:=hL.pt hP1
 have hixa:∀ w',(Instr.indexAt 22 (.slice A n c) (.int .i64 0)).run Tryz.prog w'=.ok (.pointer (some ⟨g0,o0,none⟩)) w':=fun w'=>hix0 n c w' h0
 have h4:¬ (n:Int) < 1:=by omega
 have HP0:=Lib.hid hP1;have HU0:=Lib.hid hu1
 obtain ⟨s_p,A_p,n_p,c_p,B_p,m_p,d_p,t_p,E_p,i_p,e_p,F_p,j_p,f_p⟩:=P
 clear hix0 hP1 hu1 p hL hE
 go_enter Tryz.func63,Tryz.ntmps63
 go_upto_region 1 with (fail)
 generalize hW:World.alloc _ _=W
 obtain ⟨hb,Z,hzW⟩:=QaD hW;clear hW;replace E:=E.below hb;obtain ⟨e0,e1,e2,e3,e4,e5⟩:=E.all
 simp only at e0 e1 e2 e3 e4 e5
 go_upto_region 4 with (fail)
 generalize hW:World.alloc _ _=W2
 obtain ⟨hh,X,hzW2⟩:=QaD hW;clear hW;(try replace Z:=Z.below hh);replace hb:=Qaj hb hh;clear E e0 e1 e2 e3 e4 e5 hixa;rw [hzW] at X
 have hgZ:w.heap.size < w.heap.size+1:=by omega
 have hgZ2:w.heap.size+1≤W.heap.size:=by omega
 clear hzW hzW2
 generalize w.heap.size+1=gM at X hgZ hgZ2 ⊢
 go_wp2_with fail
 go_loopg [6] n (fun gk ix wr=>∃ (m j:Nat) (P:PV),Hid (gk+m=n+1∧m≤n)∧ix=.int .i64 (m:Int)∧Hid (1≤m)∧Hid (j < m)∧Hid (L[j]?=some P)∧B6 wr gM (.bool P.s) (.slice P.A P.n P.c) (.slice P.B P.m P.d) (.bool P.t) (.slice P.E P.i P.e) (.slice P.F P.j P.f)∧Hid (∀ i,i < m→∀ u v:Rat × Rat,l[i]?=some u→l[j]?=some v→u.2≤v.2)∧B6 wr w.heap.size (.bool false) (.slice none 0 0) (.slice none 0 0) (.bool false) (.slice none 0 0) (.slice none 0 0)∧Below w.heap.size w wr)
 case atStart =>
  refine ⟨1,0,(PV.mk s_p A_p n_p c_p B_p m_p d_p t_p E_p i_p e_p F_p j_p f_p),by have:=H0.out;exact ⟨by omega,by omega⟩,rfl,by show _≤_;decide,by show _ < _;decide,HP0.out,X,fun i hi u v h5 h6=>?_,Z,hb⟩
  obtain rfl:i=0:=by omega
  rw [h5] at h6;cases h6;exact Rat.le_refl
 case round =>
  clear X Z HP0 HU0
  obtain ⟨m,j,P,HG,rfl,HM1,HJ,HPj,X,HS,Z,hb⟩:=hrel
  obtain ⟨s_q,A_q,n_q,c_q,B_q,m_q,d_q,t_q,E_q,i_q,e_q,F_q,j_q,f_q⟩:=P
  replace X:B6 wr gM (.bool s_q) (.slice A_q n_q c_q) (.slice B_q m_q d_q) (.bool t_q) (.slice E_q i_q e_q) (.slice F_q j_q f_q):=X
  by_cases hmn:m < n
  · have HMN:=Lib.hid hmn
    obtain ⟨P,u,hP1,hu1,p⟩:=(E0.out.imp (fun p u h=>PR.below h hb)).at_ (i:=m) (by rw [HN.out];exact hmn)
    obtain ⟨Pj,v,hPj,hvj,q⟩:=(E0.out.imp (fun p u h=>PR.below h hb)).at_ (i:=j) (by have:=HJ.out;rw [HN.out];omega)
    rw [HPj.out] at hPj
    cases hPj
    obtain ⟨g1,o1,hix0,E,_⟩:=(HL0.out.below hb).pt hP1
    have hixa:∀ w',(Instr.indexAt 22 (.slice A n c) (.int .i64 (m:Int))).run Tryz.prog w'=.ok (.pointer (some ⟨g1,o1,none⟩)) w':=fun w'=>hix0 n c w' hmn
    have hlt:(m:Int) < (n:Int):=by omega
    have hwr:IntKind.i64.wrap ((m:Int)+1)=(m:Int)+1:=IntWalk.i64_in _ (by omega)
    have hg1:g1 ≠ gM:=fun e=>by
     obtain ⟨g2,o2,e2,h3,_⟩:=HL0.out (by rw [show (pvs L).length=L.length*6 from Qas Qa9 L,HN.out];omega)
     have h5:=hix0 n c wr hmn;rw [e2] at h5
     have h6:=(SV.pt HL0.out hP1)
     obtain ⟨g3,o3,h7,h8,o4,h9⟩:=h6
     have h10:=h7 n c wr hmn;rw [e2] at h10;rw [h5] at h10
     cases h10
     have:=h8.lt
     omega
    have HU:=Lib.hid hu1;have HV:=Lib.hid hvj;have HPm:=Lib.hid hP1
    obtain ⟨ux,uy⟩:=u
    obtain ⟨vx,vy⟩:=v
    obtain ⟨s_p,A_p,n_p,c_p,B_p,m_p,d_p,t_p,E_p,i_p,e_p,F_p,j_p,f_p⟩:=P
    replace p:PR wr s_p A_p n_p c_p B_p m_p d_p t_p E_p i_p e_p F_p j_p f_p ux uy k:=p
    replace q:PR wr s_q A_q n_q c_q B_q m_q d_q t_q E_q i_q e_q F_q j_q f_q vx vy k:=q
    obtain ⟨K,hK⟩:∃ K,Qdf uy vy=K:=⟨_,rfl⟩
    have HK:=Lib.hid hK;obtain ⟨e0,e1,e2,e3,e4,e5⟩:=E.all
    simp only at e0 e1 e2 e3 e4 e5
    clear hP1 hu1 hvj hix0 hmn hK
    go_upto_region 7 with (fail)
    replace p:=p.below (Below.refl _ _).drew
    replace q:=q.below (Below.refl _ _).drew
    replace E:=E.below (Below.refl _ _).drew
    replace X:=X.below (Below.refl _ _).drew
    replace Z:=Z.below (Below.refl _ _).drew
    replace hb:=hb.drew
    go_region_held3 (fun w'=>w'.cell? ⟨gM,0,none⟩=some (.bool s_q)∧w'.cell? ⟨gM,1,none⟩=some (.slice A_q n_q c_q)∧w'.cell? ⟨gM,2,none⟩=some (.slice B_q m_q d_q)∧w'.cell? ⟨gM,3,none⟩=some (.bool t_q)∧w'.cell? ⟨gM,4,none⟩=some (.slice E_q i_q e_q)∧w'.cell? ⟨gM,5,none⟩=some (.slice F_q j_q f_q)∧w'.cell? ⟨g1,o1,none⟩=some (.bool s_p)∧w'.cell? ⟨g1,o1+1,none⟩=some (.slice A_p n_p c_p)∧w'.cell? ⟨g1,o1+2,none⟩=some (.slice B_p m_p d_p)∧w'.cell? ⟨g1,o1+3,none⟩=some (.bool t_p)∧w'.cell? ⟨g1,o1+4,none⟩=some (.slice E_p i_p e_p)∧w'.cell? ⟨g1,o1+5,none⟩=some (.slice F_p j_p f_p))
     (first | with_reducible exact ⟨X.c0,X.c1,X.c2,X.c3,X.c4,X.c5,E.c0,E.c1,E.c2,E.c3,E.c4,E.c5⟩)
     (first
     | (go_at_call 62;(with_reducible refine (byY_p p q hk h1 K HK.out).mono ?_);rintro e w_z ⟨rfl,hh⟩
        (try replace p:=p.below hh);(try replace q:=q.below hh);(try replace E:=E.below hh);(try replace X:=X.below hh);(try replace Z:=Z.below hh);replace hb:=Qaj hb hh;obtain ⟨x0,x1,x2,x3,x4,x5⟩:=X.all;have xf0:=X.f0;have xf1:=X.f1;have xf2:=X.f2;have xf3:=X.f3;have xf4:=X.f4;have xf5:=X.f5;obtain ⟨e0,e1,e2,e3,e4,e5⟩:=E.all
        simp only at e0 e1 e2 e3 e4 e5))
    by_cases hK2:0 < K
    · have hlt2:vy < uy:=by rw [← HK.out] at hK2;exact cmpQ_gt.1 hK2
      have HLT:=Lib.hid hlt2;clear hlt2
      go_wp2_with fail
      have ho:=Qjy w_z gM (.bool s_p) (.slice A_p n_p c_p) (.slice B_p m_p d_p) (.bool t_p) (.slice E_p i_p e_p) (.slice F_p j_p f_p)
      have X2:=X.set6 (.bool s_p) (.slice A_p n_p c_p) (.slice B_p m_p d_p) (.bool t_p) (.slice E_p i_p e_p) (.slice F_p j_p f_p)
      replace Z:=(ho.block _ Z.lt (by omega)).trans Z
      replace hb:=Below.only hb (by omega) hb.size ho
      clear X ho p q E x0 xf0 x1 xf1 x2 xf2 x3 xf3 x4 xf4 x5 xf5 e0 e1 e2 e3 e4 e5
      generalize ((((((w_z.setCell ⟨gM,0,none⟩ (.bool s_p)).setCell ⟨gM,1,none⟩ (.slice A_p n_p c_p)).setCell ⟨gM,2,none⟩ (.slice B_p m_p d_p)).setCell ⟨gM,3,none⟩ (.bool t_p)).setCell ⟨gM,4,none⟩ (.slice E_p i_p e_p)).setCell ⟨gM,5,none⟩ (.slice F_p j_p f_p))=W3 at *
      go_roundg (gk - 1)
      case measure=>have:=HG.out;have:=HMN.out;omega
      case rel =>
       refine ⟨m+1,m,(PV.mk s_p A_p n_p c_p B_p m_p d_p t_p E_p i_p e_p F_p j_p f_p),by have:=HG.out;have:=HMN.out;exact ⟨by omega,by omega⟩,by go_num,by show _≤_;omega,by show _ < _;omega,HPm.out,X2,fun i hi u v h5 h6=>?_,Z,hb⟩
       rw [HU.out] at h6
       cases h6
       rcases Nat.lt_or_ge i m with h | h
       · have:=HS.out i h u _ h5 HV.out
         have:=HLT.out
         grind
       · obtain rfl:i=m:=by omega
         rw [HU.out] at h5;cases h5;exact Rat.le_refl
    · have hlt2:uy≤vy:=by rw [← HK.out] at hK2;exact Rat.not_lt.1 (fun e=>hK2 (cmpQ_gt.2 e))
      have HLT:=Lib.hid hlt2;clear hlt2
      go_wp2_with fail
      go_roundg (gk - 1)
      case measure=>have:=HG.out;have:=HMN.out;omega
      case rel =>
       refine ⟨m+1,j,(PV.mk s_q A_q n_q c_q B_q m_q d_q t_q E_q i_q e_q F_q j_q f_q),by have:=HG.out;have:=HMN.out;exact ⟨by omega,by omega⟩,by go_num,by show _≤_;omega,by have:=HJ.out;show _ < _;omega,HPj.out,X,fun i hi u v h5 h6=>?_,Z,hb⟩
       rcases Nat.lt_or_ge i m with h | h
       · exact HS.out i h u v h5 h6
       · obtain rfl:i=m:=by omega
         rw [HU.out] at h5;rw [HV.out] at h6;cases h5;cases h6;exact HLT.out
  · have hlt:¬ (m:Int) < (n:Int):=by omega
    obtain rfl:m=n:=by have:=HG.out;omega
    obtain ⟨Pj,v,hPj,hvj,_⟩:=E0.out.at_ (i:=j) (by have:=HJ.out;rw [HN.out];omega)
    have HV:=Lib.hid hvj;clear hmn hPj hvj;obtain ⟨x0,x1,x2,x3,x4,x5⟩:=X.all;have zg0:=Z.f0;have zc0:=Z.c0;have zg1:=Z.f1;have zc1:=Z.c1;have zg2:=Z.f2;have zc2:=Z.c2;have zg3:=Z.f3;have zc3:=Z.c3;have zg4:=Z.f4;have zc4:=Z.c4;have zg5:=Z.f5;have zc5:=Z.c5
    go_wp2_with fail
    have Z2:=Z.set6 (.bool s_q) (.slice A_q n_q c_q) (.slice B_q m_q d_q) (.bool t_q) (.slice E_q i_q e_q) (.slice F_q j_q f_q)
    obtain ⟨g0,g1,g2,g3,g4,g5⟩:=Z2.all
    refine bodyPost_ret (v:=.agg #[.bool s_q,.slice A_q n_q c_q,.slice B_q m_q d_q,.bool t_q,.slice E_q i_q e_q,.slice F_q j_q f_q]) (by simp [results,Tryz.results63,go_sem,g0,g1,g2,g3,g4,g5]) rfl ?_
    refine ⟨j,(PV.mk s_q A_q n_q c_q B_q m_q d_q t_q E_q i_q e_q F_q j_q f_q),v,HPj.out,HV.out,fun i u h5=>HS.out i ?_ u v h5 HV.out,rfl,QaE hb (Nat.le_refl _) _ _ _ _ _ _⟩
    have h7:=(List.getElem?_eq_some_iff.1 h5).1
    rw [← E0.out.1,HN.out] at h7
    exact h7
end
section
open Go Go.RowKit
def QiV (l:List (Rat × Rat)) (x0 y0 x1 y1:Rat):Prop :=
 (∃ (i:Nat) (u:Rat × Rat),l[i]?=some u∧u.1=x0)∧(∃ (i:Nat) (u:Rat × Rat),l[i]?=some u∧u.2=y0)∧(∃ (i:Nat) (u:Rat × Rat),l[i]?=some u∧u.1=x1)∧(∃ (i:Nat) (u:Rat × Rat),l[i]?=some u∧u.2=y1) ∧
 ∀ (i:Nat) (u:Rat × Rat),l[i]?=some u→x0≤u.1∧y0≤u.2∧u.1≤x1∧u.2≤y1
def QpM (w:World) (l:List (Rat × Rat)) (k:Nat) (en:Ending) (w':World):Prop :=
 ∃ (x0 y0 x1 y1:Rat) (p q:PV),QiV l x0 y0 x1 y1∧en=.returned (.tuple #[.agg #[.bool p.s,.slice p.A p.n p.c,.slice p.B p.m p.d,.bool p.t,.slice p.E p.i p.e,.slice p.F p.j p.f],.agg #[.bool q.s,.slice q.A q.n q.c,.slice q.B q.m q.d,.bool q.t,.slice q.E q.i q.e,.slice q.F q.j q.f],.bool true])∧PV.PG w' p (x0,y0) (k+1+1)∧PV.PG w' q (x1,y1) (k+1+1)∧Below w.heap.size w w'
theorem box_p {A:Option Addr} {n c k:Nat} {L:List PV} {l:List (Rat × Rat)} (hL:SV w A (pvs L)) (hE:Each PV.PR w L l k) (hn:L.length=n) (h0:0 < n) (hm:n≤1000) (hnc:n≤c) (h1:1≤k) (hk:k≤30000) :
 Calls Tryz.prog 24 #[.slice A n c] w (QpM w l k):=by
 have E0:=Lib.hid hE;have HL0:=Lib.hid hL
 have h4:¬ n=0:=by omega
 have hfl0:∀ (s t:Bool) (A B E F:Option Addr) (n c m d i e j f:Nat) (w:World),(Instr.field 29 (.agg #[.bool s,.slice A n c,.slice B m d,.bool t,.slice E i e,.slice F j f]) 0).run Tryz.prog w=.ok (.agg #[.bool s,.slice A n c,.slice B m d]) w:=fun _ _ _ _ _ _ _ _ _ _ _ _ _ _ _=>by kernel_rfl
 have hfl1:∀ (s t:Bool) (A B E F:Option Addr) (n c m d i e j f:Nat) (w:World),(Instr.field 29 (.agg #[.bool s,.slice A n c,.slice B m d,.bool t,.slice E i e,.slice F j f]) 1).run Tryz.prog w=.ok (.agg #[.bool t,.slice E i e,.slice F j f]) w:=fun _ _ _ _ _ _ _ _ _ _ _ _ _ _ _=>by kernel_rfl
 go_enter Tryz.func24,Tryz.ntmps24
 go_upto_region 1 with (fail)
 generalize hW:World.alloc _ _=W
 obtain ⟨hb,Y,Z,hzW⟩:=Qbn hW;clear hW;have yf0:=Y.f0;have yc0:=Y.c0;have zf0:=Z.f0;have zc0:=Z.c0;have yf1:=Y.f1;have yc1:=Y.c1;have zf1:=Z.f1;have zc1:=Z.c1;have yf2:=Y.f2;have yc2:=Y.c2;have zf2:=Z.f2;have zc2:=Z.c2;have yf3:=Y.f3;have yc3:=Y.c3;have zf3:=Z.f3;have zc3:=Z.c3;have yf4:=Y.f4;have yc4:=Y.c4;have zf4:=Z.f4;have zc4:=Z.c4;have yf5:=Y.f5;have yc5:=Y.c5;have zf5:=Z.f5;have zc5:=Z.c5
 go_upto_region 4 with (first
  | (go_at_call 60;(with_reducible refine (QsS (HL0.out.below hb) (Each.belowP E0.out hb) hn h0 hm hnc h1 (by omega)).mono ?_);rintro e w_p ⟨jp,⟨s_p,A_p,n_p,c_p,B_p,m_p,d_p,t_p,E_p,i_p,e_p,F_p,j_p,f_p⟩,vp,hjp,hvp,hbp,rfl,hh⟩
     replace hb:=Qaj hb hh;replace Y:=Y.below hh;replace Z:=Z.below hh;have yf0:=Y.f0;have yc0:=Y.c0;have zf0:=Z.f0;have zc0:=Z.c0;have yf1:=Y.f1;have yc1:=Y.c1;have zf1:=Z.f1;have zc1:=Z.c1;have yf2:=Y.f2;have yc2:=Y.c2;have zf2:=Z.f2;have zc2:=Z.c2;have yf3:=Y.f3;have yc3:=Y.c3;have zf3:=Z.f3;have zc3:=Z.c3;have yf4:=Y.f4;have yc4:=Y.c4;have zf4:=Z.f4;have zc4:=Z.c4;have yf5:=Y.f5;have yc5:=Y.c5;have zf5:=Z.f5;have zc5:=Z.c5)
  | (go_at_call 60;(with_reducible refine (QsZ (HL0.out.below hb) (Each.belowP E0.out hb) hn h0 hm hnc h1 (by omega)).mono ?_);rintro e w_q ⟨jq,⟨s_q,A_q,n_q,c_q,B_q,m_q,d_q,t_q,E_q,i_q,e_q,F_q,j_q,f_q⟩,vq,hjq,hvq,hbq,rfl,hh⟩
     replace hb:=Qaj hb hh;replace Y:=Y.below hh;replace Z:=Z.below hh;have yf0:=Y.f0;have yc0:=Y.c0;have zf0:=Z.f0;have zc0:=Z.c0;have yf1:=Y.f1;have yc1:=Y.c1;have zf1:=Z.f1;have zc1:=Z.c1;have yf2:=Y.f2;have yc2:=Y.c2;have zf2:=Z.f2;have zc2:=Z.c2;have yf3:=Y.f3;have yc3:=Y.c3;have zf3:=Z.f3;have zc3:=Z.c3;have yf4:=Y.f4;have yc4:=Y.c4;have zf4:=Z.f4;have zc4:=Z.c4;have yf5:=Y.f5;have yc5:=Y.c5;have zf5:=Z.f5;have zc5:=Z.c5))
 have hoY:=Qjy w_q w.heap.size (.bool s_p) (.slice A_p n_p c_p) (.slice B_p m_p d_p) (.bool t_q) (.slice E_q i_q e_q) (.slice F_q j_q f_q)
 have Y2:=Y.set6 (.bool s_p) (.slice A_p n_p c_p) (.slice B_p m_p d_p) (.bool t_q) (.slice E_q i_q e_q) (.slice F_q j_q f_q)
 have Z2:B6 _ _ (.bool false) (.slice none 0 0) (.slice none 0 0) (.bool false) (.slice none 0 0) (.slice none 0 0):=Z.rest (by omega) hoY
 replace hb:=Below.only hb (Nat.le_refl _) hb.size hoY
 clear hoY yf0 yc0 zf0 zc0 yf1 yc1 zf1 zc1 yf2 yc2 zf2 zc2 yf3 yc3 zf3 zc3 yf4 yc4 zf4 zc4 yf5 yc5 zf5 zc5;clear Y Z
 generalize ((((((w_q.setCell ⟨w.heap.size,0,none⟩ (.bool s_p)).setCell ⟨w.heap.size,1,none⟩ (.slice A_p n_p c_p)).setCell ⟨w.heap.size,2,none⟩ (.slice B_p m_p d_p)).setCell ⟨w.heap.size,3,none⟩ (.bool t_q)).setCell ⟨w.heap.size,4,none⟩ (.slice E_q i_q e_q)).setCell ⟨w.heap.size,5,none⟩ (.slice F_q j_q f_q))=W3 at *
 have Y:=Y2;have Z:=Z2;clear Y2 Z2;have yf0:=Y.f0;have yc0:=Y.c0;have zf0:=Z.f0;have zc0:=Z.c0;have yf1:=Y.f1;have yc1:=Y.c1;have zf1:=Z.f1;have zc1:=Z.c1;have yf2:=Y.f2;have yc2:=Y.c2;have zf2:=Z.f2;have zc2:=Z.c2;have yf3:=Y.f3;have yc3:=Y.c3;have zf3:=Z.f3;have zc3:=Z.c3;have yf4:=Y.f4;have yc4:=Y.c4;have zf4:=Z.f4;have zc4:=Z.c4;have yf5:=Y.f5;have yc5:=Y.c5;have zf5:=Z.f5;have zc5:=Z.c5
 go_upto_region 5 with (first
  | (go_at_call 63;(with_reducible refine (QrN (HL0.out.below hb) (Each.belowP E0.out hb) hn h0 hm hnc h1 (by omega)).mono ?_);rintro e w_r ⟨jr,⟨s_r,A_r,n_r,c_r,B_r,m_r,d_r,t_r,E_r,i_r,e_r,F_r,j_r,f_r⟩,vr,hjr,hvr,hbr,rfl,hh⟩
     replace hb:=Qaj hb hh;replace Y:=Y.below hh;replace Z:=Z.below hh;have yf0:=Y.f0;have yc0:=Y.c0;have zf0:=Z.f0;have zc0:=Z.c0;have yf1:=Y.f1;have yc1:=Y.c1;have zf1:=Z.f1;have zc1:=Z.c1;have yf2:=Y.f2;have yc2:=Y.c2;have zf2:=Z.f2;have zc2:=Z.c2;have yf3:=Y.f3;have yc3:=Y.c3;have zf3:=Z.f3;have zc3:=Z.c3;have yf4:=Y.f4;have yc4:=Y.c4;have zf4:=Z.f4;have zc4:=Z.c4;have yf5:=Y.f5;have yc5:=Y.c5;have zf5:=Z.f5;have zc5:=Z.c5)
  | (go_at_call 63;(with_reducible refine (Qr4 (HL0.out.below hb) (Each.belowP E0.out hb) hn h0 hm hnc h1 (by omega)).mono ?_);rintro e w_u ⟨ju,⟨s_u,A_u,n_u,c_u,B_u,m_u,d_u,t_u,E_u,i_u,e_u,F_u,j_u,f_u⟩,vu,hju,hvu,hbu,rfl,hh⟩
     replace hb:=Qaj hb hh;replace Y:=Y.below hh;replace Z:=Z.below hh;have yf0:=Y.f0;have yc0:=Y.c0;have zf0:=Z.f0;have zc0:=Z.c0;have yf1:=Y.f1;have yc1:=Y.c1;have zf1:=Z.f1;have zc1:=Z.c1;have yf2:=Y.f2;have yc2:=Y.c2;have zf2:=Z.f2;have zc2:=Z.c2;have yf3:=Y.f3;have yc3:=Y.c3;have zf3:=Z.f3;have zc3:=Z.c3;have yf4:=Y.f4;have yc4:=Y.c4;have zf4:=Z.f4;have zc4:=Z.c4;have yf5:=Y.f5;have yc5:=Y.c5;have zf5:=Z.f5;have zc5:=Z.c5))
 have hoZ:=Qjy w_u (w.heap.size+1) (.bool s_r) (.slice A_r n_r c_r) (.slice B_r m_r d_r) (.bool t_u) (.slice E_u i_u e_u) (.slice F_u j_u f_u)
 have Z2:=Z.set6 (.bool s_r) (.slice A_r n_r c_r) (.slice B_r m_r d_r) (.bool t_u) (.slice E_u i_u e_u) (.slice F_u j_u f_u)
 have Y2:B6 _ _ (.bool s_p) (.slice A_p n_p c_p) (.slice B_p m_p d_p) (.bool t_q) (.slice E_q i_q e_q) (.slice F_q j_q f_q):=Y.rest (by omega) hoZ
 replace hb:=Below.only hb (by omega) hb.size hoZ
 clear hoZ yf0 yc0 zf0 zc0 yf1 yc1 zf1 zc1 yf2 yc2 zf2 zc2 yf3 yc3 zf3 zc3 yf4 yc4 zf4 zc4 yf5 yc5 zf5 zc5;clear Y Z
 generalize ((((((w_u.setCell ⟨w.heap.size+1,0,none⟩ (.bool s_r)).setCell ⟨w.heap.size+1,1,none⟩ (.slice A_r n_r c_r)).setCell ⟨w.heap.size+1,2,none⟩ (.slice B_r m_r d_r)).setCell ⟨w.heap.size+1,3,none⟩ (.bool t_u)).setCell ⟨w.heap.size+1,4,none⟩ (.slice E_u i_u e_u)).setCell ⟨w.heap.size+1,5,none⟩ (.slice F_u j_u f_u))=W4 at *
 have Y:=Y2;have Z:=Z2;clear Y2 Z2
 have Ep:=PR.below (E0.out.2 _ _ _ hjp hvp) hb
 have Eq:=PR.below (E0.out.2 _ _ _ hjq hvq) hb
 have Er:=PR.below (E0.out.2 _ _ _ hjr hvr) hb
 have Eu:=PR.below (E0.out.2 _ _ _ hju hvu) hb
 have HBX:Hid (QiV l vp.1 vq.2 vr.1 vu.2):=⟨⟨_,_,hvp,rfl⟩,⟨_,_,hvq,rfl⟩,⟨_,_,hvr,rfl⟩,⟨_,_,hvu,rfl⟩,fun i u h=>⟨hbp i u h,hbq i u h,hbr i u h,hbu i u h⟩⟩
 have pl:PR W4 s_p A_p n_p c_p B_p m_p d_p t_q E_q i_q e_q F_q j_q f_q vp.1 vq.2 k:=⟨Ep.1,Eq.2⟩
 have ph:PR W4 s_r A_r n_r c_r B_r m_r d_r t_u E_u i_u e_u F_u j_u f_u vr.1 vu.2 k:=⟨Er.1,Eu.2⟩
 clear hbp hbq hbr hbu hjp hjq hjr hju Ep Eq Er Eu hvp hvq hvr hvu
 generalize vp.1=x0 at *
 generalize vq.2=y0 at *
 generalize vr.1=x1 at *
 generalize vu.2=y1 at *
 replace pl:=pl.below (Below.refl _ _).drew
 replace ph:=ph.below (Below.refl _ _).drew
 replace Y:=Y.below (Below.refl _ _).drew
 replace Z:=Z.below (Below.refl _ _).drew
 replace hb:=hb.drew;have yf0:=Y.f0;have yc0:=Y.c0;have zf0:=Z.f0;have zc0:=Z.c0;have yf1:=Y.f1;have yc1:=Y.c1;have zf1:=Z.f1;have zc1:=Z.c1;have yf2:=Y.f2;have yc2:=Y.c2;have zf2:=Z.f2;have zc2:=Z.c2;have yf3:=Y.f3;have yc3:=Y.c3;have zf3:=Z.f3;have zc3:=Z.c3;have yf4:=Y.f4;have yc4:=Y.c4;have zf4:=Z.f4;have zc4:=Z.c4;have yf5:=Y.f5;have yc5:=Y.c5;have zf5:=Z.f5;have zc5:=Z.c5
 go_region_with (first
  | (go_at_call 29;(with_reducible refine (Qie pl hk h1).mono ?_);rintro e w_v ⟨s_v,A_v,n_v,c_v,B_v,m_v,d_v,t_v,E_v,i_v,e_v,F_v,j_v,f_v,rfl,v,hh⟩
     (try replace pl:=pl.below hh);(try replace ph:=ph.below hh);(try replace Y:=Y.below hh);(try replace Z:=Z.below hh);(try replace x:=x.below hh);replace hb:=Qaj hb hh;have yf0:=Y.f0;have yc0:=Y.c0;have zf0:=Z.f0;have zc0:=Z.c0;have yf1:=Y.f1;have yc1:=Y.c1;have zf1:=Z.f1;have zc1:=Z.c1;have yf2:=Y.f2;have yc2:=Y.c2;have zf2:=Z.f2;have zc2:=Z.c2;have yf3:=Y.f3;have yc3:=Y.c3;have zf3:=Z.f3;have zc3:=Z.c3;have yf4:=Y.f4;have yc4:=Y.c4;have zf4:=Z.f4;have zc4:=Z.c4;have yf5:=Y.f5;have yc5:=Y.c5;have zf5:=Z.f5;have zc5:=Z.c5)
  | (go_at_call 29;(with_reducible refine (Qie ph hk h1).mono ?_);rintro e w_x ⟨s_x,A_x,n_x,c_x,B_x,m_x,d_x,t_x,E_x,i_x,e_x,F_x,j_x,f_x,rfl,x,hh⟩
     (try replace pl:=pl.below hh);(try replace ph:=ph.below hh);(try replace Y:=Y.below hh);(try replace Z:=Z.below hh);(try replace v:=v.below hh);replace hb:=Qaj hb hh;have yf0:=Y.f0;have yc0:=Y.c0;have zf0:=Z.f0;have zc0:=Z.c0;have yf1:=Y.f1;have yc1:=Y.c1;have zf1:=Z.f1;have zc1:=Z.c1;have yf2:=Y.f2;have yc2:=Y.c2;have zf2:=Z.f2;have zc2:=Z.c2;have yf3:=Y.f3;have yc3:=Y.c3;have zf3:=Z.f3;have zc3:=Z.c3;have yf4:=Y.f4;have yc4:=Y.c4;have zf4:=Z.f4;have zc4:=Z.c4;have yf5:=Y.f5;have yc5:=Y.c5;have zf5:=Z.f5;have zc5:=Z.c5))
 all_goals go_wp2_with fail
 all_goals have hoY:=Qjy w_x w.heap.size (.bool s_v) (.slice A_v n_v c_v) (.slice B_v m_v d_v) (.bool t_v) (.slice E_v i_v e_v) (.slice F_v j_v f_v)
 all_goals have Y2:=Y.set6 (.bool s_v) (.slice A_v n_v c_v) (.slice B_v m_v d_v) (.bool t_v) (.slice E_v i_v e_v) (.slice F_v j_v f_v)
 all_goals have Z1:=Z.rest (by omega) hoY
 all_goals have Z2:=B6.set6 Z1 (.bool s_x) (.slice A_x n_x c_x) (.slice B_x m_x d_x) (.bool t_x) (.slice E_x i_x e_x) (.slice F_x j_x f_x)
 all_goals have hoZ:=Qjy ((((((w_x.setCell ⟨w.heap.size,0,none⟩ (.bool s_v)).setCell ⟨w.heap.size,1,none⟩ (.slice A_v n_v c_v)).setCell ⟨w.heap.size,2,none⟩ (.slice B_v m_v d_v)).setCell ⟨w.heap.size,3,none⟩ (.bool t_v)).setCell ⟨w.heap.size,4,none⟩ (.slice E_v i_v e_v)).setCell ⟨w.heap.size,5,none⟩ (.slice F_v j_v f_v)) (w.heap.size+1) (.bool s_x) (.slice A_x n_x c_x) (.slice B_x m_x d_x) (.bool t_x) (.slice E_x i_x e_x) (.slice F_x j_x f_x)
 all_goals have Y3:=Y2.rest (by omega) hoZ
 all_goals replace hb:=QaE (QaE hb (Nat.le_refl _) (.bool s_v) (.slice A_v n_v c_v) (.slice B_v m_v d_v) (.bool t_v) (.slice E_v i_v e_v) (.slice F_v j_v f_v)) (show w.heap.size≤w.heap.size+1 by omega) (.bool s_x) (.slice A_x n_x c_x) (.slice B_x m_x d_x) (.bool t_x) (.slice E_x i_x e_x) (.slice F_x j_x f_x)
 all_goals replace v:=PG.box (PG.box v (QlP Y) hoY) (QlP Z1) hoZ
 all_goals replace x:=PG.box (PG.box x (QlP Y) hoY) (QlP Z1) hoZ
 all_goals clear yf0 yc0 zf0 zc0 yf1 yc1 zf1 zc1 yf2 yc2 zf2 zc2 yf3 yc3 zf3 zc3 yf4 yc4 zf4 zc4 yf5 yc5 zf5 zc5 hoY hoZ Z1 Y2 Y Z pl ph
 all_goals generalize ((((((((((((w_x.setCell ⟨w.heap.size,0,none⟩ (.bool s_v)).setCell ⟨w.heap.size,1,none⟩ (.slice A_v n_v c_v)).setCell ⟨w.heap.size,2,none⟩ (.slice B_v m_v d_v)).setCell ⟨w.heap.size,3,none⟩ (.bool t_v)).setCell ⟨w.heap.size,4,none⟩ (.slice E_v i_v e_v)).setCell ⟨w.heap.size,5,none⟩ (.slice F_v j_v f_v)).setCell ⟨w.heap.size+1,0,none⟩ (.bool s_x)).setCell ⟨w.heap.size+1,1,none⟩ (.slice A_x n_x c_x)).setCell ⟨w.heap.size+1,2,none⟩ (.slice B_x m_x d_x)).setCell ⟨w.heap.size+1,3,none⟩ (.bool t_x)).setCell ⟨w.heap.size+1,4,none⟩ (.slice E_x i_x e_x)).setCell ⟨w.heap.size+1,5,none⟩ (.slice F_x j_x f_x))=W5 at *
 all_goals have gy0:=B6.c0 Y3
 all_goals have gz0:=B6.c0 Z2
 all_goals have gy1:=B6.c1 Y3
 all_goals have gz1:=B6.c1 Z2
 all_goals have gy2:=B6.c2 Y3
 all_goals have gz2:=B6.c2 Z2
 all_goals have gy3:=B6.c3 Y3
 all_goals have gz3:=B6.c3 Z2
 all_goals have gy4:=B6.c4 Y3
 all_goals have gz4:=B6.c4 Z2
 all_goals have gy5:=B6.c5 Y3
 all_goals have gz5:=B6.c5 Z2
 all_goals refine bodyPost_ret (v:=.tuple #[.agg #[.bool s_v,.slice A_v n_v c_v,.slice B_v m_v d_v,.bool t_v,.slice E_v i_v e_v,.slice F_v j_v f_v],.agg #[.bool s_x,.slice A_x n_x c_x,.slice B_x m_x d_x,.bool t_x,.slice E_x i_x e_x,.slice F_x j_x f_x],.bool true]) (by simp [results,Tryz.results24,go_sem,gy0,gz0,gy1,gz1,gy2,gz2,gy3,gz3,gy4,gz4,gy5,gz5]) rfl ?_
 all_goals exact ⟨x0,y0,x1,y1,(PV.mk s_v A_v n_v c_v B_v m_v d_v t_v E_v i_v e_v F_v j_v f_v),(PV.mk s_x A_x n_x c_x B_x m_x d_x t_x E_x i_x e_x F_x j_x f_x),HBX.out,rfl,v,x,hb⟩
end
end Go.Proofs.YthbhngeiiabagaaGreat
