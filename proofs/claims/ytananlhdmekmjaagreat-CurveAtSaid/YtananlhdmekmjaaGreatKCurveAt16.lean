/- CurveAt: part 16. -/
import Derived.Test.YtananlhdmekmjaaGreatKCurveAt9
import Derived.Test.YtananlhdmekmjaaGreatKCurveAt11
import Derived.Test.YtananlhdmekmjaaGreatKCurveAt12
import Derived.Test.YtananlhdmekmjaaGreatKCurveAt13
import Derived.Test.YtananlhdmekmjaaGreatKCurveAt14
import Derived.Test.YtananlhdmekmjaaGreatKCurveAt15
set_option linter.unusedVariables false
set_option maxRecDepth 100000
set_option maxHeartbeats 16000000
variable {w:Go.World}
variable {s_p t_p:Bool} {A_p B_p E_p F_p:Option Go.Addr} {n_p c_p m_p d_p i_p e_p j_p f_p:Nat}
variable {s_q t_q:Bool} {A_q B_q E_q F_q:Option Go.Addr} {n_q c_q m_q d_q i_q e_q j_q f_q:Nat}
variable {s_r t_r:Bool} {A_r B_r E_r F_r:Option Go.Addr} {n_r c_r m_r d_r i_r e_r j_r f_r:Nat}
namespace Go.Proofs.YtananlhdmekmjaaGreat
section
open Go Go.RowKit
attribute [local go_sem ↓] open_LVM open_STM open_LVN open_STN
attribute [local go_sem ↓] open_LVH open_STH open_LVJ open_STJ
theorem rins13 {A:Option Addr} {n c k:Nat} {L:List HV} {V:List AH} (hL:SV w A (hvs L)) (hE:EachH HR w L V k) (hn:L.length=n) (hm:n≤1000) (hk:k≤1000) (h1:1≤k) :
 Calls Tryz.prog 19 #[.slice A n c] w (GivesJs w V (2*k)):=by
 have HN:=Lib.hid hn
 have HVl:Hid (V.length=n):=hE.1.symm.trans hn
 have HL9:=Lib.hid hL;have E9:=Lib.hid hE;clear hL hE hn
 go_enter Tryz.func19,Tryz.ntmps19
 go_wp2_with fail
 go_loopg [3,4] n (fun gk out ix wr=>∃ (M:List HV) (m:Nat),Hid (gk+m=n)∧ix=.int .i64 (m:Int)∧LnH 75 w.heap.size wr out M∧Hid (EachH RH wr M (V.take m) (2*k))∧Below w.heap.size w wr)
 case atStart=>exact ⟨[],0,Nat.add_zero _,rfl,LnH.nil _ _ _,⟨rfl,fun i p u h=>by cases h⟩,Below.refl _ _⟩
 case round =>
  obtain ⟨M,m,HG9,rfl,LT,HQ,hB⟩:=hrel
  by_cases hmn:m < n
  · obtain ⟨P,u,hP1,hu1,p0⟩:=(EachH.belowR E9.out hB).at_ (i:=m) (by rw [HN.out];exact hmn)
    obtain ⟨g0,o0,hix0,EP0,_⟩:=HL9.out.ht hP1
    have hixa:∀ w',(Instr.indexAt 37 (.slice A n c) (.int .i64 (m:Int))).run Tryz.prog w'=.ok (.pointer (some ⟨g0,o0,none⟩)) w':=fun w'=>hix0 n c w' hmn
    have hlt:(m:Int) < (n:Int):=by omega
    have hwr:IntKind.i64.wrap ((m:Int)+1)=(m:Int)+1:=IntWalk.i64_in _ (by omega)
    have HU:=Lib.hid hu1
    have hMl:M.length≤1000000:=by have:=HQ.out.1;rw [List.length_take] at this;omega
    have HMN:=Lib.hid hmn;have EP:=EP0.below hB
    have hxg:∀ b,u3.ownBlock=some b→b ≠ g0:=fun b e=>by have:=LT.own_base e;have:=EP0.lt;omega
    have p:=p0;clear hP1 hu1 hix0 hmn EP0 p0
    go_upto_region 5 with (fail)
    replace LT:=LT.below (Below.refl _ _).drew
    replace EP:=EP.below (Below.refl _ _).drew
    replace p:=p.below (Below.refl _ _).drew
    replace HQ:=Lib.hid (EachH.belowJ HQ.out (Below.refl _ _).drew)
    replace hB:=hB.drew
    go_region_held3 (fun w'=>w'.cell? ⟨g0,o0,none⟩=some (.bool P.x.s)∧w'.cell? ⟨g0,o0+1,none⟩=some (.slice P.x.A P.x.n P.x.c)∧w'.cell? ⟨g0,o0+2,none⟩=some (.slice P.x.B P.x.m P.x.d)∧w'.cell? ⟨g0,o0+3,none⟩=some (.bool P.y.s)∧w'.cell? ⟨g0,o0+4,none⟩=some (.slice P.y.A P.y.n P.y.c)∧w'.cell? ⟨g0,o0+5,none⟩=some (.slice P.y.B P.y.m P.y.d)∧w'.cell? ⟨g0,o0+6,none⟩=some (.bool P.w.s)∧w'.cell? ⟨g0,o0+7,none⟩=some (.slice P.w.A P.w.n P.w.c)∧w'.cell? ⟨g0,o0+8,none⟩=some (.slice P.w.B P.w.m P.w.d))
     (first | with_reducible exact ⟨EPb.c0,EPb.c1,EPb.c2,EPb.c3,EPb.c4,EPb.c5,EPb.c6,EPb.c7,EPb.c8⟩ | with_reducible exact ⟨EP.c0,EP.c1,EP.c2,EP.c3,EP.c4,EP.c5,EP.c6,EP.c7,EP.c8⟩ | exact ⟨(EP.below ((Below.refl _ _).alloc (Nat.le_refl _) _)).c0,(EP.below ((Below.refl _ _).alloc (Nat.le_refl _) _)).c1,(EP.below ((Below.refl _ _).alloc (Nat.le_refl _) _)).c2,(EP.below ((Below.refl _ _).alloc (Nat.le_refl _) _)).c3,(EP.below ((Below.refl _ _).alloc (Nat.le_refl _) _)).c4,(EP.below ((Below.refl _ _).alloc (Nat.le_refl _) _)).c5,(EP.below ((Below.refl _ _).alloc (Nat.le_refl _) _)).c6,(EP.below ((Below.refl _ _).alloc (Nat.le_refl _) _)).c7,(EP.below ((Below.refl _ _).alloc (Nat.le_refl _) _)).c8⟩)
     (first
     | (go_at_call 20;(with_reducible refine (rin3 p.qx hk h1).mono ?_);rintro e w_r1 ⟨s_r1,A_r1,n_r1,c_r1,B_r1,m_r1,d_r1,rfl,r1,hh⟩
        (try replace LT:=LT.below hh);(try replace EP:=EP.below hh);(try replace p:=p.below hh);(try replace r2:=r2.below hh);(try replace r3:=r3.below hh)
        replace HQ:=Lib.hid (EachH.belowJ HQ.out hh)
        replace hB:=bend hB hh)
     | (go_at_call 20;(with_reducible refine (rin3 p.qy hk h1).mono ?_);rintro e w_r2 ⟨s_r2,A_r2,n_r2,c_r2,B_r2,m_r2,d_r2,rfl,r2,hh⟩
        (try replace LT:=LT.below hh);(try replace EP:=EP.below hh);(try replace p:=p.below hh);(try replace r1:=r1.below hh);(try replace r3:=r3.below hh)
        replace HQ:=Lib.hid (EachH.belowJ HQ.out hh)
        replace hB:=bend hB hh)
     | (go_at_call 20;(with_reducible refine (rin3 p.qw hk h1).mono ?_);rintro e w_r3 ⟨s_r3,A_r3,n_r3,c_r3,B_r3,m_r3,d_r3,rfl,r3,hh⟩
        (try replace LT:=LT.below hh);(try replace EP:=EP.below hh);(try replace p:=p.below hh);(try replace r1:=r1.below hh);(try replace r2:=r2.below hh)
        replace HQ:=Lib.hid (EachH.belowJ HQ.out hh)
        replace hB:=bend hB hh)
     | (have hal:Below w_r3.heap.size w_r3 (w_r3.alloc (Obj.cells #[Value.bool s_r1,Value.slice A_r1 n_r1 c_r1,Value.slice B_r1 m_r1 d_r1,Value.bool s_r2,Value.slice A_r2 n_r2 c_r2,Value.slice B_r2 m_r2 d_r2,Value.bool s_r3,Value.slice A_r3 n_r3 c_r3,Value.slice B_r3 m_r3 d_r3] 75)):=((Below.refl _ _).alloc (Nat.le_refl _) _)
        have EPa:=EP.below hal
        refine step_pushH Tryz.underlying41 info_rhom (by rfl) _ _ (by rfl) (p:=⟨⟨s_r1,A_r1,n_r1,c_r1,B_r1,m_r1,d_r1⟩,⟨s_r2,A_r2,n_r2,c_r2,B_r2,m_r2,d_r2⟩,⟨s_r3,A_r3,n_r3,c_r3,B_r3,m_r3,d_r3⟩⟩) (k0:=1) (b:=w_r3.heap.size) (by rfl) (by rfl) (LT.below hal) (Nat.le_trans hB.size hal.size) hMl (heap_alloc_new w_r3 _) ?_
        intro v3 w3 hn3 hg3 ho3
        have EPb:=EPa.push hg3 hxg))
    have hE3:EachH RH (w_r3.alloc (Obj.cells #[Value.bool s_r1,Value.slice A_r1 n_r1 c_r1,Value.slice B_r1 m_r1 d_r1,Value.bool s_r2,Value.slice A_r2 n_r2 c_r2,Value.slice B_r2 m_r2 d_r2,Value.bool s_r3,Value.slice A_r3 n_r3 c_r3,Value.slice B_r3 m_r3 d_r3] 75)) M (V.take m) (2*k):=EachH.belowJ HQ.out hal
    have hp3:RH (w_r3.alloc (Obj.cells #[Value.bool s_r1,Value.slice A_r1 n_r1 c_r1,Value.slice B_r1 m_r1 d_r1,Value.bool s_r2,Value.slice A_r2 n_r2 c_r2,Value.slice B_r2 m_r2 d_r2,Value.bool s_r3,Value.slice A_r3 n_r3 c_r3,Value.slice B_r3 m_r3 d_r3] 75)) ⟨⟨s_r1,A_r1,n_r1,c_r1,B_r1,m_r1,d_r1⟩,⟨s_r2,A_r2,n_r2,c_r2,B_r2,m_r2,d_r2⟩,⟨s_r3,A_r3,n_r3,c_r3,B_r3,m_r3,d_r3⟩⟩ u (2*k):=(RH.below (h:=⟨⟨s_r1,A_r1,n_r1,c_r1,B_r1,m_r1,d_r1⟩,⟨s_r2,A_r2,n_r2,c_r2,B_r2,m_r2,d_r2⟩,⟨s_r3,A_r3,n_r3,c_r3,B_r3,m_r3,d_r3⟩⟩) (v:=u) (k:=2*k) ⟨r1,r2,r3⟩ hal)
    have hB9:=LnH.under (T:=75) (base:=w.heap.size) (LT.below hal) hg3 (w0:=w) (bend hB hal) (Nat.le_refl _)
    have hE4:=takeH HU.out (EachH.push hE3 (fun _ _ h=>(LT.below hal).rh hg3 h) ((LT.below hal).rh hg3 hp3))
    clear hE3 hp3 EPa EPb EP p r1 r2 r3
    go_wp2_with fail
    go_roundg (gk - 1)
    case measure=>have:=HG9.out;have:=HMN.out;omega
    case rel=>exact ⟨M ++ [(⟨⟨s_r1,A_r1,n_r1,c_r1,B_r1,m_r1,d_r1⟩,⟨s_r2,A_r2,n_r2,c_r2,B_r2,m_r2,d_r2⟩,⟨s_r3,A_r3,n_r3,c_r3,B_r3,m_r3,d_r3⟩⟩:HV)],m+1,by have:=HG9.out;have:=HMN.out;show _=_;omega,by go_num,hn3,Lib.hid hE4,hB9⟩
  · have hlt:¬ (m:Int) < (n:Int):=by omega
    have HQ2:Hid (EachH RH wr M V (2*k)):=by
     have h:=HQ.out
     rwa [List.take_of_length_le (by rw [HVl.out];omega)] at h
    clear hmn
    go_wp2_with fail
    (try rw [Exit.noGoto_ret])
    go_ret
    exact ⟨_,M,rfl,LT,HQ2.out,hB⟩
end
section
open Go Go.RowKit
attribute [local go_sem ↓] open_LVM open_STM open_LVN open_STN
attribute [local go_sem ↓] open_LVH open_STH open_LVJ open_STJ
theorem mkbx45_16 {w W:World} {x0 x1 x2 x3 x4 x5 x6 x7 x8 x9 x10 x11 x12 x13 x14:Value} (h:((w.alloc (Obj.cells #[x0,x1,x2,x3,x4,x5,x6,x7,x8] 75)).alloc (Obj.cells #[x9,x10,x11,x12,x13,x14] 51))=W):Below w.heap.size w W∧BJ W (w.heap.size) x0 x1 x2 x3 x4 x5 x6 x7 x8∧B6R W (w.heap.size+1) x9 x10 x11 x12 x13 x14∧W.heap.size=w.heap.size+2:=by subst h;exact ⟨by exact (((Below.refl _ _).alloc (Nat.le_refl _) _).alloc (by simp) _),by exact (BJ.new' _ _ _ _ _ _ _ _ _ _ _ rfl).alloc _,by exact B6R.new' _ _ _ _ _ _ _ _ (by simp),by simp⟩
theorem rpoint13 {k:Nat} {v:AH} {h:HV} (H:RH w h v k) (hk:k≤9000) (h0:v.w ≠ 0) :
 Calls Tryz.prog 29 #[.agg #[.bool h.x.s,.slice h.x.A h.x.n h.x.c,.slice h.x.B h.x.m h.x.d,.bool h.y.s,.slice h.y.A h.y.n h.y.c,.slice h.y.B h.y.m h.y.d,.bool h.w.s,.slice h.w.A h.w.n h.w.c,.slice h.w.B h.w.m h.w.d]] w (GivesRP w (v.x / v.w) (v.y / v.w) (k+k)):=by
 go_enter Tryz.func29,Tryz.ntmps29
 go_upto_region 1 with (fail)
 generalize hW:World.alloc _ _=W
 obtain ⟨hb,XA,Z,hzW⟩:=mkbx45_16 hW;clear hW;replace H:=H.below hb
 replace H:=H.below (Below.refl _ _).drew
 replace XA:=XA.below (Below.refl _ _).drew
 replace Z:=Z.below (Below.refl _ _).drew
 replace hb:=hb.drew
 go_region_held3 (fun w'=>w'.cell? ⟨w.heap.size,0,none⟩=some (.bool h.x.s)∧w'.cell? ⟨w.heap.size,1,none⟩=some (.slice h.x.A h.x.n h.x.c)∧w'.cell? ⟨w.heap.size,2,none⟩=some (.slice h.x.B h.x.m h.x.d)∧w'.cell? ⟨w.heap.size,3,none⟩=some (.bool h.y.s)∧w'.cell? ⟨w.heap.size,4,none⟩=some (.slice h.y.A h.y.n h.y.c)∧w'.cell? ⟨w.heap.size,5,none⟩=some (.slice h.y.B h.y.m h.y.d)∧w'.cell? ⟨w.heap.size,6,none⟩=some (.bool h.w.s)∧w'.cell? ⟨w.heap.size,7,none⟩=some (.slice h.w.A h.w.n h.w.c)∧w'.cell? ⟨w.heap.size,8,none⟩=some (.slice h.w.B h.w.m h.w.d))
  (first | with_reducible exact ⟨XA.c0,XA.c1,XA.c2,XA.c3,XA.c4,XA.c5,XA.c6,XA.c7,XA.c8⟩ | with_reducible exact ⟨(XA.restm (by omega) (only_set6 _ _ _ _ _ _ _ _)).c0,(XA.restm (by omega) (only_set6 _ _ _ _ _ _ _ _)).c1,(XA.restm (by omega) (only_set6 _ _ _ _ _ _ _ _)).c2,(XA.restm (by omega) (only_set6 _ _ _ _ _ _ _ _)).c3,(XA.restm (by omega) (only_set6 _ _ _ _ _ _ _ _)).c4,(XA.restm (by omega) (only_set6 _ _ _ _ _ _ _ _)).c5,(XA.restm (by omega) (only_set6 _ _ _ _ _ _ _ _)).c6,(XA.restm (by omega) (only_set6 _ _ _ _ _ _ _ _)).c7,(XA.restm (by omega) (only_set6 _ _ _ _ _ _ _ _)).c8⟩)
  (first
  | (go_at_call 69;(with_reducible refine (rdiv3 H.qx H.qw (by omega) (by omega) h0).mono ?_);rintro e w_r ⟨s_r,A_r,n_r,c_r,B_r,m_r,d_r,rfl,r,hh⟩
     (try replace H:=H.below hh);(try replace XA:=XA.below hh);(try replace Z:=Z.below hh);(try replace u:=u.below hh);replace hb:=bend hb hh)
  | (go_at_call 69;(with_reducible refine (rdiv3 H.qy H.qw (by omega) (by omega) h0).mono ?_);rintro e w_u ⟨s_u,A_u,n_u,c_u,B_u,m_u,d_u,rfl,u,hh⟩
     (try replace H:=H.below hh);(try replace XA:=XA.below hh);(try replace Z:=Z.below hh);(try replace r:=r.below hh);replace hb:=bend hb hh;have zg0:=Z.f0;have zg1:=Z.f1;have zg2:=Z.f2;have zg3:=Z.f3;have zg4:=Z.f4;have zg5:=Z.f5;obtain ⟨zc0,zc1,zc2,zc3,zc4,zc5⟩:=Z.all))
 go_wp2_with fail
 have Z2:=Z.set6 (.bool s_r) (.slice A_r n_r c_r) (.slice B_r m_r d_r) (.bool s_u) (.slice A_u n_u c_u) (.slice B_u m_u d_u)
 obtain ⟨g0,g1,g2,g3,g4,g5⟩:=Z2.all
 refine bodyPost_ret (v:=.agg #[.bool s_r,.slice A_r n_r c_r,.slice B_r m_r d_r,.bool s_u,.slice A_u n_u c_u,.slice B_u m_u d_u]) (by simp [results,Tryz.results29,go_sem,g0,g1,g2,g3,g4,g5]) rfl ?_
 exact ⟨_,_,_,_,_,_,_,_,_,_,_,_,_,_,rfl,(show RP _ _ _ _ _ _ _ _ _ _ _ _ _ _ _ _ _ _ from ⟨r,u⟩).set6 Z _ _ _ _ _ _,below_set6 hb (by omega) _ _ _ _ _ _⟩
theorem i64In.lo {x:Int} (h:i64In x):-9223372036854775808≤x:=h.1
theorem i64In.hi {x:Int} (h:i64In x):x < 9223372036854775808:=h.2
theorem rgood13 {A:Option Addr} {n c k:Nat} {L:List HV} {V:List AH} (hL:SV w A (hvs L)) (hE:EachH RH w L V k) (hn:L.length=n) (hm:n≤1000) (R:Bool) (hR0:R=true ↔ GoodH V) :
 Calls Tryz.prog 22 #[.slice A n c] w fun e w'=>e=.returned (.bool R)∧Below w.heap.size w w':=by
 have HN:=Lib.hid hn
 have HVl:Hid (V.length=n):=hE.1.symm.trans hn
 have HL9:=Lib.hid hL;have E9:=Lib.hid hE;have HR0:=Lib.hid hR0;clear hL hE hn hR0
 go_enter Tryz.func22,Tryz.ntmps22
 go_wp2_with fail
 go_loopg [3] n (fun gk ix wr=>∃ (m:Nat),Hid (gk+m=n)∧ix=.int .i64 (m:Int)∧Hid (∀ (i:Nat) (u:AH),i < m→V[i]?=some u→0 < u.w)∧Below w.heap.size w wr)
 case atStart=>exact ⟨0,Nat.add_zero _,rfl,fun i p hi=>absurd hi (by omega),Below.refl _ _⟩
 case round =>
  obtain ⟨m,HG,rfl,HS,hb⟩:=hrel
  by_cases hmn:m < n
  · have HMN:=Lib.hid hmn
    obtain ⟨P,u,hP1,hu1,p0⟩:=E9.out.at_ (i:=m) (by rw [HN.out];exact hmn)
    obtain ⟨g0,o0,hix0,EP0,_⟩:=(HL9.out.below hb).jt hP1
    have hixa:∀ w',(Instr.indexAt 41 (.slice A n c) (.int .i64 (m:Int))).run Tryz.prog w'=.ok (.pointer (some ⟨g0,o0,none⟩)) w':=fun w'=>hix0 n c w' hmn
    have hlt:(m:Int) < (n:Int):=by omega
    have hwr:IntKind.i64.wrap ((m:Int)+1)=(m:Int)+1:=IntWalk.i64_in _ (by omega)
    have HU:=Lib.hid hu1
    have pw:=(p0.below hb).qw
    have ep6:=EP0.c6;have ep7:=EP0.c7;have ep8:=EP0.c8;clear hP1 hu1 hix0 hmn p0 EP0
    by_cases hs:0 < u.w
    · have HT:Hid (sgnQ u.w=1):=sgn_p hs
      have HSM:=Lib.hid hs;clear hs
      go_wp2_with (first
       | (go_at_call 23;(with_reducible refine (rsign3 pw).mono ?_);rintro e w_z ⟨rfl,hh⟩;rw [HT.out];replace hb:=bend hb hh))
      go_roundg (gk - 1)
      case measure=>have:=HG.out;have:=HMN.out;omega
      case rel =>
       refine ⟨m+1,by have:=HG.out;have:=HMN.out;show _=_;omega,by go_num,fun i v hi h5=>?_,hb⟩
       rcases Nat.lt_or_ge i m with h | h
       · exact HS.out i v h h5
       · obtain rfl:i=m:=by omega
         rw [HU.out] at h5;cases h5;exact HSM.out
    · obtain ⟨T,hT,hT0⟩:∃ T,sgnQ u.w=T∧T≤0:=⟨_,rfl,sgn_np hs⟩
      have HT:=Lib.hid hT
      have HF:Hid (false=R):=by
       show _=_
       cases R with
       | false=>rfl
       | true=>exact absurd ((HR0.out.1 rfl).2 _ (List.mem_of_getElem? HU.out)) hs
      clear hs hT
      go_wp2_with (first
       | (go_at_call 23;(with_reducible refine (rsign3 pw).mono ?_);rintro e w_z ⟨rfl,hh⟩;rw [HT.out];replace hb:=bend hb hh))
      (try rw [Exit.noGoto_ret])
      go_ret
      exact ⟨by rw [← HF.out];rfl,hb⟩
  · have hlt:¬ (m:Int) < (n:Int):=by omega
    have HA:Hid (∀ u ∈ V,0 < u.w):=by
     intro p hp
     obtain ⟨i,hi⟩:=List.getElem?_of_mem hp
     have h7:=(List.getElem?_eq_some_iff.1 hi).1
     rw [HVl.out] at h7
     exact HS.out i p (by omega) hi
    clear hmn
    by_cases h2:n < 2
    · have h2':¬ 2≤(n:Int):=by omega
      have HF:Hid (false=R):=by
       show _=_
       cases R with
       | false=>rfl
       | true=>have h5:=(HR0.out.1 rfl).1;rw [HVl.out] at h5;omega
      go_wp2_with fail
      (try rw [Exit.noGoto_ret])
      go_ret
      exact ⟨by rw [← HF.out];rfl,hb⟩
    · have h2':2≤(n:Int):=by omega
      by_cases h4:4 < n
      · have h4':¬ (n:Int)≤4:=by omega
        have HF:Hid (false=R):=by
         show _=_
         cases R with
         | false=>rfl
         | true=>have h5:=(HR0.out.1 rfl).1;rw [HVl.out] at h5;omega
        go_wp2_with fail
        (try rw [Exit.noGoto_ret])
        go_ret
        exact ⟨by rw [← HF.out];simp,hb⟩
      · have h4':(n:Int)≤4:=by omega
        have HF:Hid (true=R):=(HR0.out.2 ⟨by rw [HVl.out];omega,HA.out⟩).symm
        go_wp2_with fail
        (try rw [Exit.noGoto_ret])
        go_ret
        exact ⟨by rw [← HF.out];simp,hb⟩
end
section
open Go Go.RowKit
attribute [local go_sem ↓] open_LVH open_STH open_LVJ open_STJ
theorem one_n:(Rat.divInt 1 1).num.natAbs < B64 ^ 1:=by decide +kernel
theorem one_d:(Rat.divInt 1 1).den < B64 ^ 1:=by decide +kernel
theorem Ln.svX {T:TypeId} {base:Nat} {A:Option Addr} {n c:Nat} {L:List PV} (h:Ln T base w (.slice A n c) L):SV w A (pvs L):=fun hn=>by
 rcases h.own.2 with ⟨_,e⟩ | ⟨g,cap,cur,hv,_,hg,_⟩
 · rw [show L=[] from List.length_eq_zero_iff.1 e] at hn;exact absurd hn (by simp [pvs])
 · have hc:=h.own.cells (g:=g) (by rw [hv];rfl)
   have ha:∀ j,(⟨g,0,none⟩:Addr).add j=⟨g,j,none⟩:=fun j=>by unfold Addr.add;split <;> simp_all
   simp only [Value.slice.injEq] at hv
   refine ⟨g,0,hv.1,?_,fun j u hu=>by have:=hc j u hu;rw [ha] at this;rw [Nat.zero_add];exact this⟩
   rcases Nat.lt_or_ge g w.heap.size with q | q
   · exact q
   · rw [Array.getElem?_eq_none q] at hg;cases hg
def quadH (V:List (Rat × Rat)):List AH:=V.map fun u=>⟨u.1,u.2,1⟩
theorem E6x.pushX {w w':World} {g o:Nat} {p:PV} {row:Option Nat} (h:E6x w g o p) (hg:w.grownBy w' row) (hne:∀ k,row=some k→k ≠ g):E6x w' g o p:=by
 have hs:=hg.block g h.lt (fun e=>hne g e.symm rfl)
 exact ⟨Nat.lt_of_lt_of_le h.lt hg.size,(World.cell?_of_block (a:=⟨g,o,none⟩) hs).trans h.c0,(World.cell?_of_block (a:=⟨g,o+1,none⟩) hs).trans h.c1,(World.cell?_of_block (a:=⟨g,o+2,none⟩) hs).trans h.c2,(World.cell?_of_block (a:=⟨g,o+3,none⟩) hs).trans h.c3,(World.cell?_of_block (a:=⟨g,o+4,none⟩) hs).trans h.c4,(World.cell?_of_block (a:=⟨g,o+5,none⟩) hs).trans h.c5⟩
theorem cquad {k:Nat} {x y x2 y2 x3 y3:Rat} (p:PG w s_p A_p n_p c_p B_p m_p d_p t_p E_p i_p e_p F_p j_p f_p x y k) (q:PG w s_q A_q n_q c_q B_q m_q d_q t_q E_q i_q e_q F_q j_q f_q x2 y2 k) (r:PG w s_r A_r n_r c_r B_r m_r d_r t_r E_r i_r e_r F_r j_r f_r x3 y3 k) (h1:1≤k) :
 Calls Tryz.prog 39 #[.agg #[.bool s_p,.slice A_p n_p c_p,.slice B_p m_p d_p,.bool t_p,.slice E_p i_p e_p,.slice F_p j_p f_p],.agg #[.bool s_q,.slice A_q n_q c_q,.slice B_q m_q d_q,.bool t_q,.slice E_q i_q e_q,.slice F_q j_q f_q],.agg #[.bool s_r,.slice A_r n_r c_r,.slice B_r m_r d_r,.bool t_r,.slice E_r i_r e_r,.slice F_r j_r f_r]] w (GivesHs w (quadH [(x,y),(x2,y2),(x3,y3)]) k):=by
 go_enter Tryz.func39,Tryz.ntmps39
 go_upto_region 1 with (fail)
 generalize hW:World.alloc _ _=W
 obtain ⟨hb,XA,XB,XC,hzW⟩:=mkbx19_10 hW;clear hW;replace p:=p.below hb;replace q:=q.below hb;replace r:=r.below hb;obtain ⟨xa0,xa1,xa2,xa3,xa4,xa5⟩:=XA.all;obtain ⟨xb0,xb1,xb2,xb3,xb4,xb5⟩:=XB.all;obtain ⟨xc0,xc1,xc2,xc3,xc4,xc5⟩:=XC.all
 have hLit:=Ln.lit (T:=28) (base:=W.heap.size) W [(PV.mk s_p A_p n_p c_p B_p m_p d_p t_p E_p i_p e_p F_p j_p f_p:PV),(PV.mk s_q A_q n_q c_q B_q m_q d_q t_q E_q i_q e_q F_q j_q f_q:PV),(PV.mk s_r A_r n_r c_r B_r m_r d_r t_r E_r i_r e_r F_r j_r f_r:PV)] (Nat.le_refl _) (by simp)
 have hal0:Below W.heap.size W (W.alloc (Obj.cells #[Value.bool s_p,Value.slice A_p n_p c_p,Value.slice B_p m_p d_p,Value.bool t_p,Value.slice E_p i_p e_p,Value.slice F_p j_p f_p,Value.bool s_q,Value.slice A_q n_q c_q,Value.slice B_q m_q d_q,Value.bool t_q,Value.slice E_q i_q e_q,Value.slice F_q j_q f_q,Value.bool s_r,Value.slice A_r n_r c_r,Value.slice B_r m_r d_r,Value.bool t_r,Value.slice E_r i_r e_r,Value.slice F_r j_r f_r] 28)):=((Below.refl _ _).alloc (Nat.le_refl _) _)
 have hE0:Each PV.PG (W.alloc (Obj.cells #[Value.bool s_p,Value.slice A_p n_p c_p,Value.slice B_p m_p d_p,Value.bool t_p,Value.slice E_p i_p e_p,Value.slice F_p j_p f_p,Value.bool s_q,Value.slice A_q n_q c_q,Value.slice B_q m_q d_q,Value.bool t_q,Value.slice E_q i_q e_q,Value.slice F_q j_q f_q,Value.bool s_r,Value.slice A_r n_r c_r,Value.slice B_r m_r d_r,Value.bool t_r,Value.slice E_r i_r e_r,Value.slice F_r j_r f_r] 28)) [(PV.mk s_p A_p n_p c_p B_p m_p d_p t_p E_p i_p e_p F_p j_p f_p:PV),(PV.mk s_q A_q n_q c_q B_q m_q d_q t_q E_q i_q e_q F_q j_q f_q:PV),(PV.mk s_r A_r n_r c_r B_r m_r d_r t_r E_r i_r e_r F_r j_r f_r:PV)] [(x,y),(x2,y2),(x3,y3)] k:=⟨rfl,fun i a b ha hb=>by
  match i with
  | 0=>cases ha;cases hb;exact PG.below p hal0
  | 1=>cases ha;cases hb;exact PG.below q hal0
  | 2=>cases ha;cases hb;exact PG.below r hal0
  | i+3=>cases ha⟩
 have hSV:SV (W.alloc (Obj.cells #[Value.bool s_p,Value.slice A_p n_p c_p,Value.slice B_p m_p d_p,Value.bool t_p,Value.slice E_p i_p e_p,Value.slice F_p j_p f_p,Value.bool s_q,Value.slice A_q n_q c_q,Value.slice B_q m_q d_q,Value.bool t_q,Value.slice E_q i_q e_q,Value.slice F_q j_q f_q,Value.bool s_r,Value.slice A_r n_r c_r,Value.slice B_r m_r d_r,Value.bool t_r,Value.slice E_r i_r e_r,Value.slice F_r j_r f_r] 28)) (some ⟨W.heap.size,0,none⟩) (pvs [(PV.mk s_p A_p n_p c_p B_p m_p d_p t_p E_p i_p e_p F_p j_p f_p:PV),(PV.mk s_q A_q n_q c_q B_q m_q d_q t_q E_q i_q e_q F_q j_q f_q:PV),(PV.mk s_r A_r n_r c_r B_r m_r d_r t_r E_r i_r e_r F_r j_r f_r:PV)]):=hLit.svX
 have hb0:=bend hb hal0;clear p q r hLit
 go_wp2_with fail
 generalize hL0:[(PV.mk s_p A_p n_p c_p B_p m_p d_p t_p E_p i_p e_p F_p j_p f_p:PV),(PV.mk s_q A_q n_q c_q B_q m_q d_q t_q E_q i_q e_q F_q j_q f_q:PV),(PV.mk s_r A_r n_r c_r B_r m_r d_r t_r E_r i_r e_r F_r j_r f_r:PV)]=L0 at *
 generalize hV0:[(x,y),(x2,y2),(x3,y3)]=V0 at *
 have HLl:Hid (L0.length=3):=by show _=_;rw [← hL0];rfl
 have HVl:Hid (V0.length=3):=by show _=_;rw [← hV0];rfl
 clear hL0 hV0
 generalize (W.alloc (Obj.cells #[Value.bool s_p,Value.slice A_p n_p c_p,Value.slice B_p m_p d_p,Value.bool t_p,Value.slice E_p i_p e_p,Value.slice F_p j_p f_p,Value.bool s_q,Value.slice A_q n_q c_q,Value.slice B_q m_q d_q,Value.bool t_q,Value.slice E_q i_q e_q,Value.slice F_q j_q f_q,Value.bool s_r,Value.slice A_r n_r c_r,Value.slice B_r m_r d_r,Value.bool t_r,Value.slice E_r i_r e_r,Value.slice F_r j_r f_r] 28))=W0 at *
 rw [hzW] at hSV
 generalize (some ({block:=w.heap.size+3,off:=0,spot:=none}:Addr))=A0 at *
 have HL9:=Lib.hid hSV;have E9:=Lib.hid hE0;have HB9:=Lib.hid hb0;clear hSV hE0 hb0 hb XA XB XC xa0 xa1 xa2 xa3 xa4 xa5 xb0 xb1 xb2 xb3 xb4 xb5 xc0 xc1 xc2 xc3 xc4 xc5
 go_loopg [8,9] 3 (fun gk out ix wr=>∃ (M:List HV) (m:Nat),Hid (gk+m=3)∧ix=.int .i64 (m:Int)∧LnH 73 W0.heap.size wr out M∧Hid (EachH HG wr M ((quadH V0).take m) k)∧Below W0.heap.size W0 wr)
 case atStart=>exact ⟨[],0,rfl,rfl,LnH.nil _ _ _,⟨rfl,fun i p u h=>by cases h⟩,Below.refl _ _⟩
 case round =>
  obtain ⟨M,m,HG9,rfl,LT,HQ,hB⟩:=hrel
  by_cases hmn:m < 3
  · obtain ⟨P,u,hP1,hu1,p0⟩:=(Each.below E9.out hB).at_ (i:=m) (by rw [HLl.out];exact hmn)
    obtain ⟨g0,o0,hix0,EP0,_⟩:=HL9.out.pt hP1
    have hixa:∀ (c:Nat) (w':World),(Instr.indexAt 85 (.slice A0 3 c) (.int .i64 (m:Int))).run Tryz.prog w'=.ok (.pointer (some ⟨g0,o0,none⟩)) w':=fun c w'=>hix0 3 c w' hmn
    have hlt:(m:Int) < 3:=by omega
    have hwr:IntKind.i64.wrap ((m:Int)+1)=(m:Int)+1:=IntWalk.i64_in _ (by omega)
    have HU:Hid ((quadH V0)[m]?=some ⟨u.1,u.2,1⟩):=by show _=_;unfold quadH;rw [List.getElem?_map,hu1];rfl
    have hMl:M.length≤1000000:=by have:=HQ.out.1;rw [List.length_take] at this;omega
    have HMN:=Lib.hid hmn;have EP:=EP0.below hB
    have hxg:∀ b,u8.ownBlock=some b→b ≠ g0:=fun b e=>by have:=LT.own_base e;have:=EP0.lt;omega
    replace p0:PG wr P.s P.A P.n P.c P.B P.m P.d P.t P.E P.i P.e P.F P.j P.f u.1 u.2 k:=p0
    clear hP1 hu1 hix0 hmn EP0
    go_upto_region 6 with (fail)
    replace LT:=LT.below (Below.refl _ _).drew
    replace EP:=EP.below (Below.refl _ _).drew
    replace p0:=p0.below (Below.refl _ _).drew
    replace HQ:=Lib.hid (EachH.belowG HQ.out (Below.refl _ _).drew)
    replace hB:=hB.drew
    go_region_held3 (fun w'=>w'.cell? ⟨g0,o0,none⟩=some (.bool P.s)∧w'.cell? ⟨g0,o0+1,none⟩=some (.slice P.A P.n P.c)∧w'.cell? ⟨g0,o0+2,none⟩=some (.slice P.B P.m P.d)∧w'.cell? ⟨g0,o0+3,none⟩=some (.bool P.t)∧w'.cell? ⟨g0,o0+4,none⟩=some (.slice P.E P.i P.e)∧w'.cell? ⟨g0,o0+5,none⟩=some (.slice P.F P.j P.f))
     (first | with_reducible exact ⟨EPb.c0,EPb.c1,EPb.c2,EPb.c3,EPb.c4,EPb.c5⟩ | with_reducible exact ⟨EP.c0,EP.c1,EP.c2,EP.c3,EP.c4,EP.c5⟩ | exact ⟨(EP.below ((Below.refl _ _).alloc (Nat.le_refl _) _)).c0,(EP.below ((Below.refl _ _).alloc (Nat.le_refl _) _)).c1,(EP.below ((Below.refl _ _).alloc (Nat.le_refl _) _)).c2,(EP.below ((Below.refl _ _).alloc (Nat.le_refl _) _)).c3,(EP.below ((Below.refl _ _).alloc (Nat.le_refl _) _)).c4,(EP.below ((Below.refl _ _).alloc (Nat.le_refl _) _)).c5⟩)
     (first
     | (go_at_call 25;(with_reducible refine (rof3 1 1 (by decide) (by decide) (by decide) (by decide) (by decide) _).mono ?_);rintro e w_a ⟨s_a,A_a,n_a,c_a,B_a,m_a,d_a,rfl,a,hh⟩
        (try replace LT:=LT.below hh);(try replace EP:=EP.below hh);(try replace p0:=p0.below hh)
        replace HQ:=Lib.hid (EachH.belowG HQ.out hh)
        replace hB:=bend hB hh)
     | (go_at_call 50;(with_reducible refine (rout3g a (by decide) 1 one_n one_d).mono ?_);rintro e w_o ⟨s_o,A_o,n_o,c_o,B_o,m_o,d_o,rfl,o,hh⟩
        (try replace LT:=LT.below hh);(try replace EP:=EP.below hh);(try replace p0:=p0.below hh)
        replace HQ:=Lib.hid (EachH.belowG HQ.out hh)
        replace hB:=bend hB hh)
     | (have hal:Below w_o.heap.size w_o (w_o.alloc (Obj.cells #[Value.bool P.s,Value.slice P.A P.n P.c,Value.slice P.B P.m P.d,Value.bool P.t,Value.slice P.E P.i P.e,Value.slice P.F P.j P.f,Value.bool s_o,Value.slice A_o n_o c_o,Value.slice B_o m_o d_o] 73)):=((Below.refl _ _).alloc (Nat.le_refl _) _)
        have EPa:=EP.below hal
        refine step_pushH Tryz.underlying37 info_hom (by rfl) _ _ (by rfl) (p:=(⟨⟨P.s,P.A,P.n,P.c,P.B,P.m,P.d⟩,⟨P.t,P.E,P.i,P.e,P.F,P.j,P.f⟩,⟨s_o,A_o,n_o,c_o,B_o,m_o,d_o⟩⟩:HV)) (k0:=1) (b:=w_o.heap.size) (by rfl) (by rfl) (LT.below hal) (Nat.le_trans hB.size hal.size) hMl (heap_alloc_new w_o _) ?_
        intro v3 w3 hn3 hg3 ho3
        have EPb:=EPa.pushX hg3 hxg))
    rw [one_q] at o
    have hE3:EachH HG (w_o.alloc (Obj.cells #[Value.bool P.s,Value.slice P.A P.n P.c,Value.slice P.B P.m P.d,Value.bool P.t,Value.slice P.E P.i P.e,Value.slice P.F P.j P.f,Value.bool s_o,Value.slice A_o n_o c_o,Value.slice B_o m_o d_o] 73)) M ((quadH V0).take m) k:=EachH.belowG HQ.out hal
    have hp3:HG (w_o.alloc (Obj.cells #[Value.bool P.s,Value.slice P.A P.n P.c,Value.slice P.B P.m P.d,Value.bool P.t,Value.slice P.E P.i P.e,Value.slice P.F P.j P.f,Value.bool s_o,Value.slice A_o n_o c_o,Value.slice B_o m_o d_o] 73)) (⟨⟨P.s,P.A,P.n,P.c,P.B,P.m,P.d⟩,⟨P.t,P.E,P.i,P.e,P.F,P.j,P.f⟩,⟨s_o,A_o,n_o,c_o,B_o,m_o,d_o⟩⟩:HV) ⟨u.1,u.2,1⟩ k:=(HG.below (h:=(⟨⟨P.s,P.A,P.n,P.c,P.B,P.m,P.d⟩,⟨P.t,P.E,P.i,P.e,P.F,P.j,P.f⟩,⟨s_o,A_o,n_o,c_o,B_o,m_o,d_o⟩⟩:HV)) (v:=⟨u.1,u.2,1⟩) (k:=k) ⟨p0.1,p0.2,o.more h1⟩ hal)
    have hB9:=LnH.under (T:=73) (base:=W0.heap.size) (LT.below hal) hg3 (w0:=W0) (bend hB hal) (Nat.le_refl _)
    have hE4:=takeH HU.out (EachH.push hE3 (fun _ _ h=>(LT.below hal).hg hg3 h) ((LT.below hal).hg hg3 hp3))
    clear hE3 hp3 EPa EPb EP p0 o a
    go_wp2_with fail
    go_roundg (gk - 1)
    case measure=>have:=HG9.out;have:=HMN.out;omega
    case rel=>exact ⟨M ++ [(⟨⟨P.s,P.A,P.n,P.c,P.B,P.m,P.d⟩,⟨P.t,P.E,P.i,P.e,P.F,P.j,P.f⟩,⟨s_o,A_o,n_o,c_o,B_o,m_o,d_o⟩⟩:HV)],m+1,by have:=HG9.out;have:=HMN.out;show _=_;omega,by go_num,hn3,Lib.hid hE4,hB9⟩
  · have hlt:¬ (m:Int) < 3:=by omega
    have HQ2:Hid (EachH HG wr M (quadH V0) k):=by
     have h:=HQ.out
     rwa [List.take_of_length_le (by unfold quadH;rw [List.length_map,HVl.out];omega)] at h
    clear hmn
    go_wp2_with fail
    (try rw [Exit.noGoto_ret])
    go_ret
    exact ⟨_,M,rfl,LT.base_le HB9.out.size,HQ2.out,bend HB9.out hB⟩
end
section
open Go Go.RowKit
attribute [local go_sem ↓] open_LVM open_STM open_LVN open_STN
attribute [local go_sem ↓] open_LVH open_STH open_LVJ open_STJ
instance (V:List AH):Decidable (GoodH V):=by unfold GoodH;exact inferInstance
abbrev wkV0:List AH:=(quadH [(Rat.divInt 0 1,Rat.divInt 0 1),(Rat.divInt 1 1,Rat.divInt 2 1),(Rat.divInt 2 1,Rat.divInt 0 1)])
abbrev wkU:SV8:=(⟨5,64,128,128,0,0,0,128⟩:SV8)
abbrev wkV1:List AH:=(ofL AM.one (Rat.divInt 0 1) (Rat.divInt 0 1) (⟨5,64,128,128,0,0,0,128⟩:SV8) 2)
theorem wk13_good:GoodH wkV0:=by decide +kernel
theorem wk13_good1:GoodH wkV1:=by decide +kernel
theorem wk13_t0:0≤Rat.divInt 1 2:=by decide +kernel
theorem wk13_t1:Rat.divInt 1 2≤1:=by decide +kernel
theorem wk13_ts:sgnQ (Rat.divInt 1 2)=1:=by decide +kernel
theorem wk13_us:sgnQ (Rat.divInt 3 2)=1:=by decide +kernel
theorem wk13_u1:1 < Rat.divInt 3 2:=by decide +kernel
theorem wk13_at:decide ((bez (Rat.divInt 1 2) wkV0).px=Rat.divInt 1 1∧(bez (Rat.divInt 1 2) wkV0).py=Rat.divInt 1 1)=true:=by decide +kernel
theorem wk13_w:(⟨(qtxt (ofA AM.one wkU 0).w).toArray⟩:ByteArray)=⟨#[50]⟩:=by
 rw [qtxt_i (a:=2) (by decide +kernel) (by decide +kernel) (txt_one (d:=2) (by decide) (by decide) rfl)];rfl
theorem wk13_y:(⟨(qtxt (ofA AM.one wkU 0).y).toArray⟩:ByteArray)=⟨#[52]⟩:=by
 rw [qtxt_i (a:=4) (by decide +kernel) (by decide +kernel) (txt_one (d:=4) (by decide) (by decide) rfl)];rfl
theorem wk13_in:wkU.In:=⟨by unfold i64In;decide,fun i=>by
 match i with
 | 0=>show i64In 64;unfold i64In;decide
 | 1=>show i64In 128;unfold i64In;decide
 | 2=>show i64In 128;unfold i64In;decide
 | 3=>show i64In 0;unfold i64In;decide
 | 4=>show i64In 0;unfold i64In;decide
 | i+5=>show i64In 0;unfold i64In;decide,by unfold i64In;decide⟩
theorem wk_of {m:MV} (p:PG w s_p A_p n_p c_p B_p m_p d_p t_p E_p i_p e_p F_p j_p f_p (Rat.divInt 0 1) (Rat.divInt 0 1) 1) (M:MG w m AM.one 1 1) :
 Calls Tryz.prog 11 #[.agg #[.bool s_p,.slice A_p n_p c_p,.slice B_p m_p d_p,.bool t_p,.slice E_p i_p e_p,.slice F_p j_p f_p],.agg #[.int .i64 5,.int .i64 64,.int .i64 128,.int .i64 128,.int .i64 0,.int .i64 0,.int .i64 0,.int .i64 128],.agg #[.bool m.a.s,.slice m.a.A m.a.n m.a.c,.slice m.a.B m.a.m m.a.d,.bool m.b.s,.slice m.b.A m.b.n m.b.c,.slice m.b.B m.b.m m.b.d,.bool m.c.s,.slice m.c.A m.c.n m.c.c,.slice m.c.B m.c.m m.c.d,.bool m.d.s,.slice m.d.A m.d.n m.d.c,.slice m.d.B m.d.m m.d.d,.bool m.e.s,.slice m.e.A m.e.n m.e.c,.slice m.e.B m.e.m m.e.d,.bool m.f.s,.slice m.f.A m.f.n m.f.c,.slice m.f.B m.f.m m.f.d]] w (GivesHsE w wkV1 8) :=
 cof_5 (u:=wkU) p.pr M.mr wk13_in (by decide) (by decide) (by decide) (by decide) (by decide) 2 rfl (by decide) rfl (by decide)
theorem wakes13_any (w:World):Calls Tryz.prog 10 #[] w fun e w'=>e=.returned (.bool true)∧Below w.heap.size w w':=by
 have hb:Below w.heap.size w w:=Below.refl _ _
 go_enter Tryz.func10,Tryz.ntmps10
 go_upto_region 3 with (first
  | (go_at_call 38;(with_reducible refine (lawP 0 0 (by decide) (by decide) (by decide) (by decide) _).mono ?_);rintro e w_p ⟨s_p,A_p,n_p,c_p,B_p,m_p,d_p,t_p,E_p,i_p,e_p,F_p,j_p,f_p,rfl,p,hh⟩
     replace hb:=bend hb hh)
  | (go_at_call 38;(with_reducible refine (lawP 1 2 (by decide) (by decide) (by decide) (by decide) _).mono ?_);rintro e w_q ⟨s_q,A_q,n_q,c_q,B_q,m_q,d_q,t_q,E_q,i_q,e_q,F_q,j_q,f_q,rfl,q,hh⟩
     (try replace p:=p.below hh);replace hb:=bend hb hh)
  | (go_at_call 38;(with_reducible refine (lawP 2 0 (by decide) (by decide) (by decide) (by decide) _).mono ?_);rintro e w_r ⟨s_r,A_r,n_r,c_r,B_r,m_r,d_r,t_r,E_r,i_r,e_r,F_r,j_r,f_r,rfl,r,hh⟩
     (try replace p:=p.below hh);(try replace q:=q.below hh);replace hb:=bend hb hh)
  | (go_at_call 39;(with_reducible refine (cquad p q r (by decide)).mono ?_);rintro e w_u ⟨v1,M1,rfl,l1,e1,hh⟩
     replace hb:=bend hb hh
     obtain ⟨A_x,c_x,rfl,_,_⟩:=l1.form
     have hM1:M1.length=3:=e1.1
     rw [hM1] at l1 ⊢
     have LM1:=l1.sv)
  | (go_at_call 31;(with_reducible refine (rof_q 1 2 (by decide) (by decide) (by decide) (by decide) (by decide) _).mono ?_);rintro e w_h ⟨s_h,A_h,n_h,c_h,B_h,m_h,d_h,rfl,h,hh⟩
     (try replace LM1:=LM1.below hh);replace hb:=bend hb hh;replace e1:=EachH.belowG e1 hh)
  | (go_at_call 21;(with_reducible refine (cat_p1 (n:=3) LM1 e1.hr hM1 h.qr (by decide) (by decide) (by decide) (by decide) wk13_good wk13_t0 wk13_t1 wk13_ts).mono ?_);rintro e w_a ⟨s_a,A_a,n_a,c_a,B_a,m_a,d_a,t_a,E_a,i_a,e_a,F_a,j_a,f_a,rfl,a,hh⟩
     replace hb:=bend hb hh))
 clear p q r LM1 l1 e1 h
 have XQ:=B6.new' w_a (Value.bool s_a) (Value.slice A_a n_a c_a) (Value.slice B_a m_a d_a) (Value.bool t_a) (Value.slice E_a i_a e_a) (Value.slice F_a j_a f_a) w_a.heap.size rfl
 have hh:Below w_a.heap.size w_a (w_a.alloc (Obj.cells #[Value.bool s_a,Value.slice A_a n_a c_a,Value.slice B_a m_a d_a,Value.bool t_a,Value.slice E_a i_a e_a,Value.slice F_a j_a f_a] 28)):=(Below.refl w_a.heap.size w_a).alloc (Nat.le_refl _) _
 generalize (w_a.alloc (Obj.cells #[Value.bool s_a,Value.slice A_a n_a c_a,Value.slice B_a m_a d_a,Value.bool t_a,Value.slice E_a i_a e_a,Value.slice F_a j_a f_a] 28))=W2 at *
 replace a:=a.below hh;replace hb:=bend hb hh;clear hh
 have hcO:Hid True:=trivial
 go_upto_region 4 with (first
  | (go_at_call 38;(with_reducible refine (lawP 0 0 (by decide) (by decide) (by decide) (by decide) _).mono ?_);rintro e w_p ⟨s_p,A_p,n_p,c_p,B_p,m_p,d_p,t_p,E_p,i_p,e_p,F_p,j_p,f_p,rfl,p,hh⟩
     (try replace a:=a.below hh);(try replace XQ:=XQ.below hh);replace hb:=bend hb hh)
  | (go_at_call 33;(with_reducible refine (mone_p _).mono ?_);rintro e w_m ⟨m,rfl,mh,hh⟩
     (try replace a:=a.below hh);(try replace XQ:=XQ.below hh);(try replace p:=p.below hh);replace hb:=bend hb hh)
  | (go_at_call 11;(with_reducible refine (wk_of p mh).mono ?_);rintro e w_l ⟨v2,M2,rfl,l2,e2,hh⟩
     (try replace a:=a.below hh);(try replace XQ:=XQ.below hh);replace hb:=bend hb hh
     obtain ⟨A_y,c_y,rfl,_,_⟩:=l2.form
     have hM2:M2.length=3:=e2.1
     rw [hM2] at l2 ⊢
     have LM2:=l2.sv;clear p mh))
 go_upto_region 5 with (first
  | (go_at_call 31;(with_reducible refine (rof_q 3 2 (by decide) (by decide) (by decide) (by decide) (by decide) _).mono ?_);rintro e w_h ⟨s_h,A_h,n_h,c_h,B_h,m_h,d_h,rfl,h,hh⟩
     (try replace LM2:=LM2.below hh);(try replace a:=a.below hh);(try replace XQ:=XQ.below hh);replace hb:=bend hb hh;replace e2:=EachH.belowG e2 hh)
  | (go_at_call 21;(with_reducible refine (cat_g1 (n:=3) LM2 e2.hr hM2 h.qr (by decide) (by decide) (by decide) (by decide) ⟨fun _=>wk13_good1,fun _=>rfl⟩ wk13_us wk13_u1).mono ?_);rintro e w_b ⟨rfl,hh⟩
     (try replace LM2:=LM2.below hh);(try replace a:=a.below hh);(try replace XQ:=XQ.below hh);replace hb:=bend hb hh;replace e2:=EachH.belowG e2 hh;clear h))
 clear l2
 have XU:=B6.new' w_b (Value.bool false) (Value.slice none 0 0) (Value.slice none 0 0) (Value.bool false) (Value.slice none 0 0) (Value.slice none 0 0) w_b.heap.size rfl
 have hh:Below w_b.heap.size w_b (w_b.alloc (Obj.cells #[Value.bool false,Value.slice none 0 0,Value.slice none 0 0,Value.bool false,Value.slice none 0 0,Value.slice none 0 0] 28)):=(Below.refl w_b.heap.size w_b).alloc (Nat.le_refl _) _
 generalize (w_b.alloc (Obj.cells #[Value.bool false,Value.slice none 0 0,Value.slice none 0 0,Value.bool false,Value.slice none 0 0,Value.slice none 0 0] 28))=W4 at *
 replace a:=a.below hh;replace XQ:=XQ.below hh;replace LM2:=LM2.below hh;replace e2:=EachH.belowG e2 hh;replace hb:=bend hb hh;clear hh
 obtain ⟨P,u,hP,hu,hp⟩:=e2.at_ (i:=1) (by rw [hM2];decide)
 obtain rfl:ofA AM.one wkU 0=u:=by
  have:=hu
  simp [ofL] at this
  exact this
 obtain ⟨g0,o0,hix0,EP,_⟩:=LM2.ht hP
 have hixa:∀ (c:Nat) (w':World),(Instr.indexAt 37 (.slice A_y 3 c) (.int .i64 1)).run Tryz.prog w'=.ok (.pointer (some ⟨g0,o0,none⟩)) w':=fun c w'=>hix0 3 c w' (by decide)
 have hG1:true=true ↔ GoodH wkV1:=⟨fun _=>wk13_good1,fun _=>rfl⟩
 clear hu hP hix0 XU
 replace a:=a.below (Below.refl _ _).drew
 replace XQ:=XQ.below (Below.refl _ _).drew
 replace LM2:=LM2.below (Below.refl _ _).drew
 replace EP:=EP.below (Below.refl _ _).drew
 replace hp:=hp.below (Below.refl _ _).drew
 replace hb:=hb.drew
 replace e2:=EachH.belowG e2 (Below.refl _ _).drew
 refine wp_region_held_drew (S:=(fun w'=>w'.cell? ⟨w_a.heap.size,0,none⟩=some (.bool s_a)∧w'.cell? ⟨w_a.heap.size,1,none⟩=some (.slice A_a n_a c_a)∧w'.cell? ⟨w_a.heap.size,2,none⟩=some (.slice B_a m_a d_a)∧w'.cell? ⟨w_a.heap.size,3,none⟩=some (.bool t_a)∧w'.cell? ⟨w_a.heap.size,4,none⟩=some (.slice E_a i_a e_a)∧w'.cell? ⟨w_a.heap.size,5,none⟩=some (.slice F_a j_a f_a)∧w'.cell? ⟨g0,o0+3,none⟩=some (.bool P.y.s)∧w'.cell? ⟨g0,o0+4,none⟩=some (.slice P.y.A P.y.n P.y.c)∧w'.cell? ⟨g0,o0+5,none⟩=some (.slice P.y.B P.y.m P.y.d)∧w'.cell? ⟨g0,o0+6,none⟩=some (.bool P.w.s)∧w'.cell? ⟨g0,o0+7,none⟩=some (.slice P.w.A P.w.n P.w.c)∧w'.cell? ⟨g0,o0+8,none⟩=some (.slice P.w.B P.w.m P.w.d))) (by kernel_rfl) (by with_reducible exact ⟨XQ.c0,XQ.c1,XQ.c2,XQ.c3,XQ.c4,XQ.c5,EP.c3,EP.c4,EP.c5,EP.c6,EP.c7,EP.c8⟩) (fun hHeld=>?_)
 refine wpAnyH_take (i:=0) (oi:=⟨some 35,.move (.tmp 3),38, "law.go:37",#[],none⟩) (v:=?_) rfl (by kernel_rfl) (by kernel_rfl) (by kernel_rfl) (fun _ _ _ h=>h) (Or.inl ⟨by rfl,?_⟩) hHeld ?_
 rotate_left
 · (intro w hSw;(try dsimp only at hSw);go_simp;try with_reducible rfl)
 simp only [Act.put,List.setIfInBounds_toArray,List.set_cons_zero,List.set_cons_succ]
 refine wpAnyH_take (i:=1) (oi:=⟨some 36,.binOp BinOp.eql 38 (.tmp 35) (.const (Value.int IntKind.i64 0)) 38,4, "law.go:37",#[⟨0,.data⟩],none⟩) (v:=?_) rfl (by kernel_rfl) (by kernel_rfl) (by kernel_rfl) (fun _ _ _ h=>h) (Or.inl ⟨by rfl,?_⟩) hHeld ?_
 rotate_left
 · (intro w hSw;(try dsimp only at hSw);go_simp;try with_reducible rfl)
 simp only [Act.put,List.setIfInBounds_toArray,List.set_cons_zero,List.set_cons_succ]
 refine wpAnyH_take (i:=2) (oi:=⟨some 37,.move (.tmp 36),4, "law.go:37",#[⟨1,.data⟩],none⟩) (v:=?_) rfl (by kernel_rfl) (by kernel_rfl) (by kernel_rfl) (fun _ _ _ h=>h) (Or.inl ⟨by rfl,?_⟩) hHeld ?_
 rotate_left
 · (intro w hSw;(try dsimp only at hSw);go_simp;try with_reducible rfl)
 simp only [Act.put,List.setIfInBounds_toArray,List.set_cons_zero,List.set_cons_succ]
 refine wpAnyH_take (i:=3) (oi:=⟨some 38,.load 28 (.tmp 2),28, "law.go:37",#[⟨2,.guard⟩],some (2,true)⟩) (v:=?_) rfl (by kernel_rfl) (by kernel_rfl) (by kernel_rfl) (fun _ _ _ h=>h) (Or.inl ⟨by rfl,?_⟩) hHeld ?_
 rotate_left
 · (intro w hSw;(try dsimp only at hSw);go_simp;try with_reducible rfl)
 simp only [Act.put,List.setIfInBounds_toArray,List.set_cons_zero,List.set_cons_succ]
 refine wpAnyH_take (i:=4) (oi:=⟨some 39,.move (.tmp 1),87, "law.go:37",#[⟨2,.guard⟩],some (2,true)⟩) (v:=?_) rfl (by kernel_rfl) (by kernel_rfl) (by kernel_rfl) (fun _ _ _ h=>h) (Or.inl ⟨by rfl,?_⟩) hHeld ?_
 rotate_left
 · (intro w hSw;(try dsimp only at hSw);go_simp;try with_reducible rfl)
 simp only [Act.put,List.setIfInBounds_toArray,List.set_cons_zero,List.set_cons_succ]
 refine wpAnyH_ready (rs:=[5]) (by kernel_rfl) (by simp) ?_
 refine AllReadyH.cons (o:=⟨some 40,.call ⟨.value (.tmp 39),#[.const (Value.int IntKind.i64 1),.const (Value.int IntKind.i64 1)],#[2,2]⟩,28, "law.go:37",#[⟨4,.data⟩,⟨2,.chain⟩,⟨2,.guard⟩],some (2,true)⟩) rfl (fun K1 hK1=>?_) AllReadyH.nil
 go_simp
 first
 | (go_at_call 38;(with_reducible refine (lawP 1 1 (by decide) (by decide) (by decide) (by decide) _).mono ?_);rintro e w_p ⟨s_p,A_p,n_p,c_p,B_p,m_p,d_p,t_p,E_p,i_p,e_p,F_p,j_p,f_p,rfl,p,hh⟩
    (try replace a:=a.below hh);(try replace XQ:=XQ.below hh);(try replace LM2:=LM2.below hh);(try replace EP:=EP.below hh);(try replace hp:=hp.below hh);replace hb:=bend hb hh;replace e2:=EachH.belowG e2 hh)
 | (go_at_call 32;(with_reducible refine (psame_p a.pr p.pr (by decide) (by decide) (by decide) (by decide) true wk13_at).mono ?_);rintro e w_z ⟨rfl,hh⟩
    (try replace a:=a.below hh);(try replace XQ:=XQ.below hh);(try replace LM2:=LM2.below hh);(try replace EP:=EP.below hh);(try replace hp:=hp.below hh);replace hb:=bend hb hh;replace e2:=EachH.belowG e2 hh;clear p)
 | (go_at_call 40;(with_reducible refine (rtext_q hp.hr.qw (by decide) (by decide)).mono ?_);rintro e w_z ⟨rfl,hh⟩
    rw [wk13_w];(try replace a:=a.below hh);(try replace XQ:=XQ.below hh);(try replace LM2:=LM2.below hh);(try replace EP:=EP.below hh);(try replace hp:=hp.below hh);replace hb:=bend hb hh;replace e2:=EachH.belowG e2 hh)
 | (go_at_call 40;(with_reducible refine (rtext_q hp.hr.qy (by decide) (by decide)).mono ?_);rintro e w_z ⟨rfl,hh⟩
    rw [wk13_y];(try replace a:=a.below hh);(try replace XQ:=XQ.below hh);(try replace LM2:=LM2.below hh);(try replace EP:=EP.below hh);(try replace hp:=hp.below hh);replace hb:=bend hb hh;replace e2:=EachH.belowG e2 hh)
 | (go_at_call 30;(with_reducible refine (cgood_any LM2 e2.hr hM2 (by decide) (by decide) true hG1).mono ?_);rintro e w_z ⟨rfl,hh⟩
    (try replace a:=a.below hh);(try replace XQ:=XQ.below hh);(try replace LM2:=LM2.below hh);(try replace EP:=EP.below hh);(try replace hp:=hp.below hh);replace hb:=bend hb hh;replace e2:=EachH.belowG e2 hh)
 refine hK1.out _ _ (by with_reducible exact ⟨XQ.c0,XQ.c1,XQ.c2,XQ.c3,XQ.c4,XQ.c5,EP.c3,EP.c4,EP.c5,EP.c6,EP.c7,EP.c8⟩) (fun hHeld=>?_)
 clear hK1 K1
 refine wpAnyH_ready (rs:=[6]) (by kernel_rfl) (by simp) ?_
 refine AllReadyH.cons (o:=⟨some 41,.call ⟨.value (.func 32),#[.tmp 38,.tmp 40],#[28,28]⟩,4, "law.go:37",#[⟨3,.data⟩,⟨5,.data⟩,⟨5,.chain⟩,⟨2,.guard⟩],some (2,true)⟩) rfl (fun K1 hK1=>?_) AllReadyH.nil
 go_simp
 first
 | (go_at_call 38;(with_reducible refine (lawP 1 1 (by decide) (by decide) (by decide) (by decide) _).mono ?_);rintro e w_p ⟨s_p,A_p,n_p,c_p,B_p,m_p,d_p,t_p,E_p,i_p,e_p,F_p,j_p,f_p,rfl,p,hh⟩
    (try replace a:=a.below hh);(try replace XQ:=XQ.below hh);(try replace LM2:=LM2.below hh);(try replace EP:=EP.below hh);(try replace hp:=hp.below hh);replace hb:=bend hb hh;replace e2:=EachH.belowG e2 hh)
 | (go_at_call 32;(with_reducible refine (psame_p a.pr p.pr (by decide) (by decide) (by decide) (by decide) true wk13_at).mono ?_);rintro e w_z ⟨rfl,hh⟩
    (try replace a:=a.below hh);(try replace XQ:=XQ.below hh);(try replace LM2:=LM2.below hh);(try replace EP:=EP.below hh);(try replace hp:=hp.below hh);replace hb:=bend hb hh;replace e2:=EachH.belowG e2 hh;clear p)
 | (go_at_call 40;(with_reducible refine (rtext_q hp.hr.qw (by decide) (by decide)).mono ?_);rintro e w_z ⟨rfl,hh⟩
    rw [wk13_w];(try replace a:=a.below hh);(try replace XQ:=XQ.below hh);(try replace LM2:=LM2.below hh);(try replace EP:=EP.below hh);(try replace hp:=hp.below hh);replace hb:=bend hb hh;replace e2:=EachH.belowG e2 hh)
 | (go_at_call 40;(with_reducible refine (rtext_q hp.hr.qy (by decide) (by decide)).mono ?_);rintro e w_z ⟨rfl,hh⟩
    rw [wk13_y];(try replace a:=a.below hh);(try replace XQ:=XQ.below hh);(try replace LM2:=LM2.below hh);(try replace EP:=EP.below hh);(try replace hp:=hp.below hh);replace hb:=bend hb hh;replace e2:=EachH.belowG e2 hh)
 | (go_at_call 30;(with_reducible refine (cgood_any LM2 e2.hr hM2 (by decide) (by decide) true hG1).mono ?_);rintro e w_z ⟨rfl,hh⟩
    (try replace a:=a.below hh);(try replace XQ:=XQ.below hh);(try replace LM2:=LM2.below hh);(try replace EP:=EP.below hh);(try replace hp:=hp.below hh);replace hb:=bend hb hh;replace e2:=EachH.belowG e2 hh)
 refine hK1.out _ _ (by with_reducible exact ⟨XQ.c0,XQ.c1,XQ.c2,XQ.c3,XQ.c4,XQ.c5,EP.c3,EP.c4,EP.c5,EP.c6,EP.c7,EP.c8⟩) (fun hHeld=>?_)
 clear hK1 K1
 refine wpAnyH_take (i:=7) (oi:=⟨some 42,.pick (.tmp 37) (.tmp 41) (.const (Value.bool false)),4, "law.go:37",#[⟨2,.data⟩,⟨6,.data⟩],none⟩) (v:=?_) rfl (by kernel_rfl) (by kernel_rfl) (by kernel_rfl) (fun _ _ _ h=>h) (Or.inl ⟨by rfl,?_⟩) hHeld ?_
 rotate_left
 · (intro w hSw;(try dsimp only at hSw);go_simp;try with_reducible rfl)
 simp only [Act.put,List.setIfInBounds_toArray,List.set_cons_zero,List.set_cons_succ]
 refine wpAnyH_take (i:=8) (oi:=⟨some 43,.move (.tmp 42),4, "law.go:37",#[⟨7,.data⟩,⟨6,.chain⟩],none⟩) (v:=?_) rfl (by kernel_rfl) (by kernel_rfl) (by kernel_rfl) (fun _ _ _ h=>h) (Or.inl ⟨by rfl,?_⟩) hHeld ?_
 rotate_left
 · (intro w hSw;(try dsimp only at hSw);go_simp;try with_reducible rfl)
 simp only [Act.put,List.setIfInBounds_toArray,List.set_cons_zero,List.set_cons_succ]
 refine wpAnyH_take (i:=9) (oi:=⟨some 44,.move (.tmp 5),38, "law.go:37",#[⟨8,.guard⟩],some (8,true)⟩) (v:=?_) rfl (by kernel_rfl) (by kernel_rfl) (by kernel_rfl) (fun _ _ _ h=>h) (Or.inl ⟨by rfl,?_⟩) hHeld ?_
 rotate_left
 · (intro w hSw;(try dsimp only at hSw);go_simp;try with_reducible rfl)
 simp only [Act.put,List.setIfInBounds_toArray,List.set_cons_zero,List.set_cons_succ]
 refine wpAnyH_take (i:=10) (oi:=⟨some 45,.binOp BinOp.eql 38 (.tmp 44) (.const (Value.int IntKind.i64 0)) 38,4, "law.go:37",#[⟨9,.data⟩,⟨8,.guard⟩],some (8,true)⟩) (v:=?_) rfl (by kernel_rfl) (by kernel_rfl) (by kernel_rfl) (fun _ _ _ h=>h) (Or.inl ⟨by rfl,?_⟩) hHeld ?_
 rotate_left
 · (intro w hSw;(try dsimp only at hSw);go_simp;try with_reducible rfl)
 simp only [Act.put,List.setIfInBounds_toArray,List.set_cons_zero,List.set_cons_succ]
 refine wpAnyH_take (i:=11) (oi:=⟨some 46,.pick (.tmp 43) (.tmp 45) (.const (Value.bool false)),4, "law.go:37",#[⟨8,.data⟩,⟨10,.data⟩],none⟩) (v:=?_) rfl (by kernel_rfl) (by kernel_rfl) (by kernel_rfl) (fun _ _ _ h=>h) (Or.inl ⟨by rfl,?_⟩) hHeld ?_
 rotate_left
 · (intro w hSw;(try dsimp only at hSw);go_simp;try with_reducible rfl)
 simp only [Act.put,List.setIfInBounds_toArray,List.set_cons_zero,List.set_cons_succ]
 refine wpAnyH_take (i:=12) (oi:=⟨some 47,.move (.tmp 46),4, "law.go:37",#[⟨11,.data⟩,⟨8,.chain⟩],none⟩) (v:=?_) rfl (by kernel_rfl) (by kernel_rfl) (by kernel_rfl) (fun _ _ _ h=>h) (Or.inl ⟨by rfl,?_⟩) hHeld ?_
 rotate_left
 · (intro w hSw;(try dsimp only at hSw);go_simp;try with_reducible rfl)
 simp only [Act.put,List.setIfInBounds_toArray,List.set_cons_zero,List.set_cons_succ]
 refine wpAnyH_take (i:=13) (oi:=⟨some 48,.move (.tmp 4),37, "law.go:37",#[⟨12,.guard⟩],some (12,true)⟩) (v:=?_) rfl (by kernel_rfl) (by kernel_rfl) (by kernel_rfl) (fun _ _ _ h=>h) (Or.inl ⟨by rfl,?_⟩) hHeld ?_
 rotate_left
 · (intro w hSw;(try dsimp only at hSw);go_simp;try with_reducible rfl)
 simp only [Act.put,List.setIfInBounds_toArray,List.set_cons_zero,List.set_cons_succ]
 refine wpAnyH_take (i:=14) (oi:=⟨some 49,.call ⟨.builtin Builtin.len,#[.tmp 48],#[37]⟩,3, "law.go:37",#[⟨13,.data⟩,⟨12,.guard⟩],some (12,true)⟩) (v:=?_) rfl (by kernel_rfl) (by kernel_rfl) (by kernel_rfl) (fun _ _ _ h=>h) (Or.inl ⟨by rfl,?_⟩) hHeld ?_
 rotate_left
 · (intro w hSw;(try dsimp only at hSw);go_simp;try with_reducible rfl)
 simp only [Act.put,List.setIfInBounds_toArray,List.set_cons_zero,List.set_cons_succ]
 refine wpAnyH_take (i:=15) (oi:=⟨some 50,.binOp BinOp.eql 3 (.tmp 49) (.const (Value.int IntKind.i64 3)) 3,4, "law.go:37",#[⟨14,.data⟩,⟨12,.guard⟩],some (12,true)⟩) (v:=?_) rfl (by kernel_rfl) (by kernel_rfl) (by kernel_rfl) (fun _ _ _ h=>h) (Or.inl ⟨by rfl,?_⟩) hHeld ?_
 rotate_left
 · (intro w hSw;(try dsimp only at hSw);go_simp;try with_reducible rfl)
 simp only [Act.put,List.setIfInBounds_toArray,List.set_cons_zero,List.set_cons_succ]
 refine wpAnyH_take (i:=16) (oi:=⟨some 51,.pick (.tmp 47) (.tmp 50) (.const (Value.bool false)),4, "law.go:37",#[⟨12,.data⟩,⟨15,.data⟩],none⟩) (v:=?_) rfl (by kernel_rfl) (by kernel_rfl) (by kernel_rfl) (fun _ _ _ h=>h) (Or.inl ⟨by rfl,?_⟩) hHeld ?_
 rotate_left
 · (intro w hSw;(try dsimp only at hSw);go_simp;try with_reducible rfl)
 simp only [Act.put,List.setIfInBounds_toArray,List.set_cons_zero,List.set_cons_succ]
 refine wpAnyH_take (i:=17) (oi:=⟨some 52,.move (.tmp 51),4, "law.go:37",#[⟨16,.data⟩,⟨12,.chain⟩],none⟩) (v:=?_) rfl (by kernel_rfl) (by kernel_rfl) (by kernel_rfl) (fun _ _ _ h=>h) (Or.inl ⟨by rfl,?_⟩) hHeld ?_
 rotate_left
 · (intro w hSw;(try dsimp only at hSw);go_simp;try with_reducible rfl)
 simp only [Act.put,List.setIfInBounds_toArray,List.set_cons_zero,List.set_cons_succ]
 refine wpAnyH_take (i:=18) (oi:=⟨some 53,.move (.tmp 4),37, "law.go:37",#[⟨17,.guard⟩],some (17,true)⟩) (v:=?_) rfl (by kernel_rfl) (by kernel_rfl) (by kernel_rfl) (fun _ _ _ h=>h) (Or.inl ⟨by rfl,?_⟩) hHeld ?_
 rotate_left
 · (intro w hSw;(try dsimp only at hSw);go_simp;try with_reducible rfl)
 simp only [Act.put,List.setIfInBounds_toArray,List.set_cons_zero,List.set_cons_succ]
 refine wpAnyH_take (i:=19) (oi:=⟨some 54,.indexAddr 37 (.tmp 53) (.const (Value.int IntKind.i64 1)),0, "law.go:37",#[⟨18,.data⟩,⟨17,.guard⟩],some (17,true)⟩) (v:=?_) rfl (by kernel_rfl) (by kernel_rfl) (by kernel_rfl) (fun _ _ _ h=>h) (Or.inl ⟨by rfl,?_⟩) hHeld ?_
 rotate_left
 · (intro w hSw;(try dsimp only at hSw);go_simp;try with_reducible rfl)
 simp only [Act.put,List.setIfInBounds_toArray,List.set_cons_zero,List.set_cons_succ]
 refine wpAnyH_take (i:=20) (oi:=⟨some 55,.fieldAddr 73 (.tmp 54) 2,0, "law.go:37",#[⟨19,.data⟩,⟨17,.guard⟩],some (17,true)⟩) (v:=?_) rfl (by kernel_rfl) (by kernel_rfl) (by kernel_rfl) (fun _ _ _ h=>h) (Or.inl ⟨by rfl,?_⟩) hHeld ?_
 rotate_left
 · (intro w hSw;(try dsimp only at hSw);go_simp;try with_reducible rfl)
 simp only [Act.put,List.setIfInBounds_toArray,List.set_cons_zero,List.set_cons_succ]
 refine wpAnyH_take (i:=21) (oi:=⟨some 56,.load 26 (.tmp 55),26, "law.go:37",#[⟨20,.data⟩,⟨17,.guard⟩],some (17,true)⟩) (v:=?_) rfl (by kernel_rfl) (by kernel_rfl) (by kernel_rfl) (fun _ _ _ h=>h) (Or.inl ⟨by rfl,?_⟩) hHeld ?_
 rotate_left
 · (intro w hSw;(try dsimp only at hSw);go_simp;try with_reducible rfl)
 simp only [Act.put,List.setIfInBounds_toArray,List.set_cons_zero,List.set_cons_succ]
 refine wpAnyH_ready (rs:=[22]) (by kernel_rfl) (by simp) ?_
 refine AllReadyH.cons (o:=⟨some 57,.call ⟨.value (.func 40),#[.tmp 56],#[26]⟩,9, "law.go:37",#[⟨21,.data⟩,⟨17,.chain⟩,⟨17,.guard⟩],some (17,true)⟩) rfl (fun K1 hK1=>?_) AllReadyH.nil
 go_simp
 first
 | (go_at_call 38;(with_reducible refine (lawP 1 1 (by decide) (by decide) (by decide) (by decide) _).mono ?_);rintro e w_p ⟨s_p,A_p,n_p,c_p,B_p,m_p,d_p,t_p,E_p,i_p,e_p,F_p,j_p,f_p,rfl,p,hh⟩
    (try replace a:=a.below hh);(try replace XQ:=XQ.below hh);(try replace LM2:=LM2.below hh);(try replace EP:=EP.below hh);(try replace hp:=hp.below hh);replace hb:=bend hb hh;replace e2:=EachH.belowG e2 hh)
 | (go_at_call 32;(with_reducible refine (psame_p a.pr p.pr (by decide) (by decide) (by decide) (by decide) true wk13_at).mono ?_);rintro e w_z ⟨rfl,hh⟩
    (try replace a:=a.below hh);(try replace XQ:=XQ.below hh);(try replace LM2:=LM2.below hh);(try replace EP:=EP.below hh);(try replace hp:=hp.below hh);replace hb:=bend hb hh;replace e2:=EachH.belowG e2 hh;clear p)
 | (go_at_call 40;(with_reducible refine (rtext_q hp.hr.qw (by decide) (by decide)).mono ?_);rintro e w_z ⟨rfl,hh⟩
    rw [wk13_w];(try replace a:=a.below hh);(try replace XQ:=XQ.below hh);(try replace LM2:=LM2.below hh);(try replace EP:=EP.below hh);(try replace hp:=hp.below hh);replace hb:=bend hb hh;replace e2:=EachH.belowG e2 hh)
 | (go_at_call 40;(with_reducible refine (rtext_q hp.hr.qy (by decide) (by decide)).mono ?_);rintro e w_z ⟨rfl,hh⟩
    rw [wk13_y];(try replace a:=a.below hh);(try replace XQ:=XQ.below hh);(try replace LM2:=LM2.below hh);(try replace EP:=EP.below hh);(try replace hp:=hp.below hh);replace hb:=bend hb hh;replace e2:=EachH.belowG e2 hh)
 | (go_at_call 30;(with_reducible refine (cgood_any LM2 e2.hr hM2 (by decide) (by decide) true hG1).mono ?_);rintro e w_z ⟨rfl,hh⟩
    (try replace a:=a.below hh);(try replace XQ:=XQ.below hh);(try replace LM2:=LM2.below hh);(try replace EP:=EP.below hh);(try replace hp:=hp.below hh);replace hb:=bend hb hh;replace e2:=EachH.belowG e2 hh)
 refine hK1.out _ _ (by with_reducible exact ⟨XQ.c0,XQ.c1,XQ.c2,XQ.c3,XQ.c4,XQ.c5,EP.c3,EP.c4,EP.c5,EP.c6,EP.c7,EP.c8⟩) (fun hHeld=>?_)
 clear hK1 K1
 refine wpAnyH_take (i:=23) (oi:=⟨some 58,.binOp BinOp.eql 9 (.tmp 57) (.const (Value.string {data:=#[50]})) 9,4, "law.go:37",#[⟨22,.data⟩,⟨17,.guard⟩],some (17,true)⟩) (v:=?_) rfl (by kernel_rfl) (by kernel_rfl) (by kernel_rfl) (fun _ _ _ h=>h) (Or.inl ⟨by rfl,?_⟩) hHeld ?_
 rotate_left
 · (intro w hSw;(try dsimp only at hSw);go_simp;try with_reducible rfl)
 simp only [Act.put,List.setIfInBounds_toArray,List.set_cons_zero,List.set_cons_succ]
 refine wpAnyH_take (i:=24) (oi:=⟨some 59,.pick (.tmp 52) (.tmp 58) (.const (Value.bool false)),4, "law.go:37",#[⟨17,.data⟩,⟨23,.data⟩],none⟩) (v:=?_) rfl (by kernel_rfl) (by kernel_rfl) (by kernel_rfl) (fun _ _ _ h=>h) (Or.inl ⟨by rfl,?_⟩) hHeld ?_
 rotate_left
 · (intro w hSw;(try dsimp only at hSw);go_simp;try with_reducible rfl)
 simp only [Act.put,List.setIfInBounds_toArray,List.set_cons_zero,List.set_cons_succ]
 refine wpAnyH_take (i:=25) (oi:=⟨some 60,.move (.tmp 59),4, "law.go:37",#[⟨24,.data⟩,⟨22,.chain⟩],none⟩) (v:=?_) rfl (by kernel_rfl) (by kernel_rfl) (by kernel_rfl) (fun _ _ _ h=>h) (Or.inl ⟨by rfl,?_⟩) hHeld ?_
 rotate_left
 · (intro w hSw;(try dsimp only at hSw);go_simp;try with_reducible rfl)
 simp only [Act.put,List.setIfInBounds_toArray,List.set_cons_zero,List.set_cons_succ]
 refine wpAnyH_take (i:=26) (oi:=⟨some 61,.move (.tmp 4),37, "law.go:37",#[⟨25,.guard⟩],some (25,true)⟩) (v:=?_) rfl (by kernel_rfl) (by kernel_rfl) (by kernel_rfl) (fun _ _ _ h=>h) (Or.inl ⟨by rfl,?_⟩) hHeld ?_
 rotate_left
 · (intro w hSw;(try dsimp only at hSw);go_simp;try with_reducible rfl)
 simp only [Act.put,List.setIfInBounds_toArray,List.set_cons_zero,List.set_cons_succ]
 refine wpAnyH_take (i:=27) (oi:=⟨some 62,.indexAddr 37 (.tmp 61) (.const (Value.int IntKind.i64 1)),0, "law.go:37",#[⟨26,.data⟩,⟨25,.guard⟩],some (25,true)⟩) (v:=?_) rfl (by kernel_rfl) (by kernel_rfl) (by kernel_rfl) (fun _ _ _ h=>h) (Or.inl ⟨by rfl,?_⟩) hHeld ?_
 rotate_left
 · (intro w hSw;(try dsimp only at hSw);go_simp;try with_reducible rfl)
 simp only [Act.put,List.setIfInBounds_toArray,List.set_cons_zero,List.set_cons_succ]
 refine wpAnyH_take (i:=28) (oi:=⟨some 63,.fieldAddr 73 (.tmp 62) 1,0, "law.go:37",#[⟨27,.data⟩,⟨25,.guard⟩],some (25,true)⟩) (v:=?_) rfl (by kernel_rfl) (by kernel_rfl) (by kernel_rfl) (fun _ _ _ h=>h) (Or.inl ⟨by rfl,?_⟩) hHeld ?_
 rotate_left
 · (intro w hSw;(try dsimp only at hSw);go_simp;try with_reducible rfl)
 simp only [Act.put,List.setIfInBounds_toArray,List.set_cons_zero,List.set_cons_succ]
 refine wpAnyH_take (i:=29) (oi:=⟨some 64,.load 26 (.tmp 63),26, "law.go:37",#[⟨28,.data⟩,⟨25,.guard⟩],some (25,true)⟩) (v:=?_) rfl (by kernel_rfl) (by kernel_rfl) (by kernel_rfl) (fun _ _ _ h=>h) (Or.inl ⟨by rfl,?_⟩) hHeld ?_
 rotate_left
 · (intro w hSw;(try dsimp only at hSw);go_simp;try with_reducible rfl)
 simp only [Act.put,List.setIfInBounds_toArray,List.set_cons_zero,List.set_cons_succ]
 refine wpAnyH_ready (rs:=[30]) (by kernel_rfl) (by simp) ?_
 refine AllReadyH.cons (o:=⟨some 65,.call ⟨.value (.func 40),#[.tmp 64],#[26]⟩,9, "law.go:37",#[⟨29,.data⟩,⟨25,.chain⟩,⟨25,.guard⟩],some (25,true)⟩) rfl (fun K1 hK1=>?_) AllReadyH.nil
 go_simp
 first
 | (go_at_call 38;(with_reducible refine (lawP 1 1 (by decide) (by decide) (by decide) (by decide) _).mono ?_);rintro e w_p ⟨s_p,A_p,n_p,c_p,B_p,m_p,d_p,t_p,E_p,i_p,e_p,F_p,j_p,f_p,rfl,p,hh⟩
    (try replace a:=a.below hh);(try replace XQ:=XQ.below hh);(try replace LM2:=LM2.below hh);(try replace EP:=EP.below hh);(try replace hp:=hp.below hh);replace hb:=bend hb hh;replace e2:=EachH.belowG e2 hh)
 | (go_at_call 32;(with_reducible refine (psame_p a.pr p.pr (by decide) (by decide) (by decide) (by decide) true wk13_at).mono ?_);rintro e w_z ⟨rfl,hh⟩
    (try replace a:=a.below hh);(try replace XQ:=XQ.below hh);(try replace LM2:=LM2.below hh);(try replace EP:=EP.below hh);(try replace hp:=hp.below hh);replace hb:=bend hb hh;replace e2:=EachH.belowG e2 hh;clear p)
 | (go_at_call 40;(with_reducible refine (rtext_q hp.hr.qw (by decide) (by decide)).mono ?_);rintro e w_z ⟨rfl,hh⟩
    rw [wk13_w];(try replace a:=a.below hh);(try replace XQ:=XQ.below hh);(try replace LM2:=LM2.below hh);(try replace EP:=EP.below hh);(try replace hp:=hp.below hh);replace hb:=bend hb hh;replace e2:=EachH.belowG e2 hh)
 | (go_at_call 40;(with_reducible refine (rtext_q hp.hr.qy (by decide) (by decide)).mono ?_);rintro e w_z ⟨rfl,hh⟩
    rw [wk13_y];(try replace a:=a.below hh);(try replace XQ:=XQ.below hh);(try replace LM2:=LM2.below hh);(try replace EP:=EP.below hh);(try replace hp:=hp.below hh);replace hb:=bend hb hh;replace e2:=EachH.belowG e2 hh)
 | (go_at_call 30;(with_reducible refine (cgood_any LM2 e2.hr hM2 (by decide) (by decide) true hG1).mono ?_);rintro e w_z ⟨rfl,hh⟩
    (try replace a:=a.below hh);(try replace XQ:=XQ.below hh);(try replace LM2:=LM2.below hh);(try replace EP:=EP.below hh);(try replace hp:=hp.below hh);replace hb:=bend hb hh;replace e2:=EachH.belowG e2 hh)
 refine hK1.out _ _ (by with_reducible exact ⟨XQ.c0,XQ.c1,XQ.c2,XQ.c3,XQ.c4,XQ.c5,EP.c3,EP.c4,EP.c5,EP.c6,EP.c7,EP.c8⟩) (fun hHeld=>?_)
 clear hK1 K1
 refine wpAnyH_take (i:=31) (oi:=⟨some 66,.binOp BinOp.eql 9 (.tmp 65) (.const (Value.string {data:=#[52]})) 9,4, "law.go:37",#[⟨30,.data⟩,⟨25,.guard⟩],some (25,true)⟩) (v:=?_) rfl (by kernel_rfl) (by kernel_rfl) (by kernel_rfl) (fun _ _ _ h=>h) (Or.inl ⟨by rfl,?_⟩) hHeld ?_
 rotate_left
 · (intro w hSw;(try dsimp only at hSw);go_simp;try with_reducible rfl)
 simp only [Act.put,List.setIfInBounds_toArray,List.set_cons_zero,List.set_cons_succ]
 refine wpAnyH_take (i:=32) (oi:=⟨some 67,.pick (.tmp 60) (.tmp 66) (.const (Value.bool false)),4, "law.go:37",#[⟨25,.data⟩,⟨31,.data⟩],none⟩) (v:=?_) rfl (by kernel_rfl) (by kernel_rfl) (by kernel_rfl) (fun _ _ _ h=>h) (Or.inl ⟨by rfl,?_⟩) hHeld ?_
 rotate_left
 · (intro w hSw;(try dsimp only at hSw);go_simp;try with_reducible rfl)
 simp only [Act.put,List.setIfInBounds_toArray,List.set_cons_zero,List.set_cons_succ]
 refine wpAnyH_take (i:=33) (oi:=⟨some 68,.move (.tmp 67),4, "law.go:37",#[⟨32,.data⟩,⟨30,.chain⟩],none⟩) (v:=?_) rfl (by kernel_rfl) (by kernel_rfl) (by kernel_rfl) (fun _ _ _ h=>h) (Or.inl ⟨by rfl,?_⟩) hHeld ?_
 rotate_left
 · (intro w hSw;(try dsimp only at hSw);go_simp;try with_reducible rfl)
 simp only [Act.put,List.setIfInBounds_toArray,List.set_cons_zero,List.set_cons_succ]
 refine wpAnyH_take (i:=34) (oi:=⟨some 69,.move (.tmp 7),38, "law.go:37",#[⟨33,.guard⟩],some (33,true)⟩) (v:=?_) rfl (by kernel_rfl) (by kernel_rfl) (by kernel_rfl) (fun _ _ _ h=>h) (Or.inl ⟨by rfl,?_⟩) hHeld ?_
 rotate_left
 · (intro w hSw;(try dsimp only at hSw);go_simp;try with_reducible rfl)
 simp only [Act.put,List.setIfInBounds_toArray,List.set_cons_zero,List.set_cons_succ]
 refine wpAnyH_take (i:=35) (oi:=⟨some 70,.binOp BinOp.eql 38 (.tmp 69) (.const (Value.int IntKind.i64 1)) 38,4, "law.go:37",#[⟨34,.data⟩,⟨33,.guard⟩],some (33,true)⟩) (v:=?_) rfl (by kernel_rfl) (by kernel_rfl) (by kernel_rfl) (fun _ _ _ h=>h) (Or.inl ⟨by rfl,?_⟩) hHeld ?_
 rotate_left
 · (intro w hSw;(try dsimp only at hSw);go_simp;try with_reducible rfl)
 simp only [Act.put,List.setIfInBounds_toArray,List.set_cons_zero,List.set_cons_succ]
 refine wpAnyH_take (i:=36) (oi:=⟨some 71,.pick (.tmp 68) (.tmp 70) (.const (Value.bool false)),4, "law.go:37",#[⟨33,.data⟩,⟨35,.data⟩],none⟩) (v:=?_) rfl (by kernel_rfl) (by kernel_rfl) (by kernel_rfl) (fun _ _ _ h=>h) (Or.inl ⟨by rfl,?_⟩) hHeld ?_
 rotate_left
 · (intro w hSw;(try dsimp only at hSw);go_simp;try with_reducible rfl)
 simp only [Act.put,List.setIfInBounds_toArray,List.set_cons_zero,List.set_cons_succ]
 refine wpAnyH_take (i:=37) (oi:=⟨some 72,.move (.tmp 71),4, "law.go:37",#[⟨36,.data⟩,⟨33,.chain⟩],none⟩) (v:=?_) rfl (by kernel_rfl) (by kernel_rfl) (by kernel_rfl) (fun _ _ _ h=>h) (Or.inl ⟨by rfl,?_⟩) hHeld ?_
 rotate_left
 · (intro w hSw;(try dsimp only at hSw);go_simp;try with_reducible rfl)
 simp only [Act.put,List.setIfInBounds_toArray,List.set_cons_zero,List.set_cons_succ]
 refine wpAnyH_take (i:=38) (oi:=⟨some 73,.move (.tmp 4),37, "law.go:37",#[⟨37,.guard⟩],some (37,true)⟩) (v:=?_) rfl (by kernel_rfl) (by kernel_rfl) (by kernel_rfl) (fun _ _ _ h=>h) (Or.inl ⟨by rfl,?_⟩) hHeld ?_
 rotate_left
 · (intro w hSw;(try dsimp only at hSw);go_simp;try with_reducible rfl)
 simp only [Act.put,List.setIfInBounds_toArray,List.set_cons_zero,List.set_cons_succ]
 refine wpAnyH_ready (rs:=[39]) (by kernel_rfl) (by simp) ?_
 refine AllReadyH.cons (o:=⟨some 74,.call ⟨.value (.func 30),#[.tmp 73],#[37]⟩,4, "law.go:37",#[⟨38,.data⟩,⟨37,.chain⟩,⟨37,.guard⟩],some (37,true)⟩) rfl (fun K1 hK1=>?_) AllReadyH.nil
 go_simp
 first
 | (go_at_call 38;(with_reducible refine (lawP 1 1 (by decide) (by decide) (by decide) (by decide) _).mono ?_);rintro e w_p ⟨s_p,A_p,n_p,c_p,B_p,m_p,d_p,t_p,E_p,i_p,e_p,F_p,j_p,f_p,rfl,p,hh⟩
    (try replace a:=a.below hh);(try replace XQ:=XQ.below hh);(try replace LM2:=LM2.below hh);(try replace EP:=EP.below hh);(try replace hp:=hp.below hh);replace hb:=bend hb hh;replace e2:=EachH.belowG e2 hh)
 | (go_at_call 32;(with_reducible refine (psame_p a.pr p.pr (by decide) (by decide) (by decide) (by decide) true wk13_at).mono ?_);rintro e w_z ⟨rfl,hh⟩
    (try replace a:=a.below hh);(try replace XQ:=XQ.below hh);(try replace LM2:=LM2.below hh);(try replace EP:=EP.below hh);(try replace hp:=hp.below hh);replace hb:=bend hb hh;replace e2:=EachH.belowG e2 hh;clear p)
 | (go_at_call 40;(with_reducible refine (rtext_q hp.hr.qw (by decide) (by decide)).mono ?_);rintro e w_z ⟨rfl,hh⟩
    rw [wk13_w];(try replace a:=a.below hh);(try replace XQ:=XQ.below hh);(try replace LM2:=LM2.below hh);(try replace EP:=EP.below hh);(try replace hp:=hp.below hh);replace hb:=bend hb hh;replace e2:=EachH.belowG e2 hh)
 | (go_at_call 40;(with_reducible refine (rtext_q hp.hr.qy (by decide) (by decide)).mono ?_);rintro e w_z ⟨rfl,hh⟩
    rw [wk13_y];(try replace a:=a.below hh);(try replace XQ:=XQ.below hh);(try replace LM2:=LM2.below hh);(try replace EP:=EP.below hh);(try replace hp:=hp.below hh);replace hb:=bend hb hh;replace e2:=EachH.belowG e2 hh)
 | (go_at_call 30;(with_reducible refine (cgood_any LM2 e2.hr hM2 (by decide) (by decide) true hG1).mono ?_);rintro e w_z ⟨rfl,hh⟩
    (try replace a:=a.below hh);(try replace XQ:=XQ.below hh);(try replace LM2:=LM2.below hh);(try replace EP:=EP.below hh);(try replace hp:=hp.below hh);replace hb:=bend hb hh;replace e2:=EachH.belowG e2 hh)
 refine hK1.out _ _ (by with_reducible exact ⟨XQ.c0,XQ.c1,XQ.c2,XQ.c3,XQ.c4,XQ.c5,EP.c3,EP.c4,EP.c5,EP.c6,EP.c7,EP.c8⟩) (fun hHeld=>?_)
 clear hK1 K1
 refine wpAnyH_take (i:=40) (oi:=⟨some 75,.pick (.tmp 72) (.tmp 74) (.const (Value.bool false)),4, "law.go:37",#[⟨37,.data⟩,⟨39,.data⟩],none⟩) (v:=?_) rfl (by kernel_rfl) (by kernel_rfl) (by kernel_rfl) (fun _ _ _ h=>h) (Or.inl ⟨by rfl,?_⟩) hHeld ?_
 rotate_left
 · (intro w hSw;(try dsimp only at hSw);go_simp;try with_reducible rfl)
 simp only [Act.put,List.setIfInBounds_toArray,List.set_cons_zero,List.set_cons_succ]
 refine wpAnyH_take (i:=41) (oi:=⟨some 0,.assign (.tmp 75),4, "law.go:37",#[⟨40,.data⟩,⟨39,.chain⟩,⟨0,.phase⟩,⟨1,.phase⟩,⟨2,.phase⟩,⟨3,.phase⟩,⟨4,.phase⟩,⟨5,.phase⟩,⟨6,.phase⟩,⟨7,.phase⟩,⟨8,.phase⟩,⟨9,.phase⟩,⟨10,.phase⟩,⟨11,.phase⟩,⟨12,.phase⟩,⟨13,.phase⟩,⟨14,.phase⟩,⟨15,.phase⟩,⟨16,.phase⟩,⟨17,.phase⟩,⟨18,.phase⟩,⟨19,.phase⟩,⟨20,.phase⟩,⟨21,.phase⟩,⟨22,.phase⟩,⟨23,.phase⟩,⟨24,.phase⟩,⟨25,.phase⟩,⟨26,.phase⟩,⟨27,.phase⟩,⟨28,.phase⟩,⟨29,.phase⟩,⟨30,.phase⟩,⟨31,.phase⟩,⟨32,.phase⟩,⟨33,.phase⟩,⟨34,.phase⟩,⟨35,.phase⟩,⟨36,.phase⟩,⟨37,.phase⟩,⟨38,.phase⟩,⟨39,.phase⟩,⟨40,.phase⟩],none⟩) (v:=?_) rfl (by kernel_rfl) (by kernel_rfl) (by kernel_rfl) (fun _ _ _ h=>h) (Or.inl ⟨by rfl,?_⟩) hHeld ?_
 rotate_left
 · (intro w hSw;(try dsimp only at hSw);go_simp;try with_reducible rfl)
 simp only [Act.put,List.setIfInBounds_toArray,List.set_cons_zero]
 refine wpAnyH_done (by kernel_rfl) ?_ _
 go_wp2_with fail
 go_ret;exact ⟨rfl,hb⟩
end
section
open Go Go.RowKit
attribute [local go_sem ↓] open_LVH open_STH open_LVJ open_STJ
theorem GivesPtE.more {x y:Rat} {k k1:Nat} {en:Ending} {w':World} (h:GivesPtE w x y k en w') (hk:k≤k1):GivesPtE w x y k1 en w':=by
 obtain ⟨s,A,n,c,B,m,d,t,E,i,e,F,j,f,h1,h2,h3⟩:=h
 exact ⟨s,A,n,c,B,m,d,t,E,i,e,F,j,f,h1,h2.more hk,h3⟩
theorem kRow_cap {k t n N:Nat} (hn:n≤N) {B:Nat} (hB:kRow k t N+(1+kRow k t N)≤B):kRow k t n+(1+kRow k t n)≤B:=by
 have:=kRow_le (k:=k) (t:=t) hn
 omega
theorem cat_any {A A1 A2:Option Addr} {n c n1 c1 n2 c2 k kt B:Nat} {s:Bool} {L:List HV} {V:List AH} {vt:Rat} (hL:SV w A (hvs L)) (hE:EachH HR w L V k) (hn:L.length=n) (q:QR w s A1 n1 c1 A2 n2 c2 vt kt) (hk:kRow k kt 3≤10000) (ht:kt≤1000) (h1:1≤k) (h2:1≤kt) (hG:GoodH V) (h0:0≤vt∧vt≤1) (hB:kRow k kt 3+(1+kRow k kt 3)≤B) :
 Calls Tryz.prog 21 #[.slice A n c,.agg #[.bool s,.slice A1 n1 c1,.slice A2 n2 c2]] w (GivesPtE w (bez vt V).px (bez vt V).py B):=by
 have hn4:n - 1≤3:=by have:=hG.1;rw [← hn,hE.1];omega
 have hk2:=Nat.le_trans (kRow_le (k:=k) (t:=kt) hn4) hk
 rcases cvsgn_nn h0.1 with e | e
 · exact (cat_p0 hL hE hn q hk2 ht h1 h2 hG h0.1 h0.2 e).mono fun _ _ h=>h.more (kRow_cap hn4 hB)
 · exact (cat_p1 hL hE hn q hk2 ht h1 h2 hG h0.1 h0.2 e).mono fun _ _ h=>h.more (kRow_cap hn4 hB)
theorem fair13_t {A:Option Addr} {n c:Nat} {L:List HV} (hL:SV w A (hvs L)) (hn:L.length=n) (hm:n≤maxLen) (h:(∀ p ∈ L,p.small 4)∧n≤6):Calls Tryz.prog 17 #[.slice A n c] w fun e w'=>e=.returned (.bool true)∧Below w.heap.size w w':=fair13 hL hn hm true ⟨fun _=>h,fun _=>rfl⟩
theorem fair13_f {A:Option Addr} {n c:Nat} {L:List HV} (hL:SV w A (hvs L)) (hn:L.length=n) (hm:n≤maxLen) (h:¬ ((∀ p ∈ L,p.small 4)∧n≤6)):Calls Tryz.prog 17 #[.slice A n c] w fun e w'=>e=.returned (.bool false)∧Below w.heap.size w w':=fair13 hL hn hm false ⟨fun e=>by (cases e),fun e=>absurd e h⟩
theorem rgood13_t {A:Option Addr} {n c k:Nat} {L:List HV} {V:List AH} (hL:SV w A (hvs L)) (hE:EachH RH w L V k) (hn:L.length=n) (hm:n≤1000) (h:GoodH V):Calls Tryz.prog 22 #[.slice A n c] w fun e w'=>e=.returned (.bool true)∧Below w.heap.size w w':=rgood13 hL hE hn hm true ⟨fun _=>h,fun _=>rfl⟩
theorem rgood13_f {A:Option Addr} {n c k:Nat} {L:List HV} {V:List AH} (hL:SV w A (hvs L)) (hE:EachH RH w L V k) (hn:L.length=n) (hm:n≤1000) (h:¬ GoodH V):Calls Tryz.prog 22 #[.slice A n c] w fun e w'=>e=.returned (.bool false)∧Below w.heap.size w w':=rgood13 hL hE hn hm false ⟨fun e=>by (cases e),fun e=>absurd e h⟩
end
section
open Go
theorem wp_post {P:Program} {o:Oper} {a:Act} {K K':Act→World→Prop} {N:Act→World→Prop} {Q:Exit→Act→World→Prop} (h:∀ a w,K a w→K' a w)
 (hh:o.wp P a w K (Exit.then N Q)):o.wp P a w K' Q:=by
 unfold Oper.wp at *
 generalize (execOp a.eval o).run P w=r at *
 cases r with
 | ok n w' =>
   cases n <;> simp only [Oper.upon] at hh ⊢ <;>
    first
     | exact h _ _ hh
     | exact Calls.mono hh (fun e w'' he=>by cases e <;> first | exact h _ _ he | exact he)
     | exact Rows.mono hh (fun _ _ he=>h _ _ he)
 | halt x w'=>cases x <;> simp only [Oper.upon] at hh ⊢ <;> exact hh
def lastB (ops:Array Oper):Bool :=
 (ops.all fun o=>o.guard.isNone) &&
 (List.range (ops.size - 1)).all fun i=>(List.range ops.size).any fun j=>decide (i < j) && ((ops[j]?).map fun o=>o.after.any fun e=>Region.binds .any e && decide (e.on=i)).getD false
section
variable {P:Program} {ops:Array Oper} {Q:Exit→Act→World→Prop}
theorem unguarded {i:Nat} {o:Oper} (h:lastB ops=true) (ho:ops[i]?=some o):o.guard=none:=by
 unfold lastB at h
 rw [Bool.and_eq_true] at h
 have h1:=Array.all_eq_true.1 h.1 i (Array.getElem?_eq_some_iff.1 ho).1
 rw [(Array.getElem?_eq_some_iff.1 ho).2] at h1
 simpa using h1
theorem asked {i:Nat} (h:lastB ops=true) (hi:i+1 < ops.size):∃ j o e,i < j∧ops[j]?=some o∧e ∈ o.after∧Region.binds .any e=true∧e.on=i:=by
 unfold lastB at h
 rw [Bool.and_eq_true] at h
 have h1:=List.all_eq_true.1 h.2 i (by rw [List.mem_range];omega)
 obtain ⟨j,_,h2⟩:=List.any_eq_true.1 h1
 rw [Bool.and_eq_true] at h2
 cases ho:ops[j]? with
 | none=>rw [ho] at h2;simp at h2
 | some o =>
   rw [ho] at h2
   simp only [Option.map_some,Option.getD_some] at h2
   obtain ⟨m,hm,h3⟩:=Array.any_eq_true.1 h2.2
   rw [Bool.and_eq_true] at h3
   exact ⟨j,o,_,of_decide_eq_true h2.1,ho,Array.getElem_mem hm,h3.1,of_decide_eq_true h3.2⟩
def Shut (ops:Array Oper) (listed:Array Bool):Prop :=
 ∀ (j:Nat) (o:Oper),ops[j]?=some o→listed.getD j false=true→∀ e ∈ o.after,Region.binds .any e=true→listed.getD e.on false=true
theorem shut_all {listed:Array Bool} (hl:lastB ops=true) (hs:Shut ops listed) (h:listed.getD (ops.size - 1) false=true):∀ k i,i+k+1=ops.size→listed.getD i false=true:=by
 intro k
 induction k using Nat.strongRecOn with
 | ind k ih =>
   intro i hi
   rcases Nat.eq_zero_or_pos k with h0 | h0
   · subst h0
     rw [show i=ops.size - 1 by omega];exact h
   · obtain ⟨j,o,e,hij,ho,he,hb,rfl⟩:=asked (i:=i) hl (by omega)
     have hj:=(Array.getElem?_eq_some_iff.1 ho).1
     exact hs j o ho (ih (ops.size - 1 - j) (by omega) j (by omega)) e he hb
theorem shut_set {listed:Array Bool} {i:Nat} {o:Oper} (hs:Shut ops listed) (hi:i < listed.size) (ho:ops[i]?=some o) (hall:∀ e ∈ o.after,Region.binds .any e=true→listed.getD e.on false=true) :
 Shut ops (listed.setIfInBounds i true):=by
 have up:∀ k,listed.getD k false=true→(listed.setIfInBounds i true).getD k false=true:=by
  intro k hk
  by_cases hki:k=i
  · subst hki;simp [hi]
  · simpa [Array.getD_eq_getD_getElem?,Ne.symm hki] using hk
 intro j o' ho' hj e he hb
 by_cases hji:j=i
 · subst hji
   cases Option.some.inj (ho.symm.trans ho')
   exact up _ (hall e he hb)
 · refine up _ (hs j o' ho' ?_ e he hb)
   simpa [Array.getD_eq_getD_getElem?,Ne.symm hji] using hj
theorem pop_at {i:Nat} (h:i+1 < ops.size):ops.pop[i]?=ops[i]?:=by
 rw [Array.getElem?_pop];simp;omega
theorem wpAny_last {o:Oper} (hl:lastB ops=true) (hb:backB ops=true) (ho:ops[ops.size - 1]?=some o) :
 ∀ (fuel:Nat) (listed:Array Bool) (a:Act) (w:World),listed.size=ops.size→Shut ops listed→listed.getD (ops.size - 1) false=false →
  wpAny P .any ops.pop (Exit.then (fun a w=>o.wp P a w (Q .normal) Q) Q) fuel listed.pop a w→wpAny P .any ops Q (fuel+1) listed a w:=by
 have hn:ops.size - 1 < ops.size:=(Array.getElem?_eq_some_iff.1 ho).1
 have hg:=unguarded hl ho
 have hw:∀ a:Act,Region.wanted o (yielded ops a.tmps)=true:=by intro a;unfold Region.wanted;rw [hg]
 have atn:∀ (K:Act→World→Prop) (a:Act) (w:World),(∀ a w,Q .normal a w→K a w)→o.wp P a w (Q .normal) Q→wpOp P ops Q (ops.size - 1) K a w:=by
  intro K a w h1 h2
  unfold wpOp
  rw [ho]
  simp only [hw,if_true]
  exact .inl (Oper.wp_mono h1 h2)
 have lp:∀ {listed:Array Bool},listed.size=ops.size→∀ {i:Nat} (d:Bool),i+1 < ops.size→listed.pop.getD i d=listed.getD i d:=by
  intro listed hs i d hi
  have h1:i < listed.size - 1:=by omega
  simp only [Array.getD_eq_getD_getElem?,Array.getElem?_pop]
  rw [if_pos h1]
 have setall:∀ {listed:Array Bool},listed.size=ops.size→(∀ i,i+1 < ops.size→listed.getD i false=true)→Region.ready .any ops (listed.setIfInBounds (ops.size - 1) true)=[]:=by
  intro listed hs h
  rw [List.eq_nil_iff_forall_not_mem]
  intro i hi
  obtain ⟨h1,o',ho',_⟩:=mem_ready.1 hi
  have hi1:=(Array.getElem?_eq_some_iff.1 ho').1
  by_cases hin:i=ops.size - 1
  · subst hin
    have hin':ops.size - 1 < listed.size:=by omega
    simp [hin'] at h1
  · have h2:=h i (by omega)
    have h3:i < listed.size:=by omega
    simp only [Array.getD_eq_getD_getElem?,Array.getElem?_eq_getElem h3,Option.getD_some] at h2
    simp [Array.getD_eq_getD_getElem?,Ne.symm hin,h3,h2] at h1
 have goAll:∀ (fuel:Nat) (listed:Array Bool) (a:Act) (w:World),listed.size=ops.size→(∀ i,i+1 < ops.size→listed.getD i false=true)→Q .normal a w→wpAny P .any ops Q fuel (listed.setIfInBounds (ops.size - 1) true) a w:=by
  intro fuel listed a w hs h hq
  have h0:=setall hs h
  cases fuel with
  | zero=>exact ⟨h0,hq⟩
  | succ f =>
    refine ⟨fun _=>hq,fun i hi=>?_⟩
    rw [h0] at hi
    cases hi
 have part1:∀ {listed:Array Bool},listed.size=ops.size→listed.getD (ops.size - 1) false=false→¬ Region.ready .any ops listed=[]:=by
  intro listed hs h hr
  have:=all_listed hs hb hr (ops.size - 1) hn
  rw [h] at this
  cases this
 have popnil:∀ {listed:Array Bool},listed.size=ops.size→(∀ i,i+1 < ops.size→listed.getD i false=true)→Region.ready .any ops.pop listed.pop=[]:=by
  intro listed hs h
  rw [List.eq_nil_iff_forall_not_mem]
  intro i hi
  obtain ⟨h1,o',ho',_⟩:=mem_ready.1 hi
  have hi1:=(Array.getElem?_eq_some_iff.1 ho').1
  rw [Array.size_pop] at hi1
  rw [lp hs true (by omega)] at h1
  have h2:=h i (by omega)
  have h3:i < listed.size:=by omega
  simp only [Array.getD_eq_getD_getElem?,Array.getElem?_eq_getElem h3,Option.getD_some] at h1 h2
  rw [h1] at h2
  cases h2
 intro fuel
 induction fuel with
 | zero =>
   intro listed a w hs hS hL h
   obtain ⟨hr,hq⟩:=h
   refine ⟨fun hr=>absurd hr (part1 hs hL),fun i hi=>?_⟩
   obtain ⟨h1,o',ho',hall⟩:=mem_ready.1 hi
   have hi1:=(Array.getElem?_eq_some_iff.1 ho').1
   by_cases hin:i=ops.size - 1
   · subst hin
     cases Option.some.inj (ho.symm.trans ho')
     have hall2:∀ i,i+1 < ops.size→listed.getD i false=true:=by
      have hS2:=shut_set hS (by omega) ho hall
      intro i hi
      have:=shut_all hl hS2 (by rw [Array.getD_eq_getD_getElem?];simp;omega) (ops.size - 1 - i) i (by omega)
      simpa [Array.getD_eq_getD_getElem?,show ¬ ops.size - 1=i by omega] using this
     exact atn _ _ _ (fun a w hq=>goAll 0 listed a w hs hall2 hq) hq
   · exfalso
     have:i ∈ Region.ready .any ops.pop listed.pop:=by
      refine mem_ready.2 ⟨by rw [lp hs true (by omega)];exact h1,o',by rw [pop_at (by omega)];exact ho',fun e he hbe=>?_⟩
      have h5:=hall e he hbe
      have h6:e.on+1 < ops.size:=by
       have h7:=List.all_eq_true.1 hb i (by simpa using hi1)
       rw [ho'] at h7
       simp only [Option.map_some,Option.getD_some] at h7
       obtain ⟨k,hk,rfl⟩:=Array.mem_iff_getElem.1 he
       have h8:=Array.all_eq_true.1 h7 k hk;rw [hbe] at h8
       have:(o'.after[k]).on < i:=of_decide_eq_true (by simpa using h8)
       omega
      rw [lp hs false h6];exact h5
     rw [hr] at this
     cases this
 | succ f ih =>
   intro listed a w hs hS hL h
   obtain ⟨h0,hst⟩:=h
   refine ⟨fun hr=>absurd hr (part1 hs hL),fun i hi=>?_⟩
   obtain ⟨h1,o',ho',hall⟩:=mem_ready.1 hi
   have hi1:=(Array.getElem?_eq_some_iff.1 ho').1
   by_cases hin:i=ops.size - 1
   · subst hin
     cases Option.some.inj (ho.symm.trans ho')
     have hall2:∀ i,i+1 < ops.size→listed.getD i false=true:=by
      have hS2:=shut_set hS (by omega) ho hall
      intro i hi
      have:=shut_all hl hS2 (by rw [Array.getD_eq_getD_getElem?];simp;omega) (ops.size - 1 - i) i (by omega)
      simpa [Array.getD_eq_getD_getElem?,show ¬ ops.size - 1=i by omega] using this
     exact atn _ _ _ (fun a w hq=>goAll _ listed a w hs hall2 hq) (h0 (popnil hs hall2))
   · have hm : i ∈ Region.ready .any ops.pop listed.pop := by
       refine mem_ready.2 ⟨by rw [lp hs true (by omega)];exact h1,o',by rw [pop_at (by omega)];exact ho',fun e he hbe=>?_⟩
       have h5:=hall e he hbe
       have h6:e.on+1 < ops.size:=by
        have h7:=List.all_eq_true.1 hb i (by simpa using hi1)
        rw [ho'] at h7
        simp only [Option.map_some,Option.getD_some] at h7
        obtain ⟨k,hk,rfl⟩:=Array.mem_iff_getElem.1 he
        have h8:=Array.all_eq_true.1 h7 k hk;rw [hbe] at h8
        have:(o'.after[k]).on < i:=of_decide_eq_true (by simpa using h8)
        omega
       rw [lp hs false h6];exact h5
     have h9:=hst i hm
     unfold wpOp at h9 ⊢
     rw [pop_at (by omega),ho'] at h9
     rw [ho']
     have hg':=unguarded hl ho'
     have hw1:∀ ops':Array Oper,Region.wanted o' (yielded ops' a.tmps)=true:=by intro ops';unfold Region.wanted;rw [hg']
     simp only [hw1,if_true] at h9 ⊢
     have hpop:listed.pop.setIfInBounds i true=(listed.setIfInBounds i true).pop:=by
      apply Array.ext
      · simp
      · intro j h1 h2
        have h3:j < listed.size:=by simp at h1;omega
        rw [Array.getElem_pop,Array.getElem_setIfInBounds (by simpa using h1),Array.getElem_setIfInBounds h3,Array.getElem_pop]
     refine h9.imp (fun h=>wp_post (fun a' w' hK=>ih _ a' w' (by simpa using hs) (shut_set hS (by omega) ho' hall) ?_ (by rw [← hpop];exact hK)) h) id
     simpa [Array.getD_eq_getD_getElem?,hin] using hL
theorem repF (n j:Nat):(Array.replicate n false).getD j false=false:=by
 rw [Array.getD_eq_getD_getElem?]
 cases h:(Array.replicate n false)[j]? with
 | none=>rfl
 | some b =>
   obtain ⟨h1,h2⟩:=Array.getElem?_eq_some_iff.1 h
   rw [Array.getElem_replicate] at h2
   rw [← h2];rfl
theorem wp_region_last {id:Nat} {o:Oper} {a:Act} (init:Array Oper) (hi:ops.pop=init) (hm:P.follows .mixedOrders=true) (hl:lastB ops=true) (hb:backB ops=true) (ho:ops[ops.size - 1]?=some o)
 (h:wpAny P .any init (Exit.then (fun a w=>o.wp P a w (Q .normal) Q) Q) init.size (Array.replicate init.size false) a w.drew):(Code.region id ops true).wp P Q a w:=by
 have hn:ops.size - 1 < ops.size:=(Array.getElem?_eq_some_iff.1 ho).1
 subst hi
 refine wp_region_any hm ?_
 have h1:ops.size=ops.pop.size+1:=by rw [Array.size_pop];omega
 have h2:=wpAny_last (P:=P) (Q:=Q) hl hb ho ops.pop.size (Array.replicate ops.size false) a w.drew (by simp) (fun j o' _ hj=>by rw [repF] at hj;cases hj) (repF _ _) (by
  have:(Array.replicate ops.size false).pop=Array.replicate ops.pop.size false:=by
   apply Array.ext <;> simp
  rw [this];exact h)
 rw [← h1] at h2
 exact h2
end
end
end Go.Proofs.YtananlhdmekmjaaGreat
