/- AreaBoxes: part 16. -/
import Derived.Test.YtghmejlikfiegaaGreatKAreaBoxes9
import Derived.Test.YtghmejlikfiegaaGreatKAreaBoxes10
import Derived.Test.YtghmejlikfiegaaGreatKAreaBoxes11
import Derived.Test.YtghmejlikfiegaaGreatKAreaBoxes13
import Derived.Test.YtghmejlikfiegaaGreatKAreaBoxes14
import Derived.Test.YtghmejlikfiegaaGreatKAreaBoxes15
set_option linter.unusedVariables false
set_option maxRecDepth 100000
set_option maxHeartbeats 16000000
variable {w:Go.World}
variable {s_p t_p:Bool} {A_p B_p E_p F_p:Option Go.Addr} {n_p c_p m_p d_p i_p e_p j_p f_p:Nat}
variable {s_q t_q:Bool} {A_q B_q E_q F_q:Option Go.Addr} {n_q c_q m_q d_q i_q e_q j_q f_q:Nat}
variable {s_r t_r:Bool} {A_r B_r E_r F_r:Option Go.Addr} {n_r c_r m_r d_r i_r e_r j_r f_r:Nat}
namespace Go.Proofs.YtghmejlikfiegaaGreat
section
open Go Go.RowKit
def PV.small (M:Nat) (p:PV):Prop:=(p.n≤M∧p.m≤M)∧p.i≤M∧p.j≤M
instance (M:Nat) (p:PV):Decidable (p.small M):=by unfold PV.small;exact inferInstance
theorem Each.belowP {w w':World} {L:List PV} {l:List (Rat × Rat)} {k:Nat} (h:Each PV.PR w L l k) (hb:Below w.heap.size w w'):Each PV.PR w' L l k:=h.imp fun _ _ hp=>PR.below hp hb
theorem smallM_f (M:Nat) (h:¬ (n_p≤M∧m_p≤M)) :
 Calls Tryz.prog 92 #[.agg #[.bool s_p,.slice A_p n_p c_p,.slice B_p m_p d_p,.bool t_p,.slice E_p i_p e_p,.slice F_p j_p f_p],.int .i64 (M:Int)] w fun e w'=>e=.returned (.bool false)∧Below w.heap.size w w':=by
 have HL:Hid (decide (n_p≤M∧m_p≤M)=false):=decide_eq_false h
 clear h
 go_enter Tryz.func92,Tryz.ntmps92
 go_wp2_with fail
 generalize hW:World.alloc _ _=W
 obtain ⟨hb,XA,hzW⟩:=mkbx15_9 hW;clear hW;obtain ⟨xa0,xa1,xa2,xa3,xa4,xa5⟩:=XA.all
 go_wp2_with (first
  | (go_at_call 135;(with_reducible refine (small_m M (s:=s_p) (A:=A_p) (n:=n_p) (c:=c_p) (A':=B_p) (n':=m_p) (c':=d_p) _ false HL.out).mono ?_);rintro e w_z ⟨rfl,hh⟩
     replace hb:=bend hb hh;replace XA:=XA.below hh;obtain ⟨xa0,xa1,xa2,xa3,xa4,xa5⟩:=XA.all))
 (try rw [Exit.noGoto_ret])
 go_ret;exact ⟨rfl,hb⟩
theorem smallM_t (M:Nat) (h:n_p≤M∧m_p≤M) :
 Calls Tryz.prog 92 #[.agg #[.bool s_p,.slice A_p n_p c_p,.slice B_p m_p d_p,.bool t_p,.slice E_p i_p e_p,.slice F_p j_p f_p],.int .i64 (M:Int)] w fun e w'=>e=.returned (.bool (decide (i_p≤M∧j_p≤M)))∧Below w.heap.size w w':=by
 have HL:Hid (decide (n_p≤M∧m_p≤M)=true):=decide_eq_true h
 obtain ⟨T,hM⟩:∃ T,decide (i_p≤M∧j_p≤M)=T:=⟨_,rfl⟩
 have HM:=Lib.hid hM;rw [hM];clear hM;clear h
 go_enter Tryz.func92,Tryz.ntmps92
 go_wp2_with fail
 generalize hW:World.alloc _ _=W
 obtain ⟨hb,XA,hzW⟩:=mkbx15_9 hW;clear hW;obtain ⟨xa0,xa1,xa2,xa3,xa4,xa5⟩:=XA.all
 go_wp2_with (first
  | (go_at_call 135;(with_reducible refine (small_m M (s:=s_p) (A:=A_p) (n:=n_p) (c:=c_p) (A':=B_p) (n':=m_p) (c':=d_p) _ true HL.out).mono ?_);rintro e w_z ⟨rfl,hh⟩
     replace hb:=bend hb hh;replace XA:=XA.below hh;obtain ⟨xa0,xa1,xa2,xa3,xa4,xa5⟩:=XA.all)
  | (go_at_call 135;(with_reducible refine (small_m M (s:=t_p) (A:=E_p) (n:=i_p) (c:=e_p) (A':=F_p) (n':=j_p) (c':=f_p) _ T HM.out).mono ?_);rintro e w_z ⟨rfl,hh⟩
     replace hb:=bend hb hh))
 (try rw [Exit.noGoto_ret])
 go_ret;exact ⟨rfl,hb⟩
theorem smallM (M:Nat) (R:Bool) (hR:decide ((PV.mk s_p A_p n_p c_p B_p m_p d_p t_p E_p i_p e_p F_p j_p f_p).small M)=R) :
 Calls Tryz.prog 92 #[.agg #[.bool s_p,.slice A_p n_p c_p,.slice B_p m_p d_p,.bool t_p,.slice E_p i_p e_p,.slice F_p j_p f_p],.int .i64 (M:Int)] w fun e w'=>e=.returned (.bool R)∧Below w.heap.size w w':=by
 subst hR
 show Calls _ _ _ _ fun e w'=>e=.returned (.bool (decide ((n_p≤M∧m_p≤M)∧i_p≤M∧j_p≤M)))∧_
 by_cases h:n_p≤M∧m_p≤M
 · have e:decide (i_p≤M∧j_p≤M)=decide ((n_p≤M∧m_p≤M)∧i_p≤M∧j_p≤M):=by simp [h]
   rw [← e];exact smallM_t M h
 · have e:false=decide ((n_p≤M∧m_p≤M)∧i_p≤M∧j_p≤M):=by simp [h]
   rw [← e];exact smallM_f M h
theorem smallline_p (M:Nat) {MI:Int} (hMI:MI=(M:Int)) {A:Option Addr} {n c:Nat} {L:List PV} (hL:SV w A (pvs L)) (hn:L.length=n) (hm:n≤100000) (_hnc:n≤c) (R:Bool) (hR0:R=true ↔ ∀ p ∈ L,p.small M) :
 Calls Tryz.prog 39 #[.slice A n c,.int .i64 MI] w fun e w'=>e=.returned (.bool R)∧Below w.heap.size w w':=by
 subst hMI
 have HN:=Lib.hid hn;have HL0:=Lib.hid hL;have HR0:=Lib.hid hR0;clear hR0 hL
 go_enter Tryz.func39,Tryz.ntmps39
 go_wp2_with fail
 go_loopg [5] n (fun gk ix wr=>∃ (m:Nat),Hid (gk+m=n)∧ix=.int .i64 (m:Int)∧Hid (∀ (i:Nat) (p:PV),i < m→L[i]?=some p→p.small M)∧Below w.heap.size w wr)
 case atStart=>exact ⟨0,Nat.add_zero _,rfl,fun i p hi=>absurd hi (by omega),Below.refl _ _⟩
 case round =>
  obtain ⟨m,HG,rfl,HS,hb⟩:=hrel
  by_cases hmn:m < n
  · have HMN:=Lib.hid hmn
    obtain ⟨P,hP1⟩:∃ P,L[m]?=some P:=⟨_,List.getElem?_eq_getElem (by rw [HN.out];exact hmn)⟩
    obtain ⟨g0,o0,hix0,E,_⟩:=(HL0.out.below hb).pt hP1
    have hixa:∀ w',(Instr.indexAt 22 (.slice A n c) (.int .i64 (m:Int))).run Tryz.prog w'=.ok (.pointer (some ⟨g0,o0,none⟩)) w':=fun w'=>hix0 n c w' hmn
    have hlt:(m:Int) < (n:Int):=by omega
    have hwr:IntKind.i64.wrap ((m:Int)+1)=(m:Int)+1:=IntWalk.i64_in _ (by omega)
    have HP1:=Lib.hid hP1
    obtain ⟨s_p,A_p,n_p,c_p,B_p,m_p,d_p,t_p,E_p,i_p,e_p,F_p,j_p,f_p⟩:=P
    obtain ⟨e0,e1,e2,e3,e4,e5⟩:=E.all
    simp only at e0 e1 e2 e3 e4 e5
    clear hP1 hix0 hmn
    by_cases hs:(PV.mk s_p A_p n_p c_p B_p m_p d_p t_p E_p i_p e_p F_p j_p f_p).small M
    · have HSM:Hid (decide ((PV.mk s_p A_p n_p c_p B_p m_p d_p t_p E_p i_p e_p F_p j_p f_p).small M)=true):=decide_eq_true hs
      clear hs
      go_wp2_with (first
       | (go_at_call 92;(with_reducible refine (smallM M true HSM.out).mono ?_);rintro e w_z ⟨rfl,hh⟩
          replace hb:=bend hb hh))
      go_roundg (gk - 1)
      case measure=>have:=HG.out;have:=HMN.out;omega
      case rel =>
       refine ⟨m+1,by have:=HG.out;have:=HMN.out;show _=_;omega,by go_num,fun i p hi h5=>?_,hb⟩
       rcases Nat.lt_or_ge i m with h | h
       · exact HS.out i p h h5
       · obtain rfl:i=m:=by omega
         rw [HP1.out] at h5;cases h5;exact of_decide_eq_true HSM.out
    · have HSM:Hid (decide ((PV.mk s_p A_p n_p c_p B_p m_p d_p t_p E_p i_p e_p F_p j_p f_p).small M)=false):=decide_eq_false hs
      have HF:Hid (false=R):=by
       show _=_
       cases R with
       | false=>rfl
       | true=>exact absurd (HR0.out.1 rfl _ (List.mem_of_getElem? HP1.out)) hs
      clear hs
      go_wp2_with (first
       | (go_at_call 92;(with_reducible refine (smallM M false HSM.out).mono ?_);rintro e w_z ⟨rfl,hh⟩
          replace hb:=bend hb hh))
      (try rw [Exit.noGoto_ret])
      go_ret
      exact ⟨by rw [← HF.out];rfl,hb⟩
  · have hlt:¬ (m:Int) < (n:Int):=by omega
    have HT:Hid (true=R):=by
     refine (HR0.out.2 fun p hp=>?_).symm
     obtain ⟨i,hi⟩:=List.getElem?_of_mem hp
     have h7:=(List.getElem?_eq_some_iff.1 hi).1
     rw [HN.out] at h7
     exact HS.out i p (by omega) hi
    clear hmn
    go_wp2_with fail
    (try rw [Exit.noGoto_ret])
    go_ret
    exact ⟨by rw [← HT.out];rfl,hb⟩
theorem fair6_p {A:Option Addr} {n c:Nat} {L:List PV} (hL:SV w A (pvs L)) (hn:L.length=n) (hm:n≤100000) (hnc:n≤c) (R:Bool) (hR0:R=true ↔ ∀ p ∈ L,p.small 6) :
 Calls Tryz.prog 9 #[.slice A n c] w fun e w'=>e=.returned (.bool R)∧Below w.heap.size w w':=by
 have HR:=Lib.hid hR0
 have H6:Hid ((6:Int)=((6:Nat):Int)):=rfl
 clear hR0
 have hb:Below w.heap.size w w:=Below.refl _ _
 go_enter Tryz.func9,Tryz.ntmps9
 go_wp2_with (first
  | (go_at_call 39;(with_reducible refine (smallline_p 6 H6.out hL hn hm hnc R HR.out).mono ?_);rintro e w_z ⟨rfl,hh⟩
     replace hb:=bend hb hh))
 go_ret;exact ⟨rfl,hb⟩
theorem fair8_y {A:Option Addr} {n c N:Nat} {NI:Int} (hNI:NI=(N:Int)) {L:List PV} (hL:SV w A (pvs L)) (hn:L.length=n) (hm:N≤100000) (hnc:n≤c) (hN:n≤N) (R:Bool) (hR0:R=true ↔ ∀ p ∈ L,p.small 4) :
 Calls Tryz.prog 8 #[.slice A n c,.int .i64 NI] w fun e w'=>e=.returned (.bool R)∧Below w.heap.size w w':=by
 subst hNI
 have HR:=Lib.hid hR0
 have H6:Hid ((4:Int)=((4:Nat):Int)):=rfl
 clear hR0
 have hb:Below w.heap.size w w:=Below.refl _ _
 have h4:(n:Int)≤(N:Int):=by omega
 go_enter Tryz.func8,Tryz.ntmps8
 go_wp2_with (first
  | (go_at_call 39;(with_reducible refine (smallline_p 4 H6.out hL hn (by omega) hnc R HR.out).mono ?_);rintro e w_z ⟨rfl,hh⟩
     replace hb:=bend hb hh))
 (try rw [Exit.noGoto_ret])
 go_ret;exact ⟨rfl,hb⟩
theorem fair8_n {A:Option Addr} {n c N:Nat} {NI:Int} (hNI:NI=(N:Int)) {L:List PV} (_hL:SV w A (pvs L)) (_hn:L.length=n) (_hnc:n≤c) (hN:¬ n≤N) :
 Calls Tryz.prog 8 #[.slice A n c,.int .i64 NI] w fun e w'=>e=.returned (.bool false)∧Below w.heap.size w w':=by
 subst hNI
 have hb:Below w.heap.size w w:=Below.refl _ _
 have h4:¬ (n:Int)≤(N:Int):=by omega
 go_enter Tryz.func8,Tryz.ntmps8
 go_wp2_with fail
 (try rw [Exit.noGoto_ret])
 go_ret;exact ⟨rfl,hb⟩
end
section
open Go Go.RowKit
def IsBoxQ (l:List (Rat × Rat)) (x0 y0 x1 y1:Rat):Prop :=
 (∃ (i:Nat) (u:Rat × Rat),l[i]?=some u∧u.1=x0)∧(∃ (i:Nat) (u:Rat × Rat),l[i]?=some u∧u.2=y0)∧(∃ (i:Nat) (u:Rat × Rat),l[i]?=some u∧u.1=x1)∧(∃ (i:Nat) (u:Rat × Rat),l[i]?=some u∧u.2=y1) ∧
 ∀ (i:Nat) (u:Rat × Rat),l[i]?=some u→x0≤u.1∧y0≤u.2∧u.1≤x1∧u.2≤y1
def GivesBox (w:World) (l:List (Rat × Rat)) (k:Nat) (en:Ending) (w':World):Prop :=
 ∃ (x0 y0 x1 y1:Rat) (p q:PV),IsBoxQ l x0 y0 x1 y1∧en=.returned (.tuple #[.agg #[.bool p.s,.slice p.A p.n p.c,.slice p.B p.m p.d,.bool p.t,.slice p.E p.i p.e,.slice p.F p.j p.f],.agg #[.bool q.s,.slice q.A q.n q.c,.slice q.B q.m q.d,.bool q.t,.slice q.E q.i q.e,.slice q.F q.j q.f],.bool true])∧PV.PG w' p (x0,y0) (k+1+1)∧PV.PG w' q (x1,y1) (k+1+1)∧Below w.heap.size w w'
theorem box_p {A:Option Addr} {n c k:Nat} {L:List PV} {l:List (Rat × Rat)} (hL:SV w A (pvs L)) (hE:Each PV.PR w L l k) (hn:L.length=n) (h0:0 < n) (hm:n≤1000) (hnc:n≤c) (h1:1≤k) (hk:k≤300) :
 Calls Tryz.prog 13 #[.slice A n c] w (GivesBox w l k):=by
 have E0:=Lib.hid hE;have HL0:=Lib.hid hL
 have h4:¬ n=0:=by omega
 have hfl0:∀ (s t:Bool) (A B E F:Option Addr) (n c m d i e j f:Nat) (w:World),(Instr.field 29 (.agg #[.bool s,.slice A n c,.slice B m d,.bool t,.slice E i e,.slice F j f]) 0).run Tryz.prog w=.ok (.agg #[.bool s,.slice A n c,.slice B m d]) w:=fun _ _ _ _ _ _ _ _ _ _ _ _ _ _ _=>by kernel_rfl
 have hfl1:∀ (s t:Bool) (A B E F:Option Addr) (n c m d i e j f:Nat) (w:World),(Instr.field 29 (.agg #[.bool s,.slice A n c,.slice B m d,.bool t,.slice E i e,.slice F j f]) 1).run Tryz.prog w=.ok (.agg #[.bool t,.slice E i e,.slice F j f]) w:=fun _ _ _ _ _ _ _ _ _ _ _ _ _ _ _=>by kernel_rfl
 go_enter Tryz.func13,Tryz.ntmps13
 go_upto_region 1 with (fail)
 generalize hW:World.alloc _ _=W
 obtain ⟨hb,Y,Z,hzW⟩:=mkbx21_10 hW;clear hW;have yf0:=Y.f0;have yc0:=Y.c0;have zf0:=Z.f0;have zc0:=Z.c0;have yf1:=Y.f1;have yc1:=Y.c1;have zf1:=Z.f1;have zc1:=Z.c1;have yf2:=Y.f2;have yc2:=Y.c2;have zf2:=Z.f2;have zc2:=Z.c2;have yf3:=Y.f3;have yc3:=Y.c3;have zf3:=Z.f3;have zc3:=Z.c3;have yf4:=Y.f4;have yc4:=Y.c4;have zf4:=Z.f4;have zc4:=Z.c4;have yf5:=Y.f5;have yc5:=Y.c5;have zf5:=Z.f5;have zc5:=Z.c5
 go_upto_region 4 with (first
  | (go_at_call 44;(with_reducible refine (min_byX (HL0.out.below hb) (Each.belowP E0.out hb) hn h0 hm hnc h1 (by omega)).mono ?_);rintro e w_p ⟨jp,⟨s_p,A_p,n_p,c_p,B_p,m_p,d_p,t_p,E_p,i_p,e_p,F_p,j_p,f_p⟩,vp,hjp,hvp,hbp,rfl,hh⟩
     replace hb:=bend hb hh;replace Y:=Y.below hh;replace Z:=Z.below hh;have yf0:=Y.f0;have yc0:=Y.c0;have zf0:=Z.f0;have zc0:=Z.c0;have yf1:=Y.f1;have yc1:=Y.c1;have zf1:=Z.f1;have zc1:=Z.c1;have yf2:=Y.f2;have yc2:=Y.c2;have zf2:=Z.f2;have zc2:=Z.c2;have yf3:=Y.f3;have yc3:=Y.c3;have zf3:=Z.f3;have zc3:=Z.c3;have yf4:=Y.f4;have yc4:=Y.c4;have zf4:=Z.f4;have zc4:=Z.c4;have yf5:=Y.f5;have yc5:=Y.c5;have zf5:=Z.f5;have zc5:=Z.c5)
  | (go_at_call 44;(with_reducible refine (min_byY (HL0.out.below hb) (Each.belowP E0.out hb) hn h0 hm hnc h1 (by omega)).mono ?_);rintro e w_q ⟨jq,⟨s_q,A_q,n_q,c_q,B_q,m_q,d_q,t_q,E_q,i_q,e_q,F_q,j_q,f_q⟩,vq,hjq,hvq,hbq,rfl,hh⟩
     replace hb:=bend hb hh;replace Y:=Y.below hh;replace Z:=Z.below hh;have yf0:=Y.f0;have yc0:=Y.c0;have zf0:=Z.f0;have zc0:=Z.c0;have yf1:=Y.f1;have yc1:=Y.c1;have zf1:=Z.f1;have zc1:=Z.c1;have yf2:=Y.f2;have yc2:=Y.c2;have zf2:=Z.f2;have zc2:=Z.c2;have yf3:=Y.f3;have yc3:=Y.c3;have zf3:=Z.f3;have zc3:=Z.c3;have yf4:=Y.f4;have yc4:=Y.c4;have zf4:=Z.f4;have zc4:=Z.c4;have yf5:=Y.f5;have yc5:=Y.c5;have zf5:=Z.f5;have zc5:=Z.c5))
 have hoY:=only6 w_q w.heap.size (.bool s_p) (.slice A_p n_p c_p) (.slice B_p m_p d_p) (.bool t_q) (.slice E_q i_q e_q) (.slice F_q j_q f_q)
 have Y2:=Y.set6 (.bool s_p) (.slice A_p n_p c_p) (.slice B_p m_p d_p) (.bool t_q) (.slice E_q i_q e_q) (.slice F_q j_q f_q)
 have Z2:B6 _ _ (.bool false) (.slice none 0 0) (.slice none 0 0) (.bool false) (.slice none 0 0) (.slice none 0 0):=Z.rest (by omega) hoY
 replace hb:=Below.only hb (Nat.le_refl _) hb.size hoY
 clear hoY yf0 yc0 zf0 zc0 yf1 yc1 zf1 zc1 yf2 yc2 zf2 zc2 yf3 yc3 zf3 zc3 yf4 yc4 zf4 zc4 yf5 yc5 zf5 zc5;clear Y Z
 generalize ((((((w_q.setCell ⟨w.heap.size,0,none⟩ (.bool s_p)).setCell ⟨w.heap.size,1,none⟩ (.slice A_p n_p c_p)).setCell ⟨w.heap.size,2,none⟩ (.slice B_p m_p d_p)).setCell ⟨w.heap.size,3,none⟩ (.bool t_q)).setCell ⟨w.heap.size,4,none⟩ (.slice E_q i_q e_q)).setCell ⟨w.heap.size,5,none⟩ (.slice F_q j_q f_q))=W3 at *
 have Y:=Y2;have Z:=Z2;clear Y2 Z2;have yf0:=Y.f0;have yc0:=Y.c0;have zf0:=Z.f0;have zc0:=Z.c0;have yf1:=Y.f1;have yc1:=Y.c1;have zf1:=Z.f1;have zc1:=Z.c1;have yf2:=Y.f2;have yc2:=Y.c2;have zf2:=Z.f2;have zc2:=Z.c2;have yf3:=Y.f3;have yc3:=Y.c3;have zf3:=Z.f3;have zc3:=Z.c3;have yf4:=Y.f4;have yc4:=Y.c4;have zf4:=Z.f4;have zc4:=Z.c4;have yf5:=Y.f5;have yc5:=Y.c5;have zf5:=Z.f5;have zc5:=Z.c5
 go_upto_region 5 with (first
  | (go_at_call 47;(with_reducible refine (max_byX (HL0.out.below hb) (Each.belowP E0.out hb) hn h0 hm hnc h1 (by omega)).mono ?_);rintro e w_r ⟨jr,⟨s_r,A_r,n_r,c_r,B_r,m_r,d_r,t_r,E_r,i_r,e_r,F_r,j_r,f_r⟩,vr,hjr,hvr,hbr,rfl,hh⟩
     replace hb:=bend hb hh;replace Y:=Y.below hh;replace Z:=Z.below hh;have yf0:=Y.f0;have yc0:=Y.c0;have zf0:=Z.f0;have zc0:=Z.c0;have yf1:=Y.f1;have yc1:=Y.c1;have zf1:=Z.f1;have zc1:=Z.c1;have yf2:=Y.f2;have yc2:=Y.c2;have zf2:=Z.f2;have zc2:=Z.c2;have yf3:=Y.f3;have yc3:=Y.c3;have zf3:=Z.f3;have zc3:=Z.c3;have yf4:=Y.f4;have yc4:=Y.c4;have zf4:=Z.f4;have zc4:=Z.c4;have yf5:=Y.f5;have yc5:=Y.c5;have zf5:=Z.f5;have zc5:=Z.c5)
  | (go_at_call 47;(with_reducible refine (max_byY (HL0.out.below hb) (Each.belowP E0.out hb) hn h0 hm hnc h1 (by omega)).mono ?_);rintro e w_u ⟨ju,⟨s_u,A_u,n_u,c_u,B_u,m_u,d_u,t_u,E_u,i_u,e_u,F_u,j_u,f_u⟩,vu,hju,hvu,hbu,rfl,hh⟩
     replace hb:=bend hb hh;replace Y:=Y.below hh;replace Z:=Z.below hh;have yf0:=Y.f0;have yc0:=Y.c0;have zf0:=Z.f0;have zc0:=Z.c0;have yf1:=Y.f1;have yc1:=Y.c1;have zf1:=Z.f1;have zc1:=Z.c1;have yf2:=Y.f2;have yc2:=Y.c2;have zf2:=Z.f2;have zc2:=Z.c2;have yf3:=Y.f3;have yc3:=Y.c3;have zf3:=Z.f3;have zc3:=Z.c3;have yf4:=Y.f4;have yc4:=Y.c4;have zf4:=Z.f4;have zc4:=Z.c4;have yf5:=Y.f5;have yc5:=Y.c5;have zf5:=Z.f5;have zc5:=Z.c5))
 have hoZ:=only6 w_u (w.heap.size+1) (.bool s_r) (.slice A_r n_r c_r) (.slice B_r m_r d_r) (.bool t_u) (.slice E_u i_u e_u) (.slice F_u j_u f_u)
 have Z2:=Z.set6 (.bool s_r) (.slice A_r n_r c_r) (.slice B_r m_r d_r) (.bool t_u) (.slice E_u i_u e_u) (.slice F_u j_u f_u)
 have Y2:B6 _ _ (.bool s_p) (.slice A_p n_p c_p) (.slice B_p m_p d_p) (.bool t_q) (.slice E_q i_q e_q) (.slice F_q j_q f_q):=Y.rest (by omega) hoZ
 replace hb:=Below.only hb (by omega) hb.size hoZ
 clear hoZ yf0 yc0 zf0 zc0 yf1 yc1 zf1 zc1 yf2 yc2 zf2 zc2 yf3 yc3 zf3 zc3 yf4 yc4 zf4 zc4 yf5 yc5 zf5 zc5;clear Y Z
 generalize ((((((w_u.setCell ⟨w.heap.size+1,0,none⟩ (.bool s_r)).setCell ⟨w.heap.size+1,1,none⟩ (.slice A_r n_r c_r)).setCell ⟨w.heap.size+1,2,none⟩ (.slice B_r m_r d_r)).setCell ⟨w.heap.size+1,3,none⟩ (.bool t_u)).setCell ⟨w.heap.size+1,4,none⟩ (.slice E_u i_u e_u)).setCell ⟨w.heap.size+1,5,none⟩ (.slice F_u j_u f_u))=W4 at *
 have Y:=Y2;have Z:=Z2;clear Y2 Z2
 have Ep:=PR.below (E0.out.2 _ _ _ hjp hvp) hb
 have Eq:=PR.below (E0.out.2 _ _ _ hjq hvq) hb
 have Er:=PR.below (E0.out.2 _ _ _ hjr hvr) hb
 have Eu:=PR.below (E0.out.2 _ _ _ hju hvu) hb
 have HBX:Hid (IsBoxQ l vp.1 vq.2 vr.1 vu.2):=⟨⟨_,_,hvp,rfl⟩,⟨_,_,hvq,rfl⟩,⟨_,_,hvr,rfl⟩,⟨_,_,hvu,rfl⟩,fun i u h=>⟨hbp i u h,hbq i u h,hbr i u h,hbu i u h⟩⟩
 have pl:PR W4 s_p A_p n_p c_p B_p m_p d_p t_q E_q i_q e_q F_q j_q f_q vp.1 vq.2 k:=⟨Ep.1,Eq.2⟩
 have ph:PR W4 s_r A_r n_r c_r B_r m_r d_r t_u E_u i_u e_u F_u j_u f_u vr.1 vu.2 k:=⟨Er.1,Eu.2⟩
 clear hbp hbq hbr hbu hjp hjq hjr hju Ep Eq Er Eu hvp hvq hvr hvu
 generalize vp.1=x0 at *
 generalize vq.2=y0 at *
 generalize vr.1=x1 at *
 generalize vu.2=y1 at *
 replace pl:=pl.below (Below.refl _ _).drew
 replace ph:=ph.below (Below.refl _ _).drew
 replace Y:=Y.below (Below.refl _ _).drew
 replace Z:=Z.below (Below.refl _ _).drew
 replace hb:=hb.drew;have yf0:=Y.f0;have yc0:=Y.c0;have zf0:=Z.f0;have zc0:=Z.c0;have yf1:=Y.f1;have yc1:=Y.c1;have zf1:=Z.f1;have zc1:=Z.c1;have yf2:=Y.f2;have yc2:=Y.c2;have zf2:=Z.f2;have zc2:=Z.c2;have yf3:=Y.f3;have yc3:=Y.c3;have zf3:=Z.f3;have zc3:=Z.c3;have yf4:=Y.f4;have yc4:=Y.c4;have zf4:=Z.f4;have zc4:=Z.c4;have yf5:=Y.f5;have yc5:=Y.c5;have zf5:=Z.f5;have zc5:=Z.c5
 go_region_with (first
  | (go_at_call 48;(with_reducible refine (afresh_p pl hk h1).mono ?_);rintro e w_v ⟨s_v,A_v,n_v,c_v,B_v,m_v,d_v,t_v,E_v,i_v,e_v,F_v,j_v,f_v,rfl,v,hh⟩
     (try replace pl:=pl.below hh);(try replace ph:=ph.below hh);(try replace Y:=Y.below hh);(try replace Z:=Z.below hh);(try replace x:=x.below hh);replace hb:=bend hb hh;have yf0:=Y.f0;have yc0:=Y.c0;have zf0:=Z.f0;have zc0:=Z.c0;have yf1:=Y.f1;have yc1:=Y.c1;have zf1:=Z.f1;have zc1:=Z.c1;have yf2:=Y.f2;have yc2:=Y.c2;have zf2:=Z.f2;have zc2:=Z.c2;have yf3:=Y.f3;have yc3:=Y.c3;have zf3:=Z.f3;have zc3:=Z.c3;have yf4:=Y.f4;have yc4:=Y.c4;have zf4:=Z.f4;have zc4:=Z.c4;have yf5:=Y.f5;have yc5:=Y.c5;have zf5:=Z.f5;have zc5:=Z.c5)
  | (go_at_call 48;(with_reducible refine (afresh_p ph hk h1).mono ?_);rintro e w_x ⟨s_x,A_x,n_x,c_x,B_x,m_x,d_x,t_x,E_x,i_x,e_x,F_x,j_x,f_x,rfl,x,hh⟩
     (try replace pl:=pl.below hh);(try replace ph:=ph.below hh);(try replace Y:=Y.below hh);(try replace Z:=Z.below hh);(try replace v:=v.below hh);replace hb:=bend hb hh;have yf0:=Y.f0;have yc0:=Y.c0;have zf0:=Z.f0;have zc0:=Z.c0;have yf1:=Y.f1;have yc1:=Y.c1;have zf1:=Z.f1;have zc1:=Z.c1;have yf2:=Y.f2;have yc2:=Y.c2;have zf2:=Z.f2;have zc2:=Z.c2;have yf3:=Y.f3;have yc3:=Y.c3;have zf3:=Z.f3;have zc3:=Z.c3;have yf4:=Y.f4;have yc4:=Y.c4;have zf4:=Z.f4;have zc4:=Z.c4;have yf5:=Y.f5;have yc5:=Y.c5;have zf5:=Z.f5;have zc5:=Z.c5))
 all_goals go_wp2_with fail
 all_goals have hoY:=only6 w_x w.heap.size (.bool s_v) (.slice A_v n_v c_v) (.slice B_v m_v d_v) (.bool t_v) (.slice E_v i_v e_v) (.slice F_v j_v f_v)
 all_goals have Y2:=Y.set6 (.bool s_v) (.slice A_v n_v c_v) (.slice B_v m_v d_v) (.bool t_v) (.slice E_v i_v e_v) (.slice F_v j_v f_v)
 all_goals have Z1:=Z.rest (by omega) hoY
 all_goals have Z2:=B6.set6 Z1 (.bool s_x) (.slice A_x n_x c_x) (.slice B_x m_x d_x) (.bool t_x) (.slice E_x i_x e_x) (.slice F_x j_x f_x)
 all_goals have hoZ:=only6 ((((((w_x.setCell ⟨w.heap.size,0,none⟩ (.bool s_v)).setCell ⟨w.heap.size,1,none⟩ (.slice A_v n_v c_v)).setCell ⟨w.heap.size,2,none⟩ (.slice B_v m_v d_v)).setCell ⟨w.heap.size,3,none⟩ (.bool t_v)).setCell ⟨w.heap.size,4,none⟩ (.slice E_v i_v e_v)).setCell ⟨w.heap.size,5,none⟩ (.slice F_v j_v f_v)) (w.heap.size+1) (.bool s_x) (.slice A_x n_x c_x) (.slice B_x m_x d_x) (.bool t_x) (.slice E_x i_x e_x) (.slice F_x j_x f_x)
 all_goals have Y3:=Y2.rest (by omega) hoZ
 all_goals replace hb:=below_set6 (below_set6 hb (Nat.le_refl _) (.bool s_v) (.slice A_v n_v c_v) (.slice B_v m_v d_v) (.bool t_v) (.slice E_v i_v e_v) (.slice F_v j_v f_v)) (show w.heap.size≤w.heap.size+1 by omega) (.bool s_x) (.slice A_x n_x c_x) (.slice B_x m_x d_x) (.bool t_x) (.slice E_x i_x e_x) (.slice F_x j_x f_x)
 all_goals replace v:=PG.box (PG.box v (box_of Y) hoY) (box_of Z1) hoZ
 all_goals replace x:=PG.box (PG.box x (box_of Y) hoY) (box_of Z1) hoZ
 all_goals clear yf0 yc0 zf0 zc0 yf1 yc1 zf1 zc1 yf2 yc2 zf2 zc2 yf3 yc3 zf3 zc3 yf4 yc4 zf4 zc4 yf5 yc5 zf5 zc5 hoY hoZ Z1 Y2 Y Z pl ph
 all_goals generalize ((((((((((((w_x.setCell ⟨w.heap.size,0,none⟩ (.bool s_v)).setCell ⟨w.heap.size,1,none⟩ (.slice A_v n_v c_v)).setCell ⟨w.heap.size,2,none⟩ (.slice B_v m_v d_v)).setCell ⟨w.heap.size,3,none⟩ (.bool t_v)).setCell ⟨w.heap.size,4,none⟩ (.slice E_v i_v e_v)).setCell ⟨w.heap.size,5,none⟩ (.slice F_v j_v f_v)).setCell ⟨w.heap.size+1,0,none⟩ (.bool s_x)).setCell ⟨w.heap.size+1,1,none⟩ (.slice A_x n_x c_x)).setCell ⟨w.heap.size+1,2,none⟩ (.slice B_x m_x d_x)).setCell ⟨w.heap.size+1,3,none⟩ (.bool t_x)).setCell ⟨w.heap.size+1,4,none⟩ (.slice E_x i_x e_x)).setCell ⟨w.heap.size+1,5,none⟩ (.slice F_x j_x f_x))=W5 at *
 all_goals have gy0:=B6.c0 Y3
 all_goals have gz0:=B6.c0 Z2
 all_goals have gy1:=B6.c1 Y3
 all_goals have gz1:=B6.c1 Z2
 all_goals have gy2:=B6.c2 Y3
 all_goals have gz2:=B6.c2 Z2
 all_goals have gy3:=B6.c3 Y3
 all_goals have gz3:=B6.c3 Z2
 all_goals have gy4:=B6.c4 Y3
 all_goals have gz4:=B6.c4 Z2
 all_goals have gy5:=B6.c5 Y3
 all_goals have gz5:=B6.c5 Z2
 all_goals refine bodyPost_ret (v:=.tuple #[.agg #[.bool s_v,.slice A_v n_v c_v,.slice B_v m_v d_v,.bool t_v,.slice E_v i_v e_v,.slice F_v j_v f_v],.agg #[.bool s_x,.slice A_x n_x c_x,.slice B_x m_x d_x,.bool t_x,.slice E_x i_x e_x,.slice F_x j_x f_x],.bool true]) (by simp [results,Tryz.results13,go_sem,gy0,gz0,gy1,gz1,gy2,gz2,gy3,gz3,gy4,gz4,gy5,gz5]) rfl ?_
 all_goals exact ⟨x0,y0,x1,y1,(PV.mk s_v A_v n_v c_v B_v m_v d_v t_v E_v i_v e_v F_v j_v f_v),(PV.mk s_x A_x n_x c_x B_x m_x d_x t_x E_x i_x e_x F_x j_x f_x),HBX.out,rfl,v,x,hb⟩
end
section
open Go Go.RowKit
theorem QG.fit {s:Bool} {A B:Option Addr} {n c m d K k:Nat} {v:Rat} (h:QG w s A n c B m d v K) (h1:v.num.natAbs < B64 ^ k) (h2:v.den < B64 ^ k):QG w s A n c B m d v k:=by
 obtain ⟨⟨a1,a2,a3,_⟩,⟨b1,b2,_⟩⟩:=h
 refine ⟨⟨a1,a2,a3,?_⟩,⟨b1,b2,?_⟩⟩
 · rw [← a2.1];exact length_limbs_le B64_two h1
 · rw [← b1.1];exact length_limbs_le B64_two h2
theorem Each.fit {L:List PV} {l:List (Rat × Rat)} {K k:Nat} (h:Each PV.PG w L l K) (hB:BL k l):Each PV.PG w L l k :=
 ⟨h.1,fun i p u hp hu=>by
  have h2:=h.2 i p u hp hu
  have hb:=hB u (List.mem_of_getElem? hu)
  exact ⟨QG.fit h2.1 hb.1 hb.2.1,QG.fit h2.2 hb.2.2.1 hb.2.2.2⟩⟩
theorem Each.pr {L:List PV} {l:List (Rat × Rat)} {k:Nat} (h:Each PV.PG w L l k):Each PV.PR w L l k:=⟨h.1,fun i p u hp hu=>PG.pr (h.2 i p u hp hu)⟩
theorem Ln.sv {T:TypeId} {base:Nat} {A:Option Addr} {n c:Nat} {L:List PV} (h:Ln T base w (.slice A n c) L):SV w A (pvs L):=fun hn=>by
 have hl:0 < L.length:=by rw [show (pvs L).length=L.length*6 from rows_length pvc_len L] at hn;omega
 obtain ⟨g,c2,hv,_,_,hg,_⟩:=h.at_ (List.getElem?_eq_getElem hl)
 simp only [Value.slice.injEq] at hv
 refine ⟨g,0,hv.1,hg,fun j u hu=>?_⟩
 have:=h.own.cells (g:=g) (by rw [hv.1];rfl) j u hu
 rwa [add_at] at this
def hasB (l:List (Rat × Rat)) (px py:Rat):Bool:=decide (3≤l.length) && (List.range (l.length+1)).all fun i=>match (ringL l)[i]?,(ringL l)[i+1]? with | some u,some v=>decide (0≤orientQ u.1 u.2 v.1 v.2 px py) | _,_=>true
theorem hasB_iff (l:List (Rat × Rat)) (px py:Rat):hasB l px py=true ↔ HasQ l px py:=by
 unfold hasB HasQ
 rw [Bool.and_eq_true,decide_eq_true_iff,List.all_eq_true]
 refine and_congr Iff.rfl ⟨fun h i u v hu hv=>?_,fun h i _=>?_⟩
 · have hi : i < l.length + 1 := by
     have h7:=(List.getElem?_eq_some_iff.1 hu).1
     unfold ringL at h7;rw [List.length_append,List.length_take] at h7;omega
   have:=h i (List.mem_range.2 hi)
   rw [hu,hv] at this
   exact of_decide_eq_true this
 · split
   · rename_i u v hu hv;exact decide_eq_true (h i u v hu hv)
   · rfl
def convB (l:List (Rat × Rat)):Bool:=((List.range (l.length+1)).all fun i=>match (ringL (waysL l))[i]?,(ringL (waysL l))[i+1]? with | some u,some v=>decide (LeftV u.1 u.2 v.1 v.2) | _,_=>true) && decide (lowsW (ringL (waysL l)) l.length=1)
theorem convB_iff (l:List (Rat × Rat)):convB l=true ↔ ConvQ l:=by
 unfold convB ConvQ
 rw [Bool.and_eq_true,decide_eq_true_iff,List.all_eq_true]
 refine and_congr ⟨fun h i u v hu hv=>?_,fun h i _=>?_⟩ Iff.rfl
 · have hi : i < l.length + 1 := by
     have h7:=(List.getElem?_eq_some_iff.1 hu).1
     have h8:=waysL_len l
     unfold ringL at h7;rw [List.length_append,List.length_take] at h7;omega
   have:=h i (List.mem_range.2 hi)
   rw [hu,hv] at this
   exact of_decide_eq_true this
 · split
   · rename_i u v hu hv;exact decide_eq_true (h i u v hu hv)
   · rfl
theorem isBox_one {l:List (Rat × Rat)} {a b c d a' b' c' d':Rat} (h:IsBoxQ l a b c d) (g:IsBoxQ l a' b' c' d'):a=a'∧b=b'∧c=c'∧d=d':=by
 obtain ⟨⟨i1,u1,e1,rfl⟩,⟨i2,u2,e2,rfl⟩,⟨i3,u3,e3,rfl⟩,⟨i4,u4,e4,rfl⟩,h5⟩:=h
 obtain ⟨⟨j1,v1,f1,rfl⟩,⟨j2,v2,f2,rfl⟩,⟨j3,v3,f3,rfl⟩,⟨j4,v4,f4,rfl⟩,g5⟩:=g
 have a1:=h5 _ _ f1;have a2:=h5 _ _ f2;have a3:=h5 _ _ f3;have a4:=h5 _ _ f4;have b1:=g5 _ _ e1;have b2:=g5 _ _ e2;have b3:=g5 _ _ e3;have b4:=g5 _ _ e4
 exact ⟨by grind,by grind,by grind,by grind⟩
def sqL:List (Rat × Rat):=[(Rat.divInt 0 1,Rat.divInt 0 1),(Rat.divInt 2 1,Rat.divInt 0 1),(Rat.divInt 2 1,Rat.divInt 2 1),(Rat.divInt 0 1,Rat.divInt 2 1)]
def sqH:List (Rat × Rat):=[(Rat.divInt 0 1,Rat.divInt 0 1),(Rat.divInt 2 1,Rat.divInt 2 1),(Rat.divInt 0 1,Rat.divInt 2 1)]
theorem wk8_half:halfQ (asideP (Rat.divInt 0 1) (Rat.divInt 0 1) (Rat.divInt 2 1) (Rat.divInt 2 1)) sqL=sqH:=by decide +kernel
theorem wk8_box:IsBoxQ sqL (Rat.divInt 0 1) (Rat.divInt 0 1) (Rat.divInt 2 1) (Rat.divInt 2 1):=by
 refine ⟨⟨0,_,rfl,rfl⟩,⟨0,_,rfl,rfl⟩,⟨1,_,rfl,rfl⟩,⟨2,_,rfl,rfl⟩,fun i u hu=>?_⟩
 match i,hu with
 | 0,hu=>cases hu;decide +kernel
 | 1,hu=>cases hu;decide +kernel
 | 2,hu=>cases hu;decide +kernel
 | 3,hu=>cases hu;decide +kernel
 | i+4,hu=>cases hu
theorem wk8_bl:BL 1 sqH:=by
 intro u hu
 simp only [sqH,List.mem_cons,List.not_mem_nil,or_false] at hu
 rcases hu with rfl | rfl | rfl <;> decide +kernel
theorem wk8_t4:(⟨(qtxt (areaQ sqL)).toArray⟩:ByteArray)=⟨#[52]⟩:=by
 rw [show areaQ sqL=Rat.divInt 4 1 by decide +kernel,qtxt_i (a:=4) (by decide +kernel) (by decide +kernel) (txt_one (d:=4) (by decide) (by decide) rfl)];rfl
theorem wk8_t2:(⟨(qtxt (areaQ sqH)).toArray⟩:ByteArray)=⟨#[50]⟩:=by
 rw [show areaQ sqH=Rat.divInt 2 1 by decide +kernel,qtxt_i (a:=2) (by decide +kernel) (by decide +kernel) (txt_one (d:=2) (by decide) (by decide) rfl)];rfl
theorem wk8_conv:true=true ↔ ConvQ sqL:=by
 rw [← convB_iff];exact ⟨fun _=>by decide +kernel,fun _=>rfl⟩
theorem wk8_has1:true=true ↔ HasQ sqL (Rat.divInt 1 1) (Rat.divInt 1 1):=by
 rw [← hasB_iff];exact ⟨fun _=>by decide +kernel,fun _=>rfl⟩
theorem wk8_has2:false=true ↔ HasQ sqL (Rat.divInt 3 1) (Rat.divInt 1 1):=by
 rw [← hasB_iff];exact ⟨fun h=>by (cases h),fun h=>absurd h (by decide +kernel)⟩
theorem wk8_s0:decide (Rat.divInt 0 1=Rat.divInt 0 1∧Rat.divInt 0 1=Rat.divInt 0 1)=true:=by decide +kernel
theorem wk8_s2:decide (Rat.divInt 2 1=Rat.divInt 2 1∧Rat.divInt 2 1=Rat.divInt 2 1)=true:=by decide +kernel
theorem areawakes_any (w:World):Calls Tryz.prog 10 #[] w fun e w'=>e=.returned (.bool true)∧Below w.heap.size w w':=by
 have hb:Below w.heap.size w w:=Below.refl _ _
 go_enter Tryz.func10,Tryz.ntmps10
 go_upto_region 3 with (first
  | (go_at_call 40;(with_reducible refine (lawP 0 0 (by decide) (by decide) (by decide) (by decide) _).mono ?_);rintro e w_p1 ⟨s_p1,A_p1,n_p1,c_p1,B_p1,m_p1,d_p1,t_p1,E_p1,i_p1,e_p1,F_p1,j_p1,f_p1,rfl,p1,hh⟩
     replace hb:=bend hb hh)
  | (go_at_call 40;(with_reducible refine (lawP 2 0 (by decide) (by decide) (by decide) (by decide) _).mono ?_);rintro e w_p2 ⟨s_p2,A_p2,n_p2,c_p2,B_p2,m_p2,d_p2,t_p2,E_p2,i_p2,e_p2,F_p2,j_p2,f_p2,rfl,p2,hh⟩
     (try replace p1:=p1.below hh);replace hb:=bend hb hh)
  | (go_at_call 40;(with_reducible refine (lawP 2 2 (by decide) (by decide) (by decide) (by decide) _).mono ?_);rintro e w_p3 ⟨s_p3,A_p3,n_p3,c_p3,B_p3,m_p3,d_p3,t_p3,E_p3,i_p3,e_p3,F_p3,j_p3,f_p3,rfl,p3,hh⟩
     (try replace p1:=p1.below hh);(try replace p2:=p2.below hh);replace hb:=bend hb hh)
  | (go_at_call 40;(with_reducible refine (lawP 0 2 (by decide) (by decide) (by decide) (by decide) _).mono ?_);rintro e w_p4 ⟨s_p4,A_p4,n_p4,c_p4,B_p4,m_p4,d_p4,t_p4,E_p4,i_p4,e_p4,F_p4,j_p4,f_p4,rfl,p4,hh⟩
     (try replace p1:=p1.below hh);(try replace p2:=p2.below hh);(try replace p3:=p3.below hh);replace hb:=bend hb hh))
 have hBL:BoxAt 29 (w_p4.alloc (Obj.cells #[Value.bool s_p1,Value.slice A_p1 n_p1 c_p1,Value.slice B_p1 m_p1 d_p1,Value.bool t_p1,Value.slice E_p1 i_p1 e_p1,Value.slice F_p1 j_p1 f_p1,Value.bool s_p2,Value.slice A_p2 n_p2 c_p2,Value.slice B_p2 m_p2 d_p2,Value.bool t_p2,Value.slice E_p2 i_p2 e_p2,Value.slice F_p2 j_p2 f_p2,Value.bool s_p3,Value.slice A_p3 n_p3 c_p3,Value.slice B_p3 m_p3 d_p3,Value.bool t_p3,Value.slice E_p3 i_p3 e_p3,Value.slice F_p3 j_p3 f_p3,Value.bool s_p4,Value.slice A_p4 n_p4 c_p4,Value.slice B_p4 m_p4 d_p4,Value.bool t_p4,Value.slice E_p4 i_p4 e_p4,Value.slice F_p4 j_p4 f_p4] 29)) w_p4.heap.size (pvs [(PV.mk s_p1 A_p1 n_p1 c_p1 B_p1 m_p1 d_p1 t_p1 E_p1 i_p1 e_p1 F_p1 j_p1 f_p1),(PV.mk s_p2 A_p2 n_p2 c_p2 B_p2 m_p2 d_p2 t_p2 E_p2 i_p2 e_p2 F_p2 j_p2 f_p2),(PV.mk s_p3 A_p3 n_p3 c_p3 B_p3 m_p3 d_p3 t_p3 E_p3 i_p3 e_p3 F_p3 j_p3 f_p3),(PV.mk s_p4 A_p4 n_p4 c_p4 B_p4 m_p4 d_p4 t_p4 E_p4 i_p4 e_p4 F_p4 j_p4 f_p4)]).toArray:=⟨heap_alloc_new w_p4 _,arr_free (pvs_free _)⟩
 have hh:Below w_p4.heap.size w_p4 (w_p4.alloc (Obj.cells #[Value.bool s_p1,Value.slice A_p1 n_p1 c_p1,Value.slice B_p1 m_p1 d_p1,Value.bool t_p1,Value.slice E_p1 i_p1 e_p1,Value.slice F_p1 j_p1 f_p1,Value.bool s_p2,Value.slice A_p2 n_p2 c_p2,Value.slice B_p2 m_p2 d_p2,Value.bool t_p2,Value.slice E_p2 i_p2 e_p2,Value.slice F_p2 j_p2 f_p2,Value.bool s_p3,Value.slice A_p3 n_p3 c_p3,Value.slice B_p3 m_p3 d_p3,Value.bool t_p3,Value.slice E_p3 i_p3 e_p3,Value.slice F_p3 j_p3 f_p3,Value.bool s_p4,Value.slice A_p4 n_p4 c_p4,Value.slice B_p4 m_p4 d_p4,Value.bool t_p4,Value.slice E_p4 i_p4 e_p4,Value.slice F_p4 j_p4 f_p4] 29)):=(Below.refl _ _).alloc (Nat.le_refl _) _
 replace p1:=p1.below hh;replace p2:=p2.below hh;replace p3:=p3.below hh;replace p4:=p4.below hh;replace hb:=bend hb hh
 have hEL:Each PV.PG (w_p4.alloc (Obj.cells #[Value.bool s_p1,Value.slice A_p1 n_p1 c_p1,Value.slice B_p1 m_p1 d_p1,Value.bool t_p1,Value.slice E_p1 i_p1 e_p1,Value.slice F_p1 j_p1 f_p1,Value.bool s_p2,Value.slice A_p2 n_p2 c_p2,Value.slice B_p2 m_p2 d_p2,Value.bool t_p2,Value.slice E_p2 i_p2 e_p2,Value.slice F_p2 j_p2 f_p2,Value.bool s_p3,Value.slice A_p3 n_p3 c_p3,Value.slice B_p3 m_p3 d_p3,Value.bool t_p3,Value.slice E_p3 i_p3 e_p3,Value.slice F_p3 j_p3 f_p3,Value.bool s_p4,Value.slice A_p4 n_p4 c_p4,Value.slice B_p4 m_p4 d_p4,Value.bool t_p4,Value.slice E_p4 i_p4 e_p4,Value.slice F_p4 j_p4 f_p4] 29)) [(PV.mk s_p1 A_p1 n_p1 c_p1 B_p1 m_p1 d_p1 t_p1 E_p1 i_p1 e_p1 F_p1 j_p1 f_p1),(PV.mk s_p2 A_p2 n_p2 c_p2 B_p2 m_p2 d_p2 t_p2 E_p2 i_p2 e_p2 F_p2 j_p2 f_p2),(PV.mk s_p3 A_p3 n_p3 c_p3 B_p3 m_p3 d_p3 t_p3 E_p3 i_p3 e_p3 F_p3 j_p3 f_p3),(PV.mk s_p4 A_p4 n_p4 c_p4 B_p4 m_p4 d_p4 t_p4 E_p4 i_p4 e_p4 F_p4 j_p4 f_p4)] sqL 1:=⟨rfl,fun i p u hp hu=>by
  match i,hp,hu with
  | 0,hp,hu=>cases hp;cases hu;exact p1
  | 1,hp,hu=>cases hp;cases hu;exact p2
  | 2,hp,hu=>cases hp;cases hu;exact p3
  | 3,hp,hu=>cases hp;cases hu;exact p4
  | i+4,hp,hu=>cases hp⟩
 have hSL:=hBL.sv
 have hLn:[(PV.mk s_p1 A_p1 n_p1 c_p1 B_p1 m_p1 d_p1 t_p1 E_p1 i_p1 e_p1 F_p1 j_p1 f_p1),(PV.mk s_p2 A_p2 n_p2 c_p2 B_p2 m_p2 d_p2 t_p2 E_p2 i_p2 e_p2 F_p2 j_p2 f_p2),(PV.mk s_p3 A_p3 n_p3 c_p3 B_p3 m_p3 d_p3 t_p3 E_p3 i_p3 e_p3 F_p3 j_p3 f_p3),(PV.mk s_p4 A_p4 n_p4 c_p4 B_p4 m_p4 d_p4 t_p4 E_p4 i_p4 e_p4 F_p4 j_p4 f_p4)].length=4:=rfl
 clear p1 p2 p3 p4 hBL hh
 generalize (w_p4.alloc (Obj.cells #[Value.bool s_p1,Value.slice A_p1 n_p1 c_p1,Value.slice B_p1 m_p1 d_p1,Value.bool t_p1,Value.slice E_p1 i_p1 e_p1,Value.slice F_p1 j_p1 f_p1,Value.bool s_p2,Value.slice A_p2 n_p2 c_p2,Value.slice B_p2 m_p2 d_p2,Value.bool t_p2,Value.slice E_p2 i_p2 e_p2,Value.slice F_p2 j_p2 f_p2,Value.bool s_p3,Value.slice A_p3 n_p3 c_p3,Value.slice B_p3 m_p3 d_p3,Value.bool t_p3,Value.slice E_p3 i_p3 e_p3,Value.slice F_p3 j_p3 f_p3,Value.bool s_p4,Value.slice A_p4 n_p4 c_p4,Value.slice B_p4 m_p4 d_p4,Value.bool t_p4,Value.slice E_p4 i_p4 e_p4,Value.slice F_p4 j_p4 f_p4] 29))=W1 at *
 generalize w_p4.heap.size=gL at *
 generalize [(PV.mk s_p1 A_p1 n_p1 c_p1 B_p1 m_p1 d_p1 t_p1 E_p1 i_p1 e_p1 F_p1 j_p1 f_p1),(PV.mk s_p2 A_p2 n_p2 c_p2 B_p2 m_p2 d_p2 t_p2 E_p2 i_p2 e_p2 F_p2 j_p2 f_p2),(PV.mk s_p3 A_p3 n_p3 c_p3 B_p3 m_p3 d_p3 t_p3 E_p3 i_p3 e_p3 F_p3 j_p3 f_p3),(PV.mk s_p4 A_p4 n_p4 c_p4 B_p4 m_p4 d_p4 t_p4 E_p4 i_p4 e_p4 F_p4 j_p4 f_p4)]=LL at *
 go_upto_region 4 with (first
  | (go_at_call 40;(with_reducible refine (lawP 0 0 (by decide) (by decide) (by decide) (by decide) _).mono ?_);rintro e w_p1 ⟨s_p1,A_p1,n_p1,c_p1,B_p1,m_p1,d_p1,t_p1,E_p1,i_p1,e_p1,F_p1,j_p1,f_p1,rfl,p1,hh⟩
     (try replace hSL:=hSL.below hh);(try replace hEL:=hEL.below hh);replace hb:=bend hb hh)
  | (go_at_call 40;(with_reducible refine (lawP 2 2 (by decide) (by decide) (by decide) (by decide) _).mono ?_);rintro e w_p2 ⟨s_p2,A_p2,n_p2,c_p2,B_p2,m_p2,d_p2,t_p2,E_p2,i_p2,e_p2,F_p2,j_p2,f_p2,rfl,p2,hh⟩
     (try replace hSL:=hSL.below hh);(try replace hEL:=hEL.below hh);(try replace p1:=p1.below hh);replace hb:=bend hb hh)
  | (go_at_call 25;(with_reducible refine (half_p (k:=1) (k2:=1) (ka:=13) hSL (Each.pr hEL) p1.pr p2.pr hLn (by decide) (by decide) (by decide) (by decide) (by decide) (by decide) (by decide) (by decide)).mono ?_);rintro e w_h ⟨v_h,M,rfl,hLh,hEh,hh⟩
     (try replace hSL:=hSL.below hh);(try replace hEL:=hEL.below hh);replace hb:=bend hb hh;clear p1 p2))
 rw [wk8_half] at hEh;have hEH:=Each.fit hEh wk8_bl
 obtain ⟨A_h,c_h,rfl,hch,_⟩:=hLh.form
 have hMn:M.length=3:=hEh.1
 rw [hMn] at hLh hch ⊢
 have hSH:=hLh.sv;clear hEh hLh
 go_upto_region 5 with (first
  | (go_at_call 13;(with_reducible refine (box_p hSL (Each.pr hEL) hLn (by decide) (by decide) (by decide) (by decide) (by decide)).mono ?_);rintro e w_b ⟨x0,y0,x1,y1,⟨s_p,A_p,n_p,c_p,B_p,m_p,d_p,t_p,E_p,i_p,e_p,F_p,j_p,f_p⟩,⟨s_q,A_q,n_q,c_q,B_q,m_q,d_q,t_q,E_q,i_q,e_q,F_q,j_q,f_q⟩,hbx,rfl,p,q,hh⟩
     (try replace hSL:=hSL.below hh);(try replace hEL:=hEL.below hh);(try replace hSH:=hSH.below hh);(try replace hEH:=hEH.below hh);replace hb:=bend hb hh
     obtain ⟨rfl,rfl,rfl,rfl⟩:=isBox_one hbx wk8_box
     replace p:PG w_b s_p A_p n_p c_p B_p m_p d_p t_p E_p i_p e_p F_p j_p f_p (Rat.divInt 0 1) (Rat.divInt 0 1) 3:=p
     replace q:PG w_b s_q A_q n_q c_q B_q m_q d_q t_q E_q i_q e_q F_q j_q f_q (Rat.divInt 2 1) (Rat.divInt 2 1) 3:=q
     clear hbx))
 generalize hW:World.alloc _ _=W2
 obtain ⟨hh,XA,XB,hzW2⟩:=mkbx21_10 hW;clear hW;(try replace hSL:=hSL.below hh);(try replace hEL:=hEL.below hh);(try replace hSH:=hSH.below hh);(try replace hEH:=hEH.below hh);(try replace p:=p.below hh);(try replace q:=q.below hh);replace hb:=bend hb hh
 replace hSL:=hSL.below (Below.refl _ _).drew
 replace hEL:=hEL.below (Below.refl _ _).drew
 replace hSH:=hSH.below (Below.refl _ _).drew
 replace hEH:=hEH.below (Below.refl _ _).drew
 replace p:=p.below (Below.refl _ _).drew
 replace q:=q.below (Below.refl _ _).drew
 replace XA:=XA.below (Below.refl _ _).drew
 replace XB:=XB.below (Below.refl _ _).drew
 replace hb:=hb.drew
 go_region_held3 (fun w'=>w'.cell? ⟨w_b.heap.size,0,none⟩=some (.bool s_p)∧w'.cell? ⟨w_b.heap.size,1,none⟩=some (.slice A_p n_p c_p)∧w'.cell? ⟨w_b.heap.size,2,none⟩=some (.slice B_p m_p d_p)∧w'.cell? ⟨w_b.heap.size,3,none⟩=some (.bool t_p)∧w'.cell? ⟨w_b.heap.size,4,none⟩=some (.slice E_p i_p e_p)∧w'.cell? ⟨w_b.heap.size,5,none⟩=some (.slice F_p j_p f_p)∧w'.cell? ⟨w_b.heap.size+1,0,none⟩=some (.bool s_q)∧w'.cell? ⟨w_b.heap.size+1,1,none⟩=some (.slice A_q n_q c_q)∧w'.cell? ⟨w_b.heap.size+1,2,none⟩=some (.slice B_q m_q d_q)∧w'.cell? ⟨w_b.heap.size+1,3,none⟩=some (.bool t_q)∧w'.cell? ⟨w_b.heap.size+1,4,none⟩=some (.slice E_q i_q e_q)∧w'.cell? ⟨w_b.heap.size+1,5,none⟩=some (.slice F_q j_q f_q))
  (first | with_reducible exact ⟨XA.c0,XA.c1,XA.c2,XA.c3,XA.c4,XA.c5,XB.c0,XB.c1,XB.c2,XB.c3,XB.c4,XB.c5⟩)
  (first
  | (go_at_call 17;(with_reducible refine (area_p hSL (Each.pr hEL) hLn (by decide) (by decide) (by decide) (by decide) (by decide)).mono ?_);rintro e w_a ⟨s_a,A_a,n_a,c_a,B_a,m_a,d_a,rfl,a,hh⟩
     (try replace hSL:=hSL.below hh);(try replace hEL:=hEL.below hh);(try replace hSH:=hSH.below hh);(try replace hEH:=hEH.below hh);(try replace p:=p.below hh);(try replace q:=q.below hh);(try replace XA:=XA.below hh);(try replace XB:=XB.below hh);replace hb:=bend hb hh)
  | (go_at_call 17;(with_reducible refine (area_p hSH (Each.pr hEH) hMn (by decide) hch (by decide) (by decide) (by decide)).mono ?_);rintro e w_r ⟨s_r,A_r,n_r,c_r,B_r,m_r,d_r,rfl,r,hh⟩
     (try replace hSL:=hSL.below hh);(try replace hEL:=hEL.below hh);(try replace hSH:=hSH.below hh);(try replace hEH:=hEH.below hh);(try replace p:=p.below hh);(try replace q:=q.below hh);(try replace XA:=XA.below hh);(try replace XB:=XB.below hh);replace hb:=bend hb hh)
  | (go_at_call 41;(with_reducible refine (rtext_q a.qr (by decide) (by decide)).mono ?_);rintro e w_z ⟨rfl,hh⟩
     rw [wk8_t4];(try replace hSL:=hSL.below hh);(try replace hEL:=hEL.below hh);(try replace hSH:=hSH.below hh);(try replace hEH:=hEH.below hh);(try replace p:=p.below hh);(try replace q:=q.below hh);(try replace XA:=XA.below hh);(try replace XB:=XB.below hh);replace hb:=bend hb hh;clear a)
  | (go_at_call 41;(with_reducible refine (rtext_q r.qr (by decide) (by decide)).mono ?_);rintro e w_z ⟨rfl,hh⟩
     rw [wk8_t2];(try replace hSL:=hSL.below hh);(try replace hEL:=hEL.below hh);(try replace hSH:=hSH.below hh);(try replace hEH:=hEH.below hh);(try replace p:=p.below hh);(try replace q:=q.below hh);(try replace XA:=XA.below hh);(try replace XB:=XB.below hh);replace hb:=bend hb hh;clear r)
  | (go_at_call 19;(with_reducible refine (convex_p hSL (Each.pr hEL) hLn (by decide) (by decide) (by decide) (by decide) true wk8_conv).mono ?_);rintro e w_z ⟨rfl,hh⟩
     (try replace hSL:=hSL.below hh);(try replace hEL:=hEL.below hh);(try replace hSH:=hSH.below hh);(try replace hEH:=hEH.below hh);(try replace p:=p.below hh);(try replace q:=q.below hh);(try replace XA:=XA.below hh);(try replace XB:=XB.below hh);replace hb:=bend hb hh)
  | (go_at_call 40;(with_reducible refine (lawP 1 1 (by decide) (by decide) (by decide) (by decide) _).mono ?_);rintro e w_t1 ⟨s_t1,A_t1,n_t1,c_t1,B_t1,m_t1,d_t1,t_t1,E_t1,i_t1,e_t1,F_t1,j_t1,f_t1,rfl,t1,hh⟩
     (try replace hSL:=hSL.below hh);(try replace hEL:=hEL.below hh);(try replace hSH:=hSH.below hh);(try replace hEH:=hEH.below hh);(try replace p:=p.below hh);(try replace q:=q.below hh);(try replace XA:=XA.below hh);(try replace XB:=XB.below hh);replace hb:=bend hb hh)
  | (go_at_call 40;(with_reducible refine (lawP 3 1 (by decide) (by decide) (by decide) (by decide) _).mono ?_);rintro e w_t2 ⟨s_t2,A_t2,n_t2,c_t2,B_t2,m_t2,d_t2,t_t2,E_t2,i_t2,e_t2,F_t2,j_t2,f_t2,rfl,t2,hh⟩
     (try replace hSL:=hSL.below hh);(try replace hEL:=hEL.below hh);(try replace hSH:=hSH.below hh);(try replace hEH:=hEH.below hh);(try replace p:=p.below hh);(try replace q:=q.below hh);(try replace XA:=XA.below hh);(try replace XB:=XB.below hh);replace hb:=bend hb hh)
  | (go_at_call 40;(with_reducible refine (lawP 0 0 (by decide) (by decide) (by decide) (by decide) _).mono ?_);rintro e w_t3 ⟨s_t3,A_t3,n_t3,c_t3,B_t3,m_t3,d_t3,t_t3,E_t3,i_t3,e_t3,F_t3,j_t3,f_t3,rfl,t3,hh⟩
     (try replace hSL:=hSL.below hh);(try replace hEL:=hEL.below hh);(try replace hSH:=hSH.below hh);(try replace hEH:=hEH.below hh);(try replace p:=p.below hh);(try replace q:=q.below hh);(try replace XA:=XA.below hh);(try replace XB:=XB.below hh);replace hb:=bend hb hh)
  | (go_at_call 40;(with_reducible refine (lawP 2 2 (by decide) (by decide) (by decide) (by decide) _).mono ?_);rintro e w_t4 ⟨s_t4,A_t4,n_t4,c_t4,B_t4,m_t4,d_t4,t_t4,E_t4,i_t4,e_t4,F_t4,j_t4,f_t4,rfl,t4,hh⟩
     (try replace hSL:=hSL.below hh);(try replace hEL:=hEL.below hh);(try replace hSH:=hSH.below hh);(try replace hEH:=hEH.below hh);(try replace p:=p.below hh);(try replace q:=q.below hh);(try replace XA:=XA.below hh);(try replace XB:=XB.below hh);replace hb:=bend hb hh)
  | (go_at_call 21;(with_reducible refine (has_p hSL (Each.pr hEL) t1.pr hLn (by decide) (by decide) (by decide) (by decide) true wk8_has1).mono ?_);rintro e w_z ⟨rfl,hh⟩
     (try replace hSL:=hSL.below hh);(try replace hEL:=hEL.below hh);(try replace hSH:=hSH.below hh);(try replace hEH:=hEH.below hh);(try replace p:=p.below hh);(try replace q:=q.below hh);(try replace XA:=XA.below hh);(try replace XB:=XB.below hh);replace hb:=bend hb hh;clear t1)
  | (go_at_call 21;(with_reducible refine (has_p hSL (Each.pr hEL) t2.pr hLn (by decide) (by decide) (by decide) (by decide) false wk8_has2).mono ?_);rintro e w_z ⟨rfl,hh⟩
     (try replace hSL:=hSL.below hh);(try replace hEL:=hEL.below hh);(try replace hSH:=hSH.below hh);(try replace hEH:=hEH.below hh);(try replace p:=p.below hh);(try replace q:=q.below hh);(try replace XA:=XA.below hh);(try replace XB:=XB.below hh);replace hb:=bend hb hh;clear t2)
  | (go_at_call 42;(with_reducible refine (psame_p p.pr t3.pr (by decide) (by decide) (by decide) (by decide) true wk8_s0).mono ?_);rintro e w_z ⟨rfl,hh⟩
     (try replace hSL:=hSL.below hh);(try replace hEL:=hEL.below hh);(try replace hSH:=hSH.below hh);(try replace hEH:=hEH.below hh);(try replace p:=p.below hh);(try replace q:=q.below hh);(try replace XA:=XA.below hh);(try replace XB:=XB.below hh);replace hb:=bend hb hh;clear t3)
  | (go_at_call 42;(with_reducible refine (psame_p q.pr t4.pr (by decide) (by decide) (by decide) (by decide) true wk8_s2).mono ?_);rintro e w_z ⟨rfl,hh⟩
     (try replace hSL:=hSL.below hh);(try replace hEL:=hEL.below hh);(try replace hSH:=hSH.below hh);(try replace hEH:=hEH.below hh);(try replace p:=p.below hh);(try replace q:=q.below hh);(try replace XA:=XA.below hh);(try replace XB:=XB.below hh);replace hb:=bend hb hh;clear t4))
 go_wp2_with fail
 go_ret;exact ⟨rfl,hb⟩
end
section
open Go Go.RowKit
def sumTo (f:Nat→Rat):Nat→Rat
 | 0=>0
 | k+1=>sumTo f k+f k
theorem sumTo_ext {f g:Nat→Rat} {n:Nat} (h:∀ k,k < n→f k=g k):sumTo f n=sumTo g n:=by
 induction n with
 | zero=>rfl
 | succ n ih=>rw [sumTo,sumTo,ih (fun k hk=>h k (by omega)),h n (by omega)]
theorem sumTo_add (f g:Nat→Rat) (n:Nat):sumTo (fun k=>f k+g k) n=sumTo f n+sumTo g n:=by
 induction n with
 | zero=>show (0:Rat)=0+0;rw [Rat.add_zero]
 | succ n ih=>rw [sumTo,sumTo,sumTo,ih];grind
theorem sumTo_mul (c:Rat) (f:Nat→Rat) (n:Nat):sumTo (fun k=>c*f k) n=c*sumTo f n:=by
 induction n with
 | zero=>rw [sumTo,sumTo,Rat.mul_zero]
 | succ n ih=>rw [sumTo,sumTo,ih];grind
theorem sumTo_tele (g:Nat→Rat) (n:Nat):sumTo (fun k=>g (k+1) - g k) n=g n - g 0:=by
 induction n with
 | zero=>rw [sumTo];grind
 | succ n ih=>rw [sumTo,ih];grind
theorem sumTo_le {f g:Nat→Rat} {n:Nat} (h:∀ k,k < n→f k≤g k):sumTo f n≤sumTo g n:=by
 induction n with
 | zero=>exact Rat.le_refl
 | succ n ih=>have:=ih (fun k hk=>h k (by omega));have:=h n (by omega);rw [sumTo,sumTo];grind
theorem sumTo_one {f:Nat→Rat} {n i:Nat} (h:∀ k,k < n→0≤f k) (hi:i < n):f i≤sumTo f n:=by
 induction n with
 | zero=>omega
 | succ n ih =>
   rw [sumTo]
   have h1:=h n (by omega)
   have h0:0≤sumTo f n:=by
    have:=sumTo_le (f:=fun _=>0) (g:=f) (n:=n) (fun k hk=>h k (by omega))
    have e:sumTo (fun _=>(0:Rat)) n=0:=by
     clear ih this h h1 hi
     induction n with
     | zero=>rfl
     | succ n ih=>rw [sumTo,ih,Rat.add_zero]
    rwa [e] at this
   rcases Nat.lt_or_ge i n with q | q
   · have:=ih (fun k hk=>h k (by omega)) q;grind
   · rw [show i=n by omega];grind
theorem sumTo_first (f:Nat→Rat) (n:Nat):sumTo f (n+1)=f 0+sumTo (fun k=>f (k+1)) n:=by
 induction n with
 | zero=>rw [sumTo,sumTo,sumTo];grind
 | succ n ih=>rw [sumTo,ih,sumTo];grind
theorem sumTo_shift {f:Nat→Rat} {n:Nat} (hf:∀ k,f (k+n)=f k) (a:Nat):sumTo (fun k=>f (a+k)) n=sumTo f n:=by
 induction a with
 | zero=>exact sumTo_ext fun k _=>by rw [Nat.zero_add]
 | succ a ih =>
   rw [← ih]
   rcases Nat.eq_zero_or_pos n with h | h
   · subst h;rfl
   · obtain ⟨m,rfl⟩:∃ m,n=m+1:=⟨n - 1,by omega⟩
     rw [sumTo_first (fun k=>f (a+k)),sumTo]
     have e1:f (a+1+m)=f (a+0):=by rw [show a+1+m=a+(m+1) by omega,hf,Nat.add_zero]
     have e2:sumTo (fun k=>f (a+1+k)) m=sumTo (fun k=>f (a+(k+1))) m:=sumTo_ext fun k _=>by rw [show a+1+k=a+(k+1) by omega]
     rw [e1,e2];grind
section
variable {n:Nat} {x y:Nat→Rat}
def crsAt (x y:Nat→Rat) (k:Nat):Rat:=crs (x k) (y k) (x (k+1)) (y (k+1))
theorem crs_moved (hx:∀ k,x (k+n)=x k) (hy:∀ k,y (k+n)=y k) (a b:Rat):sumTo (crsAt (fun k=>x k+a) (fun k=>y k+b)) n=sumTo (crsAt x y) n:=by
 obtain ⟨g,hg⟩:∃ g:Nat→Rat,∀ k,g k=a*y k - b*x k:=⟨_,fun _=>rfl⟩
 have e:sumTo (crsAt (fun k=>x k+a) (fun k=>y k+b)) n=sumTo (fun k=>crsAt x y k+(g (k+1) - g k)) n:=sumTo_ext fun k _=>by
  rw [hg,hg];unfold crsAt crs;grind
 rw [e,sumTo_add,sumTo_tele,hg,hg]
 have h1:=hx 0;have h2:=hy 0
 rw [Nat.zero_add] at h1 h2
 rw [h1,h2];grind
theorem crs_side (k j:Nat):crsAt (fun k=>x k+-x j) (fun k=>y k+-y j) k=sideQ x y k j:=by unfold crsAt sideQ crs dd;grind
theorem Conv.area_pos (h:Conv n x y) (hx:∀ k,x (k+n)=x k) (hy:∀ k,y (k+n)=y k):0 < sumTo (crsAt x y) n:=by
 obtain ⟨i,j,hi,hj,hs⟩:=h.some
 rw [← crs_moved hx hy (-x j) (-y j)]
 have:=sumTo_one (f:=crsAt (fun k=>x k+-x j) (fun k=>y k+-y j)) (n:=n) (i:=i) (fun k hk=>by rw [crs_side];exact h.left k j hk hj) hi
 rw [crs_side] at this
 grind
def upAt (y:Nat→Rat) (k:Nat):Rat:=if dd y k < 0 then 0 else dd y k
theorem up_total (hy:∀ k,y (k+n)=y k) (h1:lows y n=1) {lo hi:Rat} (hlo:∀ k,lo≤y k) (hhi:∀ k,y k≤hi):sumTo (upAt y) n≤hi - lo:=by
 obtain ⟨s,hs,hls,hu⟩:=lows_one.1 h1
 have hper:∀ k,LowAt y (k+n) ↔ LowAt y k:=fun k=>by unfold LowAt;rw [show k+n+1=k+1+n by omega,dd_per hy,dd_per hy]
 have hu2:∀ l,l < n+(s+1)→s+1≤l→LowAt y l→l=s+n:=by
  intro l hl h2 h3
  rcases Nat.lt_or_ge l n with q | q
  · have:=hu l q h3;omega
  · have:=hu (l - n) (by omega) ((hper _).1 (by rwa [show l - n+n=l by omega]));omega
 have hup:∀ k,upAt y (k+n)=upAt y k:=fun k=>by unfold upAt;rw [dd_per hy]
 rw [← sumTo_shift hup (s+1)]
 -- first up alone,then down alone
 have key:∀ j,j≤n→∃ m,m≤j∧sumTo (fun k=>upAt y (s+1+k)) j=y (s+1+m) - y (s+1)∧(m < j→dd y (s+1+(j - 1)) < 0):=by
  intro j
  induction j with
  | zero=>intro _;exact ⟨0,Nat.le_refl _,by rw [sumTo,Nat.add_zero];grind,by omega⟩
  | succ j ih =>
    intro hj
    obtain ⟨m,hm,e,hd⟩:=ih (by omega)
    by_cases q:dd y (s+1+j) < 0
    · refine ⟨m,by omega,?_,fun _=>by rw [show j+1 - 1=j by omega];exact q⟩
      rw [sumTo,e,show upAt y (s+1+j)=0 from if_pos q];grind
    · have hmj : m = j := by
        refine Nat.le_antisymm hm (Nat.le_of_not_lt fun r=>?_)
        have hd2:=hd r
        have:=hu2 (s+1+(j - 1)) (by omega) (by omega) ⟨hd2,by rw [show s+1+(j - 1)+1=s+1+j by omega];exact q⟩
        omega
      subst hmj
      refine ⟨m+1,Nat.le_refl _,?_,by omega⟩
      rw [sumTo,e,show upAt y (s+1+m)=dd y (s+1+m) from if_neg q]
      unfold dd
      rw [show s+1+m+1=s+1+(m+1) by omega];grind
 obtain ⟨m,_,e,_⟩:=key n (Nat.le_refl _)
 rw [e]
 have:=hhi (s+1+m)
 have:=hlo (s+1)
 grind
theorem Conv.area_box (h:Conv n x y) (hx:∀ k,x (k+n)=x k) (hy:∀ k,y (k+n)=y k) {x0 y0 x1 y1:Rat} (hb:∀ k,x0≤x k∧y0≤y k∧x k≤x1∧y k≤y1):sumTo (crsAt x y) n≤2*((x1 - x0)*(y1 - y0)):=by
 have hn:0 < n:=by have:=h.three;omega
 have hup:=up_total hy (h.lows hx hy) (lo:=y0) (hi:=y1) (fun k=>(hb k).2.1) (fun k=>(hb k).2.2.2)
 have hw:0≤x1 - x0:=by have:=hb 0;grind
 rw [← crs_moved hx hy (-x0) 0]
 obtain ⟨g,hg⟩:∃ g:Nat→Rat,∀ k,g k=-((x k - x0)*y k):=⟨_,fun _=>rfl⟩
 have e:sumTo (crsAt (fun k=>x k+-x0) (fun k=>y k+0)) n=sumTo (fun k=>(x k - x0+(x (k+1) - x0))*dd y k+(g (k+1) - g k)) n:=sumTo_ext fun k _=>by
  rw [hg,hg];unfold crsAt crs dd;grind
 rw [e,sumTo_add,sumTo_tele,hg,hg]
 have h1:=hx 0;have h2:=hy 0
 rw [Nat.zero_add] at h1 h2
 rw [h1,h2]
 have hle:=sumTo_le (f:=fun k=>(x k - x0+(x (k+1) - x0))*dd y k) (g:=fun k=>2*(x1 - x0)*upAt y k) (n:=n) (fun k _=>by
  have a1:=hb k
  have a2:=hb (k+1)
  unfold upAt
  by_cases q:dd y k < 0
  · rw [if_pos q]
    have:=Rat.mul_nonneg (show 0≤x k - x0+(x (k+1) - x0) by grind) (show 0≤-dd y k by grind)
    grind
  · rw [if_neg q]
    have:=Rat.mul_nonneg (show 0≤2*(x1 - x0) - (x k - x0+(x (k+1) - x0)) by grind) (show 0≤dd y k by grind)
    grind)
 rw [sumTo_mul] at hle
 have:=Rat.mul_nonneg (show 0≤2*(x1 - x0) by grind) (show 0≤y1 - y0 - sumTo (upAt y) n by grind)
 grind
theorem Conv.some_up (h:Conv n x y) (hx:∀ k,x (k+n)=x k) (hy:∀ k,y (k+n)=y k) {p q:Rat} (hz:¬ (p=0∧q=0)):∃ k,0 < p*dd x k+q*dd y k:=by
 refine Classical.byContradiction fun hno=>?_
 have hn:0 < n:=by have:=h.three;omega
 have hall:∀ k,p*dd x k+q*dd y k≤0:=fun k=>Rat.not_lt.1 fun e=>hno ⟨k,e⟩
 have hg:=sum_dd (fun k=>-(p*x k+q*y k)) (m:=n) (fun k _=>by have:=hall k;unfold dd at *;grind)
 have h1:=hx 0;have h2:=hy 0
 rw [Nat.zero_add] at h1 h2
 have hz2:=hg.2 (by rw [h1,h2])
 have hc:∀ k,k < n→p*x k+q*y k=p*x 0+q*y 0:=by
  intro k
  induction k with
  | zero=>intro _;rfl
  | succ k ih=>intro hk;have e:=hz2 k (by omega);have:=ih (by omega);unfold dd at e;grind
 refine h.off (a:=q) (b:=-p) (ox:=x 0) (oy:=y 0) (fun e=>hz ⟨by have:=e.2;grind,e.1⟩) fun k=>?_
 have:=hc (k % n) (Nat.mod_lt _ hn)
 rw [per_mod hx,per_mod hy] at this
 unfold crs;grind
theorem Conv.has_le (h:Conv n x y) (hx:∀ k,x (k+n)=x k) (hy:∀ k,y (k+n)=y k) {px py p q m:Rat} (hz:¬ (p=0∧q=0)) (hp:∀ k,0≤crs (dd x k) (dd y k) (px - x k) (py - y k)) (hm:∀ k,p*x k+q*y k≤m):p*px+q*py≤m:=by
 have hn:0 < n:=by have:=h.three;omega
 obtain ⟨a,ha⟩:=h.some_up hx hy hz
 obtain ⟨b,hb⟩:=h.some_up hx hy (p:=-p) (q:=-q) (fun e=>hz ⟨by have:=e.1;grind,by have:=e.2;grind⟩)
 obtain ⟨k,_,h1,h2⟩:=ceases (P:=fun k=>0 < p*dd x k+q*dd y k) hn (fun k=>by rw [dd_per hx,dd_per hy]) ha (b:=b) (fun e=>by grind)
 have e1:crs (dd x k) (dd y k) (px - x (k+1)) (py - y (k+1))=crs (dd x k) (dd y k) (px - x k) (py - y k):=by unfold crs dd;grind
 have:=coneG (vx:=px - x (k+1)) (vy:=py - y (k+1)) h1 (Rat.not_lt.1 h2) (h.turn hx hy k) (by rw [e1];exact hp k) (hp (k+1))
 have:=hm (k+1)
 grind
end
def ringX (l:List (Rat × Rat)) (k:Nat):Rat:=(l.getD (k % l.length) (0,0)).1
def ringY (l:List (Rat × Rat)) (k:Nat):Rat:=(l.getD (k % l.length) (0,0)).2
theorem ringX_per (l:List (Rat × Rat)) (k:Nat):ringX l (k+l.length)=ringX l k:=by unfold ringX;rw [Nat.add_mod_right]
theorem ringY_per (l:List (Rat × Rat)) (k:Nat):ringY l (k+l.length)=ringY l k:=by unfold ringY;rw [Nat.add_mod_right]
theorem ring_at {l:List (Rat × Rat)} {i:Nat} {u:Rat × Rat} (h:l[i]?=some u):ringX l i=u.1∧ringY l i=u.2:=by
 have hi:=(List.getElem?_eq_some_iff.1 h).1
 unfold ringX ringY
 rw [Nat.mod_eq_of_lt hi,List.getD_eq_getElem?_getD,h]
 exact ⟨rfl,rfl⟩
theorem ringL_ring {l:List (Rat × Rat)} {i:Nat} {u:Rat × Rat} (h:(ringL l)[i]?=some u):u=(ringX l i,ringY l i):=by
 rcases Nat.lt_or_ge i l.length with q | q
 · rw [ringL_at q] at h
   have:=ring_at h
   rw [this.1,this.2]
 · have h7:=(List.getElem?_eq_some_iff.1 h).1
   have h8:0 < l.length:=by
    refine Nat.pos_of_ne_zero fun e=>?_
    rw [List.length_eq_zero_iff] at e;subst e;simp [ringL] at h7
   rw [ringL_len l h8] at h7
   have e:i=l.length:=by omega
   subst e
   unfold ringL at h
   rw [List.getElem?_append_right (Nat.le_refl _),Nat.sub_self,List.getElem?_take,if_pos (by decide)] at h
   have:=ring_at h
   have p1:=ringX_per l 0;have p2:=ringY_per l 0
   rw [Nat.zero_add] at p1 p2
   rw [p1,p2,this.1,this.2]
theorem ringL_some {l:List (Rat × Rat)} {i:Nat} (h:i < l.length):(ringL l)[i]?=some (ringX l i,ringY l i)∧(ringL l)[i+1]?=some (ringX l (i+1),ringY l (i+1)):=by
 have hl:=ringL_len l (by omega)
 obtain ⟨u,hu⟩:∃ u,(ringL l)[i]?=some u:=⟨_,List.getElem?_eq_getElem (by omega)⟩
 obtain ⟨v,hv⟩:∃ v,(ringL l)[i+1]?=some v:=⟨_,List.getElem?_eq_getElem (by omega)⟩
 rw [hu,hv,ringL_ring hu,ringL_ring hv]
 exact ⟨rfl,rfl⟩
theorem qsum_sumTo (l:List Rat):qsum l=sumTo (fun k=>l.getD k 0) l.length:=by
 induction l with
 | nil=>rfl
 | cons v l ih =>
   rw [show qsum (v :: l)=v+qsum l from rfl,ih,List.length_cons,sumTo_first]
   rfl
theorem crosses_sum (l:List (Rat × Rat)):qsum (crosses l)=sumTo (crsAt (ringX l) (ringY l)) l.length:=by
 rw [qsum_sumTo,crosses_len]
 refine sumTo_ext fun k hk=>?_
 have h:=ringL_some hk
 rw [List.getD_eq_getElem?_getD,crosses_at h.1 h.2]
 rfl
theorem areaQ_sum (l:List (Rat × Rat)):areaQ l=sumTo (crsAt (ringX l) (ringY l)) l.length*Rat.divInt 1 2:=by unfold areaQ;rw [crosses_sum]
theorem waysL_some {l:List (Rat × Rat)} {i:Nat} (h:i < l.length):(waysL l)[i]?=some (dd (ringX l) i,dd (ringY l) i):=by
 have h2:=ringL_some h;rw [waysL_at h2.1 h2.2]
 rfl
theorem ways_ring {l:List (Rat × Rat)} {i:Nat} {u:Rat × Rat} (h:(ringL (waysL l))[i]?=some u):u=(dd (ringX l) i,dd (ringY l) i):=by
 have hl:=waysL_len l
 rcases Nat.lt_or_ge i l.length with q | q
 · rw [ringL_at (by rw [hl];exact q),waysL_some q] at h
   exact (Option.some.inj h).symm
 · have h7:=(List.getElem?_eq_some_iff.1 h).1
   have h8:0 < l.length:=by
    refine Nat.pos_of_ne_zero fun e=>?_
    rw [List.length_eq_zero_iff] at e;subst e;simp [ringL,waysL] at h7
   rw [ringL_len _ (by rw [hl];exact h8),hl] at h7
   have e:i=l.length:=by omega
   subst e
   unfold ringL at h
   rw [List.getElem?_append_right (by rw [hl];exact Nat.le_refl _),hl,Nat.sub_self,List.getElem?_take,if_pos (by decide),waysL_some h8] at h
   have p1:=dd_per (ringX_per l) 0
   have p2:=dd_per (ringY_per l) 0
   rw [Nat.zero_add] at p1 p2
   rw [p1,p2]
   exact (Option.some.inj h).symm
theorem ways_ring_some {l:List (Rat × Rat)} {i:Nat} (h:i < l.length):(ringL (waysL l))[i]?=some (dd (ringX l) i,dd (ringY l) i)∧(ringL (waysL l))[i+1]?=some (dd (ringX l) (i+1),dd (ringY l) (i+1)):=by
 have hl:=ringL_len (waysL l) (by rw [waysL_len];omega)
 rw [waysL_len] at hl
 obtain ⟨u,hu⟩:∃ u,(ringL (waysL l))[i]?=some u:=⟨_,List.getElem?_eq_getElem (by omega)⟩
 obtain ⟨v,hv⟩:∃ v,(ringL (waysL l))[i+1]?=some v:=⟨_,List.getElem?_eq_getElem (by omega)⟩
 rw [hu,hv,ways_ring hu,ways_ring hv]
 exact ⟨rfl,rfl⟩
theorem lows_ring {l:List (Rat × Rat)} {m:Nat} (hm:m≤l.length):lowsW (ringL (waysL l)) m=lows (ringY l) m:=by
 induction m with
 | zero=>rfl
 | succ m ih =>
   have h:=ways_ring_some (l:=l) (i:=m) (by omega)
   rw [lowsW_at h.1 h.2,ih (by omega)]
   rfl
theorem convQ_iff (l:List (Rat × Rat)):ConvQ l ↔ Conv l.length (ringX l) (ringY l):=by
 rw [conv_iff (ringX_per l) (ringY_per l)]
 unfold ConvQ
 rw [lows_ring (Nat.le_refl _)]
 refine and_congr ⟨fun h k hk=>?_,fun h i u v hu hv=>?_⟩ Iff.rfl
 · have h2:=ways_ring_some hk
   exact h k _ _ h2.1 h2.2
 · have h7:=(List.getElem?_eq_some_iff.1 hv).1
   have h8:i < l.length:=by
    rcases Nat.eq_zero_or_pos l.length with e | e
    · exfalso
      rw [List.length_eq_zero_iff] at e;subst e;exact absurd h7 (by simp [waysL,ringL])
    · rw [ringL_len _ (by rw [waysL_len];exact e),waysL_len] at h7;omega
   have:=h i h8
   rw [ways_ring hu,ways_ring hv]
   exact this
end
section
open Go Go.RowKit
theorem run_fp0 {e1:Operand→Value} {x1:Operand} {d1:Option Tmp} {y1 g:Nat} {pos:String} {af:Array Edge} (h:e1 x1=.pointer (some ⟨g,0,none⟩)) :
 (execOp e1 ⟨d1,.fieldAddr 29 x1 0,y1,pos,af,none⟩).run Tryz.prog w=.ok (.value (.pointer (some ⟨g,0,none⟩))) w:=by
 go_simp
theorem run_fp1 {e1:Operand→Value} {x1:Operand} {d1:Option Tmp} {y1 g:Nat} {pos:String} {af:Array Edge} (h:e1 x1=.pointer (some ⟨g,0,none⟩)) :
 (execOp e1 ⟨d1,.fieldAddr 29 x1 1,y1,pos,af,none⟩).run Tryz.prog w=.ok (.value (.pointer (some ⟨g,3,none⟩))) w:=by
 go_simp
theorem run_loadP0 {e1:Operand→Value} {x1:Operand} {d1:Option Tmp} {y1 g:Nat} {pos:String} {af:Array Edge} {a b c d e f:Value} (h:e1 x1=.pointer (some ⟨g,0,none⟩)) (Z:B6 w g a b c d e f) :
 (execOp e1 ⟨d1,.load 27 x1,y1,pos,af,none⟩).run Tryz.prog w=.ok (.value (.agg #[a,b,c])) w:=by
 obtain ⟨c0,c1,c2⟩:=Z.all
 go_simp
theorem run_loadP1 {e1:Operand→Value} {x1:Operand} {d1:Option Tmp} {y1 g:Nat} {pos:String} {af:Array Edge} {a b c d e f:Value} (h:e1 x1=.pointer (some ⟨g,3,none⟩)) (Z:B6 w g a b c d e f) :
 (execOp e1 ⟨d1,.load 27 x1,y1,pos,af,none⟩).run Tryz.prog w=.ok (.value (.agg #[d,e,f])) w:=by
 have c3:=Z.c3;have c4:=Z.c4;have c5:=Z.c5
 go_simp
end
section
open Go Go.RowKit
theorem Each.moreP {L:List PV} {l:List (Rat × Rat)} {k k2:Nat} (h:Each PV.PR w L l k) (hk:k≤k2):Each PV.PR w L l k2:=⟨h.1,fun i p u hp hu=>PR.more (h.2 i p u hp hu) hk⟩
theorem orient_side {l:List (Rat × Rat)} {k:Nat} {px py:Rat}:0≤orientQ (ringX l k) (ringY l k) (ringX l (k+1)) (ringY l (k+1)) px py ↔ 0≤crs (dd (ringX l) k) (dd (ringY l) k) (px - ringX l k) (py - ringY l k):=by
 unfold orientQ
 rw [cmp_sub,sgn_nn]
 unfold crs dd;exact Iff.rfl
theorem hasQ_iff (l:List (Rat × Rat)) (px py:Rat):HasQ l px py ↔ 3≤l.length∧∀ k,k < l.length→0≤crs (dd (ringX l) k) (dd (ringY l) k) (px - ringX l k) (py - ringY l k):=by
 unfold HasQ
 refine and_congr Iff.rfl ⟨fun h k hk=>?_,fun h i u v hu hv=>?_⟩
 · have h2:=ringL_some hk
   exact orient_side.1 (h k _ _ h2.1 h2.2)
 · have h7:=(List.getElem?_eq_some_iff.1 hv).1
   have h8:i < l.length:=by
    rcases Nat.eq_zero_or_pos l.length with e | e
    · exfalso
      rw [List.length_eq_zero_iff] at e;subst e;simp [ringL] at h7
    · rw [ringL_len _ e] at h7;omega
   rw [ringL_ring hu,ringL_ring hv]
   exact orient_side.2 (h i h8)
theorem box_all {l:List (Rat × Rat)} {x0 y0 x1 y1:Rat} (hn:0 < l.length) (h:IsBoxQ l x0 y0 x1 y1) (k:Nat):x0≤ringX l k∧y0≤ringY l k∧ringX l k≤x1∧ringY l k≤y1:=by
 have hk:=Nat.mod_lt k hn
 have:=h.2.2.2.2 (k % l.length) _ (List.getElem?_eq_getElem hk)
 unfold ringX ringY
 rw [List.getD_eq_getElem?_getD,List.getElem?_eq_getElem hk]
 exact this
theorem half_pos (v:Rat):0 < v→0 < v*Rat.divInt 1 2:=fun h=>Rat.mul_pos h (by decide +kernel)
theorem boxes_math {l:List (Rat × Rat)} {x0 y0 x1 y1:Rat} (hc:ConvQ l) (hb:IsBoxQ l x0 y0 x1 y1) :
 (∀ (i:Nat) (u:Rat × Rat),l[i]?=some u→HasQ l u.1 u.2)∧areaQ l≤(x1 - x0)*(y1 - y0)∧0 < areaQ l∧∀ px py,HasQ l px py→x0≤px∧px≤x1∧y0≤py∧py≤y1:=by
 have C:=(convQ_iff l).1 hc
 have hx:=ringX_per l;have hy:=ringY_per l;have h3:=C.three
 have hn:0 < l.length:=by omega
 have hB:=box_all hn hb
 refine ⟨fun i u hu=>?_,?_,?_,fun px py hp=>?_⟩
 · rw [hasQ_iff]
   refine ⟨h3,fun k hk=>?_⟩
   have:=C.left' hx hy k i
   unfold sideQ at this
   rw [(ring_at hu).1,(ring_at hu).2] at this
   exact this
 · rw [areaQ_sum]
   have:=C.area_box hx hy hB
   have e:Rat.divInt 1 2*2=1:=by decide +kernel
   have h2:=Rat.mul_le_mul_of_nonneg_right this (show (0:Rat)≤Rat.divInt 1 2 by decide +kernel)
   rwa [show 2*((x1 - x0)*(y1 - y0))*Rat.divInt 1 2=(x1 - x0)*(y1 - y0)*(Rat.divInt 1 2*2) by grind,e,Rat.mul_one] at h2
 · rw [areaQ_sum];exact half_pos _ (C.area_pos hx hy)
 · have hp2:=((hasQ_iff l px py).1 hp).2
   have hp3:∀ k,0≤crs (dd (ringX l) k) (dd (ringY l) k) (px - ringX l k) (py - ringY l k):=fun k=>by
    have:=hp2 (k % l.length) (Nat.mod_lt _ hn)
    rwa [per_eq (dd_per hx) (Nat.mod_mod k l.length),per_eq (dd_per hy) (Nat.mod_mod k l.length),per_mod hx,per_mod hy] at this
   have a1:=C.has_le hx hy (p:=-1) (q:=0) (m:=-x0) (fun e=>absurd e.1 (by decide)) hp3 (fun k=>by have:=hB k;grind)
   have a2:=C.has_le hx hy (p:=1) (q:=0) (m:=x1) (fun e=>absurd e.1 (by decide)) hp3 (fun k=>by have:=hB k;grind)
   have a3:=C.has_le hx hy (p:=0) (q:=-1) (m:=-y0) (fun e=>absurd e.2 (by decide)) hp3 (fun k=>by have:=hB k;grind)
   have a4:=C.has_le hx hy (p:=0) (q:=1) (m:=y1) (fun e=>absurd e.2 (by decide)) hp3 (fun k=>by have:=hB k;grind)
   exact ⟨by grind,by grind,by grind,by grind⟩
theorem fair6_t {A:Option Addr} {n c:Nat} {L:List PV} (hL:SV w A (pvs L)) (hn:L.length=n) (hm:n≤100000) (hnc:n≤c) (h:∀ p ∈ L,p.small 6) :
 Calls Tryz.prog 9 #[.slice A n c] w fun e w'=>e=.returned (.bool true)∧Below w.heap.size w w':=fair6_p hL hn hm hnc true ⟨fun _=>h,fun _=>rfl⟩
theorem fair6_f {A:Option Addr} {n c:Nat} {L:List PV} (hL:SV w A (pvs L)) (hn:L.length=n) (hm:n≤100000) (hnc:n≤c) (h:¬ ∀ p ∈ L,p.small 6) :
 Calls Tryz.prog 9 #[.slice A n c] w fun e w'=>e=.returned (.bool false)∧Below w.heap.size w w':=fair6_p hL hn hm hnc false ⟨fun e=>by (cases e),fun e=>absurd e h⟩
theorem fair8_t {A:Option Addr} {n c N:Nat} {NI:Int} (hNI:NI=(N:Int)) {L:List PV} (hL:SV w A (pvs L)) (hn:L.length=n) (hm:N≤100000) (hnc:n≤c) (hN:n≤N) (h:∀ p ∈ L,p.small 4) :
 Calls Tryz.prog 8 #[.slice A n c,.int .i64 NI] w fun e w'=>e=.returned (.bool true)∧Below w.heap.size w w':=fair8_y hNI hL hn hm hnc hN true ⟨fun _=>h,fun _=>rfl⟩
theorem fair8_f {A:Option Addr} {n c N:Nat} {NI:Int} (hNI:NI=(N:Int)) {L:List PV} (hL:SV w A (pvs L)) (hn:L.length=n) (hm:N≤100000) (hnc:n≤c) (hN:n≤N) (h:¬ ∀ p ∈ L,p.small 4) :
 Calls Tryz.prog 8 #[.slice A n c,.int .i64 NI] w fun e w'=>e=.returned (.bool false)∧Below w.heap.size w w':=fair8_y hNI hL hn hm hnc hN false ⟨fun e=>by (cases e),fun e=>absurd e h⟩
theorem convex_t {A:Option Addr} {n c k:Nat} {L:List PV} {l:List (Rat × Rat)} (hL:SV w A (pvs L)) (hE:Each PV.PR w L l k) (hn:L.length=n) (hm:n≤1000) (hnc:n≤c) (h1:1≤k) (hk:k+k+1+(k+k+1)≤200) (h:ConvQ l) :
 Calls Tryz.prog 19 #[.slice A n c] w fun e w'=>e=.returned (.bool true)∧Below w.heap.size w w':=convex_p hL hE hn hm hnc h1 hk true ⟨fun _=>h,fun _=>rfl⟩
theorem convex_f {A:Option Addr} {n c k:Nat} {L:List PV} {l:List (Rat × Rat)} (hL:SV w A (pvs L)) (hE:Each PV.PR w L l k) (hn:L.length=n) (hm:n≤1000) (hnc:n≤c) (h1:1≤k) (hk:k+k+1+(k+k+1)≤200) (h:¬ ConvQ l) :
 Calls Tryz.prog 19 #[.slice A n c] w fun e w'=>e=.returned (.bool false)∧Below w.heap.size w w':=convex_p hL hE hn hm hnc h1 hk false ⟨fun e=>by (cases e),fun e=>absurd e h⟩
theorem has_t {A:Option Addr} {n c k:Nat} {L:List PV} {l:List (Rat × Rat)} {px py:Rat} (hL:SV w A (pvs L)) (hE:Each PV.PR w L l k) (r:PR w s_r A_r n_r c_r B_r m_r d_r t_r E_r i_r e_r F_r j_r f_r px py k) (hn:L.length=n) (hm:n≤1000) (hnc:n≤c) (h1:1≤k) (hk:k≤40) (h:HasQ l px py) :
 Calls Tryz.prog 21 #[.slice A n c,.agg #[.bool s_r,.slice A_r n_r c_r,.slice B_r m_r d_r,.bool t_r,.slice E_r i_r e_r,.slice F_r j_r f_r]] w fun e w'=>e=.returned (.bool true)∧Below w.heap.size w w':=has_p hL hE r hn hm hnc h1 hk true ⟨fun _=>h,fun _=>rfl⟩
theorem has_f {A:Option Addr} {n c k:Nat} {L:List PV} {l:List (Rat × Rat)} {px py:Rat} (hL:SV w A (pvs L)) (hE:Each PV.PR w L l k) (r:PR w s_r A_r n_r c_r B_r m_r d_r t_r E_r i_r e_r F_r j_r f_r px py k) (hn:L.length=n) (hm:n≤1000) (hnc:n≤c) (h1:1≤k) (hk:k≤40) (h:¬ HasQ l px py) :
 Calls Tryz.prog 21 #[.slice A n c,.agg #[.bool s_r,.slice A_r n_r c_r,.slice B_r m_r d_r,.bool t_r,.slice E_r i_r e_r,.slice F_r j_r f_r]] w fun e w'=>e=.returned (.bool false)∧Below w.heap.size w w':=has_p hL hE r hn hm hnc h1 hk false ⟨fun e=>by (cases e),fun e=>absurd e h⟩
theorem cmp_ge (x y:Rat):0≤cmpQ x y ↔ y≤x:=by
 constructor
 · intro h;exact Rat.not_lt.1 fun e=>by have:=cmpQ_lt.2 e;omega
 · intro h;exact Int.not_lt.1 fun e=>by have:=cmpQ_lt.1 e;grind
theorem boxes_1 {A:Option Addr} {n c:Nat} {L:List PV} (hL:SV w A (pvs L)) (hn:L.length=n) (hnc:n≤c) (h:¬ n≤10) :
 Calls Tryz.prog 7 #[.slice A n c,.agg #[.bool s_p,.slice A_p n_p c_p,.slice B_p m_p d_p,.bool t_p,.slice E_p i_p e_p,.slice F_p j_p f_p]] w fun e w'=>e=.returned (.bool true)∧Below w.heap.size w w':=by
 have H10:Hid ((10:Int)=((10:Nat):Int)):=rfl
 have HNN:=Lib.hid h;clear h
 go_enter Tryz.func7,Tryz.ntmps7
 go_upto_region 1 with (fail)
 generalize hW:World.alloc _ _=W
 obtain ⟨hb,XA,hzW⟩:=mkbx15_9 hW;clear hW;replace hL:=hL.below hb;obtain ⟨xa0,xa1,xa2,xa3,xa4,xa5⟩:=XA.all
 go_wp2_with (first
  | (go_at_call 8;(with_reducible refine (fair8_n (N:=10) H10.out hL hn hnc HNN.out).mono ?_);rintro e w_z ⟨rfl,hh⟩
     (try replace hL:=hL.below hh);(try replace XA:=XA.below hh);replace hb:=bend hb hh;obtain ⟨xa0,xa1,xa2,xa3,xa4,xa5⟩:=XA.all)
  | (go_at_call 10;(with_reducible refine (areawakes_any _).mono ?_);rintro e w_z ⟨rfl,hh⟩
     replace hb:=bend hb hh))
 go_ret;exact ⟨rfl,hb⟩
theorem boxes_2 {A:Option Addr} {n c:Nat} {L:List PV} (hL:SV w A (pvs L)) (hn:L.length=n) (hnc:n≤c) (h:n≤10) (h2:¬ ∀ q ∈ L,q.small 4) :
 Calls Tryz.prog 7 #[.slice A n c,.agg #[.bool s_p,.slice A_p n_p c_p,.slice B_p m_p d_p,.bool t_p,.slice E_p i_p e_p,.slice F_p j_p f_p]] w fun e w'=>e=.returned (.bool true)∧Below w.heap.size w w':=by
 have H10:Hid ((10:Int)=((10:Nat):Int)):=rfl
 have HNN:=Lib.hid h
 have HF8:Hid (¬ ∀ q ∈ L,q.small 4):=h2
 clear h h2
 go_enter Tryz.func7,Tryz.ntmps7
 go_upto_region 1 with (fail)
 generalize hW:World.alloc _ _=W
 obtain ⟨hb,XA,hzW⟩:=mkbx15_9 hW;clear hW;replace hL:=hL.below hb;obtain ⟨xa0,xa1,xa2,xa3,xa4,xa5⟩:=XA.all
 go_wp2_with (first
  | (go_at_call 8;(with_reducible refine (fair8_f (N:=10) H10.out hL hn (by decide) hnc HNN.out HF8.out).mono ?_);rintro e w_z ⟨rfl,hh⟩
     (try replace hL:=hL.below hh);(try replace XA:=XA.below hh);replace hb:=bend hb hh;obtain ⟨xa0,xa1,xa2,xa3,xa4,xa5⟩:=XA.all)
  | (go_at_call 10;(with_reducible refine (areawakes_any _).mono ?_);rintro e w_z ⟨rfl,hh⟩
     replace hb:=bend hb hh))
 go_ret;exact ⟨rfl,hb⟩
theorem boxes_3 {A:Option Addr} {n c:Nat} {L:List PV} (hL:SV w A (pvs L)) (hn:L.length=n) (hnc:n≤c) (h:n≤10) (h2:∀ q ∈ L,q.small 4) (h3:¬ ((n_p≤6∧m_p≤6)∧i_p≤6∧j_p≤6)) :
 Calls Tryz.prog 7 #[.slice A n c,.agg #[.bool s_p,.slice A_p n_p c_p,.slice B_p m_p d_p,.bool t_p,.slice E_p i_p e_p,.slice F_p j_p f_p]] w fun e w'=>e=.returned (.bool true)∧Below w.heap.size w w':=by
 have H10:Hid ((10:Int)=((10:Nat):Int)):=rfl
 have HNN:=Lib.hid h
 have HF8:Hid (∀ q ∈ L,q.small 4):=h2
 have HF6:Hid (¬ ∀ q ∈ [(PV.mk s_p A_p n_p c_p B_p m_p d_p t_p E_p i_p e_p F_p j_p f_p)],q.small 6):=fun e=>absurd (e (PV.mk s_p A_p n_p c_p B_p m_p d_p t_p E_p i_p e_p F_p j_p f_p) (List.mem_singleton.2 rfl)) h3
 clear h h2 h3
 go_enter Tryz.func7,Tryz.ntmps7
 go_upto_region 1 with (fail)
 generalize hW:World.alloc _ _=W
 obtain ⟨hb,XA,hzW⟩:=mkbx15_9 hW;clear hW;replace hL:=hL.below hb;obtain ⟨xa0,xa1,xa2,xa3,xa4,xa5⟩:=XA.all
 go_wp2_with (first
  | (go_at_call 8;(with_reducible refine (fair8_t (N:=10) H10.out hL hn (by decide) hnc HNN.out HF8.out).mono ?_);rintro e w_z ⟨rfl,hh⟩
     (try replace hL:=hL.below hh);(try replace XA:=XA.below hh);replace hb:=bend hb hh;obtain ⟨xa0,xa1,xa2,xa3,xa4,xa5⟩:=XA.all))
 have hOne:SV (w_z.alloc (Obj.cells #[Value.bool s_p,Value.slice A_p n_p c_p,Value.slice B_p m_p d_p,Value.bool t_p,Value.slice E_p i_p e_p,Value.slice F_p j_p f_p] 29)) (some ⟨w_z.heap.size,0,none⟩) (pvs [(PV.mk s_p A_p n_p c_p B_p m_p d_p t_p E_p i_p e_p F_p j_p f_p)]):=(show BoxAt 29 (w_z.alloc (Obj.cells #[Value.bool s_p,Value.slice A_p n_p c_p,Value.slice B_p m_p d_p,Value.bool t_p,Value.slice E_p i_p e_p,Value.slice F_p j_p f_p] 29)) w_z.heap.size (pvs [(PV.mk s_p A_p n_p c_p B_p m_p d_p t_p E_p i_p e_p F_p j_p f_p)]).toArray from ⟨heap_alloc_new w_z _,arr_free (pvs_free _)⟩).sv
 have hOn1:[(PV.mk s_p A_p n_p c_p B_p m_p d_p t_p E_p i_p e_p F_p j_p f_p)].length=1:=rfl
 have hh:Below w_z.heap.size w_z (w_z.alloc (Obj.cells #[Value.bool s_p,Value.slice A_p n_p c_p,Value.slice B_p m_p d_p,Value.bool t_p,Value.slice E_p i_p e_p,Value.slice F_p j_p f_p] 29)):=(Below.refl _ _).alloc (Nat.le_refl _) _
 replace hL:=hL.below hh;replace XA:=XA.below hh;replace hb:=bend hb hh
 generalize (w_z.alloc (Obj.cells #[Value.bool s_p,Value.slice A_p n_p c_p,Value.slice B_p m_p d_p,Value.bool t_p,Value.slice E_p i_p e_p,Value.slice F_p j_p f_p] 29))=W9 at *
 generalize w_z.heap.size=g9 at *
 obtain ⟨xa0,xa1,xa2,xa3,xa4,xa5⟩:=XA.all
 go_wp2_with (first
  | (go_at_call 9;(with_reducible refine (fair6_f hOne hOn1 (by decide) (by decide) HF6.out).mono ?_);rintro e w_z ⟨rfl,hh⟩
     (try replace hL:=hL.below hh);(try replace XA:=XA.below hh);replace hb:=bend hb hh;obtain ⟨xa0,xa1,xa2,xa3,xa4,xa5⟩:=XA.all)
  | (go_at_call 10;(with_reducible refine (areawakes_any _).mono ?_);rintro e w_z ⟨rfl,hh⟩
     replace hb:=bend hb hh))
 go_ret;exact ⟨rfl,hb⟩
theorem boxes_4 {A:Option Addr} {n c:Nat} {L:List PV} (hL:SV w A (pvs L)) (hn:L.length=n) (hnc:n≤c) {l:List (Rat × Rat)} (hE:Each PV.PR w L l 4) (h:n≤10) (h2:∀ q ∈ L,q.small 4) (h3:((n_p≤6∧m_p≤6)∧i_p≤6∧j_p≤6)) (h4:¬ ConvQ l) :
 Calls Tryz.prog 7 #[.slice A n c,.agg #[.bool s_p,.slice A_p n_p c_p,.slice B_p m_p d_p,.bool t_p,.slice E_p i_p e_p,.slice F_p j_p f_p]] w fun e w'=>e=.returned (.bool true)∧Below w.heap.size w w':=by
 have H10:Hid ((10:Int)=((10:Nat):Int)):=rfl
 have HNN:=Lib.hid h
 have HF8:Hid (∀ q ∈ L,q.small 4):=h2
 have HF6:Hid (∀ q ∈ [(PV.mk s_p A_p n_p c_p B_p m_p d_p t_p E_p i_p e_p F_p j_p f_p)],q.small 6):=fun q hq=>by rw [List.mem_singleton.1 hq];exact h3
 have HC:Hid (¬ ConvQ l):=h4
 have E0:=Lib.hid hE;clear h h2 h3 h4 hE
 go_enter Tryz.func7,Tryz.ntmps7
 go_upto_region 1 with (fail)
 generalize hW:World.alloc _ _=W
 obtain ⟨hb,XA,hzW⟩:=mkbx15_9 hW;clear hW;replace hL:=hL.below hb;obtain ⟨xa0,xa1,xa2,xa3,xa4,xa5⟩:=XA.all
 go_wp2_with (first
  | (go_at_call 8;(with_reducible refine (fair8_t (N:=10) H10.out hL hn (by decide) hnc HNN.out HF8.out).mono ?_);rintro e w_z ⟨rfl,hh⟩
     (try replace hL:=hL.below hh);(try replace XA:=XA.below hh);replace hb:=bend hb hh;obtain ⟨xa0,xa1,xa2,xa3,xa4,xa5⟩:=XA.all))
 have hOne:SV (w_z.alloc (Obj.cells #[Value.bool s_p,Value.slice A_p n_p c_p,Value.slice B_p m_p d_p,Value.bool t_p,Value.slice E_p i_p e_p,Value.slice F_p j_p f_p] 29)) (some ⟨w_z.heap.size,0,none⟩) (pvs [(PV.mk s_p A_p n_p c_p B_p m_p d_p t_p E_p i_p e_p F_p j_p f_p)]):=(show BoxAt 29 (w_z.alloc (Obj.cells #[Value.bool s_p,Value.slice A_p n_p c_p,Value.slice B_p m_p d_p,Value.bool t_p,Value.slice E_p i_p e_p,Value.slice F_p j_p f_p] 29)) w_z.heap.size (pvs [(PV.mk s_p A_p n_p c_p B_p m_p d_p t_p E_p i_p e_p F_p j_p f_p)]).toArray from ⟨heap_alloc_new w_z _,arr_free (pvs_free _)⟩).sv
 have hOn1:[(PV.mk s_p A_p n_p c_p B_p m_p d_p t_p E_p i_p e_p F_p j_p f_p)].length=1:=rfl
 have hh:Below w_z.heap.size w_z (w_z.alloc (Obj.cells #[Value.bool s_p,Value.slice A_p n_p c_p,Value.slice B_p m_p d_p,Value.bool t_p,Value.slice E_p i_p e_p,Value.slice F_p j_p f_p] 29)):=(Below.refl _ _).alloc (Nat.le_refl _) _
 replace hL:=hL.below hh;replace XA:=XA.below hh;replace hb:=bend hb hh
 generalize (w_z.alloc (Obj.cells #[Value.bool s_p,Value.slice A_p n_p c_p,Value.slice B_p m_p d_p,Value.bool t_p,Value.slice E_p i_p e_p,Value.slice F_p j_p f_p] 29))=W9 at *
 generalize w_z.heap.size=g9 at *
 obtain ⟨xa0,xa1,xa2,xa3,xa4,xa5⟩:=XA.all;have hn10:=HNN.out
 go_wp2_with (first
  | (go_at_call 9;(with_reducible refine (fair6_t hOne hOn1 (by decide) (by decide) HF6.out).mono ?_);rintro e w_z ⟨rfl,hh⟩
     (try replace hL:=hL.below hh);(try replace XA:=XA.below hh);replace hb:=bend hb hh;obtain ⟨xa0,xa1,xa2,xa3,xa4,xa5⟩:=XA.all)
  | (go_at_call 19;(with_reducible refine (convex_f hL (Each.belowP E0.out hb) hn (by omega) hnc (by decide) (by decide) HC.out).mono ?_);rintro e w_z ⟨rfl,hh⟩
     (try replace hL:=hL.below hh);(try replace XA:=XA.below hh);replace hb:=bend hb hh;obtain ⟨xa0,xa1,xa2,xa3,xa4,xa5⟩:=XA.all)
  | (go_at_call 10;(with_reducible refine (areawakes_any _).mono ?_);rintro e w_z ⟨rfl,hh⟩
     replace hb:=bend hb hh))
 go_ret;exact ⟨rfl,hb⟩
abbrev L_boxes6:List Nat:=[34,35,36,37,38,39,40,41,42,43,44,8]
def o0_boxes6:Oper:=⟨some 34,.fieldAddr 29 (.tmp 6) 0,0, "law.go:98",#[],none⟩
def o1_boxes6:Oper:=⟨some 35,.load 27 (.tmp 34),27, "law.go:98",#[⟨0,.data⟩],none⟩
def o2_boxes6:Oper:=⟨some 36,.fieldAddr 29 (.tmp 5) 0,0, "law.go:98",#[],none⟩
def o3_boxes6:Oper:=⟨some 37,.load 27 (.tmp 36),27, "law.go:98",#[⟨2,.data⟩],none⟩
def o4_boxes6:Oper:=⟨some 38,.call ⟨.value (.func 38),#[.tmp 35,.tmp 37],#[27,27]⟩,27, "law.go:98",#[⟨1,.data⟩,⟨3,.data⟩],none⟩
def o5_boxes6:Oper:=⟨some 39,.fieldAddr 29 (.tmp 6) 1,0, "law.go:98",#[],none⟩
def o6_boxes6:Oper:=⟨some 40,.load 27 (.tmp 39),27, "law.go:98",#[⟨5,.data⟩],none⟩
def o7_boxes6:Oper:=⟨some 41,.fieldAddr 29 (.tmp 5) 1,0, "law.go:98",#[],none⟩
def o8_boxes6:Oper:=⟨some 42,.load 27 (.tmp 41),27, "law.go:98",#[⟨7,.data⟩],none⟩
def o9_boxes6:Oper:=⟨some 43,.call ⟨.value (.func 38),#[.tmp 40,.tmp 42],#[27,27]⟩,27, "law.go:98",#[⟨6,.data⟩,⟨8,.data⟩,⟨4,.chain⟩],none⟩
def o10_boxes6:Oper:=⟨some 44,.call ⟨.value (.func 37),#[.tmp 38,.tmp 43],#[27,27]⟩,27, "law.go:98",#[⟨4,.data⟩,⟨9,.data⟩,⟨9,.chain⟩],none⟩
def o11_boxes6:Oper:=⟨some 8,.alloc 27,0, "law.go:98",#[],none⟩
def o12_boxes6:Oper:=⟨none,.store 27 (.tmp 8) (.tmp 44),0, "law.go:98",#[⟨11,.data⟩,⟨10,.data⟩,⟨10,.chain⟩,⟨0,.phase⟩,⟨1,.phase⟩,⟨2,.phase⟩,⟨3,.phase⟩,⟨4,.phase⟩,⟨5,.phase⟩,⟨6,.phase⟩,⟨7,.phase⟩,⟨8,.phase⟩,⟨9,.phase⟩,⟨10,.phase⟩,⟨11,.phase⟩],none⟩
def F_boxes6 (gp:Nat) (gq:Nat) (x0:Rat) (y0:Rat) (x1:Rat) (y1:Rat) (s_q:Bool) (t_q:Bool) (A_q:Option Addr) (B_q:Option Addr) (E_q:Option Addr) (F_q:Option Addr) (n_q:Nat) (c_q:Nat) (m_q:Nat) (d_q:Nat) (i_q:Nat) (e_q:Nat) (j_q:Nat) (f_q:Nat) (s_r:Bool) (t_r:Bool) (A_r:Option Addr) (B_r:Option Addr) (E_r:Option Addr) (F_r:Option Addr) (n_r:Nat) (c_r:Nat) (m_r:Nat) (d_r:Nat) (i_r:Nat) (e_r:Nat) (j_r:Nat) (f_r:Nat) (sl:Nat):Value→World→Prop :=
 match sl with
 | 34=>fun x _=>x=Value.pointer (some ⟨gq,0,none⟩)
 | 35=>fun x _=>x=Value.agg #[.bool s_r,.slice A_r n_r c_r,.slice B_r m_r d_r]
 | 36=>fun x _=>x=Value.pointer (some ⟨gp,0,none⟩)
 | 37=>fun x _=>x=Value.agg #[.bool s_q,.slice A_q n_q c_q,.slice B_q m_q d_q]
 | 38=>VQ (x1 - x0) (6+6+1)
 | 39=>fun x _=>x=Value.pointer (some ⟨gq,3,none⟩)
 | 40=>fun x _=>x=Value.agg #[.bool t_r,.slice E_r i_r e_r,.slice F_r j_r f_r]
 | 41=>fun x _=>x=Value.pointer (some ⟨gp,3,none⟩)
 | 42=>fun x _=>x=Value.agg #[.bool t_q,.slice E_q i_q e_q,.slice F_q j_q f_q]
 | 43=>VQ (y1 - y0) (6+6+1)
 | 44=>VQ ((x1 - x0)*(y1 - y0)) (6+6+1+(6+6+1))
 | _=>fun _ _=>True
def B0_boxes6 (x0:Rat) (y0:Rat) (x1:Rat) (y1:Rat):BoxOp :=
 ⟨11,12,8,27,#[.bool false,.slice none 0 0,.slice none 0 0],fun cs w=>∃ s A n c B m d,cs=#[.bool s,.slice A n c,.slice B m d]∧QG w s A n c B m d ((x1 - x0)*(y1 - y0)) (6+6+1+(6+6+1))⟩
theorem boxes6_region {id:Nat} {ac:Act} {Q:Exit→Act→World→Prop} {gp gq:Nat} {x0 y0 x1 y1:Rat} 
 (hsz:44 < ac.tmps.size) (e5:ac.eval (.tmp 5)=Value.pointer (some ⟨gp,0,none⟩)) (e6:ac.eval (.tmp 6)=Value.pointer (some ⟨gq,0,none⟩)) (Y:B6 w gp (.bool s_q) (.slice A_q n_q c_q) (.slice B_q m_q d_q) (.bool t_q) (.slice E_q i_q e_q) (.slice F_q j_q f_q)) (Z:B6 w gq (.bool s_r) (.slice A_r n_r c_r) (.slice B_r m_r d_r) (.bool t_r) (.slice E_r i_r e_r) (.slice F_r j_r f_r)) (q:PR w s_q A_q n_q c_q B_q m_q d_q t_q E_q i_q e_q F_q j_q f_q x0 y0 6) (r:PR w s_r A_r n_r c_r B_r m_r d_r t_r E_r i_r e_r F_r j_r f_r x1 y1 6)
 (hend:∀ (V:Nat→Value) (w':World) (g0:Nat) (s0:Bool) (A0:Option Addr) (n0:Nat) (c0:Nat) (B0:Option Addr) (m0:Nat) (d0:Nat),QG w' s0 A0 n0 c0 B0 m0 d0 ((x1 - x0)*(y1 - y0)) (6+6+1+(6+6+1))→B3 w' g0 (.bool s0) (.slice A0 n0 c0) (.slice B0 m0 d0)→w.heap.size≤g0→V 8=.pointer (some ⟨g0,0,none⟩)→Below w.heap.size w w'→Q .normal (putAll ac [34,35,36,37,38,39,40,41,42,43,44,8] V) w') :
 (Code.region id #[o0_boxes6,o1_boxes6,o2_boxes6,o3_boxes6,o4_boxes6,o5_boxes6,o6_boxes6,o7_boxes6,o8_boxes6,o9_boxes6,o10_boxes6,o11_boxes6,o12_boxes6] true).wp Tryz.prog Q ac w:=by
 have hnd:L_boxes6.Nodup:=by decide
 have G:∀ (sv:Nat→Value) (t:Nat),t ∈ L_boxes6→t≤44→(putAll ac L_boxes6 sv).eval (.tmp t)=sv t:=fun sv t ht h=>eval_putAll_mem (t:=t) L_boxes6 ac hnd ht (Nat.lt_of_le_of_lt h hsz)
 have E5:∀ sv:Nat→Value,(putAll ac L_boxes6 sv).eval (.tmp 5)=Value.pointer (some ⟨gp,0,none⟩):=fun sv=>(eval_putAll_not (v:=sv) L_boxes6 ac (show 5 ∉ _ by decide)).trans e5
 have E6:∀ sv:Nat→Value,(putAll ac L_boxes6 sv).eval (.tmp 6)=Value.pointer (some ⟨gq,0,none⟩):=fun sv=>(eval_putAll_not (v:=sv) L_boxes6 ac (show 6 ∉ _ by decide)).trans e6
 have NE:∀ t:Nat,(t ≠ 8)→∀ p ∈ [B0_boxes6 x0 y0 x1 y1],t ≠ p.tA:=by
  intro t ht p hp
  simp only [List.mem_cons,List.not_mem_nil,or_false] at hp
  rcases hp with rfl
  · exact ht
 refine wp_region_flowsT L_boxes6 [B0_boxes6 x0 y0 x1 y1] (F_boxes6 gp gq x0 y0 x1 y1 s_q t_q A_q B_q E_q F_q n_q c_q m_q d_q i_q e_q j_q f_q s_r t_r A_r B_r E_r F_r n_r c_r m_r d_r i_r e_r j_r f_r) (by kernel_rfl) (by kernel_rfl) rfl hnd ?_ ?_ ?_ ?_ ?_ ?_ ?_ ?_
 · intro p hp
   simp only [List.mem_cons,List.not_mem_nil,or_false] at hp
   rcases hp with rfl
   · refine ⟨⟨o11_boxes6,rfl,rfl,rfl,fun e w'=>run_allocQ⟩,⟨o12_boxes6,rfl,rfl,rfl,⟨11,.data⟩,by simp [o12_boxes6],rfl,rfl⟩,free3 _ _ _ _ _ _ _,?_,?_⟩
     · rintro cs w1 w2 ⟨s_,A_,n_,c_,B_,m_,d_,rfl,h⟩ hb;exact ⟨s_,A_,n_,c_,B_,m_,d_,rfl,h.below hb⟩
     · rintro T cs w1 w2 g c0 ⟨s_,A_,n_,c_,B_,m_,d_,rfl,h⟩ hB ho;exact ⟨s_,A_,n_,c_,B_,m_,d_,rfl,h.box hB ho⟩
 · intro p hp q hq h
   simp only [List.mem_cons,List.not_mem_nil,or_false] at hp hq
   rcases hp with rfl <;> rcases hq with rfl
   · rfl
 · intro p hp q hq h
   simp only [List.mem_cons,List.not_mem_nil,or_false] at hp hq
   rcases hp with rfl <;> rcases hq with rfl
   · rfl
 · intro i o h1 h2
   match i,h1 with
   | 0,h1=>cases h1;cases h2
   | 1,h1=>cases h1;cases h2
   | 2,h1=>cases h1;cases h2
   | 3,h1=>cases h1;cases h2
   | 4,h1=>cases h1;cases h2
   | 5,h1=>cases h1;cases h2
   | 6,h1=>cases h1;cases h2
   | 7,h1=>cases h1;cases h2
   | 8,h1=>cases h1;cases h2
   | 9,h1=>cases h1;cases h2
   | 10,h1=>cases h1;cases h2
   | 11,h1=>cases h1;cases h2
   | 12,h1=>exact ⟨B0_boxes6 x0 y0 x1 y1,List.Mem.head _,rfl⟩
   | i+13,h1=>cases h1
 · intro t
   unfold F_boxes6
   split <;> first | exact (stays_eq _).inn _ | exact (stays_q _ _).inn _ | exact (stays_z _ _).inn _ | exact (stays_r _ _).inn _ | exact (stays_rq _ _).inn _ | exact (stays_pg _ _ _).inn _ | exact (stays_true).inn _
 · intro i o t sv w' ho hia hd J0 hf
   have Y:=Y.below J0;have Z:=Z.below J0;have q:=q.below J0;have r:=r.below J0
   match i,ho with
   | 0,ho =>
     obtain rfl:o0_boxes6=o:=Option.some.inj ho
     cases hd
     refine wpOp_plain' (o:=o0_boxes6) rfl rfl ?_
     unfold Oper.wp o0_boxes6
     rw [run_fp0 (E6 sv),Oper.upon_value]
     exact ⟨_,rfl,Below.refl _ _,rfl⟩
   | 1,ho =>
     obtain rfl:o1_boxes6=o:=Option.some.inj ho
     cases hd
     have f34:sv 34=Value.pointer (some ⟨gq,0,none⟩):=hf ⟨0,.data⟩ (by simp [o1_boxes6]) rfl _ 34 rfl rfl (NE _ (by decide))
     refine wpOp_plain' (o:=o1_boxes6) rfl rfl ?_
     unfold Oper.wp o1_boxes6
     rw [run_loadP0 ((G sv 34 (by decide) (by decide)).trans f34) Z,Oper.upon_value]
     exact ⟨_,rfl,Below.refl _ _,rfl⟩
   | 2,ho =>
     obtain rfl:o2_boxes6=o:=Option.some.inj ho
     cases hd
     refine wpOp_plain' (o:=o2_boxes6) rfl rfl ?_
     unfold Oper.wp o2_boxes6
     rw [run_fp0 (E5 sv),Oper.upon_value]
     exact ⟨_,rfl,Below.refl _ _,rfl⟩
   | 3,ho =>
     obtain rfl:o3_boxes6=o:=Option.some.inj ho
     cases hd
     have f36:sv 36=Value.pointer (some ⟨gp,0,none⟩):=hf ⟨2,.data⟩ (by simp [o3_boxes6]) rfl _ 36 rfl rfl (NE _ (by decide))
     refine wpOp_plain' (o:=o3_boxes6) rfl rfl ?_
     unfold Oper.wp o3_boxes6
     rw [run_loadP0 ((G sv 36 (by decide) (by decide)).trans f36) Y,Oper.upon_value]
     exact ⟨_,rfl,Below.refl _ _,rfl⟩
   | 4,ho =>
     obtain rfl:o4_boxes6=o:=Option.some.inj ho
     cases hd
     have f35:sv 35=Value.agg #[.bool s_r,.slice A_r n_r c_r,.slice B_r m_r d_r]:=hf ⟨1,.data⟩ (by simp [o4_boxes6]) rfl _ 35 rfl rfl (NE _ (by decide))
     have f37:sv 37=Value.agg #[.bool s_q,.slice A_q n_q c_q,.slice B_q m_q d_q]:=hf ⟨3,.data⟩ (by simp [o4_boxes6]) rfl _ 37 rfl rfl (NE _ (by decide))
     refine wpOp_plain' (o:=o4_boxes6) rfl rfl ?_
     unfold Oper.wp o4_boxes6
     rw [rc_gesso_rat_Sub ((G sv 35 (by decide) (by decide)).trans f35) ((G sv 37 (by decide) (by decide)).trans f37) rfl,Oper.upon_enter]
     refine (rsub_q r.qx q.qx (by decide) (by decide) (.inl (by decide)) (by decide) (by decide)).mono ?_
     rintro e w1 ⟨s_,A_,n_,c_,B_,m_,d_,rfl,hq,hh⟩
     exact ⟨_,rfl,hh,s_,A_,n_,c_,B_,m_,d_,rfl,hq⟩
   | 5,ho =>
     obtain rfl:o5_boxes6=o:=Option.some.inj ho
     cases hd
     refine wpOp_plain' (o:=o5_boxes6) rfl rfl ?_
     unfold Oper.wp o5_boxes6
     rw [run_fp1 (E6 sv),Oper.upon_value]
     exact ⟨_,rfl,Below.refl _ _,rfl⟩
   | 6,ho =>
     obtain rfl:o6_boxes6=o:=Option.some.inj ho
     cases hd
     have f39:sv 39=Value.pointer (some ⟨gq,3,none⟩):=hf ⟨5,.data⟩ (by simp [o6_boxes6]) rfl _ 39 rfl rfl (NE _ (by decide))
     refine wpOp_plain' (o:=o6_boxes6) rfl rfl ?_
     unfold Oper.wp o6_boxes6
     rw [run_loadP1 ((G sv 39 (by decide) (by decide)).trans f39) Z,Oper.upon_value]
     exact ⟨_,rfl,Below.refl _ _,rfl⟩
   | 7,ho =>
     obtain rfl:o7_boxes6=o:=Option.some.inj ho
     cases hd
     refine wpOp_plain' (o:=o7_boxes6) rfl rfl ?_
     unfold Oper.wp o7_boxes6
     rw [run_fp1 (E5 sv),Oper.upon_value]
     exact ⟨_,rfl,Below.refl _ _,rfl⟩
   | 8,ho =>
     obtain rfl:o8_boxes6=o:=Option.some.inj ho
     cases hd
     have f41:sv 41=Value.pointer (some ⟨gp,3,none⟩):=hf ⟨7,.data⟩ (by simp [o8_boxes6]) rfl _ 41 rfl rfl (NE _ (by decide))
     refine wpOp_plain' (o:=o8_boxes6) rfl rfl ?_
     unfold Oper.wp o8_boxes6
     rw [run_loadP1 ((G sv 41 (by decide) (by decide)).trans f41) Y,Oper.upon_value]
     exact ⟨_,rfl,Below.refl _ _,rfl⟩
   | 9,ho =>
     obtain rfl:o9_boxes6=o:=Option.some.inj ho
     cases hd
     have f40:sv 40=Value.agg #[.bool t_r,.slice E_r i_r e_r,.slice F_r j_r f_r]:=hf ⟨6,.data⟩ (by simp [o9_boxes6]) rfl _ 40 rfl rfl (NE _ (by decide))
     have f42:sv 42=Value.agg #[.bool t_q,.slice E_q i_q e_q,.slice F_q j_q f_q]:=hf ⟨8,.data⟩ (by simp [o9_boxes6]) rfl _ 42 rfl rfl (NE _ (by decide))
     refine wpOp_plain' (o:=o9_boxes6) rfl rfl ?_
     unfold Oper.wp o9_boxes6
     rw [rc_gesso_rat_Sub ((G sv 40 (by decide) (by decide)).trans f40) ((G sv 42 (by decide) (by decide)).trans f42) rfl,Oper.upon_enter]
     refine (rsub_q r.qy q.qy (by decide) (by decide) (.inl (by decide)) (by decide) (by decide)).mono ?_
     rintro e w1 ⟨s_,A_,n_,c_,B_,m_,d_,rfl,hq,hh⟩
     exact ⟨_,rfl,hh,s_,A_,n_,c_,B_,m_,d_,rfl,hq⟩
   | 10,ho =>
     obtain rfl:o10_boxes6=o:=Option.some.inj ho
     cases hd
     have h38:VQ (x1 - x0) (6+6+1) (sv 38) w':=hf ⟨4,.data⟩ (by simp [o10_boxes6]) rfl _ 38 rfl rfl (NE _ (by decide))
     obtain ⟨s38_,A38_,n38_,c38_,B38_,m38_,d38_,f38,q38⟩:=h38
     have h43:VQ (y1 - y0) (6+6+1) (sv 43) w':=hf ⟨9,.data⟩ (by simp [o10_boxes6]) rfl _ 43 rfl rfl (NE _ (by decide))
     obtain ⟨s43_,A43_,n43_,c43_,B43_,m43_,d43_,f43,q43⟩:=h43
     refine wpOp_plain' (o:=o10_boxes6) rfl rfl ?_
     unfold Oper.wp o10_boxes6
     rw [rc_gesso_rat_Mul ((G sv 38 (by decide) (by decide)).trans f38) ((G sv 43 (by decide) (by decide)).trans f43) rfl,Oper.upon_enter]
     refine (rmul_q q38.qr q43.qr (by decide) (by decide) (.inl (by decide)) (by decide) (by decide)).mono ?_
     rintro e w1 ⟨s_,A_,n_,c_,B_,m_,d_,rfl,hq,hh⟩
     exact ⟨_,rfl,hh,s_,A_,n_,c_,B_,m_,d_,rfl,hq⟩
   | 11,ho=>cases ho;cases hd;exact absurd rfl (hia (B0_boxes6 x0 y0 x1 y1) (List.Mem.head _))
   | 12,ho=>cases ho;cases hd
   | i+13,ho=>cases ho
 · intro p hp os sv w' g hos J0 p1 p3 hf
   simp only [List.mem_cons,List.not_mem_nil,or_false] at hp
   rcases hp with rfl
   · obtain rfl:o12_boxes6=os:=Option.some.inj hos
     have h1:VQ ((x1 - x0)*(y1 - y0)) (6+6+1+(6+6+1)) (sv 44) w':=hf ⟨10,.data⟩ (by simp [o12_boxes6]) rfl _ 44 rfl rfl (NE _ (by decide))
     rw [← G sv 44 (by decide) (by decide)] at h1
     refine store_q (V:=(x1 - x0)*(y1 - y0)) (k:=6+6+1+(6+6+1)) (ac:=putAll ac L_boxes6 sv) (z:=.tmp 44) ?_ ?_ ?_
     · exact (G sv 8 (by decide) (by decide)).trans p1
     · exact h1
     · exact p3
 · intro sv w' J0 hF hB hap
   obtain ⟨g0,cs0,p0,r0,b0,⟨s0,A0,n0,c0,B0,m0,d0,rfl,h0⟩⟩:=hB (B0_boxes6 x0 y0 x1 y1) (List.Mem.head _)
   have p0':sv 8=.pointer (some ⟨g0,0,none⟩):=p0
   exact hend sv w' g0 _ _ _ _ _ _ _ h0 b0.at_ r0 p0'   J0
end
end Go.Proofs.YtghmejlikfiegaaGreat
