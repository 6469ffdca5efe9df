/- AreaCuts: part 19. -/
import Derived.Test.YthbhngeiiabagaaGreatKAreaCuts12
import Derived.Test.YthbhngeiiabagaaGreatKAreaCuts14
import Derived.Test.YthbhngeiiabagaaGreatKAreaCuts16
import Derived.Test.YthbhngeiiabagaaGreatKAreaCuts17
import Derived.Test.YthbhngeiiabagaaGreatKAreaCuts18
set_option linter.unusedVariables false
set_option maxRecDepth 100000
set_option maxHeartbeats 16000000
variable {w:Go.World}
variable {s_p t_p:Bool} {A_p B_p E_p F_p:Option Go.Addr} {n_p c_p m_p d_p i_p e_p j_p f_p:Nat}
variable {s_q t_q:Bool} {A_q B_q E_q F_q:Option Go.Addr} {n_q c_q m_q d_q i_q e_q j_q f_q:Nat}
variable {s_r t_r:Bool} {A_r B_r E_r F_r:Option Go.Addr} {n_r c_r m_r d_r i_r e_r j_r f_r:Nat}
namespace Go.Proofs.YthbhngeiiabagaaGreat
section
open Go Go.RowKit
theorem Qou {k:Nat} {ax ay bx by_ cx cy:Rat} (p:PR w s_p A_p n_p c_p B_p m_p d_p t_p E_p i_p e_p F_p j_p f_p ax ay k) (q:PR w s_q A_q n_q c_q B_q m_q d_q t_q E_q i_q e_q F_q j_q f_q bx by_ k) (r:PR w s_r A_r n_r c_r B_r m_r d_r t_r E_r i_r e_r F_r j_r f_r cx cy k) (hk:k≤4000) (h1:1≤k) :
 Calls Tryz.prog 18 #[.agg #[.bool s_p,.slice A_p n_p c_p,.slice B_p m_p d_p,.bool t_p,.slice E_p i_p e_p,.slice F_p j_p f_p],.agg #[.bool s_q,.slice A_q n_q c_q,.slice B_q m_q d_q,.bool t_q,.slice E_q i_q e_q,.slice F_q j_q f_q],.agg #[.bool s_r,.slice A_r n_r c_r,.slice B_r m_r d_r,.bool t_r,.slice E_r i_r e_r,.slice F_r j_r f_r]] w fun e w'=>e=.returned (.int .i64 (Qbz ax ay bx by_ cx cy))∧Below w.heap.size w w':=by
 go_enter Tryz.func18,Tryz.ntmps18
 go_upto_region 1 with (fail)
 generalize hW:World.alloc _ _=W
 obtain ⟨hb,XA,XB,XC,hzW⟩:=Qe7 hW;clear hW;replace p:=p.below hb;replace q:=q.below hb;replace r:=r.below hb
 replace p:=p.below (Below.refl _ _).drew
 replace q:=q.below (Below.refl _ _).drew
 replace r:=r.below (Below.refl _ _).drew
 replace XA:=XA.below (Below.refl _ _).drew
 replace XB:=XB.below (Below.refl _ _).drew
 replace XC:=XC.below (Below.refl _ _).drew
 replace hb:=hb.drew
 go_region_held3 (fun w'=>w'.cell? ⟨w.heap.size,0,none⟩=some (.bool s_p)∧w'.cell? ⟨w.heap.size,1,none⟩=some (.slice A_p n_p c_p)∧w'.cell? ⟨w.heap.size,2,none⟩=some (.slice B_p m_p d_p)∧w'.cell? ⟨w.heap.size,3,none⟩=some (.bool t_p)∧w'.cell? ⟨w.heap.size,4,none⟩=some (.slice E_p i_p e_p)∧w'.cell? ⟨w.heap.size,5,none⟩=some (.slice F_p j_p f_p)∧w'.cell? ⟨w.heap.size+1,0,none⟩=some (.bool s_q)∧w'.cell? ⟨w.heap.size+1,1,none⟩=some (.slice A_q n_q c_q)∧w'.cell? ⟨w.heap.size+1,2,none⟩=some (.slice B_q m_q d_q)∧w'.cell? ⟨w.heap.size+1,3,none⟩=some (.bool t_q)∧w'.cell? ⟨w.heap.size+1,4,none⟩=some (.slice E_q i_q e_q)∧w'.cell? ⟨w.heap.size+1,5,none⟩=some (.slice F_q j_q f_q)∧w'.cell? ⟨w.heap.size+1+1,0,none⟩=some (.bool s_r)∧w'.cell? ⟨w.heap.size+1+1,1,none⟩=some (.slice A_r n_r c_r)∧w'.cell? ⟨w.heap.size+1+1,2,none⟩=some (.slice B_r m_r d_r)∧w'.cell? ⟨w.heap.size+1+1,3,none⟩=some (.bool t_r)∧w'.cell? ⟨w.heap.size+1+1,4,none⟩=some (.slice E_r i_r e_r)∧w'.cell? ⟨w.heap.size+1+1,5,none⟩=some (.slice F_r j_r f_r))
  (first | with_reducible exact ⟨XA.c0,XA.c1,XA.c2,XA.c3,XA.c4,XA.c5,XB.c0,XB.c1,XB.c2,XB.c3,XB.c4,XB.c5,XC.c0,XC.c1,XC.c2,XC.c3,XC.c4,XC.c5⟩)
  (first
  | (go_at_call 46;(with_reducible refine (QfD q p (by omega) (by omega) (.inl (by omega)) (by omega) (by omega)).mono ?_);rintro e w_a ⟨s_a,A_a,n_a,c_a,B_a,m_a,d_a,t_a,E_a,i_a,e_a,F_a,j_a,f_a,rfl,a,hh⟩
     (try replace p:=p.below hh);(try replace q:=q.below hh);(try replace r:=r.below hh);(try replace b:=b.below hh);(try replace u:=u.below hh);(try replace v:=v.below hh);(try replace XA:=XA.below hh);(try replace XB:=XB.below hh);(try replace XC:=XC.below hh);replace hb:=Qaj hb hh)
  | (go_at_call 46;(with_reducible refine (QfD r p (by omega) (by omega) (.inl (by omega)) (by omega) (by omega)).mono ?_);rintro e w_b ⟨s_b,A_b,n_b,c_b,B_b,m_b,d_b,t_b,E_b,i_b,e_b,F_b,j_b,f_b,rfl,b,hh⟩
     (try replace p:=p.below hh);(try replace q:=q.below hh);(try replace r:=r.below hh);(try replace a:=a.below hh);(try replace u:=u.below hh);(try replace v:=v.below hh);(try replace XA:=XA.below hh);(try replace XB:=XB.below hh);(try replace XC:=XC.below hh);replace hb:=Qaj hb hh)
  | (go_at_call 45;(with_reducible refine (QsO a.pr b.pr (by omega) (by omega) (by omega)).mono ?_);rintro e w_u ⟨s_u,A_u,n_u,c_u,B_u,m_u,d_u,s_v,A_v,n_v,c_v,B_v,m_v,d_v,rfl,u,v,hh⟩
     (try replace p:=p.below hh);(try replace q:=q.below hh);(try replace r:=r.below hh);(try replace a:=a.below hh);(try replace b:=b.below hh);(try replace XA:=XA.below hh);(try replace XB:=XB.below hh);(try replace XC:=XC.below hh);replace hb:=Qaj hb hh)
  | (go_at_call 12;(with_reducible refine (QfC u.qr v.qr (by omega) (by omega) (.inl (by omega)) (by omega) (by omega)).mono ?_);rintro e w_z ⟨rfl,hh⟩
     (try replace p:=p.below hh);(try replace q:=q.below hh);(try replace r:=r.below hh);(try replace a:=a.below hh);(try replace b:=b.below hh);(try replace u:=u.below hh);(try replace v:=v.below hh);(try replace XA:=XA.below hh);(try replace XB:=XB.below hh);(try replace XC:=XC.below hh);replace hb:=Qaj hb hh))
 go_wp2_with fail
 go_ret;exact ⟨rfl,hb⟩
theorem QrQ {A:Option Addr} {n c k:Nat} {L:List PV} {l:List (Rat × Rat)} {px py:Rat} (hL:SV w A (pvs L)) (hE:Each PV.PR w L l k) (r:PR w s_r A_r n_r c_r B_r m_r d_r t_r E_r i_r e_r F_r j_r f_r px py k) (hn:L.length=n) (hm:n≤1000) (hnc:n≤c) (h1:1≤k) (hk:k≤4000) (R:Bool) (hR0:R=true ↔ QkC l px py) :
 Calls Tryz.prog 17 #[.slice A n c,.agg #[.bool s_r,.slice A_r n_r c_r,.slice B_r m_r d_r,.bool t_r,.slice E_r i_r e_r,.slice F_r j_r f_r]] w fun e w'=>e=.returned (.bool R)∧Below w.heap.size w w':=by
 have HN:=Lib.hid hn;have HL0:=Lib.hid hL;have E0:=Lib.hid hE;have HR0:=Lib.hid hR0;have RP0:=Lib.hid r;clear hR0
 go_enter Tryz.func17,Tryz.ntmps17
 go_upto_region 1 with (fail)
 generalize hW:World.alloc _ _=W
 obtain ⟨hb,XC,hzW⟩:=QaD hW;clear hW;replace hL:=hL.below hb;replace r:=r.below hb
 by_cases h3:n < 3
 · have h4:(n:Int) < 3:=by omega
   have HF:Hid (false=R):=by
    show _=_
    cases R with
    | false=>rfl
    | true=>exact absurd (HR0.out.1 rfl).1 (by rw [← E0.out.1,HN.out];omega)
   clear h3
   go_wp2_with fail
   (try rw [Exit.noGoto_ret])
   go_ret
   exact ⟨by rw [← HF.out];rfl,hb⟩
 · have h4:¬ (n:Int) < 3:=by omega
   go_upto_region 4 with (first
    | (go_at_call 36;(with_reducible refine (Qe1 hL hn (by omega) hnc (Nat.le_refl _)).mono ?_);rintro e w_z ⟨A1,c1,rfl,hR1_,hh⟩
       (try replace XC:=XC.below hh);(try replace r:=r.below hh);replace hb:=Qaj hb hh))
   have hR0:=hR1_;clear hR1_
   rw [show n+min 1 n=(Qav L).length by unfold Qav;rw [List.length_append,List.length_take,hn,Nat.min_comm]]
   have HR1:Hid ((Qav L).length=n+min 1 n):=by show _=_;unfold Qav;rw [List.length_append,List.length_take,hn,Nat.min_comm]
   generalize hN1:(Qav L).length=N1 at HR1 ⊢
   have HR2:=Lib.hid hN1;clear hN1 hL hE
   go_wp2_with fail
   go_loopg [15] n (fun gk ix wr=>∃ (m:Nat),Hid (gk+m=n)∧ix=.int .i64 (m:Int)∧Hid (∀ i,i < m→∀ u v,(Qav l)[i]?=some u→(Qav l)[i+1]?=some v→0≤Qbz u.1 u.2 v.1 v.2 px py)∧SNr 29 W.heap.size n (pvs (Qav L)) wr A1∧B6 wr w.heap.size (.bool s_r) (.slice A_r n_r c_r) (.slice B_r m_r d_r) (.bool t_r) (.slice E_r i_r e_r) (.slice F_r j_r f_r)∧Below w.heap.size w wr)
   case atStart=>exact ⟨0,Nat.add_zero _,rfl,fun i hi=>absurd hi (by omega),hR0,XC,hb⟩
   case round =>
    clear hR0 r XC
    obtain ⟨m,HG,rfl,HS,hR,XC,hb⟩:=hrel
    have r:=PR.below RP0.out hb
    by_cases hmn:m < n
    · have HMN:=Lib.hid hmn
      obtain ⟨P,u,hP1,hu1,p⟩:=(E0.out.imp (fun p u h=>PR.below h hb)).at_ (i:=m) (by rw [HN.out];exact hmn)
      obtain ⟨Q,v,hP2,hu2,q⟩:=(E0.out.imp (fun p u h=>PR.below h hb)).ring.at_ (i:=m+1) (by have h:=HR1.out;have h2:=HR2.out;rw [h2,h];omega)
      have hv1:(Qav l)[m]?=some u:=by rw [Qeb (by rw [← E0.out.1,HN.out];exact hmn)];exact hu1
      obtain ⟨g0,o0,hix0,E,_⟩:=(HL0.out.below hb).pt hP1
      obtain ⟨g1,o1,hix1,E',o1_,hA1⟩:=(hR.sv (by omega)).pt hP2
      have hixa:∀ w',(Instr.indexAt 22 (.slice A n c) (.int .i64 (m:Int))).run Tryz.prog w'=.ok (.pointer (some ⟨g0,o0,none⟩)) w':=fun w'=>hix0 n c w' hmn
      have hixb:∀ w',(Instr.indexAt 22 (.slice A1 N1 c1) (.int .i64 ((m:Int)+1))).run Tryz.prog w'=.ok (.pointer (some ⟨g1,o1,none⟩)) w':=fun w'=>hix1 N1 c1 w' (by have:=HR1.out;omega)
      have hwr:IntKind.i64.wrap ((m:Int)+1)=(m:Int)+1:=IntWalk.i64_in _ (by omega)
      have hlt:(m:Int) < (n:Int):=by omega
      have HU:=Lib.hid hv1;have HV:=Lib.hid hu2
      obtain ⟨ux,uy⟩:=u
      obtain ⟨vx,vy⟩:=v
      obtain ⟨s_p,A_p,n_p,c_p,B_p,m_p,d_p,t_p,E_p,i_p,e_p,F_p,j_p,f_p⟩:=P
      obtain ⟨s_q,A_q,n_q,c_q,B_q,m_q,d_q,t_q,E_q,i_q,e_q,F_q,j_q,f_q⟩:=Q
      replace p:PR wr s_p A_p n_p c_p B_p m_p d_p t_p E_p i_p e_p F_p j_p f_p ux uy k:=p
      replace q:PR wr s_q A_q n_q c_q B_q m_q d_q t_q E_q i_q e_q F_q j_q f_q vx vy k:=q
      have hx1:w.heap.size < wr.heap.size:=XC.lt
      obtain ⟨e0,e1,e2,e3,e4,e5⟩:=E.all
      simp only at e0 e1 e2 e3 e4 e5
      obtain ⟨K,hK⟩:∃ K,Qbz ux uy vx vy px py=K:=⟨_,rfl⟩
      have HK:=Lib.hid hK;clear hK hP1 hP2 hu1 hu2 hix0 hix1 hA1 hv1 hmn
      go_upto_region 7 with (fail)
      generalize hW:World.alloc _ _=W2
      obtain ⟨hh,X,hzW2⟩:=QaD hW;clear hW;(try replace p:=p.below hh);(try replace q:=q.below hh);(try replace r:=r.below hh);(try replace hR:=hR.below hh);(try replace XC:=XC.below hh)
      try replace E':=E'.below hh
      replace hb:=Qaj hb hh
      replace p:=p.below (Below.refl _ _).drew
      replace q:=q.below (Below.refl _ _).drew
      replace r:=r.below (Below.refl _ _).drew
      replace hR:=hR.below (Below.refl _ _).drew
      replace XC:=XC.below (Below.refl _ _).drew
      replace E':=E'.below (Below.refl _ _).drew
      replace X:=X.below (Below.refl _ _).drew
      replace hb:=hb.drew
      go_region_held3 (fun w'=>w'.cell? ⟨wr.heap.size,0,none⟩=some (.bool s_p)∧w'.cell? ⟨wr.heap.size,1,none⟩=some (.slice A_p n_p c_p)∧w'.cell? ⟨wr.heap.size,2,none⟩=some (.slice B_p m_p d_p)∧w'.cell? ⟨wr.heap.size,3,none⟩=some (.bool t_p)∧w'.cell? ⟨wr.heap.size,4,none⟩=some (.slice E_p i_p e_p)∧w'.cell? ⟨wr.heap.size,5,none⟩=some (.slice F_p j_p f_p)∧w'.cell? ⟨w.heap.size,0,none⟩=some (.bool s_r)∧w'.cell? ⟨w.heap.size,1,none⟩=some (.slice A_r n_r c_r)∧w'.cell? ⟨w.heap.size,2,none⟩=some (.slice B_r m_r d_r)∧w'.cell? ⟨w.heap.size,3,none⟩=some (.bool t_r)∧w'.cell? ⟨w.heap.size,4,none⟩=some (.slice E_r i_r e_r)∧w'.cell? ⟨w.heap.size,5,none⟩=some (.slice F_r j_r f_r)∧w'.cell? ⟨g1,o1,none⟩=some (.bool s_q)∧w'.cell? ⟨g1,o1+1,none⟩=some (.slice A_q n_q c_q)∧w'.cell? ⟨g1,o1+2,none⟩=some (.slice B_q m_q d_q)∧w'.cell? ⟨g1,o1+3,none⟩=some (.bool t_q)∧w'.cell? ⟨g1,o1+4,none⟩=some (.slice E_q i_q e_q)∧w'.cell? ⟨g1,o1+5,none⟩=some (.slice F_q j_q f_q))
       (first | with_reducible exact ⟨X.c0,X.c1,X.c2,X.c3,X.c4,X.c5,XC.c0,XC.c1,XC.c2,XC.c3,XC.c4,XC.c5,E'.c0,E'.c1,E'.c2,E'.c3,E'.c4,E'.c5⟩)
       (first
       | (go_at_call 18;(with_reducible refine (Qou p q r hk h1).mono ?_);rintro e w_z ⟨rfl,hh⟩
          rw [HK.out];(try replace p:=p.below hh);(try replace q:=q.below hh);(try replace r:=r.below hh);(try replace hR:=hR.below hh);(try replace XC:=XC.below hh)
          try replace E':=E'.below hh
          (try replace X:=X.below hh);replace hb:=Qaj hb hh))
      by_cases hK2:K < 0
      · have HF : Hid (false = R) := by
          show _=_
          cases R with
          | false=>rfl
          | true =>
            have:=(HR0.out.1 rfl).2 m _ _ HU.out HV.out
            rw [show Qbz (ux,uy).1 (ux,uy).2 (vx,vy).1 (vx,vy).2 px py=K from HK.out] at this
            omega
        go_wp2_with fail
        (try rw [Exit.noGoto_ret])
        go_ret
        exact ⟨by rw [← HF.out];rfl,hb⟩
      · have HK2:=Lib.hid hK2
        go_wp2_with fail
        go_roundg (gk - 1)
        case measure=>have:=HG.out;have:=HMN.out;omega
        case rel =>
         refine ⟨m+1,by have:=HG.out;have:=HMN.out;show _=_;omega,by go_num,fun i hi u v h5 h6=>?_,hR,XC,hb⟩
         rcases Nat.lt_or_ge i m with h | h
         · exact HS.out i h u v h5 h6
         · obtain rfl:i=m:=by omega
           rw [HU.out] at h5;rw [HV.out] at h6
           cases h5;cases h6
           rw [show Qbz (ux,uy).1 (ux,uy).2 (vx,vy).1 (vx,vy).2 px py=K from HK.out]
           have:=HK2.out;omega
    · have hlt:¬ (m:Int) < (n:Int):=by omega
      have HT:Hid (true=R):=by
       refine (HR0.out.2 ⟨by rw [← E0.out.1,HN.out];omega,fun i u v h5 h6=>HS.out i ?_ u v h5 h6⟩).symm
       have h7:=(List.getElem?_eq_some_iff.1 h6).1
       rw [QbK l (by rw [← E0.out.1,HN.out];omega),← E0.out.1,HN.out] at h7
       omega
      clear hmn
      go_wp2_with fail
      (try rw [Exit.noGoto_ret])
      go_ret
      exact ⟨by rw [← HT.out];rfl,hb⟩
theorem Qlw (f:Rat × Rat→Rat) (r:List (Rat × Rat)):∀ m,(QcI f r m).length≤2*m
 | 0=>Nat.le_refl _
 | m+1=>by
   have:=Qlw f r m
   rw [QcI,List.length_append]
   have h2:(QaM f (r.getD m (0,0)) (r.getD (m+1) (0,0))).length≤2:=by
    unfold QaM
    rw [List.length_append]
    split <;> split <;> simp
   omega
theorem QiT (f:Rat × Rat→Rat) (l:List (Rat × Rat)):(QaH f l).length≤2*l.length:=Qlw f _ _
end
section
open Go Go.RowKit
abbrev L_rc5:List Nat:=[15,16,17,18,19,20,21,22,23,24,25,26,5,6]
def Qlb:Oper:=⟨some 15,.move (.tmp 0),34, "ref.go:22",#[],none⟩
def QlQ:Oper:=⟨some 16,.move (.tmp 4),3, "ref.go:22",#[],none⟩
def QhH:Oper:=⟨some 17,.indexAddr 34 (.tmp 15) (.tmp 16),0, "ref.go:22",#[⟨0,.data⟩,⟨1,.data⟩],none⟩
def QjQ:Oper:=⟨some 18,.load 44 (.tmp 17),44, "ref.go:22",#[⟨2,.data⟩],none⟩
def QlH:Oper:=⟨some 19,.move (.tmp 0),34, "ref.go:22",#[⟨14,.gcOnly .lateStores⟩],none⟩
def Qlh:Oper:=⟨some 20,.move (.tmp 4),3, "ref.go:22",#[⟨14,.gcOnly .lateStores⟩],none⟩
def QjR:Oper:=⟨some 21,.binOp BinOp.add 3 (.tmp 20) (.const (Value.int IntKind.i64 1)) 3,3, "ref.go:22",#[⟨5,.data⟩,⟨14,.gcOnly .lateStores⟩],none⟩
def QlS:Oper:=⟨some 22,.move (.tmp 0),34, "ref.go:22",#[],none⟩
def QjG:Oper:=⟨some 23,.call ⟨.builtin Builtin.len,#[.tmp 22],#[34]⟩,3, "ref.go:22",#[⟨7,.data⟩],none⟩
def Qht:Oper:=⟨some 24,.binOp BinOp.rem 3 (.tmp 21) (.tmp 23) 3,3, "ref.go:22",#[⟨6,.data⟩,⟨8,.data⟩,⟨14,.gcOnly .lateStores⟩],none⟩
def Qft:Oper:=⟨some 25,.indexAddr 34 (.tmp 19) (.tmp 24),0, "ref.go:22",#[⟨4,.data⟩,⟨9,.data⟩,⟨14,.gcOnly .lateStores⟩],none⟩
def QgQ:Oper:=⟨some 26,.load 44 (.tmp 25),44, "ref.go:22",#[⟨10,.data⟩,⟨14,.gcOnly .lateStores⟩],none⟩
def Qm3:Oper:=⟨some 5,.alloc 44,0, "ref.go:22",#[],none⟩
def QoG:Oper:=⟨some 6,.alloc 44,0, "ref.go:22",#[],none⟩
def QgS:Oper:=⟨none,.store 44 (.tmp 5) (.tmp 18),0, "ref.go:22",#[⟨12,.data⟩,⟨3,.data⟩,⟨0,.phase⟩,⟨1,.phase⟩,⟨2,.phase⟩,⟨3,.phase⟩,⟨4,.textOnly .lateStores⟩,⟨5,.textOnly .lateStores⟩,⟨6,.textOnly .lateStores⟩,⟨7,.textOnly .lateStores⟩,⟨8,.textOnly .lateStoresUnsure⟩,⟨9,.textOnly .lateStores⟩,⟨10,.textOnly .lateStores⟩,⟨11,.textOnly .lateStores⟩,⟨12,.phase⟩,⟨13,.phase⟩],none⟩
def Qgt:Oper:=⟨none,.store 44 (.tmp 6) (.tmp 26),0, "ref.go:22",#[⟨13,.data⟩,⟨11,.data⟩,⟨14,.chain⟩,⟨0,.phase⟩,⟨1,.phase⟩,⟨2,.phase⟩,⟨3,.phase⟩,⟨4,.phase⟩,⟨5,.phase⟩,⟨6,.phase⟩,⟨7,.phase⟩,⟨8,.phase⟩,⟨9,.phase⟩,⟨10,.phase⟩,⟨11,.phase⟩,⟨12,.phase⟩,⟨13,.phase⟩,⟨14,.phase⟩],none⟩
def F_rc5 (A1:Option Addr) (N1:Nat) (c1:Nat) (m:Nat) (g0:Nat) (o0:Nat) (g1:Nat) (o1:Nat) (s_p:Bool) (t_p:Bool) (A_p:Option Addr) (B_p:Option Addr) (E_p:Option Addr) (F_p:Option Addr) (n_p:Nat) (c_p:Nat) (m_p:Nat) (d_p:Nat) (i_p:Nat) (e_p:Nat) (j_p:Nat) (f_p:Nat) (s_q:Bool) (t_q:Bool) (A_q:Option Addr) (B_q:Option Addr) (E_q:Option Addr) (F_q:Option Addr) (n_q:Nat) (c_q:Nat) (m_q:Nat) (d_q:Nat) (i_q:Nat) (e_q:Nat) (j_q:Nat) (f_q:Nat) (sl:Nat):Value→World→Prop :=
 match sl with
 | 15=>fun x _=>x=Value.slice A1 N1 c1
 | 16=>fun x _=>x=Value.int .i64 (m:Int)
 | 17=>fun x _=>x=Value.pointer (some ⟨g0,o0,none⟩)
 | 18=>VK (#[.bool s_p,.slice A_p n_p c_p,.slice B_p m_p d_p,.bool t_p,.slice E_p i_p e_p,.slice F_p j_p f_p])
 | 19=>fun x _=>x=Value.slice A1 N1 c1
 | 20=>fun x _=>x=Value.int .i64 (m:Int)
 | 21=>fun x _=>x=Value.int .i64 ((m:Int)+1)
 | 22=>fun x _=>x=Value.slice A1 N1 c1
 | 23=>fun x _=>x=Value.int .i64 (N1:Int)
 | 24=>fun x _=>x=Value.int .i64 (((m:Int)+1).tmod (N1:Int))
 | 25=>fun x _=>x=Value.pointer (some ⟨g1,o1,none⟩)
 | 26=>VK (#[.bool s_q,.slice A_q n_q c_q,.slice B_q m_q d_q,.bool t_q,.slice E_q i_q e_q,.slice F_q j_q f_q])
 | _=>fun _ _=>True
def Qgl (s_p:Bool) (t_p:Bool) (A_p:Option Addr) (B_p:Option Addr) (E_p:Option Addr) (F_p:Option Addr) (n_p:Nat) (c_p:Nat) (m_p:Nat) (d_p:Nat) (i_p:Nat) (e_p:Nat) (j_p:Nat) (f_p:Nat):QbU :=
 ⟨12,14,5,44,#[.bool false,.slice none 0 0,.slice none 0 0,.bool false,.slice none 0 0,.slice none 0 0],fun cs _=>cs=#[.bool s_p,.slice A_p n_p c_p,.slice B_p m_p d_p,.bool t_p,.slice E_p i_p e_p,.slice F_p j_p f_p]⟩
def QgB (s_q:Bool) (t_q:Bool) (A_q:Option Addr) (B_q:Option Addr) (E_q:Option Addr) (F_q:Option Addr) (n_q:Nat) (c_q:Nat) (m_q:Nat) (d_q:Nat) (i_q:Nat) (e_q:Nat) (j_q:Nat) (f_q:Nat):QbU :=
 ⟨13,15,6,44,#[.bool false,.slice none 0 0,.slice none 0 0,.bool false,.slice none 0 0,.slice none 0 0],fun cs _=>cs=#[.bool s_q,.slice A_q n_q c_q,.slice B_q m_q d_q,.bool t_q,.slice E_q i_q e_q,.slice F_q j_q f_q]⟩
theorem Qmy {id:Nat} {ac:Act} {Q:Exit→Act→World→Prop} {A1:Option Addr} {N1 c1 m g0 o0 g1 o1:Nat} 
 (hsz:26 < ac.tmps.size) (e0:ac.eval (.tmp 0)=Value.slice A1 N1 c1) (e4:ac.eval (.tmp 4)=Value.int .i64 (m:Int)) (Ep:E6x w g0 o0 (PV.mk s_p A_p n_p c_p B_p m_p d_p t_p E_p i_p e_p F_p j_p f_p)) (Eq:E6x w g1 o1 (PV.mk s_q A_q n_q c_q B_q m_q d_q t_q E_q i_q e_q F_q j_q f_q)) (hixa:∀ w',(Instr.indexAt 34 (.slice A1 N1 c1) (.int .i64 (m:Int))).run Tryz.prog w'=.ok (.pointer (some ⟨g0,o0,none⟩)) w') (hixb:∀ w',(Instr.indexAt 34 (.slice A1 N1 c1) (.int .i64 (((m:Int)+1).tmod (N1:Int)))).run Tryz.prog w'=.ok (.pointer (some ⟨g1,o1,none⟩)) w') (hwr:IntKind.i64.wrap ((m:Int)+1)=(m:Int)+1) (hn0:¬ (N1:Int)=0)
 (hend:∀ (V:Nat→Value) (w':World) (g0:Nat) (g1:Nat),B6R w' g0 (.bool s_p) (.slice A_p n_p c_p) (.slice B_p m_p d_p) (.bool t_p) (.slice E_p i_p e_p) (.slice F_p j_p f_p)→w.heap.size≤g0→V 5=.pointer (some ⟨g0,0,none⟩)→B6R w' g1 (.bool s_q) (.slice A_q n_q c_q) (.slice B_q m_q d_q) (.bool t_q) (.slice E_q i_q e_q) (.slice F_q j_q f_q)→w.heap.size≤g1→V 6=.pointer (some ⟨g1,0,none⟩)→g1 ≠ g0→Below w.heap.size w w'→Q .normal (Qam ac [15,16,17,18,19,20,21,22,23,24,25,26,5,6] V) w') :
 (Code.region id #[Qlb,QlQ,QhH,QjQ,QlH,Qlh,QjR,QlS,QjG,Qht,Qft,QgQ,Qm3,QoG,QgS,Qgt] true).wp Tryz.prog Q ac w:=by
 have hnd:L_rc5.Nodup:=by decide
 have G:∀ (sv:Nat→Value) (t:Nat),t ∈ L_rc5→t≤26→(Qam ac L_rc5 sv).eval (.tmp t)=sv t:=fun sv t ht h=>Qaz (t:=t) L_rc5 ac hnd ht (Nat.lt_of_le_of_lt h hsz)
 have E0:∀ sv:Nat→Value,(Qam ac L_rc5 sv).eval (.tmp 0)=Value.slice A1 N1 c1:=fun sv=>(Qap (v:=sv) L_rc5 ac (show 0 ∉ _ by decide)).trans e0
 have E4:∀ sv:Nat→Value,(Qam ac L_rc5 sv).eval (.tmp 4)=Value.int .i64 (m:Int):=fun sv=>(Qap (v:=sv) L_rc5 ac (show 4 ∉ _ by decide)).trans e4
 have NE:∀ t:Nat,(t ≠ 5∧t ≠ 6)→∀ p ∈ [Qgl s_p t_p A_p B_p E_p F_p n_p c_p m_p d_p i_p e_p j_p f_p,QgB s_q t_q A_q B_q E_q F_q n_q c_q m_q d_q i_q e_q j_q f_q],t ≠ p.tA:=by
  intro t ht p hp
  simp only [List.mem_cons,List.not_mem_nil,or_false] at hp
  rcases hp with rfl | rfl
  · exact ht.1
  · exact ht.2
 refine QaB L_rc5 [Qgl s_p t_p A_p B_p E_p F_p n_p c_p m_p d_p i_p e_p j_p f_p,QgB s_q t_q A_q B_q E_q F_q n_q c_q m_q d_q i_q e_q j_q f_q] (F_rc5 A1 N1 c1 m g0 o0 g1 o1 s_p t_p A_p B_p E_p F_p n_p c_p m_p d_p i_p e_p j_p f_p s_q t_q A_q B_q E_q F_q n_q c_q m_q d_q i_q e_q j_q f_q) (by kernel_rfl) (by kernel_rfl) rfl hnd ?_ ?_ ?_ ?_ ?_ ?_ ?_ ?_
 · intro p hp
   simp only [List.mem_cons,List.not_mem_nil,or_false] at hp
   rcases hp with rfl | rfl
   · refine ⟨⟨Qm3,rfl,rfl,rfl,fun e w'=>Qhz⟩,⟨QgS,rfl,rfl,rfl,⟨12,.data⟩,by simp [QgS],rfl,rfl⟩,Qfw _ _ _ _ _ _ _ _ _ _ _ _ _ _,?_,?_⟩
     · rintro cs w1 w2 rfl hb;rfl
     · rintro T cs w1 w2 g c0 rfl hB ho;rfl
   · refine ⟨⟨QoG,rfl,rfl,rfl,fun e w'=>Qhz⟩,⟨Qgt,rfl,rfl,rfl,⟨13,.data⟩,by simp [Qgt],rfl,rfl⟩,Qfw _ _ _ _ _ _ _ _ _ _ _ _ _ _,?_,?_⟩
     · rintro cs w1 w2 rfl hb;rfl
     · rintro T cs w1 w2 g c0 rfl hB ho;rfl
 · intro p hp q hq h
   simp only [List.mem_cons,List.not_mem_nil,or_false] at hp hq
   rcases hp with rfl | rfl <;> rcases hq with rfl | rfl
   · rfl
   · exact absurd (show (5:Nat)=6 from h) (by decide)
   · exact absurd (show (6:Nat)=5 from h) (by decide)
   · rfl
 · intro p hp q hq h
   simp only [List.mem_cons,List.not_mem_nil,or_false] at hp hq
   rcases hp with rfl | rfl <;> rcases hq with rfl | rfl
   · rfl
   · exact absurd (show (14:Nat)=15 from h) (by decide)
   · exact absurd (show (15:Nat)=14 from h) (by decide)
   · rfl
 · intro i o h1 h2
   match i,h1 with
   | 0,h1=>cases h1;cases h2
   | 1,h1=>cases h1;cases h2
   | 2,h1=>cases h1;cases h2
   | 3,h1=>cases h1;cases h2
   | 4,h1=>cases h1;cases h2
   | 5,h1=>cases h1;cases h2
   | 6,h1=>cases h1;cases h2
   | 7,h1=>cases h1;cases h2
   | 8,h1=>cases h1;cases h2
   | 9,h1=>cases h1;cases h2
   | 10,h1=>cases h1;cases h2
   | 11,h1=>cases h1;cases h2
   | 12,h1=>cases h1;cases h2
   | 13,h1=>cases h1;cases h2
   | 14,h1=>exact ⟨Qgl s_p t_p A_p B_p E_p F_p n_p c_p m_p d_p i_p e_p j_p f_p,List.Mem.head _,rfl⟩
   | 15,h1=>exact ⟨QgB s_q t_q A_q B_q E_q F_q n_q c_q m_q d_q i_q e_q j_q f_q,List.Mem.tail _ (List.Mem.head _),rfl⟩
   | i+16,h1=>cases h1
 · intro t
   unfold F_rc5
   split <;> first | exact (QbF _).inn _ | exact (QbS _ _).inn _ | exact (Qct _ _).inn _ | exact (Qco _ _).inn _ | exact (QbO _ _).inn _ | exact (QbQ _ _ _).inn _ | exact (Qa4).inn _
 · intro i o t sv w' ho hia hd J0 hf
   have Ep:=Ep.below J0;have Eq:=Eq.below J0
   match i,ho with
   | 0,ho =>
     obtain rfl:Qlb=o:=Option.some.inj ho
     cases hd
     refine Qaa (o:=Qlb) rfl rfl ?_
     unfold Oper.wp Qlb
     rw [Qaw (E0 sv),Oper.upon_value]
     exact ⟨_,rfl,Below.refl _ _,rfl⟩
   | 1,ho =>
     obtain rfl:QlQ=o:=Option.some.inj ho
     cases hd
     refine Qaa (o:=QlQ) rfl rfl ?_
     unfold Oper.wp QlQ
     rw [Qaw (E4 sv),Oper.upon_value]
     exact ⟨_,rfl,Below.refl _ _,rfl⟩
   | 2,ho =>
     obtain rfl:QhH=o:=Option.some.inj ho
     cases hd
     have f15:sv 15=Value.slice A1 N1 c1:=hf ⟨0,.data⟩ (by simp [QhH]) rfl _ 15 rfl rfl (NE _ (by decide))
     have f16:sv 16=Value.int .i64 (m:Int):=hf ⟨1,.data⟩ (by simp [QhH]) rfl _ 16 rfl rfl (NE _ (by decide))
     refine Qaa (o:=QhH) rfl rfl ?_
     unfold Oper.wp QhH
     rw [Qn3 ((G sv 15 (by decide) (by decide)).trans f15) ((G sv 16 (by decide) (by decide)).trans f16) hixa,Oper.upon_value]
     exact ⟨_,rfl,Below.refl _ _,rfl⟩
   | 3,ho =>
     obtain rfl:QjQ=o:=Option.some.inj ho
     cases hd
     have f17:sv 17=Value.pointer (some ⟨g0,o0,none⟩):=hf ⟨2,.data⟩ (by simp [QjQ]) rfl _ 17 rfl rfl (NE _ (by decide))
     refine Qaa (o:=QjQ) rfl rfl ?_
     unfold Oper.wp QjQ
     rw [Qnz ((G sv 17 (by decide) (by decide)).trans f17) Ep,Oper.upon_value]
     exact ⟨_,rfl,Below.refl _ _,rfl⟩
   | 4,ho =>
     obtain rfl:QlH=o:=Option.some.inj ho
     cases hd
     refine Qaa (o:=QlH) rfl rfl ?_
     unfold Oper.wp QlH
     rw [Qaw (E0 sv),Oper.upon_value]
     exact ⟨_,rfl,Below.refl _ _,rfl⟩
   | 5,ho =>
     obtain rfl:Qlh=o:=Option.some.inj ho
     cases hd
     refine Qaa (o:=Qlh) rfl rfl ?_
     unfold Oper.wp Qlh
     rw [Qaw (E4 sv),Oper.upon_value]
     exact ⟨_,rfl,Below.refl _ _,rfl⟩
   | 6,ho =>
     obtain rfl:QjR=o:=Option.some.inj ho
     cases hd
     have f20:sv 20=Value.int .i64 (m:Int):=hf ⟨5,.data⟩ (by simp [QjR]) rfl _ 20 rfl rfl (NE _ (by decide))
     refine Qaa (o:=QjR) rfl rfl ?_
     unfold Oper.wp QjR
     rw [Qid ((G sv 20 (by decide) (by decide)).trans f20) (show (Qam ac L_rc5 sv).eval (.const (Value.int IntKind.i64 1))=(Value.int IntKind.i64 1) from rfl) hwr,Oper.upon_value]
     exact ⟨_,rfl,Below.refl _ _,rfl⟩
   | 7,ho =>
     obtain rfl:QlS=o:=Option.some.inj ho
     cases hd
     refine Qaa (o:=QlS) rfl rfl ?_
     unfold Oper.wp QlS
     rw [Qaw (E0 sv),Oper.upon_value]
     exact ⟨_,rfl,Below.refl _ _,rfl⟩
   | 8,ho =>
     obtain rfl:QjG=o:=Option.some.inj ho
     cases hd
     have f22:sv 22=Value.slice A1 N1 c1:=hf ⟨7,.data⟩ (by simp [QjG]) rfl _ 22 rfl rfl (NE _ (by decide))
     refine Qaa (o:=QjG) rfl rfl ?_
     unfold Oper.wp QjG
     rw [Qpj ((G sv 22 (by decide) (by decide)).trans f22) ,Oper.upon_value]
     exact ⟨_,rfl,Below.refl _ _,rfl⟩
   | 9,ho =>
     obtain rfl:Qht=o:=Option.some.inj ho
     cases hd
     have f21:sv 21=Value.int .i64 ((m:Int)+1):=hf ⟨6,.data⟩ (by simp [Qht]) rfl _ 21 rfl rfl (NE _ (by decide))
     have f23:sv 23=Value.int .i64 (N1:Int):=hf ⟨8,.data⟩ (by simp [Qht]) rfl _ 23 rfl rfl (NE _ (by decide))
     refine Qaa (o:=Qht) rfl rfl ?_
     unfold Oper.wp Qht
     rw [Qp8 ((G sv 21 (by decide) (by decide)).trans f21) ((G sv 23 (by decide) (by decide)).trans f23) hn0,Oper.upon_value]
     exact ⟨_,rfl,Below.refl _ _,rfl⟩
   | 10,ho =>
     obtain rfl:Qft=o:=Option.some.inj ho
     cases hd
     have f19:sv 19=Value.slice A1 N1 c1:=hf ⟨4,.data⟩ (by simp [Qft]) rfl _ 19 rfl rfl (NE _ (by decide))
     have f24:sv 24=Value.int .i64 (((m:Int)+1).tmod (N1:Int)):=hf ⟨9,.data⟩ (by simp [Qft]) rfl _ 24 rfl rfl (NE _ (by decide))
     refine Qaa (o:=Qft) rfl rfl ?_
     unfold Oper.wp Qft
     rw [Qn3 ((G sv 19 (by decide) (by decide)).trans f19) ((G sv 24 (by decide) (by decide)).trans f24) hixb,Oper.upon_value]
     exact ⟨_,rfl,Below.refl _ _,rfl⟩
   | 11,ho =>
     obtain rfl:QgQ=o:=Option.some.inj ho
     cases hd
     have f25:sv 25=Value.pointer (some ⟨g1,o1,none⟩):=hf ⟨10,.data⟩ (by simp [QgQ]) rfl _ 25 rfl rfl (NE _ (by decide))
     refine Qaa (o:=QgQ) rfl rfl ?_
     unfold Oper.wp QgQ
     rw [Qnz ((G sv 25 (by decide) (by decide)).trans f25) Eq,Oper.upon_value]
     exact ⟨_,rfl,Below.refl _ _,rfl⟩
   | 12,ho=>cases ho;cases hd;exact absurd rfl (hia (Qgl s_p t_p A_p B_p E_p F_p n_p c_p m_p d_p i_p e_p j_p f_p) (List.Mem.head _))
   | 13,ho=>cases ho;cases hd;exact absurd rfl (hia (QgB s_q t_q A_q B_q E_q F_q n_q c_q m_q d_q i_q e_q j_q f_q) (List.Mem.tail _ (List.Mem.head _)))
   | 14,ho=>cases ho;cases hd
   | 15,ho=>cases ho;cases hd
   | i+16,ho=>cases ho
 · intro p hp os sv w' g hos J0 p1 p3 hf
   simp only [List.mem_cons,List.not_mem_nil,or_false] at hp
   rcases hp with rfl | rfl
   · obtain rfl:QgS=os:=Option.some.inj hos
     have h1:VK (#[.bool s_p,.slice A_p n_p c_p,.slice B_p m_p d_p,.bool t_p,.slice E_p i_p e_p,.slice F_p j_p f_p]) (sv 18) w':=hf ⟨3,.data⟩ (by simp [QgS]) rfl _ 18 rfl rfl (NE _ (by decide))
     rw [← G sv 18 (by decide) (by decide)] at h1
     refine Qlp  (ac:=Qam ac L_rc5 sv) (z:=.tmp 18) ?_ ?_ ?_
     · exact (G sv 5 (by decide) (by decide)).trans p1
     · exact h1
     · exact p3
   · obtain rfl:Qgt=os:=Option.some.inj hos
     have h1:VK (#[.bool s_q,.slice A_q n_q c_q,.slice B_q m_q d_q,.bool t_q,.slice E_q i_q e_q,.slice F_q j_q f_q]) (sv 26) w':=hf ⟨11,.data⟩ (by simp [Qgt]) rfl _ 26 rfl rfl (NE _ (by decide))
     rw [← G sv 26 (by decide) (by decide)] at h1
     refine Qlp  (ac:=Qam ac L_rc5 sv) (z:=.tmp 26) ?_ ?_ ?_
     · exact (G sv 6 (by decide) (by decide)).trans p1
     · exact h1
     · exact p3
 · intro sv w' J0 hF hB hap
   obtain ⟨g0,cs0,p0,r0,b0,rfl⟩:=hB (Qgl s_p t_p A_p B_p E_p F_p n_p c_p m_p d_p i_p e_p j_p f_p) (List.Mem.head _)
   obtain ⟨g1,cs1,p1,r1,b1,rfl⟩:=hB (QgB s_q t_q A_q B_q E_q F_q n_q c_q m_q d_q i_q e_q j_q f_q) (List.Mem.tail _ (List.Mem.head _))
   have p0':sv 5=.pointer (some ⟨g0,0,none⟩):=p0
   have p1':sv 6=.pointer (some ⟨g1,0,none⟩):=p1
   exact hend sv w' g0 g1 b0.at_ r0 p0' b1.at_ r1 p1' (fun q=>hap (QgB s_q t_q A_q B_q E_q F_q n_q c_q m_q d_q i_q e_q j_q f_q) (List.Mem.tail _ (List.Mem.head _)) (Qgl s_p t_p A_p B_p E_p F_p n_p c_p m_p d_p i_p e_p j_p f_p) (List.Mem.head _) (show (6:Nat) ≠ 5 by decide) (by rw [show (QgB s_q t_q A_q B_q E_q F_q n_q c_q m_q d_q i_q e_q j_q f_q).tA=6 from rfl,show (Qgl s_p t_p A_p B_p E_p F_p n_p c_p m_p d_p i_p e_p j_p f_p).tA=5 from rfl,p1',p0',q]))   J0
theorem Qbl (w:World) (n:Nat):Below w.heap.size w (w.drewN n):=⟨rfl,rfl,rfl,Nat.le_refl _,fun _ _=>rfl⟩
def Qmk (l:List (Rat × Rat)) (i k:Nat):Prop:=(i ≠ k→¬ (Qa5 l i=Qa5 l k∧QaZ l i=QaZ l k))∧0≤QaG (Qa5 l) (QaZ l) i k
theorem Qsf {l:List (Rat × Rat)} {m n:Nat} {v:Rat × Rat} (hn:l.length=n) (h:l[(m+1) % n]?=some v):Qa5 l (m+1)=v.1∧QaZ l (m+1)=v.2:=by
 unfold Qa5 QaZ
 rw [hn,List.getD_eq_getElem?_getD,h]
 exact ⟨rfl,rfl⟩
theorem QsC {l:List (Rat × Rat)} {m j n:Nat} {u v t:Rat × Rat} (hn:l.length=n) (hu:l[m]?=some u) (hv:l[(m+1) % n]?=some v) (ht:l[j]?=some t):QaG (Qa5 l) (QaZ l) m j=(v.1 - u.1)*(t.2 - u.2) - (v.2 - u.2)*(t.1 - u.1):=by
 obtain ⟨a1,a2⟩:=Qcj hu
 obtain ⟨b1,b2⟩:=Qsf hn hv
 obtain ⟨c1,c2⟩:=Qcj ht
 unfold QaG
 simp only [a1,a2,b1,b2,c1,c2,crs,dd]
theorem Qro (x:Rat):0 < Qck x ↔ 0 < x:=by
 rcases QbG x with h | h | h <;> rw [h.1]
 · exact ⟨fun _=>h.2,fun _=>by decide⟩
 · exact ⟨fun h1=>by omega,fun h1=>by rw [h.2] at h1;exact absurd h1 Rat.lt_irrefl⟩
 · exact ⟨fun h1=>by omega,fun h1=>by have:=h.2;grind⟩
theorem Qpq {l:List (Rat × Rat)} {n:Nat} (hn:l.length=n) {b:Bool} (hg:∀ i,i < n→∀ k,k < n→Qmk l i k) (hb:b=true ↔ ∃ i k,i < n∧k < n∧0 < QaG (Qa5 l) (QaZ l) i k):(3≤n∧b=true) ↔ QdC l:=by
 rw [Qc8,hn]
 constructor
 · rintro ⟨h3,h4⟩
   exact ⟨h3,fun i k hi hk hne=>(hg i hi k hk).1 hne,fun i k hi hk=>(hg i hi k hk).2,hb.1 h4⟩
 · intro h
   exact ⟨h.three,hb.2 h.some⟩
theorem Qkw {l:List (Rat × Rat)} {n i k:Nat} (hn:l.length=n) (hi:i < n) (hk:k < n) (h:¬ Qmk l i k):¬ QdC l:=by
 rw [Qc8,hn]
 intro hc
 exact h ⟨fun hne=>hc.apart i k hi hk hne,hc.left i k hi hk⟩
theorem Qn0 {l:List (Rat × Rat)} {n i:Nat} {u v:Rat × Rat} (hn:l.length=n) (hi:i < n) (hu:l[i]?=some u) (hv:l[(i+1) % n]?=some v) (h:u.1=v.1∧u.2=v.2):¬ QdC l:=by
 intro hc
 have hc2:=hc
 rw [Qc8,hn] at hc2
 have h3:=hc2.three
 have hne:i ≠ (i+1) % n:=by
  rcases Nat.lt_or_ge (i+1) n with h1 | h1
  · rw [Nat.mod_eq_of_lt h1];omega
  · have:i+1=n:=by omega
    rw [this,Nat.mod_self];omega
 obtain ⟨a1,a2⟩:=Qcj hu
 obtain ⟨b1,b2⟩:=Qcj hv
 exact hc2.apart i ((i+1) % n) hi (Nat.mod_lt _ (by omega)) hne ⟨by rw [a1,b1];exact h.1,by rw [a2,b2];exact h.2⟩
theorem Qq5 {A:Option Addr} {n c k:Nat} {L:List PV} {l:List (Rat × Rat)} (hL:SV w A (pvs L)) (hE:Each PV.RP w L l k) (hn:L.length=n) (hm:n≤1000) (hk:k≤60) (R:Bool) (hR0:R=true ↔ QdC l) :
 Calls Tryz.prog 6 #[.slice A n c] w fun e w'=>e=.returned (.bool R)∧Below w.heap.size w w':=by
 have HN:=Lib.hid hn;have HR0:=Lib.hid hR0
 have HNl:Hid (l.length=n):=hE.1.symm.trans hn
 clear hn hR0;have HL9:=Lib.hid hL;have E9:=Lib.hid hE;clear hL hE
 go_enter Tryz.func6,Tryz.ntmps6
 go_wp2_with fail
 go_loopg [3,4] n (fun gk sb ix wr=>∃ (m:Nat) (b:Bool),Hid (gk+m=n)∧ix=.int .i64 (m:Int)∧sb=.bool b∧Hid (∀ i,i < m→∀ k,k < n→Qmk l i k)∧Hid (b=true ↔ ∃ i k,i < m∧k < n∧0 < QaG (Qa5 l) (QaZ l) i k)∧Below w.heap.size w wr)
 case atStart=>exact ⟨0,false,Nat.add_zero _,rfl,rfl,(fun i hi=>absurd hi (by omega)),(by show _ ↔ _;constructor;(intro h;cases h);(rintro ⟨i,k,hi,_⟩;omega)),Below.refl _ _⟩
 case round =>
  obtain ⟨m,b,HG,rfl,rfl,HS,HBB,hB⟩:=hrel
  obtain ⟨GG,hGG⟩:∃ GG,GG=gk:=⟨_,rfl⟩
  subst hGG
  by_cases hmn:m < n
  · have HMN:=Lib.hid hmn
    obtain ⟨P,u,hP1,hu1,p0⟩:=(Each.belowR E9.out hB).at_ (i:=m) (by rw [HN.out];exact hmn)
    obtain ⟨Q,v,hP2,hu2,q0⟩:=(Each.belowR E9.out hB).at_ (i:=(m+1) % n) (by rw [HN.out];exact Nat.mod_lt _ (by omega))
    obtain ⟨g0,o0,hix0,Ep,_⟩:=(HL9.out.below hB).rpt hP1
    obtain ⟨g1,o1,hix1,Eq,_⟩:=(HL9.out.below hB).rpt hP2
    have hixa:∀ w',(Instr.indexAt 34 (.slice A n c) (.int .i64 (m:Int))).run Tryz.prog w'=.ok (.pointer (some ⟨g0,o0,none⟩)) w':=fun w'=>hix0 n c w' hmn
    have hixb:∀ w',(Instr.indexAt 34 (.slice A n c) (.int .i64 (((m:Int)+1).tmod (n:Int)))).run Tryz.prog w'=.ok (.pointer (some ⟨g1,o1,none⟩)) w':=fun w'=>by rw [Qnh];exact hix1 n c w' (Nat.mod_lt _ (by omega))
    have hwr:IntKind.i64.wrap ((m:Int)+1)=(m:Int)+1:=IntWalk.i64_in _ (by omega)
    have hlt:(m:Int) < (n:Int):=by omega
    have hn0:¬ (n:Int)=0:=by omega
    have HU:=Lib.hid hu1;have HV:=Lib.hid hu2
    obtain ⟨ux,uy⟩:=u
    obtain ⟨vx,vy⟩:=v
    obtain ⟨s_p,A_p,n_p,c_p,B_p,m_p,d_p,t_p,E_p,i_p,e_p,F_p,j_p,f_p⟩:=P
    obtain ⟨s_q,A_q,n_q,c_q,B_q,m_q,d_q,t_q,E_q,i_q,e_q,F_q,j_q,f_q⟩:=Q
    replace p0:RP wr s_p A_p n_p c_p B_p m_p d_p t_p E_p i_p e_p F_p j_p f_p ux uy k:=p0
    replace q0:RP wr s_q A_q n_q c_q B_q m_q d_q t_q E_q i_q e_q F_q j_q f_q vx vy k:=q0
    clear hP1 hP2 hu1 hu2 hix0 hix1 hmn
    go_upto_region 5 with (fail)
    refine Qmy (by simp) rfl rfl Ep Eq hixa hixb hwr hn0 ?_
    intro V1 w_b gX gY X hgX hv5 Y hgY hv6 hXY hh
    simp only [Qam,Act.put,List.setIfInBounds_toArray,List.set_cons_zero,List.set_cons_succ,hv5,hv6]
    clear hv5 hv6 Ep Eq hixa hixb;replace p0:=RP.below p0 hh;replace q0:=RP.below q0 hh;replace hB:=Qaj hB hh;have x0:=X.c0;have y0:=Y.c0;have x1:=X.c1;have y1:=Y.c1;have x2:=X.c2;have y2:=Y.c2;have x3:=X.c3;have y3:=Y.c3;have x4:=X.c4;have y4:=Y.c4;have x5:=X.c5;have y5:=Y.c5
    by_cases hsm:ux=vx∧uy=vy
    · have HSM:=Lib.hid hsm
      have hds:decide (ux=vx∧uy=vy)=true:=decide_eq_true hsm
      have HDS:=Lib.hid hds;clear hsm hds
      go_upto_region 7 with (first
       | (go_at_call 8;(with_reducible refine (Qjp p0 q0 (by omega) (by omega) true HDS.out).mono ?_);rintro e w_s ⟨rfl,hh⟩
          (try replace p0:=p0.below hh);(try replace q0:=q0.below hh);(try replace X:=X.below hh);(try replace Y:=Y.below hh);replace hB:=Qaj hB hh))
      have HF:Hid (false=R):=by
       show _=_
       cases R with
       | false=>rfl
       | true=>exact absurd (HR0.out.1 rfl) (Qn0 HNl.out HMN.out HU.out HV.out HSM.out)
      go_wp2_with fail
      (try rw [Exit.noGoto_ret])
      go_ret
      exact ⟨by rw [← HF.out];first | rfl | simp,hB⟩
    · have hds:decide (ux=vx∧uy=vy)=false:=decide_eq_false hsm
      have HDS:=Lib.hid hds;clear hsm hds
      go_wp2_with (first
       | (go_at_call 8;(with_reducible refine (Qjp p0 q0 (by omega) (by omega) false HDS.out).mono ?_);rintro e w_s ⟨rfl,hh⟩
          (try replace p0:=p0.below hh);(try replace q0:=q0.below hh);(try replace X:=X.below hh);(try replace Y:=Y.below hh);replace hB:=Qaj hB hh))
      have X9:=Lib.hid X;have Y9:=Lib.hid Y;have P9:=Lib.hid p0;have Q9:=Lib.hid q0;have hB9:=Lib.hid hB;clear X Y p0 q0 hB x0 y0 x1 y1 x2 y2 x3 y3 x4 y4 x5 y5
      go_loopg [3,7] n (fun gj sb2 jx wq=>∃ (j:Nat) (b2:Bool),Hid (gj+j=n)∧jx=.int .i64 (j:Int)∧sb2=.bool b2∧Hid (∀ k,k < j→Qmk l m k)∧Hid (b2=true ↔ (∃ i k,i < m∧k < n∧0 < QaG (Qa5 l) (QaZ l) i k) ∨ ∃ k,k < j∧0 < QaG (Qa5 l) (QaZ l) m k)∧Below w_s.heap.size w_s wq)
      case atStart=>exact ⟨0,b,Nat.add_zero _,rfl,rfl,(fun i hi=>absurd hi (by omega)),(by show _ ↔ _;rw [HBB.out];constructor;(exact fun h=>.inl h);(rintro (h | ⟨k,hk,_⟩);exact h;omega)),Below.refl _ _⟩
      case round =>
       obtain ⟨j,b2,HJ,rfl,rfl,HS2,HB2,hC⟩:=hrel
       have hB:Below w.heap.size w wr:=Qaj hB9.out hC
       by_cases hjn:j < n
       · have HJN:=Lib.hid hjn
         obtain ⟨T,t,hT1,ht1,t0⟩:=(Each.belowR E9.out hB).at_ (i:=j) (by rw [HN.out];exact hjn)
         obtain ⟨g2,o2,hix2,Et,_⟩:=(HL9.out.below hB).rpt hT1
         have hixc:∀ w',(Instr.indexAt 34 (.slice A n c) (.int .i64 (j:Int))).run Tryz.prog w'=.ok (.pointer (some ⟨g2,o2,none⟩)) w':=fun w'=>hix2 n c w' hjn
         have hjl:(j:Int) < (n:Int):=by omega
         have HTT:=Lib.hid ht1
         obtain ⟨tx,ty⟩:=t
         obtain ⟨s_t,A_t,n_t,c_t,B_t,m_t,d_t,t_t,E_t,i_t,e_t,F_t,j_t,f_t⟩:=T
         replace t0:RP wr s_t A_t n_t c_t B_t m_t d_t t_t E_t i_t e_t F_t j_t f_t tx ty k:=t0
         have X:=X9.out.below hC;have Y:=Y9.out.below hC;have p0:=RP.below P9.out hC;have q0:=RP.below Q9.out hC
         have HSD:=Lib.hid (QsC HNl.out HU.out HV.out HTT.out)
         obtain ⟨K,hK⟩:∃ K,Qck ((vx - ux)*(ty - uy) - (vy - uy)*(tx - ux))=K:=⟨_,rfl⟩
         have HK:=Lib.hid hK;clear hT1 ht1 hix2 hjn hK
         by_cases hjm:j=m
         · have hne:((j:Int) != (m:Int))=false:=by simp;omega
           have HJM0:=Lib.hid hjm;clear hjm
           go_upto_region 11 with (fail)
           go_quiet (fail)
           replace p0:=RP.below p0 (Qbl _ nq)
           replace q0:=RP.below q0 (Qbl _ nq)
           replace t0:=RP.below t0 (Qbl _ nq)
           replace X:=X.below (Qbl _ nq)
           replace Y:=Y.below (Qbl _ nq)
           replace Et:=Et.below (Qbl _ nq)
           replace hB:=Qaj hB (Qbl _ nq)
           replace hC:=Qaj hC (Qbl _ nq)
           generalize wr.drewN nq=WN at p0 q0 t0 X Y Et hB hC ⊢
           go_upto_region 13 with (fail)
           replace p0:=RP.below p0 (Below.refl _ _).drew
           replace q0:=RP.below q0 (Below.refl _ _).drew
           replace t0:=RP.below t0 (Below.refl _ _).drew
           replace X:=X.below (Below.refl _ _).drew
           replace Y:=Y.below (Below.refl _ _).drew
           replace Et:=Et.below (Below.refl _ _).drew
           replace hB:=hB.drew;replace hC:=hC.drew
           go_region_held3 (fun w'=>w'.cell? ⟨gX,0,none⟩=some (.bool s_p)∧w'.cell? ⟨gX,1,none⟩=some (.slice A_p n_p c_p)∧w'.cell? ⟨gX,2,none⟩=some (.slice B_p m_p d_p)∧w'.cell? ⟨gX,3,none⟩=some (.bool t_p)∧w'.cell? ⟨gX,4,none⟩=some (.slice E_p i_p e_p)∧w'.cell? ⟨gX,5,none⟩=some (.slice F_p j_p f_p)∧w'.cell? ⟨gY,0,none⟩=some (.bool s_q)∧w'.cell? ⟨gY,1,none⟩=some (.slice A_q n_q c_q)∧w'.cell? ⟨gY,2,none⟩=some (.slice B_q m_q d_q)∧w'.cell? ⟨gY,3,none⟩=some (.bool t_q)∧w'.cell? ⟨gY,4,none⟩=some (.slice E_q i_q e_q)∧w'.cell? ⟨gY,5,none⟩=some (.slice F_q j_q f_q)∧w'.cell? ⟨g2,o2,none⟩=some (.bool s_t)∧w'.cell? ⟨g2,o2+1,none⟩=some (.slice A_t n_t c_t)∧w'.cell? ⟨g2,o2+2,none⟩=some (.slice B_t m_t d_t)∧w'.cell? ⟨g2,o2+3,none⟩=some (.bool t_t)∧w'.cell? ⟨g2,o2+4,none⟩=some (.slice E_t i_t e_t)∧w'.cell? ⟨g2,o2+5,none⟩=some (.slice F_t j_t f_t))
            (first | with_reducible exact ⟨X.c0,X.c1,X.c2,X.c3,X.c4,X.c5,Y.c0,Y.c1,Y.c2,Y.c3,Y.c4,Y.c5,Et.c0,Et.c1,Et.c2,Et.c3,Et.c4,Et.c5⟩)
            (first
            | (go_at_call 20;(with_reducible refine (Qlr p0 q0 t0 (by omega) K HK.out).mono ?_);rintro e w_o ⟨rfl,hh⟩
               (try replace p0:=p0.below hh);(try replace q0:=q0.below hh);(try replace t0:=t0.below hh);(try replace X:=X.below hh);(try replace Y:=Y.below hh);(try replace Et:=Et.below hh);replace hB:=Qaj hB hh;replace hC:=Qaj hC hh))
           by_cases hK2:K < 0
           · have HF : Hid (false = R) := by
               show _=_
               cases R with
               | false=>rfl
               | true=>exact absurd (HR0.out.1 rfl) (Qkw HNl.out HMN.out HJN.out (fun hg=>by have h5:=hg.2;rw [HSD.out] at h5;have h6:=(QhP _).2 h5;(try simp only at h6);rw [HK.out] at h6;omega))
             go_wp2_with fail
             (try rw [Exit.noGoto_ret])
             go_ret
             exact ⟨by rw [← HF.out];first | rfl | simp,hB⟩
           · have HGD:Hid (Qmk l m j):=⟨fun h=>absurd HJM0.out (Ne.symm h),by rw [HSD.out];refine (QhP _).1 ?_;(try simp only);rw [HK.out];omega⟩
             have HPOS:Hid (0 < QaG (Qa5 l) (QaZ l) m j ↔ 0 < K):=by show _ ↔ _;rw [HSD.out,← HK.out];exact (Qro _).symm
             cases b2 with
             | true =>
               go_wp2_with fail
               go_roundg (gk - 1)
               case measure=>have:=HJ.out;have:=HJN.out;omega
               case rel =>
                refine ⟨j+1,true,by have:=HJ.out;have:=HJN.out;show _=_;omega,by go_num,rfl,fun k hk=>?_,?_,hC⟩
                · rcases Nat.lt_or_ge k j with h | h
                  · exact HS2.out k h
                  · obtain rfl:k=j:=by omega
                    exact HGD.out
                · exact ⟨fun _=>(HB2.out.1 (by first | rfl | trivial)).elim .inl (fun ⟨k,h1,h2⟩=>.inr ⟨k,by omega,h2⟩),fun _=>rfl⟩
             | false =>
               by_cases hK3:0 < K
               · go_wp2_with fail
                 go_roundg (gk - 1)
                 case measure=>have:=HJ.out;have:=HJN.out;omega
                 case rel =>
                  refine ⟨j+1,true,by have:=HJ.out;have:=HJN.out;show _=_;omega,by go_num,rfl,fun k hk=>?_,?_,hC⟩
                  · rcases Nat.lt_or_ge k j with h | h
                    · exact HS2.out k h
                    · obtain rfl:k=j:=by omega
                      exact HGD.out
                  · exact ⟨fun _=>.inr ⟨j,by omega,HPOS.out.2 hK3⟩,fun _=>rfl⟩
               · go_wp2_with fail
                 go_roundg (gk - 1)
                 case measure=>have:=HJ.out;have:=HJN.out;omega
                 case rel =>
                  refine ⟨j+1,false,by have:=HJ.out;have:=HJN.out;show _=_;omega,by go_num,rfl,fun k hk=>?_,?_,hC⟩
                  · rcases Nat.lt_or_ge k j with h | h
                    · exact HS2.out k h
                    · obtain rfl:k=j:=by omega
                      exact HGD.out
                  · refine ⟨(fun h=>by cases h),fun h=>?_⟩
                    rcases h with h | ⟨k,h1,h2⟩
                    · exact absurd (HB2.out.2 (.inl h)) (by simp)
                    · rcases Nat.lt_or_ge k j with h | h
                      · exact absurd (HB2.out.2 (.inr ⟨k,h,h2⟩)) (by simp)
                      · obtain rfl:k=j:=by omega
                        exact absurd (HPOS.out.1 h2) (by omega)
         · have hne:((j:Int) != (m:Int))=true:=by simp;omega
           have HJM:=Lib.hid hjm
           by_cases hst:ux=tx∧uy=ty
           · have HST:=Lib.hid hst
             have HDS2:=Lib.hid (show decide (ux=tx∧uy=ty)=true from decide_eq_true hst)
             clear hst hjm
             go_upto_region 11 with (fail)
             replace p0:=RP.below p0 (Below.refl _ _).drew
             replace q0:=RP.below q0 (Below.refl _ _).drew
             replace t0:=RP.below t0 (Below.refl _ _).drew
             replace X:=X.below (Below.refl _ _).drew
             replace Y:=Y.below (Below.refl _ _).drew
             replace Et:=Et.below (Below.refl _ _).drew
             replace hB:=hB.drew;replace hC:=hC.drew
             go_region_held3 (fun w'=>w'.cell? ⟨gX,0,none⟩=some (.bool s_p)∧w'.cell? ⟨gX,1,none⟩=some (.slice A_p n_p c_p)∧w'.cell? ⟨gX,2,none⟩=some (.slice B_p m_p d_p)∧w'.cell? ⟨gX,3,none⟩=some (.bool t_p)∧w'.cell? ⟨gX,4,none⟩=some (.slice E_p i_p e_p)∧w'.cell? ⟨gX,5,none⟩=some (.slice F_p j_p f_p)∧w'.cell? ⟨g2,o2,none⟩=some (.bool s_t)∧w'.cell? ⟨g2,o2+1,none⟩=some (.slice A_t n_t c_t)∧w'.cell? ⟨g2,o2+2,none⟩=some (.slice B_t m_t d_t)∧w'.cell? ⟨g2,o2+3,none⟩=some (.bool t_t)∧w'.cell? ⟨g2,o2+4,none⟩=some (.slice E_t i_t e_t)∧w'.cell? ⟨g2,o2+5,none⟩=some (.slice F_t j_t f_t))
              (first | with_reducible exact ⟨X.c0,X.c1,X.c2,X.c3,X.c4,X.c5,Et.c0,Et.c1,Et.c2,Et.c3,Et.c4,Et.c5⟩)
              (first
              | (go_at_call 8;(with_reducible refine (Qjp p0 t0 (by omega) (by omega) true HDS2.out).mono ?_);rintro e w_z ⟨rfl,hh⟩
                 (try replace p0:=p0.below hh);(try replace q0:=q0.below hh);(try replace t0:=t0.below hh);(try replace X:=X.below hh);(try replace Y:=Y.below hh);(try replace Et:=Et.below hh);replace hB:=Qaj hB hh;replace hC:=Qaj hC hh))
             have HF:Hid (false=R):=by
              show _=_
              cases R with
              | false=>rfl
              | true=>exact absurd (HR0.out.1 rfl) (Qkw HNl.out HMN.out HJN.out (fun hg=>hg.1 (Ne.symm HJM.out) ⟨(Qcj HU.out).1.trans (HST.out.1.trans (Qcj HTT.out).1.symm),(Qcj HU.out).2.trans (HST.out.2.trans (Qcj HTT.out).2.symm)⟩))
             go_wp2_with fail
             (try rw [Exit.noGoto_ret])
             go_ret
             exact ⟨by rw [← HF.out];first | rfl | simp,hB⟩
           · have HDS2:=Lib.hid (show decide (ux=tx∧uy=ty)=false from decide_eq_false hst)
             clear hst hjm
             go_upto_region 11 with (fail)
             replace p0:=RP.below p0 (Below.refl _ _).drew
             replace q0:=RP.below q0 (Below.refl _ _).drew
             replace t0:=RP.below t0 (Below.refl _ _).drew
             replace X:=X.below (Below.refl _ _).drew
             replace Y:=Y.below (Below.refl _ _).drew
             replace Et:=Et.below (Below.refl _ _).drew
             replace hB:=hB.drew;replace hC:=hC.drew
             go_region_held3 (fun w'=>w'.cell? ⟨gX,0,none⟩=some (.bool s_p)∧w'.cell? ⟨gX,1,none⟩=some (.slice A_p n_p c_p)∧w'.cell? ⟨gX,2,none⟩=some (.slice B_p m_p d_p)∧w'.cell? ⟨gX,3,none⟩=some (.bool t_p)∧w'.cell? ⟨gX,4,none⟩=some (.slice E_p i_p e_p)∧w'.cell? ⟨gX,5,none⟩=some (.slice F_p j_p f_p)∧w'.cell? ⟨g2,o2,none⟩=some (.bool s_t)∧w'.cell? ⟨g2,o2+1,none⟩=some (.slice A_t n_t c_t)∧w'.cell? ⟨g2,o2+2,none⟩=some (.slice B_t m_t d_t)∧w'.cell? ⟨g2,o2+3,none⟩=some (.bool t_t)∧w'.cell? ⟨g2,o2+4,none⟩=some (.slice E_t i_t e_t)∧w'.cell? ⟨g2,o2+5,none⟩=some (.slice F_t j_t f_t))
              (first | with_reducible exact ⟨X.c0,X.c1,X.c2,X.c3,X.c4,X.c5,Et.c0,Et.c1,Et.c2,Et.c3,Et.c4,Et.c5⟩)
              (first
              | (go_at_call 8;(with_reducible refine (Qjp p0 t0 (by omega) (by omega) false HDS2.out).mono ?_);rintro e w_z ⟨rfl,hh⟩
                 (try replace p0:=p0.below hh);(try replace q0:=q0.below hh);(try replace t0:=t0.below hh);(try replace X:=X.below hh);(try replace Y:=Y.below hh);(try replace Et:=Et.below hh);replace hB:=Qaj hB hh;replace hC:=Qaj hC hh))
             go_upto_region 13 with (fail)
             replace p0:=RP.below p0 (Below.refl _ _).drew
             replace q0:=RP.below q0 (Below.refl _ _).drew
             replace t0:=RP.below t0 (Below.refl _ _).drew
             replace X:=X.below (Below.refl _ _).drew
             replace Y:=Y.below (Below.refl _ _).drew
             replace Et:=Et.below (Below.refl _ _).drew
             replace hB:=hB.drew;replace hC:=hC.drew
             go_region_held3 (fun w'=>w'.cell? ⟨gX,0,none⟩=some (.bool s_p)∧w'.cell? ⟨gX,1,none⟩=some (.slice A_p n_p c_p)∧w'.cell? ⟨gX,2,none⟩=some (.slice B_p m_p d_p)∧w'.cell? ⟨gX,3,none⟩=some (.bool t_p)∧w'.cell? ⟨gX,4,none⟩=some (.slice E_p i_p e_p)∧w'.cell? ⟨gX,5,none⟩=some (.slice F_p j_p f_p)∧w'.cell? ⟨gY,0,none⟩=some (.bool s_q)∧w'.cell? ⟨gY,1,none⟩=some (.slice A_q n_q c_q)∧w'.cell? ⟨gY,2,none⟩=some (.slice B_q m_q d_q)∧w'.cell? ⟨gY,3,none⟩=some (.bool t_q)∧w'.cell? ⟨gY,4,none⟩=some (.slice E_q i_q e_q)∧w'.cell? ⟨gY,5,none⟩=some (.slice F_q j_q f_q)∧w'.cell? ⟨g2,o2,none⟩=some (.bool s_t)∧w'.cell? ⟨g2,o2+1,none⟩=some (.slice A_t n_t c_t)∧w'.cell? ⟨g2,o2+2,none⟩=some (.slice B_t m_t d_t)∧w'.cell? ⟨g2,o2+3,none⟩=some (.bool t_t)∧w'.cell? ⟨g2,o2+4,none⟩=some (.slice E_t i_t e_t)∧w'.cell? ⟨g2,o2+5,none⟩=some (.slice F_t j_t f_t))
              (first | with_reducible exact ⟨X.c0,X.c1,X.c2,X.c3,X.c4,X.c5,Y.c0,Y.c1,Y.c2,Y.c3,Y.c4,Y.c5,Et.c0,Et.c1,Et.c2,Et.c3,Et.c4,Et.c5⟩)
              (first
              | (go_at_call 20;(with_reducible refine (Qlr p0 q0 t0 (by omega) K HK.out).mono ?_);rintro e w_o ⟨rfl,hh⟩
                 (try replace p0:=p0.below hh);(try replace q0:=q0.below hh);(try replace t0:=t0.below hh);(try replace X:=X.below hh);(try replace Y:=Y.below hh);(try replace Et:=Et.below hh);replace hB:=Qaj hB hh;replace hC:=Qaj hC hh))
             by_cases hK2:K < 0
             · have HF : Hid (false = R) := by
                 show _=_
                 cases R with
                 | false=>rfl
                 | true=>exact absurd (HR0.out.1 rfl) (Qkw HNl.out HMN.out HJN.out (fun hg=>by have h5:=hg.2;rw [HSD.out] at h5;have h6:=(QhP _).2 h5;(try simp only at h6);rw [HK.out] at h6;omega))
               go_wp2_with fail
               (try rw [Exit.noGoto_ret])
               go_ret
               exact ⟨by rw [← HF.out];first | rfl | simp,hB⟩
             · have HGD:Hid (Qmk l m j):=⟨fun _ h=>of_decide_eq_false HDS2.out ⟨((Qcj HU.out).1.symm.trans h.1).trans (Qcj HTT.out).1,((Qcj HU.out).2.symm.trans h.2).trans (Qcj HTT.out).2⟩,by rw [HSD.out];refine (QhP _).1 ?_;(try simp only);rw [HK.out];omega⟩
               have HPOS:Hid (0 < QaG (Qa5 l) (QaZ l) m j ↔ 0 < K):=by show _ ↔ _;rw [HSD.out,← HK.out];exact (Qro _).symm
               cases b2 with
               | true =>
                 go_wp2_with fail
                 go_roundg (gk - 1)
                 case measure=>have:=HJ.out;have:=HJN.out;omega
                 case rel =>
                  refine ⟨j+1,true,by have:=HJ.out;have:=HJN.out;show _=_;omega,by go_num,rfl,fun k hk=>?_,?_,hC⟩
                  · rcases Nat.lt_or_ge k j with h | h
                    · exact HS2.out k h
                    · obtain rfl:k=j:=by omega
                      exact HGD.out
                  · exact ⟨fun _=>(HB2.out.1 (by first | rfl | trivial)).elim .inl (fun ⟨k,h1,h2⟩=>.inr ⟨k,by omega,h2⟩),fun _=>rfl⟩
               | false =>
                 by_cases hK3:0 < K
                 · go_wp2_with fail
                   go_roundg (gk - 1)
                   case measure=>have:=HJ.out;have:=HJN.out;omega
                   case rel =>
                    refine ⟨j+1,true,by have:=HJ.out;have:=HJN.out;show _=_;omega,by go_num,rfl,fun k hk=>?_,?_,hC⟩
                    · rcases Nat.lt_or_ge k j with h | h
                      · exact HS2.out k h
                      · obtain rfl:k=j:=by omega
                        exact HGD.out
                    · exact ⟨fun _=>.inr ⟨j,by omega,HPOS.out.2 hK3⟩,fun _=>rfl⟩
                 · go_wp2_with fail
                   go_roundg (gk - 1)
                   case measure=>have:=HJ.out;have:=HJN.out;omega
                   case rel =>
                    refine ⟨j+1,false,by have:=HJ.out;have:=HJN.out;show _=_;omega,by go_num,rfl,fun k hk=>?_,?_,hC⟩
                    · rcases Nat.lt_or_ge k j with h | h
                      · exact HS2.out k h
                      · obtain rfl:k=j:=by omega
                        exact HGD.out
                    · refine ⟨(fun h=>by cases h),fun h=>?_⟩
                      rcases h with h | ⟨k,h1,h2⟩
                      · exact absurd (HB2.out.2 (.inl h)) (by simp)
                      · rcases Nat.lt_or_ge k j with h | h
                        · exact absurd (HB2.out.2 (.inr ⟨k,h,h2⟩)) (by simp)
                        · obtain rfl:k=j:=by omega
                          exact absurd (HPOS.out.1 h2) (by omega)
       · have hjl:¬ (j:Int) < (n:Int):=by omega
         obtain rfl:j=n:=by have:=HJ.out;omega
         clear hjn
         go_wp2_with fail
         go_roundg (GG - 1)
         case measure=>have:=HG.out;have:=HMN.out;omega
         case rel =>
          refine ⟨m+1,b2,by have:=HG.out;have:=HMN.out;show _=_;omega,by go_num,rfl,fun i hi k hk=>?_,?_,hB⟩
          · rcases Nat.lt_or_ge i m with h | h
            · exact HS.out i h k hk
            · obtain rfl:i=m:=by omega
              exact HS2.out k hk
          · show _ ↔ _
            rw [HB2.out]
            constructor
            · rintro (⟨i,k,h1,h2,h3⟩ | ⟨k,h2,h3⟩)
              · exact ⟨i,k,by omega,h2,h3⟩
              · exact ⟨m,k,by omega,h2,h3⟩
            · rintro ⟨i,k,h1,h2,h3⟩
              rcases Nat.lt_or_ge i m with h | h
              · exact .inl ⟨i,k,h,h2,h3⟩
              · obtain rfl:i=m:=by omega
                exact .inr ⟨k,h2,h3⟩
  · have hlt:¬ (m:Int) < (n:Int):=by omega
    obtain rfl:m=n:=by have:=HG.out;omega
    have HALL:=Lib.hid (Qpq HNl.out HS.out HBB.out)
    clear hmn
    by_cases h3:3≤m
    · have h3':(3:Int)≤(m:Int):=by omega
      have HF:Hid (b=R):=by
       have h9:R=true ↔ b=true:=by rw [HR0.out,← HALL.out];exact ⟨fun h=>h.2,fun h=>⟨h3,h⟩⟩
       show b=R
       cases b <;> cases R <;> simp_all
      clear h3
      go_wp2_with fail
      (try rw [Exit.noGoto_ret])
      go_ret
      exact ⟨by rw [← HF.out];first | rfl | simp,hB⟩
    · have h3':¬ (3:Int)≤(m:Int):=by omega
      have HF:Hid (false=R):=by
       show _=_
       cases R with
       | false=>rfl
       | true=>exact absurd (HALL.out.2 (HR0.out.1 rfl)).1 h3
      clear h3
      go_wp2_with fail
      (try rw [Exit.noGoto_ret])
      go_ret
      exact ⟨by rw [← HF.out];first | rfl | simp,hB⟩
end
section
open Go Go.RowKit
section
variable {W W':World} {g:Nat} {v0 v1 v2 v3 v4 v5:Value}
end
end
section
open Go Go.RowKit
abbrev L_cuts:List Nat:=[11,12,13,14,15,16,5,6,7]
def Qh9:Oper:=⟨some 11,.indexAddr 30 (.tmp 3) (.const (Value.int IntKind.i64 0)),0, "law.go:54",#[],none⟩
def QgY:Oper:=⟨some 12,.load 29 (.tmp 11),29, "law.go:54",#[⟨0,.data⟩],none⟩
def Qic:Oper:=⟨some 13,.indexAddr 30 (.tmp 3) (.const (Value.int IntKind.i64 1)),0, "law.go:54",#[⟨9,.gcOnly .lateStores⟩],none⟩
def Qgv:Oper:=⟨some 14,.load 29 (.tmp 13),29, "law.go:54",#[⟨2,.data⟩,⟨9,.gcOnly .lateStores⟩],none⟩
def Qh7:Oper:=⟨some 15,.indexAddr 30 (.tmp 3) (.const (Value.int IntKind.i64 2)),0, "law.go:54",#[⟨10,.gcOnly .lateStores⟩],none⟩
def Qg2:Oper:=⟨some 16,.load 29 (.tmp 15),29, "law.go:54",#[⟨4,.data⟩,⟨10,.gcOnly .lateStores⟩],none⟩
def Qnw:Oper:=⟨some 5,.alloc 29,0, "law.go:54",#[],none⟩
def QoF:Oper:=⟨some 6,.alloc 29,0, "law.go:54",#[],none⟩
def Qnn:Oper:=⟨some 7,.alloc 29,0, "law.go:54",#[],none⟩
def Qgc:Oper:=⟨none,.store 29 (.tmp 5) (.tmp 12),0, "law.go:54",#[⟨6,.data⟩,⟨1,.data⟩,⟨0,.phase⟩,⟨1,.phase⟩,⟨2,.textOnly .lateStores⟩,⟨3,.textOnly .lateStores⟩,⟨4,.textOnly .lateStores⟩,⟨5,.textOnly .lateStores⟩,⟨6,.phase⟩,⟨7,.phase⟩,⟨8,.phase⟩],none⟩
def Qe0:Oper:=⟨none,.store 29 (.tmp 6) (.tmp 14),0, "law.go:54",#[⟨7,.data⟩,⟨3,.data⟩,⟨9,.chain⟩,⟨0,.phase⟩,⟨1,.phase⟩,⟨2,.phase⟩,⟨3,.phase⟩,⟨4,.textOnly .lateStores⟩,⟨5,.textOnly .lateStores⟩,⟨6,.phase⟩,⟨7,.phase⟩,⟨8,.phase⟩,⟨9,.phase⟩],none⟩
def QeT:Oper:=⟨none,.store 29 (.tmp 7) (.tmp 16),0, "law.go:54",#[⟨8,.data⟩,⟨5,.data⟩,⟨10,.chain⟩,⟨0,.phase⟩,⟨1,.phase⟩,⟨2,.phase⟩,⟨3,.phase⟩,⟨4,.phase⟩,⟨5,.phase⟩,⟨6,.phase⟩,⟨7,.phase⟩,⟨8,.phase⟩,⟨9,.phase⟩,⟨10,.phase⟩],none⟩
def Qq0 (s_p:Bool) (t_p:Bool) (A_p:Option Addr) (B_p:Option Addr) (E_p:Option Addr) (F_p:Option Addr) (n_p:Nat) (c_p:Nat) (m_p:Nat) (d_p:Nat) (i_p:Nat) (e_p:Nat) (j_p:Nat) (f_p:Nat) (s_q:Bool) (t_q:Bool) (A_q:Option Addr) (B_q:Option Addr) (E_q:Option Addr) (F_q:Option Addr) (n_q:Nat) (c_q:Nat) (m_q:Nat) (d_q:Nat) (i_q:Nat) (e_q:Nat) (j_q:Nat) (f_q:Nat) (s_r:Bool) (t_r:Bool) (A_r:Option Addr) (B_r:Option Addr) (E_r:Option Addr) (F_r:Option Addr) (n_r:Nat) (c_r:Nat) (m_r:Nat) (d_r:Nat) (i_r:Nat) (e_r:Nat) (j_r:Nat) (f_r:Nat) (gp:Nat) (sl:Nat):Value→World→Prop :=
 match sl with
 | 11=>fun x _=>x=Value.pointer (some ⟨gp,0,none⟩)
 | 12=>VK (#[.bool s_p,.slice A_p n_p c_p,.slice B_p m_p d_p,.bool t_p,.slice E_p i_p e_p,.slice F_p j_p f_p])
 | 13=>fun x _=>x=Value.pointer (some ⟨gp,6,none⟩)
 | 14=>VK (#[.bool s_q,.slice A_q n_q c_q,.slice B_q m_q d_q,.bool t_q,.slice E_q i_q e_q,.slice F_q j_q f_q])
 | 15=>fun x _=>x=Value.pointer (some ⟨gp,12,none⟩)
 | 16=>VK (#[.bool s_r,.slice A_r n_r c_r,.slice B_r m_r d_r,.bool t_r,.slice E_r i_r e_r,.slice F_r j_r f_r])
 | _=>fun _ _=>True
def Qdn (s_p:Bool) (t_p:Bool) (A_p:Option Addr) (B_p:Option Addr) (E_p:Option Addr) (F_p:Option Addr) (n_p:Nat) (c_p:Nat) (m_p:Nat) (d_p:Nat) (i_p:Nat) (e_p:Nat) (j_p:Nat) (f_p:Nat):QbU :=
 ⟨6,9,5,29,#[.bool false,.slice none 0 0,.slice none 0 0,.bool false,.slice none 0 0,.slice none 0 0],fun cs _=>cs=#[.bool s_p,.slice A_p n_p c_p,.slice B_p m_p d_p,.bool t_p,.slice E_p i_p e_p,.slice F_p j_p f_p]⟩
def Qdk (s_q:Bool) (t_q:Bool) (A_q:Option Addr) (B_q:Option Addr) (E_q:Option Addr) (F_q:Option Addr) (n_q:Nat) (c_q:Nat) (m_q:Nat) (d_q:Nat) (i_q:Nat) (e_q:Nat) (j_q:Nat) (f_q:Nat):QbU :=
 ⟨7,10,6,29,#[.bool false,.slice none 0 0,.slice none 0 0,.bool false,.slice none 0 0,.slice none 0 0],fun cs _=>cs=#[.bool s_q,.slice A_q n_q c_q,.slice B_q m_q d_q,.bool t_q,.slice E_q i_q e_q,.slice F_q j_q f_q]⟩
def QdA (s_r:Bool) (t_r:Bool) (A_r:Option Addr) (B_r:Option Addr) (E_r:Option Addr) (F_r:Option Addr) (n_r:Nat) (c_r:Nat) (m_r:Nat) (d_r:Nat) (i_r:Nat) (e_r:Nat) (j_r:Nat) (f_r:Nat):QbU :=
 ⟨8,11,7,29,#[.bool false,.slice none 0 0,.slice none 0 0,.bool false,.slice none 0 0,.slice none 0 0],fun cs _=>cs=#[.bool s_r,.slice A_r n_r c_r,.slice B_r m_r d_r,.bool t_r,.slice E_r i_r e_r,.slice F_r j_r f_r]⟩
theorem QdB {id:Nat} {ac:Act} {Q:Exit→Act→World→Prop} {gp:Nat}
 (hsz:16 < ac.tmps.size) (e3:ac.eval (.tmp 3)=Value.pointer (some ⟨gp,0,none⟩)) (XL:BA3 w gp (.bool s_p) (.slice A_p n_p c_p) (.slice B_p m_p d_p) (.bool t_p) (.slice E_p i_p e_p) (.slice F_p j_p f_p) (.bool s_q) (.slice A_q n_q c_q) (.slice B_q m_q d_q) (.bool t_q) (.slice E_q i_q e_q) (.slice F_q j_q f_q) (.bool s_r) (.slice A_r n_r c_r) (.slice B_r m_r d_r) (.bool t_r) (.slice E_r i_r e_r) (.slice F_r j_r f_r)) 
 (hend:∀ (V:Nat→Value) (w':World) (g0:Nat) (g1:Nat) (g2:Nat),B6 w' g0 (.bool s_p) (.slice A_p n_p c_p) (.slice B_p m_p d_p) (.bool t_p) (.slice E_p i_p e_p) (.slice F_p j_p f_p)→w.heap.size≤g0→V 5=.pointer (some ⟨g0,0,none⟩)→B6 w' g1 (.bool s_q) (.slice A_q n_q c_q) (.slice B_q m_q d_q) (.bool t_q) (.slice E_q i_q e_q) (.slice F_q j_q f_q)→w.heap.size≤g1→V 6=.pointer (some ⟨g1,0,none⟩)→B6 w' g2 (.bool s_r) (.slice A_r n_r c_r) (.slice B_r m_r d_r) (.bool t_r) (.slice E_r i_r e_r) (.slice F_r j_r f_r)→w.heap.size≤g2→V 7=.pointer (some ⟨g2,0,none⟩)→g1 ≠ g0→g2 ≠ g0→g2 ≠ g1→Below w.heap.size w w'→Q .normal (Qam ac [11,12,13,14,15,16,5,6,7] V) w') :
 (Code.region id #[Qh9,QgY,Qic,Qgv,Qh7,Qg2,Qnw,QoF,Qnn,Qgc,Qe0,QeT] true).wp Tryz.prog Q ac w:=by
 have hnd:L_cuts.Nodup:=by decide
 have G:∀ (sv:Nat→Value) (t:Nat),t ∈ L_cuts→t≤16→(Qam ac L_cuts sv).eval (.tmp t)=sv t:=fun sv t ht h=>Qaz (t:=t) L_cuts ac hnd ht (Nat.lt_of_le_of_lt h hsz)
 have E3:∀ sv:Nat→Value,(Qam ac L_cuts sv).eval (.tmp 3)=Value.pointer (some ⟨gp,0,none⟩):=fun sv=>(Qap (v:=sv) L_cuts ac (show 3 ∉ _ by decide)).trans e3
 have NE:∀ t:Nat,(t ≠ 5∧t ≠ 6∧t ≠ 7)→∀ p ∈ [Qdn s_p t_p A_p B_p E_p F_p n_p c_p m_p d_p i_p e_p j_p f_p,Qdk s_q t_q A_q B_q E_q F_q n_q c_q m_q d_q i_q e_q j_q f_q,QdA s_r t_r A_r B_r E_r F_r n_r c_r m_r d_r i_r e_r j_r f_r],t ≠ p.tA:=by
  intro t ht p hp
  simp only [List.mem_cons,List.not_mem_nil,or_false] at hp
  rcases hp with rfl | rfl | rfl
  · exact ht.1
  · exact ht.2.1
  · exact ht.2.2
 refine Qhc L_cuts [Qdn s_p t_p A_p B_p E_p F_p n_p c_p m_p d_p i_p e_p j_p f_p,Qdk s_q t_q A_q B_q E_q F_q n_q c_q m_q d_q i_q e_q j_q f_q,QdA s_r t_r A_r B_r E_r F_r n_r c_r m_r d_r i_r e_r j_r f_r] (Qq0 s_p t_p A_p B_p E_p F_p n_p c_p m_p d_p i_p e_p j_p f_p s_q t_q A_q B_q E_q F_q n_q c_q m_q d_q i_q e_q j_q f_q s_r t_r A_r B_r E_r F_r n_r c_r m_r d_r i_r e_r j_r f_r gp) (by kernel_rfl) (by kernel_rfl) rfl hnd ?_ ?_ ?_ ?_ ?_ ?_ ?_ ?_
 · intro p hp
   simp only [List.mem_cons,List.not_mem_nil,or_false] at hp
   rcases hp with rfl | rfl | rfl
   · refine ⟨⟨Qnw,rfl,rfl,rfl,fun e w'=>QcO⟩,⟨Qgc,rfl,rfl,rfl,⟨6,.data⟩,by simp [Qgc],rfl,rfl⟩,Qfw _ _ _ _ _ _ _ _ _ _ _ _ _ _,?_,?_⟩
     · rintro cs w1 w2 rfl hb;rfl
     · rintro T cs w1 w2 g c0 rfl hB ho;rfl
   · refine ⟨⟨QoF,rfl,rfl,rfl,fun e w'=>QcO⟩,⟨Qe0,rfl,rfl,rfl,⟨7,.data⟩,by simp [Qe0],rfl,rfl⟩,Qfw _ _ _ _ _ _ _ _ _ _ _ _ _ _,?_,?_⟩
     · rintro cs w1 w2 rfl hb;rfl
     · rintro T cs w1 w2 g c0 rfl hB ho;rfl
   · refine ⟨⟨Qnn,rfl,rfl,rfl,fun e w'=>QcO⟩,⟨QeT,rfl,rfl,rfl,⟨8,.data⟩,by simp [QeT],rfl,rfl⟩,Qfw _ _ _ _ _ _ _ _ _ _ _ _ _ _,?_,?_⟩
     · rintro cs w1 w2 rfl hb;rfl
     · rintro T cs w1 w2 g c0 rfl hB ho;rfl
 · intro p hp q hq h
   simp only [List.mem_cons,List.not_mem_nil,or_false] at hp hq
   rcases hp with rfl | rfl | rfl <;> rcases hq with rfl | rfl | rfl
   · rfl
   · exact absurd (show (5:Nat)=6 from h) (by decide)
   · exact absurd (show (5:Nat)=7 from h) (by decide)
   · exact absurd (show (6:Nat)=5 from h) (by decide)
   · rfl
   · exact absurd (show (6:Nat)=7 from h) (by decide)
   · exact absurd (show (7:Nat)=5 from h) (by decide)
   · exact absurd (show (7:Nat)=6 from h) (by decide)
   · rfl
 · intro p hp q hq h
   simp only [List.mem_cons,List.not_mem_nil,or_false] at hp hq
   rcases hp with rfl | rfl | rfl <;> rcases hq with rfl | rfl | rfl
   · rfl
   · exact absurd (show (9:Nat)=10 from h) (by decide)
   · exact absurd (show (9:Nat)=11 from h) (by decide)
   · exact absurd (show (10:Nat)=9 from h) (by decide)
   · rfl
   · exact absurd (show (10:Nat)=11 from h) (by decide)
   · exact absurd (show (11:Nat)=9 from h) (by decide)
   · exact absurd (show (11:Nat)=10 from h) (by decide)
   · rfl
 · intro i o h1 h2
   match i,h1 with
   | 0,h1=>cases h1;cases h2
   | 1,h1=>cases h1;cases h2
   | 2,h1=>cases h1;cases h2
   | 3,h1=>cases h1;cases h2
   | 4,h1=>cases h1;cases h2
   | 5,h1=>cases h1;cases h2
   | 6,h1=>cases h1;cases h2
   | 7,h1=>cases h1;cases h2
   | 8,h1=>cases h1;cases h2
   | 9,h1=>exact ⟨Qdn s_p t_p A_p B_p E_p F_p n_p c_p m_p d_p i_p e_p j_p f_p,List.Mem.head _,rfl⟩
   | 10,h1=>exact ⟨Qdk s_q t_q A_q B_q E_q F_q n_q c_q m_q d_q i_q e_q j_q f_q,List.Mem.tail _ (List.Mem.head _),rfl⟩
   | 11,h1=>exact ⟨QdA s_r t_r A_r B_r E_r F_r n_r c_r m_r d_r i_r e_r j_r f_r,List.Mem.tail _ (List.Mem.tail _ (List.Mem.head _)),rfl⟩
   | i+12,h1=>cases h1
 · intro t
   unfold Qq0
   split <;> first | exact QbF _ | exact QbS _ _ | exact Qct _ _ | exact Qco _ _ | exact QbO _ _ | exact QbQ _ _ _ | exact QnA _ | exact Qa4
 · intro i o t sv w' ho hia hd J0 hf
   have XL:=XL.below J0
   match i,ho with
   | 0,ho =>
     obtain rfl:Qh9=o:=Option.some.inj ho
     cases hd
     refine Qaa (o:=Qh9) rfl rfl ?_
     unfold Oper.wp Qh9
     rw [QrI (E3 sv) rfl,Oper.upon_value]
     exact ⟨_,rfl,Below.refl _ _,rfl⟩
   | 1,ho =>
     obtain rfl:QgY=o:=Option.some.inj ho
     cases hd
     have f11:sv 11=Value.pointer (some ⟨gp,0,none⟩):=hf ⟨0,.data⟩ (by simp [QgY]) rfl _ 11 rfl rfl (NE _ (by decide))
     refine Qaa (o:=QgY) rfl rfl ?_
     unfold Oper.wp QgY
     rw [Qmx ((G sv 11 (by decide) (by decide)).trans f11) XL,Oper.upon_value]
     exact ⟨_,rfl,Below.refl _ _,rfl⟩
   | 2,ho =>
     obtain rfl:Qic=o:=Option.some.inj ho
     cases hd
     refine Qaa (o:=Qic) rfl rfl ?_
     unfold Oper.wp Qic
     rw [Qr7 (E3 sv) rfl,Oper.upon_value]
     exact ⟨_,rfl,Below.refl _ _,rfl⟩
   | 3,ho =>
     obtain rfl:Qgv=o:=Option.some.inj ho
     cases hd
     have f13:sv 13=Value.pointer (some ⟨gp,6,none⟩):=hf ⟨2,.data⟩ (by simp [Qgv]) rfl _ 13 rfl rfl (NE _ (by decide))
     refine Qaa (o:=Qgv) rfl rfl ?_
     unfold Oper.wp Qgv
     rw [Qmn ((G sv 13 (by decide) (by decide)).trans f13) XL,Oper.upon_value]
     exact ⟨_,rfl,Below.refl _ _,rfl⟩
   | 4,ho =>
     obtain rfl:Qh7=o:=Option.some.inj ho
     cases hd
     refine Qaa (o:=Qh7) rfl rfl ?_
     unfold Oper.wp Qh7
     rw [Qr8 (E3 sv) rfl,Oper.upon_value]
     exact ⟨_,rfl,Below.refl _ _,rfl⟩
   | 5,ho =>
     obtain rfl:Qg2=o:=Option.some.inj ho
     cases hd
     have f15:sv 15=Value.pointer (some ⟨gp,12,none⟩):=hf ⟨4,.data⟩ (by simp [Qg2]) rfl _ 15 rfl rfl (NE _ (by decide))
     refine Qaa (o:=Qg2) rfl rfl ?_
     unfold Oper.wp Qg2
     rw [QmM ((G sv 15 (by decide) (by decide)).trans f15) XL,Oper.upon_value]
     exact ⟨_,rfl,Below.refl _ _,rfl⟩
   | 6,ho=>cases ho;cases hd;exact absurd rfl (hia (Qdn s_p t_p A_p B_p E_p F_p n_p c_p m_p d_p i_p e_p j_p f_p) (List.Mem.head _))
   | 7,ho=>cases ho;cases hd;exact absurd rfl (hia (Qdk s_q t_q A_q B_q E_q F_q n_q c_q m_q d_q i_q e_q j_q f_q) (List.Mem.tail _ (List.Mem.head _)))
   | 8,ho=>cases ho;cases hd;exact absurd rfl (hia (QdA s_r t_r A_r B_r E_r F_r n_r c_r m_r d_r i_r e_r j_r f_r) (List.Mem.tail _ (List.Mem.tail _ (List.Mem.head _))))
   | 9,ho=>cases ho;cases hd
   | 10,ho=>cases ho;cases hd
   | 11,ho=>cases ho;cases hd
   | i+12,ho=>cases ho
 · intro p hp os sv w' g hos J0 p1 p3 hf
   simp only [List.mem_cons,List.not_mem_nil,or_false] at hp
   rcases hp with rfl | rfl | rfl
   · obtain rfl:Qgc=os:=Option.some.inj hos
     have h1:VK (#[.bool s_p,.slice A_p n_p c_p,.slice B_p m_p d_p,.bool t_p,.slice E_p i_p e_p,.slice F_p j_p f_p]) (sv 12) w':=hf ⟨1,.data⟩ (by simp [Qgc]) rfl _ 12 rfl rfl (NE _ (by decide))
     rw [← G sv 12 (by decide) (by decide)] at h1
     refine Qge  (ac:=Qam ac L_cuts sv) (z:=.tmp 12) ?_ ?_ ?_
     · exact (G sv 5 (by decide) (by decide)).trans p1
     · exact h1
     · exact p3
   · obtain rfl:Qe0=os:=Option.some.inj hos
     have h1:VK (#[.bool s_q,.slice A_q n_q c_q,.slice B_q m_q d_q,.bool t_q,.slice E_q i_q e_q,.slice F_q j_q f_q]) (sv 14) w':=hf ⟨3,.data⟩ (by simp [Qe0]) rfl _ 14 rfl rfl (NE _ (by decide))
     rw [← G sv 14 (by decide) (by decide)] at h1
     refine Qge  (ac:=Qam ac L_cuts sv) (z:=.tmp 14) ?_ ?_ ?_
     · exact (G sv 6 (by decide) (by decide)).trans p1
     · exact h1
     · exact p3
   · obtain rfl:QeT=os:=Option.some.inj hos
     have h1:VK (#[.bool s_r,.slice A_r n_r c_r,.slice B_r m_r d_r,.bool t_r,.slice E_r i_r e_r,.slice F_r j_r f_r]) (sv 16) w':=hf ⟨5,.data⟩ (by simp [QeT]) rfl _ 16 rfl rfl (NE _ (by decide))
     rw [← G sv 16 (by decide) (by decide)] at h1
     refine Qge  (ac:=Qam ac L_cuts sv) (z:=.tmp 16) ?_ ?_ ?_
     · exact (G sv 7 (by decide) (by decide)).trans p1
     · exact h1
     · exact p3
 · intro sv w' J0 hF hB hap
   obtain ⟨g0,cs0,p0,r0,b0,rfl⟩:=hB (Qdn s_p t_p A_p B_p E_p F_p n_p c_p m_p d_p i_p e_p j_p f_p) (List.Mem.head _)
   obtain ⟨g1,cs1,p1,r1,b1,rfl⟩:=hB (Qdk s_q t_q A_q B_q E_q F_q n_q c_q m_q d_q i_q e_q j_q f_q) (List.Mem.tail _ (List.Mem.head _))
   obtain ⟨g2,cs2,p2,r2,b2,rfl⟩:=hB (QdA s_r t_r A_r B_r E_r F_r n_r c_r m_r d_r i_r e_r j_r f_r) (List.Mem.tail _ (List.Mem.tail _ (List.Mem.head _)))
   have p0':sv 5=.pointer (some ⟨g0,0,none⟩):=p0
   have p1':sv 6=.pointer (some ⟨g1,0,none⟩):=p1
   have p2':sv 7=.pointer (some ⟨g2,0,none⟩):=p2
   exact hend sv w' g0 g1 g2 b0.at_ r0 p0' b1.at_ r1 p1' b2.at_ r2 p2' (fun q=>hap (Qdk s_q t_q A_q B_q E_q F_q n_q c_q m_q d_q i_q e_q j_q f_q) (List.Mem.tail _ (List.Mem.head _)) (Qdn s_p t_p A_p B_p E_p F_p n_p c_p m_p d_p i_p e_p j_p f_p) (List.Mem.head _) (show (6:Nat) ≠ 5 by decide) (by rw [show (Qdk s_q t_q A_q B_q E_q F_q n_q c_q m_q d_q i_q e_q j_q f_q).tA=6 from rfl,show (Qdn s_p t_p A_p B_p E_p F_p n_p c_p m_p d_p i_p e_p j_p f_p).tA=5 from rfl,p1',p0',q])) (fun q=>hap (QdA s_r t_r A_r B_r E_r F_r n_r c_r m_r d_r i_r e_r j_r f_r) (List.Mem.tail _ (List.Mem.tail _ (List.Mem.head _))) (Qdn s_p t_p A_p B_p E_p F_p n_p c_p m_p d_p i_p e_p j_p f_p) (List.Mem.head _) (show (7:Nat) ≠ 5 by decide) (by rw [show (QdA s_r t_r A_r B_r E_r F_r n_r c_r m_r d_r i_r e_r j_r f_r).tA=7 from rfl,show (Qdn s_p t_p A_p B_p E_p F_p n_p c_p m_p d_p i_p e_p j_p f_p).tA=5 from rfl,p2',p0',q])) (fun q=>hap (QdA s_r t_r A_r B_r E_r F_r n_r c_r m_r d_r i_r e_r j_r f_r) (List.Mem.tail _ (List.Mem.tail _ (List.Mem.head _))) (Qdk s_q t_q A_q B_q E_q F_q n_q c_q m_q d_q i_q e_q j_q f_q) (List.Mem.tail _ (List.Mem.head _)) (show (7:Nat) ≠ 6 by decide) (by rw [show (QdA s_r t_r A_r B_r E_r F_r n_r c_r m_r d_r i_r e_r j_r f_r).tA=7 from rfl,show (Qdk s_q t_q A_q B_q E_q F_q n_q c_q m_q d_q i_q e_q j_q f_q).tA=6 from rfl,p2',p1',q]))  J0
theorem Each.mor {L:List PV} {l:List (Rat × Rat)} {k m:Nat} (h:Each PV.PR w L l k) (hm:k≤m):Each PV.PR w L l m:=⟨h.1,fun i p u hp hu=>PR.more (h.2 i p u hp hu) hm⟩
theorem Qg3 {p:Prop} (h:p):true=true ↔ p:=⟨fun _=>h,fun _=>rfl⟩
theorem Qrr {p:Prop} (h:¬ p):false=true ↔ p:=⟨fun e=>by (cases e),fun e=>absurd e h⟩
theorem Qfk {A:Option Addr} {n c:Nat} {L:List PV} {l:List (Rat × Rat)} (hL:SV w A (pvs L)) (hE:Each PV.PR w L l 162) (hn:L.length=n) (hm:n≤16) (hnc:n≤c) :
 Calls Tryz.prog 14 #[.slice A n c] w (QbM w (Qcn l) 10500):=by
 refine (QlV hL hE hn (by omega) hnc (by decide) (by decide) (by omega)).mono ?_
 rintro e w' ⟨s,A,n,c,B,m,d,he,hq,hb⟩
 exact ⟨s,A,n,c,B,m,d,he,hq.more (by omega),hb⟩
theorem Qmb {A:Option Addr} {n c:Nat} {L:List PV} {l:List (Rat × Rat)} (hL:SV w A (pvs L)) (hE:Each PV.PR w L l 4) (hn:L.length=n) (hm:n≤16) (hnc:n≤c) :
 Calls Tryz.prog 14 #[.slice A n c] w (QbM w (Qcn l) 10500):=by
 refine (QlV hL hE hn (by omega) hnc (by decide) (by decide) (by omega)).mono ?_
 rintro e w' ⟨s,A,n,c,B,m,d,he,hq,hb⟩
 exact ⟨s,A,n,c,B,m,d,he,hq.more (by omega),hb⟩
end
end Go.Proofs.YthbhngeiiabagaaGreat
