/- FlatNear: part 14. -/
import Derived.Test.YtlpogecpdfdggaaGreatKFlatNear9
import Derived.Test.YtlpogecpdfdggaaGreatKFlatNear10
import Derived.Test.YtlpogecpdfdggaaGreatKFlatNear11
import Derived.Test.YtlpogecpdfdggaaGreatKFlatNear12
import Derived.Test.YtlpogecpdfdggaaGreatKFlatNear13
set_option linter.unusedVariables false
set_option maxRecDepth 100000
set_option maxHeartbeats 16000000
variable {w:Go.World}
variable {s_p t_p:Bool} {A_p B_p E_p F_p:Option Go.Addr} {n_p c_p m_p d_p i_p e_p j_p f_p:Nat}
variable {s_q t_q:Bool} {A_q B_q E_q F_q:Option Go.Addr} {n_q c_q m_q d_q i_q e_q j_q f_q:Nat}
variable {s_r t_r:Bool} {A_r B_r E_r F_r:Option Go.Addr} {n_r c_r m_r d_r i_r e_r j_r f_r:Nat}
namespace Go.Proofs.YtlpogecpdfdggaaGreat
section
open Go Go.RowKit
attribute [local go_sem ↓] open_LVH open_STH open_LVJ open_STJ
def QV.small (M:Nat) (q:QV):Prop:=q.n≤M∧q.m≤M
instance (M:Nat) (q:QV):Decidable (q.small M):=by unfold QV.small;exact inferInstance
def HV.small (M:Nat) (p:HV):Prop:=p.x.small M∧p.y.small M∧p.w.small M
theorem smallI (M:Nat) {MI:Int} (hMI:MI=(M:Int)) {s:Bool} {A A':Option Addr} {n c n' c':Nat} (w:World) (L:Bool) (hL:decide (n≤M∧n'≤M)=L) :
 Calls Tryz.prog 7 #[.agg #[.bool s,.slice A n c,.slice A' n' c'],.int .i64 MI] w fun e w'=>e=.returned (.bool L)∧Below w.heap.size w w':=by
 subst hMI;exact small_m M w L hL
theorem fair13 {A:Option Addr} {n c:Nat} {L:List HV} (hL:SV w A (hvs L)) (hn:L.length=n) (hm:n≤maxLen) (R:Bool) (hR0:R=true ↔ (∀ p ∈ L,p.small 4)∧n≤6) :
 Calls Tryz.prog 6 #[.slice A n c] w fun e w'=>e=.returned (.bool R)∧Below w.heap.size w w':=by
 unfold maxLen at hm
 have HN:=Lib.hid hn;have HL0:=Lib.hid hL;have HR0:=Lib.hid hR0
 have H4:Hid ((4:Int)=((4:Nat):Int)):=rfl
 clear hR0 hL hn
 go_enter Tryz.func6,Tryz.ntmps6
 go_wp2_with fail
 go_loopg [3] n (fun gk ix wr=>∃ (m:Nat),Hid (gk+m=n)∧ix=.int .i64 (m:Int)∧Hid (∀ (i:Nat) (p:HV),i < m→L[i]?=some p→p.small 4)∧Below w.heap.size w wr)
 case atStart=>exact ⟨0,Nat.add_zero _,rfl,fun i p hi=>absurd hi (by omega),Below.refl _ _⟩
 case round =>
  obtain ⟨m,HG,rfl,HS,hb⟩:=hrel
  by_cases hmn:m < n
  · have HMN:=Lib.hid hmn
    obtain ⟨P,hP1⟩:∃ P,L[m]?=some P:=⟨_,List.getElem?_eq_getElem (by rw [HN.out];exact hmn)⟩
    obtain ⟨g0,o0,hix0,EP,_⟩:=(HL0.out.below hb).ht hP1
    have hixa:∀ w',(Instr.indexAt 22 (.slice A n c) (.int .i64 (m:Int))).run Tryz.prog w'=.ok (.pointer (some ⟨g0,o0,none⟩)) w':=fun w'=>hix0 n c w' hmn
    have hlt:(m:Int) < (n:Int):=by omega
    have hwr:IntKind.i64.wrap ((m:Int)+1)=(m:Int)+1:=IntWalk.i64_in _ (by omega)
    have HP1:=Lib.hid hP1;obtain ⟨ep0,ep1,ep2,ep3,ep4,ep5,ep6,ep7,ep8⟩:=EP.all;clear hP1 hix0 hmn
    by_cases hx:P.x.small 4
    · have Hx:Hid (decide (P.x.n≤4∧P.x.m≤4)=true):=decide_eq_true hx
      by_cases hy:P.y.small 4
      · have Hy:Hid (decide (P.y.n≤4∧P.y.m≤4)=true):=decide_eq_true hy
        by_cases hw:P.w.small 4
        · have Hw:Hid (decide (P.w.n≤4∧P.w.m≤4)=true):=decide_eq_true hw
          have HSM:Hid (P.small 4):=⟨hx,hy,hw⟩
          clear hx hy hw
          go_wp2_with (first
           | (go_at_call 7;(with_reducible refine (smallI 4 H4.out (s:=P.x.s) (A:=P.x.A) (n:=P.x.n) (c:=P.x.c) (A':=P.x.B) (n':=P.x.m) (c':=P.x.d) _ true Hx.out).mono ?_);rintro e w_z ⟨rfl,hh⟩
              (try replace EP:=EP.below hh);replace hb:=bend hb hh;obtain ⟨ep0,ep1,ep2,ep3,ep4,ep5,ep6,ep7,ep8⟩:=EP.all)
           | (go_at_call 7;(with_reducible refine (smallI 4 H4.out (s:=P.y.s) (A:=P.y.A) (n:=P.y.n) (c:=P.y.c) (A':=P.y.B) (n':=P.y.m) (c':=P.y.d) _ true Hy.out).mono ?_);rintro e w_z ⟨rfl,hh⟩
              (try replace EP:=EP.below hh);replace hb:=bend hb hh;obtain ⟨ep0,ep1,ep2,ep3,ep4,ep5,ep6,ep7,ep8⟩:=EP.all)
           | (go_at_call 7;(with_reducible refine (smallI 4 H4.out (s:=P.w.s) (A:=P.w.A) (n:=P.w.n) (c:=P.w.c) (A':=P.w.B) (n':=P.w.m) (c':=P.w.d) _ true Hw.out).mono ?_);rintro e w_z ⟨rfl,hh⟩
              (try replace EP:=EP.below hh);replace hb:=bend hb hh;obtain ⟨ep0,ep1,ep2,ep3,ep4,ep5,ep6,ep7,ep8⟩:=EP.all))
          go_roundg (gk - 1)
          case measure=>have:=HG.out;have:=HMN.out;omega
          case rel =>
           refine ⟨m+1,by have:=HG.out;have:=HMN.out;show _=_;omega,by go_num,fun i p hi h5=>?_,hb⟩
           rcases Nat.lt_or_ge i m with h | h
           · exact HS.out i p h h5
           · obtain rfl:i=m:=by omega
             rw [HP1.out] at h5;cases h5;exact HSM.out
        · have Hw:Hid (decide (P.w.n≤4∧P.w.m≤4)=false):=decide_eq_false hw
          have HF:Hid (false=R):=by
           show _=_
           cases R with
           | false=>rfl
           | true=>exact absurd (((HR0.out.1 rfl).1 _ (List.mem_of_getElem? HP1.out)).2.2) hw
          clear hx hy hw
          go_wp2_with (first
           | (go_at_call 7;(with_reducible refine (smallI 4 H4.out (s:=P.x.s) (A:=P.x.A) (n:=P.x.n) (c:=P.x.c) (A':=P.x.B) (n':=P.x.m) (c':=P.x.d) _ true Hx.out).mono ?_);rintro e w_z ⟨rfl,hh⟩
              (try replace EP:=EP.below hh);replace hb:=bend hb hh;obtain ⟨ep0,ep1,ep2,ep3,ep4,ep5,ep6,ep7,ep8⟩:=EP.all)
           | (go_at_call 7;(with_reducible refine (smallI 4 H4.out (s:=P.y.s) (A:=P.y.A) (n:=P.y.n) (c:=P.y.c) (A':=P.y.B) (n':=P.y.m) (c':=P.y.d) _ true Hy.out).mono ?_);rintro e w_z ⟨rfl,hh⟩
              (try replace EP:=EP.below hh);replace hb:=bend hb hh;obtain ⟨ep0,ep1,ep2,ep3,ep4,ep5,ep6,ep7,ep8⟩:=EP.all)
           | (go_at_call 7;(with_reducible refine (smallI 4 H4.out (s:=P.w.s) (A:=P.w.A) (n:=P.w.n) (c:=P.w.c) (A':=P.w.B) (n':=P.w.m) (c':=P.w.d) _ false Hw.out).mono ?_);rintro e w_z ⟨rfl,hh⟩
              (try replace EP:=EP.below hh);replace hb:=bend hb hh;obtain ⟨ep0,ep1,ep2,ep3,ep4,ep5,ep6,ep7,ep8⟩:=EP.all))
          (try rw [Exit.noGoto_ret])
          go_ret
          exact ⟨by rw [← HF.out];rfl,hb⟩
      · have Hy:Hid (decide (P.y.n≤4∧P.y.m≤4)=false):=decide_eq_false hy
        have HF:Hid (false=R):=by
         show _=_
         cases R with
         | false=>rfl
         | true=>exact absurd (((HR0.out.1 rfl).1 _ (List.mem_of_getElem? HP1.out)).2.1) hy
        clear hx hy
        go_wp2_with (first
         | (go_at_call 7;(with_reducible refine (smallI 4 H4.out (s:=P.x.s) (A:=P.x.A) (n:=P.x.n) (c:=P.x.c) (A':=P.x.B) (n':=P.x.m) (c':=P.x.d) _ true Hx.out).mono ?_);rintro e w_z ⟨rfl,hh⟩
            (try replace EP:=EP.below hh);replace hb:=bend hb hh;obtain ⟨ep0,ep1,ep2,ep3,ep4,ep5,ep6,ep7,ep8⟩:=EP.all)
         | (go_at_call 7;(with_reducible refine (smallI 4 H4.out (s:=P.y.s) (A:=P.y.A) (n:=P.y.n) (c:=P.y.c) (A':=P.y.B) (n':=P.y.m) (c':=P.y.d) _ false Hy.out).mono ?_);rintro e w_z ⟨rfl,hh⟩
            (try replace EP:=EP.below hh);replace hb:=bend hb hh;obtain ⟨ep0,ep1,ep2,ep3,ep4,ep5,ep6,ep7,ep8⟩:=EP.all))
        (try rw [Exit.noGoto_ret])
        go_ret
        exact ⟨by rw [← HF.out];rfl,hb⟩
    · have Hx:Hid (decide (P.x.n≤4∧P.x.m≤4)=false):=decide_eq_false hx
      have HF:Hid (false=R):=by
       show _=_
       cases R with
       | false=>rfl
       | true=>exact absurd (((HR0.out.1 rfl).1 _ (List.mem_of_getElem? HP1.out)).1) hx
      clear hx
      go_wp2_with (first
       | (go_at_call 7;(with_reducible refine (smallI 4 H4.out (s:=P.x.s) (A:=P.x.A) (n:=P.x.n) (c:=P.x.c) (A':=P.x.B) (n':=P.x.m) (c':=P.x.d) _ false Hx.out).mono ?_);rintro e w_z ⟨rfl,hh⟩
          (try replace EP:=EP.below hh);replace hb:=bend hb hh;obtain ⟨ep0,ep1,ep2,ep3,ep4,ep5,ep6,ep7,ep8⟩:=EP.all))
      (try rw [Exit.noGoto_ret])
      go_ret
      exact ⟨by rw [← HF.out];rfl,hb⟩
  · have hlt:¬ (m:Int) < (n:Int):=by omega
    have HT:Hid (decide ((n:Int)≤6)=R):=by
     have ha:∀ p ∈ L,p.small 4:=fun p hp=>by
      obtain ⟨i,hi⟩:=List.getElem?_of_mem hp
      have h7:=(List.getElem?_eq_some_iff.1 hi).1
      rw [HN.out] at h7
      exact HS.out i p (by omega) hi
     show _=_
     cases R with
     | true=>exact decide_eq_true (by have:=(HR0.out.1 rfl).2;omega)
     | false=>exact decide_eq_false fun h6=>by have:=HR0.out.2 ⟨ha,by omega⟩;cases this
    clear hmn
    go_wp2_with fail
    (try rw [Exit.noGoto_ret])
    go_ret
    exact ⟨by rw [← HT.out];rfl,hb⟩
end
section
open Go Go.RowKit
attribute [local go_sem ↓] open_LVH open_STH open_LVJ open_STJ
theorem rins13 {A:Option Addr} {n c k:Nat} {L:List HV} {V:List AH} (hL:SV w A (hvs L)) (hE:EachH HR w L V k) (hn:L.length=n) (hm:n≤1000) (hk:k≤1000) (h1:1≤k) :
 Calls Tryz.prog 9 #[.slice A n c] w (GivesJs w V (2*k)):=by
 have HN:=Lib.hid hn
 have HVl:Hid (V.length=n):=hE.1.symm.trans hn
 have HL9:=Lib.hid hL;have E9:=Lib.hid hE;clear hL hE hn
 go_enter Tryz.func9,Tryz.ntmps9
 go_wp2_with fail
 go_loopg [3,4] n (fun gk out ix wr=>∃ (M:List HV) (m:Nat),Hid (gk+m=n)∧ix=.int .i64 (m:Int)∧LnH 65 w.heap.size wr out M∧Hid (EachH RH wr M (V.take m) (2*k))∧Below w.heap.size w wr)
 case atStart=>exact ⟨[],0,Nat.add_zero _,rfl,LnH.nil _ _ _,⟨rfl,fun i p u h=>by cases h⟩,Below.refl _ _⟩
 case round =>
  obtain ⟨M,m,HG9,rfl,LT,HQ,hB⟩:=hrel
  by_cases hmn:m < n
  · obtain ⟨P,u,hP1,hu1,p0⟩:=(EachH.belowR E9.out hB).at_ (i:=m) (by rw [HN.out];exact hmn)
    obtain ⟨g0,o0,hix0,EP0,_⟩:=HL9.out.ht hP1
    have hixa:∀ w',(Instr.indexAt 22 (.slice A n c) (.int .i64 (m:Int))).run Tryz.prog w'=.ok (.pointer (some ⟨g0,o0,none⟩)) w':=fun w'=>hix0 n c w' hmn
    have hlt:(m:Int) < (n:Int):=by omega
    have hwr:IntKind.i64.wrap ((m:Int)+1)=(m:Int)+1:=IntWalk.i64_in _ (by omega)
    have HU:=Lib.hid hu1
    have hMl:M.length≤1000000:=by have:=HQ.out.1;rw [List.length_take] at this;omega
    have HMN:=Lib.hid hmn;have EP:=EP0.below hB
    have hxg:∀ b,u3.ownBlock=some b→b ≠ g0:=fun b e=>by have:=LT.own_base e;have:=EP0.lt;omega
    have p:=p0;clear hP1 hu1 hix0 hmn EP0 p0
    go_upto_region 5 with (fail)
    replace LT:=LT.below (Below.refl _ _).drew
    replace EP:=EP.below (Below.refl _ _).drew
    replace p:=p.below (Below.refl _ _).drew
    replace HQ:=Lib.hid (EachH.belowJ HQ.out (Below.refl _ _).drew)
    replace hB:=hB.drew
    go_region_held3 (fun w'=>w'.cell? ⟨g0,o0,none⟩=some (.bool P.x.s)∧w'.cell? ⟨g0,o0+1,none⟩=some (.slice P.x.A P.x.n P.x.c)∧w'.cell? ⟨g0,o0+2,none⟩=some (.slice P.x.B P.x.m P.x.d)∧w'.cell? ⟨g0,o0+3,none⟩=some (.bool P.y.s)∧w'.cell? ⟨g0,o0+4,none⟩=some (.slice P.y.A P.y.n P.y.c)∧w'.cell? ⟨g0,o0+5,none⟩=some (.slice P.y.B P.y.m P.y.d)∧w'.cell? ⟨g0,o0+6,none⟩=some (.bool P.w.s)∧w'.cell? ⟨g0,o0+7,none⟩=some (.slice P.w.A P.w.n P.w.c)∧w'.cell? ⟨g0,o0+8,none⟩=some (.slice P.w.B P.w.m P.w.d))
     (first | with_reducible exact ⟨EPb.c0,EPb.c1,EPb.c2,EPb.c3,EPb.c4,EPb.c5,EPb.c6,EPb.c7,EPb.c8⟩ | with_reducible exact ⟨EP.c0,EP.c1,EP.c2,EP.c3,EP.c4,EP.c5,EP.c6,EP.c7,EP.c8⟩ | exact ⟨(EP.below ((Below.refl _ _).alloc (Nat.le_refl _) _)).c0,(EP.below ((Below.refl _ _).alloc (Nat.le_refl _) _)).c1,(EP.below ((Below.refl _ _).alloc (Nat.le_refl _) _)).c2,(EP.below ((Below.refl _ _).alloc (Nat.le_refl _) _)).c3,(EP.below ((Below.refl _ _).alloc (Nat.le_refl _) _)).c4,(EP.below ((Below.refl _ _).alloc (Nat.le_refl _) _)).c5,(EP.below ((Below.refl _ _).alloc (Nat.le_refl _) _)).c6,(EP.below ((Below.refl _ _).alloc (Nat.le_refl _) _)).c7,(EP.below ((Below.refl _ _).alloc (Nat.le_refl _) _)).c8⟩)
     (first
     | (go_at_call 13;(with_reducible refine (rin3 p.qx hk h1).mono ?_);rintro e w_r1 ⟨s_r1,A_r1,n_r1,c_r1,B_r1,m_r1,d_r1,rfl,r1,hh⟩
        (try replace LT:=LT.below hh);(try replace EP:=EP.below hh);(try replace p:=p.below hh);(try replace r2:=r2.below hh);(try replace r3:=r3.below hh)
        replace HQ:=Lib.hid (EachH.belowJ HQ.out hh)
        replace hB:=bend hB hh)
     | (go_at_call 13;(with_reducible refine (rin3 p.qy hk h1).mono ?_);rintro e w_r2 ⟨s_r2,A_r2,n_r2,c_r2,B_r2,m_r2,d_r2,rfl,r2,hh⟩
        (try replace LT:=LT.below hh);(try replace EP:=EP.below hh);(try replace p:=p.below hh);(try replace r1:=r1.below hh);(try replace r3:=r3.below hh)
        replace HQ:=Lib.hid (EachH.belowJ HQ.out hh)
        replace hB:=bend hB hh)
     | (go_at_call 13;(with_reducible refine (rin3 p.qw hk h1).mono ?_);rintro e w_r3 ⟨s_r3,A_r3,n_r3,c_r3,B_r3,m_r3,d_r3,rfl,r3,hh⟩
        (try replace LT:=LT.below hh);(try replace EP:=EP.below hh);(try replace p:=p.below hh);(try replace r1:=r1.below hh);(try replace r2:=r2.below hh)
        replace HQ:=Lib.hid (EachH.belowJ HQ.out hh)
        replace hB:=bend hB hh)
     | (have hal:Below w_r3.heap.size w_r3 (w_r3.alloc (Obj.cells #[Value.bool s_r1,Value.slice A_r1 n_r1 c_r1,Value.slice B_r1 m_r1 d_r1,Value.bool s_r2,Value.slice A_r2 n_r2 c_r2,Value.slice B_r2 m_r2 d_r2,Value.bool s_r3,Value.slice A_r3 n_r3 c_r3,Value.slice B_r3 m_r3 d_r3] 65)):=((Below.refl _ _).alloc (Nat.le_refl _) _)
        have EPa:=EP.below hal
        refine step_pushH Tryz.underlying31 info_rhom (by rfl) _ _ (by rfl) (p:=⟨⟨s_r1,A_r1,n_r1,c_r1,B_r1,m_r1,d_r1⟩,⟨s_r2,A_r2,n_r2,c_r2,B_r2,m_r2,d_r2⟩,⟨s_r3,A_r3,n_r3,c_r3,B_r3,m_r3,d_r3⟩⟩) (k0:=1) (b:=w_r3.heap.size) (by rfl) (by rfl) (LT.below hal) (Nat.le_trans hB.size hal.size) hMl (heap_alloc_new w_r3 _) ?_
        intro v3 w3 hn3 hg3 ho3
        have EPb:=EPa.push hg3 hxg))
    have hE3:EachH RH (w_r3.alloc (Obj.cells #[Value.bool s_r1,Value.slice A_r1 n_r1 c_r1,Value.slice B_r1 m_r1 d_r1,Value.bool s_r2,Value.slice A_r2 n_r2 c_r2,Value.slice B_r2 m_r2 d_r2,Value.bool s_r3,Value.slice A_r3 n_r3 c_r3,Value.slice B_r3 m_r3 d_r3] 65)) M (V.take m) (2*k):=EachH.belowJ HQ.out hal
    have hp3:RH (w_r3.alloc (Obj.cells #[Value.bool s_r1,Value.slice A_r1 n_r1 c_r1,Value.slice B_r1 m_r1 d_r1,Value.bool s_r2,Value.slice A_r2 n_r2 c_r2,Value.slice B_r2 m_r2 d_r2,Value.bool s_r3,Value.slice A_r3 n_r3 c_r3,Value.slice B_r3 m_r3 d_r3] 65)) ⟨⟨s_r1,A_r1,n_r1,c_r1,B_r1,m_r1,d_r1⟩,⟨s_r2,A_r2,n_r2,c_r2,B_r2,m_r2,d_r2⟩,⟨s_r3,A_r3,n_r3,c_r3,B_r3,m_r3,d_r3⟩⟩ u (2*k):=(RH.below (h:=⟨⟨s_r1,A_r1,n_r1,c_r1,B_r1,m_r1,d_r1⟩,⟨s_r2,A_r2,n_r2,c_r2,B_r2,m_r2,d_r2⟩,⟨s_r3,A_r3,n_r3,c_r3,B_r3,m_r3,d_r3⟩⟩) (v:=u) (k:=2*k) ⟨r1,r2,r3⟩ hal)
    have hB9:=LnH.under (T:=65) (base:=w.heap.size) (LT.below hal) hg3 (w0:=w) (bend hB hal) (Nat.le_refl _)
    have hE4:=takeH HU.out (EachH.push hE3 (fun _ _ h=>(LT.below hal).rh hg3 h) ((LT.below hal).rh hg3 hp3))
    clear hE3 hp3 EPa EPb EP p r1 r2 r3
    go_wp2_with fail
    go_roundg (gk - 1)
    case measure=>have:=HG9.out;have:=HMN.out;omega
    case rel=>exact ⟨M ++ [(⟨⟨s_r1,A_r1,n_r1,c_r1,B_r1,m_r1,d_r1⟩,⟨s_r2,A_r2,n_r2,c_r2,B_r2,m_r2,d_r2⟩,⟨s_r3,A_r3,n_r3,c_r3,B_r3,m_r3,d_r3⟩⟩:HV)],m+1,by have:=HG9.out;have:=HMN.out;show _=_;omega,by go_num,hn3,Lib.hid hE4,hB9⟩
  · have hlt:¬ (m:Int) < (n:Int):=by omega
    have HQ2:Hid (EachH RH wr M V (2*k)):=by
     have h:=HQ.out
     rwa [List.take_of_length_le (by rw [HVl.out];omega)] at h
    clear hmn
    go_wp2_with fail
    (try rw [Exit.noGoto_ret])
    go_ret
    exact ⟨_,M,rfl,LT,HQ2.out,hB⟩
end
section
open Go Go.RowKit
attribute [local go_sem ↓] open_LVH open_STH open_LVJ open_STJ
theorem i64In.lo {x:Int} (h:i64In x):-9223372036854775808≤x:=h.1
theorem i64In.hi {x:Int} (h:i64In x):x < 9223372036854775808:=h.2
theorem rgood13 {A:Option Addr} {n c k:Nat} {L:List HV} {V:List AH} (hL:SV w A (hvs L)) (hE:EachH RH w L V k) (hn:L.length=n) (hm:n≤1000) (R:Bool) (hR0:R=true ↔ GoodH V) :
 Calls Tryz.prog 14 #[.slice A n c] w fun e w'=>e=.returned (.bool R)∧Below w.heap.size w w':=by
 have HN:=Lib.hid hn
 have HVl:Hid (V.length=n):=hE.1.symm.trans hn
 have HL9:=Lib.hid hL;have E9:=Lib.hid hE;have HR0:=Lib.hid hR0;clear hL hE hn hR0
 go_enter Tryz.func14,Tryz.ntmps14
 go_wp2_with fail
 go_loopg [3] n (fun gk ix wr=>∃ (m:Nat),Hid (gk+m=n)∧ix=.int .i64 (m:Int)∧Hid (∀ (i:Nat) (u:AH),i < m→V[i]?=some u→0 < u.w)∧Below w.heap.size w wr)
 case atStart=>exact ⟨0,Nat.add_zero _,rfl,fun i p hi=>absurd hi (by omega),Below.refl _ _⟩
 case round =>
  obtain ⟨m,HG,rfl,HS,hb⟩:=hrel
  by_cases hmn:m < n
  · have HMN:=Lib.hid hmn
    obtain ⟨P,u,hP1,hu1,p0⟩:=E9.out.at_ (i:=m) (by rw [HN.out];exact hmn)
    obtain ⟨g0,o0,hix0,EP0,_⟩:=(HL9.out.below hb).jt hP1
    have hixa:∀ w',(Instr.indexAt 31 (.slice A n c) (.int .i64 (m:Int))).run Tryz.prog w'=.ok (.pointer (some ⟨g0,o0,none⟩)) w':=fun w'=>hix0 n c w' hmn
    have hlt:(m:Int) < (n:Int):=by omega
    have hwr:IntKind.i64.wrap ((m:Int)+1)=(m:Int)+1:=IntWalk.i64_in _ (by omega)
    have HU:=Lib.hid hu1
    have pw:=(p0.below hb).qw
    have ep6:=EP0.c6;have ep7:=EP0.c7;have ep8:=EP0.c8;clear hP1 hu1 hix0 hmn p0 EP0
    by_cases hs:0 < u.w
    · have HT:Hid (sgnQ u.w=1):=sgn_p hs
      have HSM:=Lib.hid hs;clear hs
      go_wp2_with (first
       | (go_at_call 31;(with_reducible refine (rsign3 pw).mono ?_);rintro e w_z ⟨rfl,hh⟩;rw [HT.out];replace hb:=bend hb hh))
      go_roundg (gk - 1)
      case measure=>have:=HG.out;have:=HMN.out;omega
      case rel =>
       refine ⟨m+1,by have:=HG.out;have:=HMN.out;show _=_;omega,by go_num,fun i v hi h5=>?_,hb⟩
       rcases Nat.lt_or_ge i m with h | h
       · exact HS.out i v h h5
       · obtain rfl:i=m:=by omega
         rw [HU.out] at h5;cases h5;exact HSM.out
    · obtain ⟨T,hT,hT0⟩:∃ T,sgnQ u.w=T∧T≤0:=⟨_,rfl,sgn_np hs⟩
      have HT:=Lib.hid hT
      have HF:Hid (false=R):=by
       show _=_
       cases R with
       | false=>rfl
       | true=>exact absurd ((HR0.out.1 rfl).2 _ (List.mem_of_getElem? HU.out)) hs
      clear hs hT
      go_wp2_with (first
       | (go_at_call 31;(with_reducible refine (rsign3 pw).mono ?_);rintro e w_z ⟨rfl,hh⟩;rw [HT.out];replace hb:=bend hb hh))
      (try rw [Exit.noGoto_ret])
      go_ret
      exact ⟨by rw [← HF.out];rfl,hb⟩
  · have hlt:¬ (m:Int) < (n:Int):=by omega
    have HA:Hid (∀ u ∈ V,0 < u.w):=by
     intro p hp
     obtain ⟨i,hi⟩:=List.getElem?_of_mem hp
     have h7:=(List.getElem?_eq_some_iff.1 hi).1
     rw [HVl.out] at h7
     exact HS.out i p (by omega) hi
    clear hmn
    by_cases h2:n < 2
    · have h2':¬ 2≤(n:Int):=by omega
      have HF:Hid (false=R):=by
       show _=_
       cases R with
       | false=>rfl
       | true=>have h5:=(HR0.out.1 rfl).1;rw [HVl.out] at h5;omega
      go_wp2_with fail
      (try rw [Exit.noGoto_ret])
      go_ret
      exact ⟨by rw [← HF.out];rfl,hb⟩
    · have h2':2≤(n:Int):=by omega
      by_cases h4:4 < n
      · have h4':¬ (n:Int)≤4:=by omega
        have HF:Hid (false=R):=by
         show _=_
         cases R with
         | false=>rfl
         | true=>have h5:=(HR0.out.1 rfl).1;rw [HVl.out] at h5;omega
        go_wp2_with fail
        (try rw [Exit.noGoto_ret])
        go_ret
        exact ⟨by rw [← HF.out];simp,hb⟩
      · have h4':(n:Int)≤4:=by omega
        have HF:Hid (true=R):=(HR0.out.2 ⟨by rw [HVl.out];omega,HA.out⟩).symm
        go_wp2_with fail
        (try rw [Exit.noGoto_ret])
        go_ret
        exact ⟨by rw [← HF.out];simp,hb⟩
end
section
open Go Go.RowKit
attribute [local go_sem ↓] open_LVH open_STH open_LVJ open_STJ
theorem one_n:(Rat.divInt 1 1).num.natAbs < B64 ^ 1:=by decide +kernel
theorem one_d:(Rat.divInt 1 1).den < B64 ^ 1:=by decide +kernel
theorem Ln.svX {T:TypeId} {base:Nat} {A:Option Addr} {n c:Nat} {L:List PV} (h:Ln T base w (.slice A n c) L):SV w A (pvs L):=fun hn=>by
 rcases h.own.2 with ⟨_,e⟩ | ⟨g,cap,cur,hv,_,hg,_⟩
 · rw [show L=[] from List.length_eq_zero_iff.1 e] at hn;exact absurd hn (by simp [pvs])
 · have hc:=h.own.cells (g:=g) (by rw [hv];rfl)
   have ha:∀ j,(⟨g,0,none⟩:Addr).add j=⟨g,j,none⟩:=fun j=>by unfold Addr.add;split <;> simp_all
   simp only [Value.slice.injEq] at hv
   refine ⟨g,0,hv.1,?_,fun j u hu=>by have:=hc j u hu;rw [ha] at this;rw [Nat.zero_add];exact this⟩
   rcases Nat.lt_or_ge g w.heap.size with q | q
   · exact q
   · rw [Array.getElem?_eq_none q] at hg;cases hg
def quadH (V:List (Rat × Rat)):List AH:=V.map fun u=>⟨u.1,u.2,1⟩
theorem E6x.pushX {w w':World} {g o:Nat} {p:PV} {row:Option Nat} (h:E6x w g o p) (hg:w.grownBy w' row) (hne:∀ k,row=some k→k ≠ g):E6x w' g o p:=by
 have hs:=hg.block g h.lt (fun e=>hne g e.symm rfl)
 exact ⟨Nat.lt_of_lt_of_le h.lt hg.size,(World.cell?_of_block (a:=⟨g,o,none⟩) hs).trans h.c0,(World.cell?_of_block (a:=⟨g,o+1,none⟩) hs).trans h.c1,(World.cell?_of_block (a:=⟨g,o+2,none⟩) hs).trans h.c2,(World.cell?_of_block (a:=⟨g,o+3,none⟩) hs).trans h.c3,(World.cell?_of_block (a:=⟨g,o+4,none⟩) hs).trans h.c4,(World.cell?_of_block (a:=⟨g,o+5,none⟩) hs).trans h.c5⟩
theorem cquad {k:Nat} {x y x2 y2 x3 y3:Rat} (p:PG w s_p A_p n_p c_p B_p m_p d_p t_p E_p i_p e_p F_p j_p f_p x y k) (q:PG w s_q A_q n_q c_q B_q m_q d_q t_q E_q i_q e_q F_q j_q f_q x2 y2 k) (r:PG w s_r A_r n_r c_r B_r m_r d_r t_r E_r i_r e_r F_r j_r f_r x3 y3 k) (h1:1≤k) :
 Calls Tryz.prog 26 #[.agg #[.bool s_p,.slice A_p n_p c_p,.slice B_p m_p d_p,.bool t_p,.slice E_p i_p e_p,.slice F_p j_p f_p],.agg #[.bool s_q,.slice A_q n_q c_q,.slice B_q m_q d_q,.bool t_q,.slice E_q i_q e_q,.slice F_q j_q f_q],.agg #[.bool s_r,.slice A_r n_r c_r,.slice B_r m_r d_r,.bool t_r,.slice E_r i_r e_r,.slice F_r j_r f_r]] w (GivesHs w (quadH [(x,y),(x2,y2),(x3,y3)]) k):=by
 go_enter Tryz.func26,Tryz.ntmps26
 go_upto_region 1 with (fail)
 generalize hW:World.alloc _ _=W
 obtain ⟨hb,XA,XB,XC,hzW⟩:=mkbx17_9 hW;clear hW;replace p:=p.below hb;replace q:=q.below hb;replace r:=r.below hb;obtain ⟨xa0,xa1,xa2,xa3,xa4,xa5⟩:=XA.all;obtain ⟨xb0,xb1,xb2,xb3,xb4,xb5⟩:=XB.all;obtain ⟨xc0,xc1,xc2,xc3,xc4,xc5⟩:=XC.all
 have hLit:=Ln.lit (T:=49) (base:=W.heap.size) W [(PV.mk s_p A_p n_p c_p B_p m_p d_p t_p E_p i_p e_p F_p j_p f_p:PV),(PV.mk s_q A_q n_q c_q B_q m_q d_q t_q E_q i_q e_q F_q j_q f_q:PV),(PV.mk s_r A_r n_r c_r B_r m_r d_r t_r E_r i_r e_r F_r j_r f_r:PV)] (Nat.le_refl _) (by simp)
 have hal0:Below W.heap.size W (W.alloc (Obj.cells #[Value.bool s_p,Value.slice A_p n_p c_p,Value.slice B_p m_p d_p,Value.bool t_p,Value.slice E_p i_p e_p,Value.slice F_p j_p f_p,Value.bool s_q,Value.slice A_q n_q c_q,Value.slice B_q m_q d_q,Value.bool t_q,Value.slice E_q i_q e_q,Value.slice F_q j_q f_q,Value.bool s_r,Value.slice A_r n_r c_r,Value.slice B_r m_r d_r,Value.bool t_r,Value.slice E_r i_r e_r,Value.slice F_r j_r f_r] 49)):=((Below.refl _ _).alloc (Nat.le_refl _) _)
 have hE0:Each PV.PG (W.alloc (Obj.cells #[Value.bool s_p,Value.slice A_p n_p c_p,Value.slice B_p m_p d_p,Value.bool t_p,Value.slice E_p i_p e_p,Value.slice F_p j_p f_p,Value.bool s_q,Value.slice A_q n_q c_q,Value.slice B_q m_q d_q,Value.bool t_q,Value.slice E_q i_q e_q,Value.slice F_q j_q f_q,Value.bool s_r,Value.slice A_r n_r c_r,Value.slice B_r m_r d_r,Value.bool t_r,Value.slice E_r i_r e_r,Value.slice F_r j_r f_r] 49)) [(PV.mk s_p A_p n_p c_p B_p m_p d_p t_p E_p i_p e_p F_p j_p f_p:PV),(PV.mk s_q A_q n_q c_q B_q m_q d_q t_q E_q i_q e_q F_q j_q f_q:PV),(PV.mk s_r A_r n_r c_r B_r m_r d_r t_r E_r i_r e_r F_r j_r f_r:PV)] [(x,y),(x2,y2),(x3,y3)] k:=⟨rfl,fun i a b ha hb=>by
  match i with
  | 0=>cases ha;cases hb;exact PG.below p hal0
  | 1=>cases ha;cases hb;exact PG.below q hal0
  | 2=>cases ha;cases hb;exact PG.below r hal0
  | i+3=>cases ha⟩
 have hSV:SV (W.alloc (Obj.cells #[Value.bool s_p,Value.slice A_p n_p c_p,Value.slice B_p m_p d_p,Value.bool t_p,Value.slice E_p i_p e_p,Value.slice F_p j_p f_p,Value.bool s_q,Value.slice A_q n_q c_q,Value.slice B_q m_q d_q,Value.bool t_q,Value.slice E_q i_q e_q,Value.slice F_q j_q f_q,Value.bool s_r,Value.slice A_r n_r c_r,Value.slice B_r m_r d_r,Value.bool t_r,Value.slice E_r i_r e_r,Value.slice F_r j_r f_r] 49)) (some ⟨W.heap.size,0,none⟩) (pvs [(PV.mk s_p A_p n_p c_p B_p m_p d_p t_p E_p i_p e_p F_p j_p f_p:PV),(PV.mk s_q A_q n_q c_q B_q m_q d_q t_q E_q i_q e_q F_q j_q f_q:PV),(PV.mk s_r A_r n_r c_r B_r m_r d_r t_r E_r i_r e_r F_r j_r f_r:PV)]):=hLit.svX
 have hb0:=bend hb hal0;clear p q r hLit
 go_wp2_with fail
 generalize hL0:[(PV.mk s_p A_p n_p c_p B_p m_p d_p t_p E_p i_p e_p F_p j_p f_p:PV),(PV.mk s_q A_q n_q c_q B_q m_q d_q t_q E_q i_q e_q F_q j_q f_q:PV),(PV.mk s_r A_r n_r c_r B_r m_r d_r t_r E_r i_r e_r F_r j_r f_r:PV)]=L0 at *
 generalize hV0:[(x,y),(x2,y2),(x3,y3)]=V0 at *
 have HLl:Hid (L0.length=3):=by show _=_;rw [← hL0];rfl
 have HVl:Hid (V0.length=3):=by show _=_;rw [← hV0];rfl
 clear hL0 hV0
 generalize (W.alloc (Obj.cells #[Value.bool s_p,Value.slice A_p n_p c_p,Value.slice B_p m_p d_p,Value.bool t_p,Value.slice E_p i_p e_p,Value.slice F_p j_p f_p,Value.bool s_q,Value.slice A_q n_q c_q,Value.slice B_q m_q d_q,Value.bool t_q,Value.slice E_q i_q e_q,Value.slice F_q j_q f_q,Value.bool s_r,Value.slice A_r n_r c_r,Value.slice B_r m_r d_r,Value.bool t_r,Value.slice E_r i_r e_r,Value.slice F_r j_r f_r] 49))=W0 at *
 rw [hzW] at hSV
 generalize (some ({block:=w.heap.size+3,off:=0,spot:=none}:Addr))=A0 at *
 have HL9:=Lib.hid hSV;have E9:=Lib.hid hE0;have HB9:=Lib.hid hb0;clear hSV hE0 hb0 hb XA XB XC xa0 xa1 xa2 xa3 xa4 xa5 xb0 xb1 xb2 xb3 xb4 xb5 xc0 xc1 xc2 xc3 xc4 xc5
 go_loopg [8,9] 3 (fun gk out ix wr=>∃ (M:List HV) (m:Nat),Hid (gk+m=3)∧ix=.int .i64 (m:Int)∧LnH 55 W0.heap.size wr out M∧Hid (EachH HG wr M ((quadH V0).take m) k)∧Below W0.heap.size W0 wr)
 case atStart=>exact ⟨[],0,rfl,rfl,LnH.nil _ _ _,⟨rfl,fun i p u h=>by cases h⟩,Below.refl _ _⟩
 case round =>
  obtain ⟨M,m,HG9,rfl,LT,HQ,hB⟩:=hrel
  by_cases hmn:m < 3
  · obtain ⟨P,u,hP1,hu1,p0⟩:=(Each.below E9.out hB).at_ (i:=m) (by rw [HLl.out];exact hmn)
    obtain ⟨g0,o0,hix0,EP0,_⟩:=HL9.out.pt hP1
    have hixa:∀ (c:Nat) (w':World),(Instr.indexAt 104 (.slice A0 3 c) (.int .i64 (m:Int))).run Tryz.prog w'=.ok (.pointer (some ⟨g0,o0,none⟩)) w':=fun c w'=>hix0 3 c w' hmn
    have hlt:(m:Int) < 3:=by omega
    have hwr:IntKind.i64.wrap ((m:Int)+1)=(m:Int)+1:=IntWalk.i64_in _ (by omega)
    have HU:Hid ((quadH V0)[m]?=some ⟨u.1,u.2,1⟩):=by show _=_;unfold quadH;rw [List.getElem?_map,hu1];rfl
    have hMl:M.length≤1000000:=by have:=HQ.out.1;rw [List.length_take] at this;omega
    have HMN:=Lib.hid hmn;have EP:=EP0.below hB
    have hxg:∀ b,u8.ownBlock=some b→b ≠ g0:=fun b e=>by have:=LT.own_base e;have:=EP0.lt;omega
    replace p0:PG wr P.s P.A P.n P.c P.B P.m P.d P.t P.E P.i P.e P.F P.j P.f u.1 u.2 k:=p0
    clear hP1 hu1 hix0 hmn EP0
    go_upto_region 6 with (fail)
    replace LT:=LT.below (Below.refl _ _).drew
    replace EP:=EP.below (Below.refl _ _).drew
    replace p0:=p0.below (Below.refl _ _).drew
    replace HQ:=Lib.hid (EachH.belowG HQ.out (Below.refl _ _).drew)
    replace hB:=hB.drew
    go_region_held3 (fun w'=>w'.cell? ⟨g0,o0,none⟩=some (.bool P.s)∧w'.cell? ⟨g0,o0+1,none⟩=some (.slice P.A P.n P.c)∧w'.cell? ⟨g0,o0+2,none⟩=some (.slice P.B P.m P.d)∧w'.cell? ⟨g0,o0+3,none⟩=some (.bool P.t)∧w'.cell? ⟨g0,o0+4,none⟩=some (.slice P.E P.i P.e)∧w'.cell? ⟨g0,o0+5,none⟩=some (.slice P.F P.j P.f))
     (first | with_reducible exact ⟨EPb.c0,EPb.c1,EPb.c2,EPb.c3,EPb.c4,EPb.c5⟩ | with_reducible exact ⟨EP.c0,EP.c1,EP.c2,EP.c3,EP.c4,EP.c5⟩ | exact ⟨(EP.below ((Below.refl _ _).alloc (Nat.le_refl _) _)).c0,(EP.below ((Below.refl _ _).alloc (Nat.le_refl _) _)).c1,(EP.below ((Below.refl _ _).alloc (Nat.le_refl _) _)).c2,(EP.below ((Below.refl _ _).alloc (Nat.le_refl _) _)).c3,(EP.below ((Below.refl _ _).alloc (Nat.le_refl _) _)).c4,(EP.below ((Below.refl _ _).alloc (Nat.le_refl _) _)).c5⟩)
     (first
     | (go_at_call 41;(with_reducible refine (rof3 1 1 (by decide) (by decide) (by decide) (by decide) (by decide) _).mono ?_);rintro e w_a ⟨s_a,A_a,n_a,c_a,B_a,m_a,d_a,rfl,a,hh⟩
        (try replace LT:=LT.below hh);(try replace EP:=EP.below hh);(try replace p0:=p0.below hh)
        replace HQ:=Lib.hid (EachH.belowG HQ.out hh)
        replace hB:=bend hB hh)
     | (go_at_call 39;(with_reducible refine (rout3g a (by decide) 1 one_n one_d).mono ?_);rintro e w_o ⟨s_o,A_o,n_o,c_o,B_o,m_o,d_o,rfl,o,hh⟩
        (try replace LT:=LT.below hh);(try replace EP:=EP.below hh);(try replace p0:=p0.below hh)
        replace HQ:=Lib.hid (EachH.belowG HQ.out hh)
        replace hB:=bend hB hh)
     | (have hal:Below w_o.heap.size w_o (w_o.alloc (Obj.cells #[Value.bool P.s,Value.slice P.A P.n P.c,Value.slice P.B P.m P.d,Value.bool P.t,Value.slice P.E P.i P.e,Value.slice P.F P.j P.f,Value.bool s_o,Value.slice A_o n_o c_o,Value.slice B_o m_o d_o] 55)):=((Below.refl _ _).alloc (Nat.le_refl _) _)
        have EPa:=EP.below hal
        refine step_pushH Tryz.underlying22 info_hom (by rfl) _ _ (by rfl) (p:=(⟨⟨P.s,P.A,P.n,P.c,P.B,P.m,P.d⟩,⟨P.t,P.E,P.i,P.e,P.F,P.j,P.f⟩,⟨s_o,A_o,n_o,c_o,B_o,m_o,d_o⟩⟩:HV)) (k0:=1) (b:=w_o.heap.size) (by rfl) (by rfl) (LT.below hal) (Nat.le_trans hB.size hal.size) hMl (heap_alloc_new w_o _) ?_
        intro v3 w3 hn3 hg3 ho3
        have EPb:=EPa.pushX hg3 hxg))
    rw [one_q] at o
    have hE3:EachH HG (w_o.alloc (Obj.cells #[Value.bool P.s,Value.slice P.A P.n P.c,Value.slice P.B P.m P.d,Value.bool P.t,Value.slice P.E P.i P.e,Value.slice P.F P.j P.f,Value.bool s_o,Value.slice A_o n_o c_o,Value.slice B_o m_o d_o] 55)) M ((quadH V0).take m) k:=EachH.belowG HQ.out hal
    have hp3:HG (w_o.alloc (Obj.cells #[Value.bool P.s,Value.slice P.A P.n P.c,Value.slice P.B P.m P.d,Value.bool P.t,Value.slice P.E P.i P.e,Value.slice P.F P.j P.f,Value.bool s_o,Value.slice A_o n_o c_o,Value.slice B_o m_o d_o] 55)) (⟨⟨P.s,P.A,P.n,P.c,P.B,P.m,P.d⟩,⟨P.t,P.E,P.i,P.e,P.F,P.j,P.f⟩,⟨s_o,A_o,n_o,c_o,B_o,m_o,d_o⟩⟩:HV) ⟨u.1,u.2,1⟩ k:=(HG.below (h:=(⟨⟨P.s,P.A,P.n,P.c,P.B,P.m,P.d⟩,⟨P.t,P.E,P.i,P.e,P.F,P.j,P.f⟩,⟨s_o,A_o,n_o,c_o,B_o,m_o,d_o⟩⟩:HV)) (v:=⟨u.1,u.2,1⟩) (k:=k) ⟨p0.1,p0.2,o.more h1⟩ hal)
    have hB9:=LnH.under (T:=55) (base:=W0.heap.size) (LT.below hal) hg3 (w0:=W0) (bend hB hal) (Nat.le_refl _)
    have hE4:=takeH HU.out (EachH.push hE3 (fun _ _ h=>(LT.below hal).hg hg3 h) ((LT.below hal).hg hg3 hp3))
    clear hE3 hp3 EPa EPb EP p0 o a
    go_wp2_with fail
    go_roundg (gk - 1)
    case measure=>have:=HG9.out;have:=HMN.out;omega
    case rel=>exact ⟨M ++ [(⟨⟨P.s,P.A,P.n,P.c,P.B,P.m,P.d⟩,⟨P.t,P.E,P.i,P.e,P.F,P.j,P.f⟩,⟨s_o,A_o,n_o,c_o,B_o,m_o,d_o⟩⟩:HV)],m+1,by have:=HG9.out;have:=HMN.out;show _=_;omega,by go_num,hn3,Lib.hid hE4,hB9⟩
  · have hlt:¬ (m:Int) < 3:=by omega
    have HQ2:Hid (EachH HG wr M (quadH V0) k):=by
     have h:=HQ.out
     rwa [List.take_of_length_le (by unfold quadH;rw [List.length_map,HVl.out];omega)] at h
    clear hmn
    go_wp2_with fail
    (try rw [Exit.noGoto_ret])
    go_ret
    exact ⟨_,M,rfl,LT.base_le HB9.out.size,HQ2.out,bend HB9.out hB⟩
end
section
open Go Go.RowKit
attribute [local go_sem ↓] open_LVH open_STH open_LVJ open_STJ
instance (V:List AH):Decidable (GoodH V):=by unfold GoodH;exact inferInstance
end
section
open Go Go.RowKit
attribute [local go_sem ↓] open_LVH open_STH open_LVJ open_STJ
theorem GivesPtE.more {x y:Rat} {k k1:Nat} {en:Ending} {w':World} (h:GivesPtE w x y k en w') (hk:k≤k1):GivesPtE w x y k1 en w':=by
 obtain ⟨s,A,n,c,B,m,d,t,E,i,e,F,j,f,h1,h2,h3⟩:=h
 exact ⟨s,A,n,c,B,m,d,t,E,i,e,F,j,f,h1,h2.more hk,h3⟩
theorem kRow_cap {k t n N:Nat} (hn:n≤N) {B:Nat} (hB:kRow k t N+(1+kRow k t N)≤B):kRow k t n+(1+kRow k t n)≤B:=by
 have:=kRow_le (k:=k) (t:=t) hn
 omega
theorem cat_any {A A1 A2:Option Addr} {n c n1 c1 n2 c2 k kt B:Nat} {s:Bool} {L:List HV} {V:List AH} {vt:Rat} (hL:SV w A (hvs L)) (hE:EachH HR w L V k) (hn:L.length=n) (q:QR w s A1 n1 c1 A2 n2 c2 vt kt) (hk:kRow k kt 3≤10000) (ht:kt≤1000) (h1:1≤k) (h2:1≤kt) (hG:GoodH V) (h0:0≤vt∧vt≤1) (hB:kRow k kt 3+(1+kRow k kt 3)≤B) :
 Calls Tryz.prog 17 #[.slice A n c,.agg #[.bool s,.slice A1 n1 c1,.slice A2 n2 c2]] w (GivesPtE w (bez vt V).px (bez vt V).py B):=by
 have hn4:n - 1≤3:=by have:=hG.1;rw [← hn,hE.1];omega
 have hk2:=Nat.le_trans (kRow_le (k:=k) (t:=kt) hn4) hk
 rcases cvsgn_nn h0.1 with e | e
 · exact (cat_p0 hL hE hn q hk2 ht h1 h2 hG h0.1 h0.2 e).mono fun _ _ h=>h.more (kRow_cap hn4 hB)
 · exact (cat_p1 hL hE hn q hk2 ht h1 h2 hG h0.1 h0.2 e).mono fun _ _ h=>h.more (kRow_cap hn4 hB)
theorem fair13_t {A:Option Addr} {n c:Nat} {L:List HV} (hL:SV w A (hvs L)) (hn:L.length=n) (hm:n≤maxLen) (h:(∀ p ∈ L,p.small 4)∧n≤6):Calls Tryz.prog 6 #[.slice A n c] w fun e w'=>e=.returned (.bool true)∧Below w.heap.size w w':=fair13 hL hn hm true ⟨fun _=>h,fun _=>rfl⟩
theorem fair13_f {A:Option Addr} {n c:Nat} {L:List HV} (hL:SV w A (hvs L)) (hn:L.length=n) (hm:n≤maxLen) (h:¬ ((∀ p ∈ L,p.small 4)∧n≤6)):Calls Tryz.prog 6 #[.slice A n c] w fun e w'=>e=.returned (.bool false)∧Below w.heap.size w w':=fair13 hL hn hm false ⟨fun e=>by (cases e),fun e=>absurd e h⟩
theorem rgood13_t {A:Option Addr} {n c k:Nat} {L:List HV} {V:List AH} (hL:SV w A (hvs L)) (hE:EachH RH w L V k) (hn:L.length=n) (hm:n≤1000) (h:GoodH V):Calls Tryz.prog 14 #[.slice A n c] w fun e w'=>e=.returned (.bool true)∧Below w.heap.size w w':=rgood13 hL hE hn hm true ⟨fun _=>h,fun _=>rfl⟩
theorem rgood13_f {A:Option Addr} {n c k:Nat} {L:List HV} {V:List AH} (hL:SV w A (hvs L)) (hE:EachH RH w L V k) (hn:L.length=n) (hm:n≤1000) (h:¬ GoodH V):Calls Tryz.prog 14 #[.slice A n c] w fun e w'=>e=.returned (.bool false)∧Below w.heap.size w w':=rgood13 hL hE hn hm false ⟨fun e=>by (cases e),fun e=>absurd e h⟩
theorem div_255 (k:Nat) (h:k≤255):0≤Rat.divInt (k:Int) 255∧Rat.divInt (k:Int) 255≤1:=by
 have key:∀ i:Fin 256,0≤Rat.divInt (i.val:Int) 255∧Rat.divInt (i.val:Int) 255≤1:=by decide +kernel
 exact key ⟨k,by omega⟩
end
section
open Go Go.RowKit
attribute [local go_sem ↓] open_LVH open_STH open_LVJ open_STJ
section
variable {W W':World} {g:Nat} {x y z u v t:Value}
end
def QV.QG (w:World) (q:QV) (v:Rat) (k:Nat):Prop:=Go.Proofs.YtlpogecpdfdggaaGreat.QG w q.s q.A q.n q.c q.B q.m q.d v k
theorem QV.QG.below {w w':World} {q:QV} {v:Rat} {k:Nat} (h:q.QG w v k) (hb:Below w.heap.size w w'):q.QG w' v k:=Go.Proofs.YtlpogecpdfdggaaGreat.QG.below h hb
theorem QV.QG.qr {q:QV} {v:Rat} {k:Nat} (h:q.QG w v k):QR w q.s q.A q.n q.c q.B q.m q.d v k:=Go.Proofs.YtlpogecpdfdggaaGreat.QG.qr h
def BP (w:World) (g:Nat) (a b:QV):Prop:=B6 w g (.bool a.s) (.slice a.A a.n a.c) (.slice a.B a.m a.d) (.bool b.s) (.slice b.A b.n b.c) (.slice b.B b.m b.d)
section
variable {w w':World} {g k:Nat} {a b q:QV} {v:Rat}
theorem BP.b6 (h:BP w g a b):B6 w g (.bool a.s) (.slice a.A a.n a.c) (.slice a.B a.m a.d) (.bool b.s) (.slice b.A b.n b.c) (.slice b.B b.m b.d):=h
theorem BP.below (h:BP w g a b) (hb:Below w.heap.size w w'):BP w' g a b:=B6.below h hb
theorem BP.rest (h:BP w g a b) (hne:g ≠ k) (ho:Only k w w'):BP w' g a b:=B6.restm h hne ho
theorem QV.QG.on (h:q.QG w v k) {a b:QV} (Z:BP w g a b) (ho:Only g w w'):q.QG w' v k :=
 ⟨⟨h.1.1,h.1.2.1.only (h.1.2.1.off6 Z.b6) ho,h.1.2.2⟩,⟨h.2.1.only (h.2.1.off6 Z.b6) ho,h.2.2⟩⟩
end
end
section
open Go Go.RowKit
def maxQ (a b:Rat):Rat:=if a < b then b else a
theorem cmpQ_lt0 {v u:Rat}:cmpQ v u < 0 ↔ v < u:=by
 unfold cmpQ
 split
 · rename_i h;exact ⟨fun _=>h,fun _=>by decide⟩
 · rename_i h;exact ⟨fun e=>absurd e (by split <;> decide),fun e=>absurd e h⟩
theorem cmpQ_gt0 {v u:Rat}:0 < cmpQ v u ↔ u < v:=by
 have e:cmpQ v u=-cmpQ u v:=cmpQ_swap u v
 have h:=cmpQ_lt0 (v:=u) (u:=v)
 rw [← h,e]
 omega
end
section
theorem le_of_sq {x y:Rat} (hy:0≤y) (h:x*x≤y*y):x≤y:=by
 rcases Rat.le_total (a:=x) (b:=y) with q | q
 · exact q
 · by_cases e:x=y
   · rw [e];exact Rat.le_refl
   · have h1:0 < x - y:=by grind
     have h2:0 < x+y:=by grind
     have h3:=Rat.mul_pos h1 h2
     grind
theorem mul_le2 {a b c d:Rat} (ha:0≤a) (hab:a≤b) (hc:0≤c) (hcd:c≤d):a*c≤b*d:=by
 have h1:=Rat.mul_nonneg (show 0≤b - a by grind) hc
 have h2:=Rat.mul_nonneg (show 0≤b by grind) (show 0≤d - c by grind)
 grind
theorem cone_two {g u v w u2 v2 w2:Rat} (hg:0≤g) (hw:0≤w) (hw2:0≤w2) (h:u*u+v*v≤g*(w*w)) (h2:u2*u2+v2*v2≤g*(w2*w2)):u*u2+v*v2≤g*(w*w2):=by
 refine le_of_sq (Rat.mul_nonneg hg (Rat.mul_nonneg hw hw2)) ?_
 have n1:0≤u*u+v*v:=by have:=sq_nonneg u;have:=sq_nonneg v;grind
 have n2:0≤u2*u2+v2*v2:=by have:=sq_nonneg u2;have:=sq_nonneg v2;grind
 have e1:=mul_le2 n1 h n2 h2
 have e2:=sq_nonneg (u*v2 - v*u2)
 grind
theorem cone_mix {g u v w u2 v2 w2 t:Rat} (hg:0≤g) (hw:0≤w) (hw2:0≤w2) (h0:0≤t) (h1:t≤1) (h:u*u+v*v≤g*(w*w)) (h2:u2*u2+v2*v2≤g*(w2*w2)):mixQ u u2 t*mixQ u u2 t+mixQ v v2 t*mixQ v v2 t≤g*(mixQ w w2 t*mixQ w w2 t):=by
 have e:=cone_two hg hw hw2 h h2
 have s0:0≤1 - t:=by grind
 have a1:=Rat.mul_nonneg (Rat.mul_nonneg s0 s0) (show 0≤g*(w*w) - (u*u+v*v) by grind)
 have a2:=Rat.mul_nonneg (Rat.mul_nonneg h0 h0) (show 0≤g*(w2*w2) - (u2*u2+v2*v2) by grind)
 have a3:=Rat.mul_nonneg (Rat.mul_nonneg s0 h0) (show 0≤g*(w*w2) - (u*u2+v*v2) by grind)
 have x1:mixQ u u2 t=u*(1 - t)+u2*t:=by unfold mixQ;grind
 have x2:mixQ v v2 t=v*(1 - t)+v2*t:=by unfold mixQ;grind
 have x3:mixQ w w2 t=w*(1 - t)+w2*t:=by unfold mixQ;grind
 rw [x1,x2,x3]
 grind
def NearH (ax ay bx by_ g:Rat) (p:AH):Prop:=∃ T,0≤T∧T≤p.w∧(p.x - ax*p.w - (bx - ax)*T)*(p.x - ax*p.w - (bx - ax)*T)+(p.y - ay*p.w - (by_ - ay)*T)*(p.y - ay*p.w - (by_ - ay)*T)≤g*(p.w*p.w)
section
variable {ax ay bx by_ g t:Rat}
theorem near_mix {p q:AH} (hg:0≤g) (h0:0≤t) (h1:t≤1) (hp:NearH ax ay bx by_ g p) (hq:NearH ax ay bx by_ g q):NearH ax ay bx by_ g (p.mix q t):=by
 obtain ⟨T,a1,a2,a3⟩:=hp
 obtain ⟨U,b1,b2,b3⟩:=hq
 have e:=cone_mix hg (Rat.le_trans a1 a2) (Rat.le_trans b1 b2) h0 h1 a3 b3
 refine ⟨mixQ T U t,mixQ_nonneg a1 b1 h0 h1,?_,?_⟩
 · have:=mixQ_nonneg (a:=p.w - T) (b:=q.w - U) (t:=t) (by grind) (by grind) h0 h1
   have e2:mixQ (p.w - T) (q.w - U) t=mixQ p.w q.w t - mixQ T U t:=by unfold mixQ;grind
   show mixQ T U t≤mixQ p.w q.w t
   grind
 · have e1 : mixQ (p.x - ax * p.w - (bx - ax) * T) (q.x - ax * q.w - (bx - ax) * U) t = (p.mix q t).x - ax * (p.mix q t).w - (bx - ax) * mixQ T U t := by
     show _=mixQ p.x q.x t - ax*mixQ p.w q.w t - (bx - ax)*mixQ T U t
     unfold mixQ;grind
   have e2:mixQ (p.y - ay*p.w - (by_ - ay)*T) (q.y - ay*q.w - (by_ - ay)*U) t=(p.mix q t).y - ay*(p.mix q t).w - (by_ - ay)*mixQ T U t:=by
    show _=mixQ p.y q.y t - ay*mixQ p.w q.w t - (by_ - ay)*mixQ T U t
    unfold mixQ;grind
   rw [e1,e2] at e
   exact e
theorem rowB_near (hg:0≤g) (h0:0≤t) (h1:t≤1):∀ l:List AH,(∀ p ∈ l,NearH ax ay bx by_ g p)→∀ p ∈ rowB t l,NearH ax ay bx by_ g p
 | [],_,p,hp=>by cases hp
 | [_],_,p,hp=>by cases hp
 | u :: v :: r,h,p,hp=>by
   rcases List.mem_cons.1 hp with rfl | hp
   · exact near_mix hg h0 h1 (h u (by simp)) (h v (by simp))
   · exact rowB_near hg h0 h1 (v :: r) (fun p hp=>h p (List.mem_cons_of_mem _ hp)) p hp
theorem rowN_near (hg:0≤g) (h0:0≤t) (h1:t≤1):∀ (n:Nat) (l:List AH),(∀ p ∈ l,NearH ax ay bx by_ g p)→∀ p ∈ rowN t n l,NearH ax ay bx by_ g p
 | 0,_,h=>h
 | n+1,l,h=>rowN_near hg h0 h1 n (rowB t l) (rowB_near hg h0 h1 l h)
theorem bez_near {l:List AH} (hl:0 < l.length) (hg:0≤g) (h0:0≤t) (h1:t≤1) (h:∀ p ∈ l,NearH ax ay bx by_ g p):NearH ax ay bx by_ g (bez t l) :=
 rowN_near hg h0 h1 _ l h _ (bez_mem hl)
theorem nearQ_on (px py:Rat):∃ T,0≤T∧T≤1∧(nearQ px py ax ay bx by_).1=ax+(bx - ax)*T∧(nearQ px py ax ay bx by_).2=ay+(by_ - ay)*T:=by
 unfold nearQ
 by_cases h:ax=bx∧ay=by_
 · rw [if_pos h];exact ⟨0,Rat.le_refl,by decide,by grind,by grind⟩
 · rw [if_neg h]
   by_cases h1:forthQ px py ax ay bx by_≤0
   · rw [if_pos h1];exact ⟨0,Rat.le_refl,by decide,by grind,by grind⟩
   · rw [if_neg h1]
     by_cases h2:0≤near2 px py ax ay bx by_
     · rw [if_pos h2];exact ⟨1,by decide,Rat.le_refl,by grind,by grind⟩
     · rw [if_neg h2]
       have hw:0 < (bx - ax)*(bx - ax)+(by_ - ay)*(by_ - ay):=by
        have n1:=sq_nonneg (bx - ax)
        have n2:=sq_nonneg (by_ - ay)
        rcases (show (0:Rat)≤(bx - ax)*(bx - ax)+(by_ - ay)*(by_ - ay) by grind) with q
        by_cases e:(bx - ax)*(bx - ax)+(by_ - ay)*(by_ - ay)=0
        · have:=sum_zero2 e
          exact absurd ⟨by grind,by grind⟩ h
        · grind
       have hf:0 < (px - ax)*(bx - ax)+(py - ay)*(by_ - ay):=by unfold forthQ at h1;grind
       refine ⟨_,div_nonneg hw (Rat.le_of_lt hf),div_le_of hw ?_,rfl,rfl⟩
       unfold near2 at h2
       grind
theorem near_of {p:AH} (hw:0 < p.w) (h:segQ p.px p.py ax ay bx by_≤g):NearH ax ay bx by_ g p:=by
 obtain ⟨T,h0,h1,e1,e2⟩:=nearQ_on (ax:=ax) (ay:=ay) (bx:=bx) (by_:=by_) p.px p.py
 have h3:=seg_nearQ p.px p.py ax ay bx by_
 rw [e1,e2] at h3
 rw [h3] at h
 have x1:p.px*p.w=p.x:=mul_cancel (by grind)
 have y1:p.py*p.w=p.y:=mul_cancel (by grind)
 refine ⟨T*p.w,Rat.mul_nonneg h0 (Rat.le_of_lt hw),?_,?_⟩
 · have:=Rat.mul_nonneg (show 0≤1 - T by grind) (Rat.le_of_lt hw)
   grind
 · have a:p.x - ax*p.w - (bx - ax)*(T*p.w)=(p.px - (ax+(bx - ax)*T))*p.w:=by rw [← x1];grind
   have b:p.y - ay*p.w - (by_ - ay)*(T*p.w)=(p.py - (ay+(by_ - ay)*T))*p.w:=by rw [← y1];grind
   rw [a,b]
   have:=Rat.mul_nonneg (Rat.mul_nonneg (Rat.le_of_lt hw) (Rat.le_of_lt hw)) (show 0≤g - ((p.px - (ax+(bx - ax)*T))*(p.px - (ax+(bx - ax)*T))+(p.py - (ay+(by_ - ay)*T))*(p.py - (ay+(by_ - ay)*T))) by grind)
   grind
theorem of_near {p:AH} (hw:0 < p.w) (h:NearH ax ay bx by_ g p):segQ p.px p.py ax ay bx by_≤g:=by
 obtain ⟨T,h0,h1,h2⟩:=h
 have t0:0≤T / p.w:=div_nonneg hw h0
 have t1:T / p.w≤1:=div_le_of hw (by grind)
 refine Rat.le_trans (seg_near p.px p.py ax ay bx by_ (T / p.w) t0 t1 rfl rfl) ?_
 have x1:p.px*p.w=p.x:=mul_cancel (by grind)
 have y1:p.py*p.w=p.y:=mul_cancel (by grind)
 have e:T / p.w*p.w=T:=div_mul_self (by grind)
 have a:p.x - ax*p.w - (bx - ax)*T=(p.px - (ax+(bx - ax)*(T / p.w)))*p.w:=by rw [← x1];grind
 have b:p.y - ay*p.w - (by_ - ay)*T=(p.py - (ay+(by_ - ay)*(T / p.w)))*p.w:=by rw [← y1];grind
 rw [a,b] at h2
 have f:farQ p.px p.py (ax+(bx - ax)*(T / p.w)) (ay+(by_ - ay)*(T / p.w))=(p.px - (ax+(bx - ax)*(T / p.w)))*(p.px - (ax+(bx - ax)*(T / p.w)))+(p.py - (ay+(by_ - ay)*(T / p.w)))*(p.py - (ay+(by_ - ay)*(T / p.w))):=by unfold farQ;grind
 rw [f]
 generalize p.px - (ax+(bx - ax)*(T / p.w))=c at *
 generalize p.py - (ay+(by_ - ay)*(T / p.w))=d at *
 have hw2:=Rat.mul_pos hw hw
 refine Rat.le_of_mul_le_mul_right (c:=p.w*p.w) ?_ hw2
 grind
theorem flat_near {l:List AH} (hl:0 < l.length) (hw:∀ p ∈ l,0 < p.w) (hg:0≤g) (h0:0≤t) (h1:t≤1) (h:∀ p ∈ l,segQ p.px p.py ax ay bx by_≤g):segQ (bez t l).px (bez t l).py ax ay bx by_≤g :=
 of_near (bez_w hl h0 h1 hw) (bez_near hl hg h0 h1 fun p hp=>near_of (hw p hp) (h p hp))
end
end
section
open Go Go.RowKit
theorem qvs_nil:qvs []=[]:=rfl
theorem qvs_length (L:List QV):(qvs L).length=L.length*3:=rows_length qvc_len L
theorem qvs_one (L:List QV):∀ u ∈ qvs L,u.oneCell'=true:=by
 intro u hu
 obtain ⟨p,_,hp⟩:=List.mem_flatMap.1 hu
 simp only [QV.cells,List.mem_cons,List.not_mem_nil,or_false] at hp
 rcases hp with rfl | rfl | rfl <;> rfl
def zqq:Value:=.agg #[.bool false,.slice none 0 0,.slice none 0 0]
theorem info_rat:(Tryz.prog.info? 27).map (fun i=>(i.zero,i.size,i.bytes))=some (some zqq,3,56):=by kernel_rfl
structure LnQ (T:TypeId) (base:Nat) (w:World) (v:Value) (L:List QV):Prop where
 own:w.ownsRow base T 3 v L.length (qvs L)
 free:∀ g,v.ownBlock=some g→∃ cs,BoxAt T w g cs
section
variable {T:TypeId} {base:Nat} {w w':World} {v:Value} {L:List QV}
theorem LnQ.nil (T:TypeId) (base:Nat) (w:World):LnQ T base w (.slice none 0 0) []:=⟨World.ownsRow_nil w base T 3,fun g h=>by cases h⟩
theorem LnQ.kept (h:LnQ T base w v L) (hb:∀ g,v.ownBlock=some g→w'.heap[g]?=w.heap[g]?):LnQ T base w' v L:=by
 refine ⟨⟨h.own.1,?_⟩,fun g hg=>?_⟩
 · rcases h.own.2 with hn | ⟨g,cap,cur,rfl,h1,h2,h3⟩
   · exact .inl hn
   · exact .inr ⟨g,cap,cur,rfl,h1,(hb g rfl).trans h2,h3⟩
 · obtain ⟨cs,hc⟩:=h.free g hg
   exact ⟨cs,(hb g hg).trans hc.at_,hc.free⟩
theorem LnQ.below (h:LnQ T base w v L) (hb:Below w.heap.size w w'):LnQ T base w' v L:=h.kept fun g hg=>by
 obtain ⟨cs,hc⟩:=h.free g hg
 exact hb.block g hc.lt
theorem LnQ.base_le {b:Nat} (h:LnQ T base w v L) (hb:b≤base):LnQ T b w v L:=by
 refine ⟨⟨h.own.1,?_⟩,h.free⟩
 rcases h.own.2 with hn | ⟨g,cap,cur,rfl,h1,h2⟩
 · exact .inl hn
 · exact .inr ⟨g,cap,cur,rfl,Nat.le_trans hb h1,h2⟩
theorem LnQ.lit (w:World) (L:List QV) (hb:base≤w.heap.size) (hL:L.length≤1000000):LnQ T base (w.alloc (.cells (qvs L).toArray T)) (.slice (some ⟨w.heap.size,0,none⟩) L.length L.length) L:=by
 refine ⟨⟨qvs_length L,.inr ⟨w.heap.size,L.length,_,rfl,hb,heap_alloc_new w _,Nat.le_refl _,by unfold maxLen;omega,?_,?_⟩⟩,fun g hg=>?_⟩
 · simp [qvs_length]
 · simp [← qvs_length]
 · obtain rfl:w.heap.size=g:=by simpa [Value.ownBlock] using hg
   refine ⟨(qvs L).toArray,heap_alloc_new w _,fun i k x e=>?_⟩
   rw [List.getElem?_toArray] at e
   exact qvs_free L _ (List.mem_of_getElem? e) k x rfl
theorem LnQ.form (h:LnQ T base w v L):∃ A c,v=.slice A L.length c∧L.length≤c∧(A=none→c=0):=by
 rcases h.own.2 with ⟨rfl,hn⟩ | ⟨g,cap,cur,rfl,_,_,h3,_⟩
 · exact ⟨none,0,by rw [hn],by omega,fun _=>rfl⟩
 · exact ⟨_,cap,rfl,h3,fun e=>by cases e⟩
end
theorem zeroQ_free (n:Nat):∀ u ∈ (Builtin.zeroCells zqq.cells n).toList,∀ (k:IntKind) (x:Int),u ≠ .int k x:=by
 intro u hu k x
 simp only [Builtin.zeroCells,Array.toList_map,List.mem_map] at hu
 obtain ⟨i,_,rfl⟩:=hu
 have h:i % zqq.cells.size < 3:=Nat.mod_lt _ (by decide)
 generalize i % zqq.cells.size=j at h
 match j,h with
 | 0,_=>exact fun e=>by cases e
 | 1,_=>exact fun e=>by cases e
 | 2,_=>exact fun e=>by cases e
 | j+3,h=>omega
theorem run_push2Q {T tS ty:TypeId} {base b:Nat} {v:Value} {L:List QV} {p:QV} {k0:Nat} (ht:Tryz.prog.underlying tS=some (.slice T)) (hinfo:(Tryz.prog.info? T).map (fun i=>(i.zero,i.size,i.bytes))=some (some zqq,3,56))
 (h:LnQ T base w v L) (hbase:base≤w.heap.size) (hL:L.length≤1000000) (hb:w.heap[b]?=some (.cells p.cells.toArray T (0,0))) :
 ∃ v' w',(Builtin.append_ #[tS,tS] ty #[v,.slice (some ⟨b,0,none⟩) 1 k0]).run Tryz.prog w=.ok v' w'∧LnQ T base w' v' (L ++ [p])∧w.grownBy w' v.ownBlock∧∀ g,v'.ownBlock=some g→v.ownBlock=some g ∨ w.heap.size≤g:=by
 obtain ⟨i0,hi,hz,hs,hby⟩:=info_parts hinfo
 have hnews:∀ j u,p.cells[j]?=some u→w.cell? ((⟨b,0,none⟩:Addr).add j)=some u:=fun j u hu=>World.news_of_block hb j u (by simpa using hu)
 have h1:∀ u ∈ p.cells,u.oneCell'=true:=fun u hu=>qvs_one [p] u (by rw [qvs_cons,qvs_nil,List.append_nil];exact hu)
 have hfree:∀ u ∈ p.cells,∀ (k:IntKind) (x:Int),u ≠ .int k x:=fun u hu=>qvs_free [p] u (by rw [qvs_cons,qvs_nil,List.append_nil];exact hu)
 obtain ⟨v',w',hr,hown,hg,_⟩:=run_append_own (P:=Tryz.prog) w base tS ty T i0 zqq 3 56 ht hi hz hs hby rfl (by decide) v L.length (qvs L) h.own ⟨b,0,none⟩ 1 k0 p.cells rfl hnews h1 (by unfold maxLen;omega) (by omega) hbase
 have hown2:∀ g,v'.ownBlock=some g→v.ownBlock=some g ∨ w.heap.size≤g:=by
  rcases h.own.2 with ⟨rfl,hn⟩ | ⟨g0,cap,cur,rfl,_,hg0,hnc,hcm,hcs,htake⟩
  · have e:=run_append_nil (P:=Tryz.prog) w tS ty T i0 zqq ht hi hz ⟨b,0,none⟩ 1 k0 p.cells (by rw [hs];rfl) hnews (by decide) (by decide) (by rw [hby];decide)
    rw [hr] at e
    injection e with e1 e2
    subst e1
    intro g hgv
    right
    obtain rfl:w.heap.size=g:=by simpa [Value.ownBlock] using hgv
    exact Nat.le_refl _
  · by_cases hroom:L.length+1≤cap
    · have e:=run_append_room (P:=Tryz.prog) w tS ty T i0 ht hi g0 L.length cap cur hg0 ⟨b,0,none⟩ 1 k0 p.cells (by rw [hs];rfl) hnews h1 hroom (by rw [hs,hcs];show L.length*3+3≤_;omega)
      rw [hr] at e
      injection e with e1 e2
      subst e1
      intro g hgv
      left
      simpa [Value.ownBlock] using hgv
    · have holds:∀ j u,(qvs L)[j]?=some u→w.cell? ((⟨g0,0,none⟩:Addr).add j)=some u:=h.own.cells (g:=g0) rfl
      have e:=run_append_grow (P:=Tryz.prog) w tS ty T i0 zqq ht hi hz ⟨g0,0,none⟩ L.length cap (qvs L) (by rw [hs];exact h.own.1) holds ⟨b,0,none⟩ 1 k0 p.cells (by rw [hs];rfl) hnews (by omega) (by omega) (growslice_fits (by omega) (by rw [hby];omega))
      rw [hr] at e
      injection e with e1 e2
      subst e1
      intro g hgv
      right
      obtain rfl:w.heap.size=g:=by simpa [Value.ownBlock] using hgv
      exact Nat.le_refl _
 refine ⟨v',w',hr,⟨by rw [qvs_append,List.length_append,qvs_cons,qvs_nil,List.append_nil];exact hown,?_⟩,hg,hown2⟩
 have fr:∀ (cs:List Value),(∀ u ∈ cs,∀ (k:IntKind) (x:Int),u ≠ .int k x)→∀ (i:Nat) (k:IntKind) (x:Int),cs.toArray[i]? ≠ some (Value.int k x):=fun cs hc i k x e=>by
  rw [List.getElem?_toArray] at e
  exact hc _ (List.mem_of_getElem? e) k x rfl
 intro g hgv
 rcases h.own.2 with ⟨rfl,hn⟩ | ⟨g0,cap,cur,rfl,_,hg0,hnc,hcm,hcs,htake⟩
 · have e:=run_append_nil (P:=Tryz.prog) w tS ty T i0 zqq ht hi hz ⟨b,0,none⟩ 1 k0 p.cells (by rw [hs];rfl) hnews (by decide) (by decide) (by rw [hby];decide)
   rw [hr] at e
   injection e with e1 e2
   subst e1 e2
   obtain rfl:w.heap.size=g:=by simpa [Value.ownBlock] using hgv
   refine ⟨_,heap_alloc_new w.drew _,?_⟩
   have:=fr (p.cells ++ (Builtin.zeroCells zqq.cells (grownCap w 1 0 T - 1)).toList) (fun u hu=>by
    rcases List.mem_append.1 hu with q | q
    · exact hfree u q
    · exact zeroQ_free _ u q)
   intro i k x
   have:=this i k x
   rwa [show (p.cells ++ (Builtin.zeroCells zqq.cells (grownCap w 1 0 T - 1)).toList).toArray=p.cells.toArray ++ Builtin.zeroCells zqq.cells (grownCap w 1 0 T - 1) by apply Array.ext';simp] at this
 · obtain ⟨cs,hB⟩:=h.free g0 rfl
   have hcur:∀ u ∈ cur.toList,∀ (k:IntKind) (x:Int),u ≠ .int k x:=by
    have:cs=cur:=by exact (Obj.cells.inj (Option.some.inj (hB.at_.symm.trans hg0))).1
    subst this
    intro u hu k x e
    obtain ⟨j,hj⟩:=List.getElem?_of_mem hu
    rw [Array.getElem?_toList] at hj
    exact hB.free j k x (by rw [← e];exact hj)
   by_cases hroom:L.length+1≤cap
   · have e:=run_append_room (P:=Tryz.prog) w tS ty T i0 ht hi g0 L.length cap cur hg0 ⟨b,0,none⟩ 1 k0 p.cells (by rw [hs];rfl) hnews h1 hroom (by rw [hs,hcs];show L.length*3+3≤_;omega)
     rw [hr] at e
     injection e with e1 e2
     subst e1 e2
     obtain rfl:g0=g:=by simpa [Value.ownBlock] using hgv
     refine ⟨_,setRow_heap w g0 cur _ T _ hg0,fr _ fun u hu=>?_⟩
     rcases List.mem_append.1 hu with q | q
     · rcases List.mem_append.1 q with q | q
       · exact hcur u (List.mem_of_mem_take q)
       · exact hfree u q
     · exact hcur u (List.mem_of_mem_drop q)
   · have holds:∀ j u,(qvs L)[j]?=some u→w.cell? ((⟨g0,0,none⟩:Addr).add j)=some u:=h.own.cells (g:=g0) rfl
     have e:=run_append_grow (P:=Tryz.prog) w tS ty T i0 zqq ht hi hz ⟨g0,0,none⟩ L.length cap (qvs L) (by rw [hs];exact h.own.1) holds ⟨b,0,none⟩ 1 k0 p.cells (by rw [hs];rfl) hnews (by omega) (by omega) (growslice_fits (by omega) (by rw [hby];omega))
     rw [hr] at e
     injection e with e1 e2
     subst e1 e2
     obtain rfl:w.heap.size=g:=by simpa [Value.ownBlock] using hgv
     refine ⟨_,heap_alloc_new w.drew _,?_⟩
     have:=fr (qvs L ++ p.cells ++ (Builtin.zeroCells zqq.cells (grownCap w (L.length+1) cap T - (L.length+1))).toList) (fun u hu=>by
      rcases List.mem_append.1 hu with q | q
      · rcases List.mem_append.1 q with q | q
        · exact qvs_free L u q
        · exact hfree u q
      · exact zeroQ_free _ u q)
     intro i k x
     have:=this i k x
     rwa [show (qvs L ++ p.cells ++ (Builtin.zeroCells zqq.cells (grownCap w (L.length+1) cap T - (L.length+1))).toList).toArray=(qvs L).toArray ++ p.cells.toArray ++ Builtin.zeroCells zqq.cells (grownCap w (L.length+1) cap T - (L.length+1)) by apply Array.ext';simp] at this
theorem LnQ.stays {T:TypeId} {base:Nat} {w w':World} {v:Value} {L:List QV} (h:LnQ T base w v L) (hg:w.grownBy w' v.ownBlock):Below w.heap.size w w' ∨ ∃ g cs,BoxAt T w g cs∧base≤g∧Only g w w':=by
 cases hv:v.ownBlock with
 | none =>
   rw [hv] at hg
   exact .inl ((Below.refl _ _).grown hg (Nat.le_refl _) (fun k e=>by cases e))
 | some g =>
   rw [hv] at hg
   obtain ⟨cs,hc⟩:=h.free g hv
   refine .inr ⟨g,cs,hc,(h.own.lt g hv).1,⟨hg.os,hg.tape,hg.output,hg.size,fun k hk hn=>hg.block k hk (fun e=>hn (by injection e))⟩⟩
theorem step_pushQ {ops:Array Oper} {o:Oper} {a:Act} {K:Act→World→Prop} {Q:Exit→Act→World→Prop} {E:Prop} {T tS:TypeId} (ht:Tryz.prog.underlying tS=some (.slice T)) (hinfo:(Tryz.prog.info? T).map (fun i=>(i.zero,i.size,i.bytes))=some (some zqq,3,56))
 (hgd:o.guard=none) (s x:Operand) (ho:o.op=.call ⟨.builtin .append,#[s,x],#[tS,tS]⟩) {base b:Nat} {v:Value} {L:List QV} {p:QV} {k0:Nat} (hs:a.eval s=v) (hx:a.eval x=.slice (some ⟨b,0,none⟩) 1 k0)
 (h:LnQ T base w v L) (hbase:base≤w.heap.size) (hL:L.length≤1000000) (hb:w.heap[b]?=some (.cells p.cells.toArray T (0,0)))
 (hK:∀ v' w',LnQ T base w' v' (L ++ [p])→w.grownBy w' v.ownBlock→(∀ g,v'.ownBlock=some g→v.ownBlock=some g ∨ w.heap.size≤g)→K (a.put o.dst v') w'):if Region.wanted o (yielded ops a.tmps)=true then Oper.wp Tryz.prog o a w K Q else E:=by
 have hw:Region.wanted o (yielded ops a.tmps)=true:=by simp [Region.wanted,hgd]
 rw [if_pos hw]
 obtain ⟨v',w',hr,h2,h3,h4⟩:=run_push2Q (ty:=o.type) (k0:=k0) ht hinfo h hbase hL hb
 exact wp_append_at s x ho hs hx hr (hK v' w' h2 h3 h4)
theorem LnQ.under {T:TypeId} {base:Nat} {w0 w w':World} {v:Value} {M:List QV} (hn:LnQ T base w v M) (hg:w.grownBy w' v.ownBlock) (hb:Below w0.heap.size w0 w) (hb0:w0.heap.size≤base):Below w0.heap.size w0 w':=by
 rcases hn.stays hg with q | ⟨g,cs,hB,hg2,ho⟩
 · exact bend hb q
 · exact Below.only hb (Nat.le_trans hb0 hg2) hb.size ho
def QV.G (w:World) (p:QV) (v:Rat) (k:Nat):Prop:=Go.Proofs.YtlpogecpdfdggaaGreat.QG w p.s p.A p.n p.c p.B p.m p.d v k
theorem QV.G.below {w w':World} {p:QV} {v:Rat} {k:Nat} (h:p.G w v k) (hb:Below w.heap.size w w'):p.G w' v k:=Go.Proofs.YtlpogecpdfdggaaGreat.QG.below h hb
theorem EachQ.imp {w w':World} {L:List QV} {l:List Rat} {k k2:Nat} (h:EachQ w L l k) (hw:∀ (p:QV) u,p.G w u k→p.G w' u k2):EachQ w' L l k2:=⟨h.1,fun i p u hp hu=>hw p u (h.2 i p u hp hu)⟩
theorem EachQ.at_ {L:List QV} {l:List Rat} {k:Nat} (h:EachQ w L l k) {i:Nat} (hi:i < L.length):∃ (p:QV) (u:Rat),L[i]?=some p∧l[i]?=some u∧p.G w u k :=
 ⟨_,_,List.getElem?_eq_getElem hi,List.getElem?_eq_getElem (by rw [← h.1];exact hi),h.2 i _ _ (List.getElem?_eq_getElem hi) (List.getElem?_eq_getElem (by rw [← h.1];exact hi))⟩
section
variable {T:TypeId} {base:Nat} {w w':World} {v:Value} {M:List QV} {k:Nat} {p:QV} {u:Rat}
theorem LnQ.qg (hn:LnQ T base w v M) (hg:w.grownBy w' v.ownBlock) (h:p.G w u k):p.G w' u k:=by
 rcases hn.stays hg with q | ⟨g,cs,hB,_,ho⟩
 · exact h.below q
 · exact QG.box h hB ho
theorem LnQ.hr {h:HV} {v2:AH} (hn:LnQ T base w v M) (hg:w.grownBy w' v.ownBlock) (hh:HR w h v2 k):HR w' h v2 k:=by
 rcases hn.stays hg with q | ⟨g,cs,hB,_,ho⟩
 · exact hh.below q
 · exact hh.box hB ho
theorem LnQ.sv {A:Option Addr} {n c:Nat} (h:LnQ T base w (.slice A n c) M):SV w A (qvs M):=fun hn=>by
 rcases h.own.2 with ⟨_,e⟩ | ⟨g,cap,cur,hv,_,hg,_⟩
 · rw [qvs_length,List.length_eq_zero_iff.1 e] at hn;exact absurd hn (by simp)
 · have hc:=h.own.cells (g:=g) (by rw [hv];rfl)
   have ha:∀ j,(⟨g,0,none⟩:Addr).add j=⟨g,j,none⟩:=fun j=>by unfold Addr.add;split <;> simp_all
   simp only [Value.slice.injEq] at hv
   refine ⟨g,0,hv.1,?_,fun j u hu=>by have:=hc j u hu;rw [ha] at this;rw [Nat.zero_add];exact this⟩
   rcases Nat.lt_or_ge g w.heap.size with q | q
   · exact q
   · rw [Array.getElem?_eq_none q] at hg;cases hg
end
theorem SV.tailQ {A:Option Addr} {L:List QV} {n c:Nat} (h:SV w A (qvs L)) (hn:L.length=n) (h1:1≤n) (hc:n≤c):∃ A2 c2,(∀ w',(Instr.slice 67 (.slice A n c) (some (.int .i64 1)) none none).run Tryz.prog w'=.ok (.slice A2 (n - 1) c2) w')∧SV w A2 (qvs (L.drop 1)):=by
 obtain ⟨i0,hi0,hz,hs,hby⟩:=info_parts info_rat
 refine ⟨if c=1 then A else A.map (·.add 3),c - 1,fun w'=>?_,fun hl=>?_⟩
 · have k1:(1:Int)≤(n:Int):=by omega
   simp [Instr.slice,Instr.sliceBounds,Instr.sliceBound,asIntOf,run_underlying Tryz.underlying67,sizeOf,typeInfo,hi0,hs,k1]
 · rw [qvs_length,List.length_drop] at hl
   obtain ⟨g,o,e,e1,e2⟩:=h (by rw [qvs_length];omega)
   subst e
   have ha:(⟨g,o,none⟩:Addr).add 3=⟨g,o+3,none⟩:=by unfold Addr.add;split <;> simp_all
   rw [if_neg (by omega),Option.map_some,ha]
   refine ⟨g,o+3,rfl,e1,fun j u hu=>?_⟩
   cases L with
   | nil=>rw [List.drop_nil] at hu;cases hu
   | cons p L =>
     rw [List.drop_succ_cons,List.drop_zero] at hu
     rw [Nat.add_assoc]
     refine e2 (3+j) u ?_
     rw [qvs_cons,List.getElem?_append_right (by rw [qvc_len];omega),qvc_len,Nat.add_sub_cancel_left]
     exact hu
theorem SV.midH {A:Option Addr} {L:List HV} {n c l m:Nat} (h:SV w A (hvs L)) (hn:L.length=n) (hl:n=l+1) (hm:l=m+1) (hc:n≤c):∃ A2 c2,(∀ w',(Instr.slice 22 (.slice A n c) (some (.int .i64 1)) (some (.int .i64 (l:Int))) none).run Tryz.prog w'=.ok (.slice A2 m c2) w')∧SV w A2 (hvs ((L.drop 1).take m)):=by
 obtain ⟨i0,hi0,hz,hs,hby⟩:=info_parts info_hom
 refine ⟨if c=1 then A else A.map (·.add 9),c - 1,fun w'=>?_,fun hl=>?_⟩
 · obtain ⟨M,hM⟩:∃ M:Int,(l:Int)=M:=⟨_,rfl⟩
   have k1:M≤(c:Int):=by omega
   have k2:(0:Int)≤M:=by omega
   have k4:M.toNat=m+1:=by omega
   rw [hM]
   simp only [Instr.slice,Instr.sliceBounds,Instr.sliceBound,asIntOf,Sem.run_bind,run_underlying Tryz.underlying22,Result.andThen_ok]
   simp [k1,k2,k4,sizeOf,typeInfo,hi0,hs]
   exact fun e=>absurd e (by omega)
 · have hl2:0 < m:=by rw [hvs_length,List.length_take,List.length_drop] at hl;omega
   obtain ⟨g,o,e,e1,e2⟩:=h (by rw [hvs_length];omega)
   subst e
   have ha:(⟨g,o,none⟩:Addr).add 9=⟨g,o+9,none⟩:=by unfold Addr.add;split <;> simp_all
   rw [if_neg (by omega),Option.map_some,ha]
   refine ⟨g,o+9,rfl,e1,fun j u hu=>?_⟩
   cases L with
   | nil=>rw [List.drop_nil,List.take_nil] at hu;cases hu
   | cons p L =>
     rw [List.drop_succ_cons,List.drop_zero] at hu
     rw [Nat.add_assoc]
     refine e2 (9+j) u ?_
     rw [hvs_cons,List.getElem?_append_right (by rw [hvc_len];omega),hvc_len,Nat.add_sub_cancel_left]
     have hj:j < (hvs (L.take m)).length:=(List.getElem?_eq_some_iff.1 hu).1
     rw [← List.take_append_drop m L,hvs_append,List.getElem?_append_left hj]
     exact hu
def GivesQs (w:World) (l:List Rat) (k:Nat) (en:Ending) (w':World):Prop :=
 ∃ v M,en=.returned v∧LnQ 27 w.heap.size w' v M∧EachQ w' M l k∧Below w.heap.size w w'
def topQ (l:List Rat):Rat:=l.foldl maxQ 0
theorem maxQ_le {a b c:Rat}:maxQ a b≤c ↔ a≤c∧b≤c:=by
 unfold maxQ
 split
 · rename_i h;exact ⟨fun e=>⟨Rat.le_trans (Rat.le_of_lt h) e,e⟩,fun e=>e.2⟩
 · rename_i h;exact ⟨fun e=>⟨e,Rat.le_trans (Rat.not_lt.1 h) e⟩,fun e=>e.1⟩
theorem fold_le:∀ (l:List Rat) (a c:Rat),l.foldl maxQ a≤c ↔ a≤c∧∀ v ∈ l,v≤c
 | [],a,c=>⟨fun h=>⟨h,fun v hv=>by cases hv⟩,fun h=>h.1⟩
 | x :: l,a,c=>by
   rw [List.foldl_cons,fold_le l,maxQ_le]
   constructor
   · rintro ⟨⟨h1,h2⟩,h3⟩
     refine ⟨h1,fun v hv=>?_⟩
     rcases List.mem_cons.1 hv with rfl | hv
     · exact h2
     · exact h3 v hv
   · rintro ⟨h1,h2⟩
     exact ⟨⟨h1,h2 x (by simp)⟩,fun v hv=>h2 v (List.mem_cons_of_mem _ hv)⟩
theorem topQ_le {l:List Rat} {c:Rat}:topQ l≤c ↔ 0≤c∧∀ v ∈ l,v≤c:=fold_le l 0 c
theorem topQ_nonneg (l:List Rat):0≤topQ l:=(topQ_le.1 Rat.le_refl).1
theorem le_topQ {l:List Rat} {v:Rat} (h:v ∈ l):v≤topQ l:=(topQ_le.1 Rat.le_refl).2 v h
theorem topQ_same {l m:List Rat} (h1:∀ v ∈ l,v=0 ∨ v ∈ m) (h2:∀ v ∈ m,v ∈ l):topQ l=topQ m:=by
 refine Rat.le_antisymm (topQ_le.2 ⟨topQ_nonneg m,fun v hv=>?_⟩) (topQ_le.2 ⟨topQ_nonneg l,fun v hv=>le_topQ (h2 v hv)⟩)
 rcases h1 v hv with rfl | h
 · exact topQ_nonneg m
 · exact le_topQ h
def AH.far (a b p:AH):Rat:=segQ p.px p.py a.px a.py b.px b.py
theorem far_a (a b:AH):AH.far a b a=0:=seg_on _ _ _ _ 0 Rat.le_refl (by decide) (by grind) (by grind)
theorem far_b (a b:AH):AH.far a b b=0:=seg_on _ _ _ _ 1 (by decide) Rat.le_refl (by grind) (by grind)
end
end Go.Proofs.YtlpogecpdfdggaaGreat
