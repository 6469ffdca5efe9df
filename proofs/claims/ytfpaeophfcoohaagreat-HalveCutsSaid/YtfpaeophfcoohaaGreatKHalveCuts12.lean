/- HalveCuts: part 12. -/
import Derived.Test.YtfpaeophfcoohaaGreatKHalveCuts8
import Derived.Test.YtfpaeophfcoohaaGreatKHalveCuts9
import Derived.Test.YtfpaeophfcoohaaGreatKHalveCuts10
import Derived.Test.YtfpaeophfcoohaaGreatKHalveCuts11
set_option linter.unusedVariables false
set_option maxRecDepth 100000
set_option maxHeartbeats 16000000
variable {w:Go.World}
variable {s_p t_p:Bool} {A_p B_p E_p F_p:Option Go.Addr} {n_p c_p m_p d_p i_p e_p j_p f_p:Nat}
variable {s_q t_q:Bool} {A_q B_q E_q F_q:Option Go.Addr} {n_q c_q m_q d_q i_q e_q j_q f_q:Nat}
variable {s_r t_r:Bool} {A_r B_r E_r F_r:Option Go.Addr} {n_r c_r m_r d_r i_r e_r j_r f_r:Nat}
namespace Go.Proofs.YtfpaeophfcoohaaGreat
section
open Go Go.RowKit
attribute [local go_sem ↓] open_LVH open_STH open_LVJ open_STJ
def QV.small (M:Nat) (q:QV):Prop:=q.n≤M∧q.m≤M
instance (M:Nat) (q:QV):Decidable (q.small M):=by unfold QV.small;exact inferInstance
def HV.small (M:Nat) (p:HV):Prop:=p.x.small M∧p.y.small M∧p.w.small M
theorem smallI (M:Nat) {MI:Int} (hMI:MI=(M:Int)) {s:Bool} {A A':Option Addr} {n c n' c':Nat} (w:World) (L:Bool) (hL:decide (n≤M∧n'≤M)=L) :
 Calls Tryz.prog 49 #[.agg #[.bool s,.slice A n c,.slice A' n' c'],.int .i64 MI] w fun e w'=>e=.returned (.bool L)∧Below w.heap.size w w':=by
 subst hMI;exact small_m M w L hL
theorem fair13 {A:Option Addr} {n c:Nat} {L:List HV} (hL:SV w A (hvs L)) (hn:L.length=n) (hm:n≤maxLen) (R:Bool) (hR0:R=true ↔ (∀ p ∈ L,p.small 4)∧n≤6) :
 Calls Tryz.prog 17 #[.slice A n c] w fun e w'=>e=.returned (.bool R)∧Below w.heap.size w w':=by
 unfold maxLen at hm
 have HN:=Lib.hid hn;have HL0:=Lib.hid hL;have HR0:=Lib.hid hR0
 have H4:Hid ((4:Int)=((4:Nat):Int)):=rfl
 clear hR0 hL hn
 go_enter Tryz.func17,Tryz.ntmps17
 go_wp2_with fail
 go_loopg [3] n (fun gk ix wr=>∃ (m:Nat),Hid (gk+m=n)∧ix=.int .i64 (m:Int)∧Hid (∀ (i:Nat) (p:HV),i < m→L[i]?=some p→p.small 4)∧Below w.heap.size w wr)
 case atStart=>exact ⟨0,Nat.add_zero _,rfl,fun i p hi=>absurd hi (by omega),Below.refl _ _⟩
 case round =>
  obtain ⟨m,HG,rfl,HS,hb⟩:=hrel
  by_cases hmn:m < n
  · have HMN:=Lib.hid hmn
    obtain ⟨P,hP1⟩:∃ P,L[m]?=some P:=⟨_,List.getElem?_eq_getElem (by rw [HN.out];exact hmn)⟩
    obtain ⟨g0,o0,hix0,EP,_⟩:=(HL0.out.below hb).ht hP1
    have hixa:∀ w',(Instr.indexAt 37 (.slice A n c) (.int .i64 (m:Int))).run Tryz.prog w'=.ok (.pointer (some ⟨g0,o0,none⟩)) w':=fun w'=>hix0 n c w' hmn
    have hlt:(m:Int) < (n:Int):=by omega
    have hwr:IntKind.i64.wrap ((m:Int)+1)=(m:Int)+1:=IntWalk.i64_in _ (by omega)
    have HP1:=Lib.hid hP1;obtain ⟨ep0,ep1,ep2,ep3,ep4,ep5,ep6,ep7,ep8⟩:=EP.all;clear hP1 hix0 hmn
    by_cases hx:P.x.small 4
    · have Hx:Hid (decide (P.x.n≤4∧P.x.m≤4)=true):=decide_eq_true hx
      by_cases hy:P.y.small 4
      · have Hy:Hid (decide (P.y.n≤4∧P.y.m≤4)=true):=decide_eq_true hy
        by_cases hw:P.w.small 4
        · have Hw:Hid (decide (P.w.n≤4∧P.w.m≤4)=true):=decide_eq_true hw
          have HSM:Hid (P.small 4):=⟨hx,hy,hw⟩
          clear hx hy hw
          go_wp2_with (first
           | (go_at_call 49;(with_reducible refine (smallI 4 H4.out (s:=P.x.s) (A:=P.x.A) (n:=P.x.n) (c:=P.x.c) (A':=P.x.B) (n':=P.x.m) (c':=P.x.d) _ true Hx.out).mono ?_);rintro e w_z ⟨rfl,hh⟩
              (try replace EP:=EP.below hh);replace hb:=bend hb hh;obtain ⟨ep0,ep1,ep2,ep3,ep4,ep5,ep6,ep7,ep8⟩:=EP.all)
           | (go_at_call 49;(with_reducible refine (smallI 4 H4.out (s:=P.y.s) (A:=P.y.A) (n:=P.y.n) (c:=P.y.c) (A':=P.y.B) (n':=P.y.m) (c':=P.y.d) _ true Hy.out).mono ?_);rintro e w_z ⟨rfl,hh⟩
              (try replace EP:=EP.below hh);replace hb:=bend hb hh;obtain ⟨ep0,ep1,ep2,ep3,ep4,ep5,ep6,ep7,ep8⟩:=EP.all)
           | (go_at_call 49;(with_reducible refine (smallI 4 H4.out (s:=P.w.s) (A:=P.w.A) (n:=P.w.n) (c:=P.w.c) (A':=P.w.B) (n':=P.w.m) (c':=P.w.d) _ true Hw.out).mono ?_);rintro e w_z ⟨rfl,hh⟩
              (try replace EP:=EP.below hh);replace hb:=bend hb hh;obtain ⟨ep0,ep1,ep2,ep3,ep4,ep5,ep6,ep7,ep8⟩:=EP.all))
          go_roundg (gk - 1)
          case measure=>have:=HG.out;have:=HMN.out;omega
          case rel =>
           refine ⟨m+1,by have:=HG.out;have:=HMN.out;show _=_;omega,by go_num,fun i p hi h5=>?_,hb⟩
           rcases Nat.lt_or_ge i m with h | h
           · exact HS.out i p h h5
           · obtain rfl:i=m:=by omega
             rw [HP1.out] at h5;cases h5;exact HSM.out
        · have Hw:Hid (decide (P.w.n≤4∧P.w.m≤4)=false):=decide_eq_false hw
          have HF:Hid (false=R):=by
           show _=_
           cases R with
           | false=>rfl
           | true=>exact absurd (((HR0.out.1 rfl).1 _ (List.mem_of_getElem? HP1.out)).2.2) hw
          clear hx hy hw
          go_wp2_with (first
           | (go_at_call 49;(with_reducible refine (smallI 4 H4.out (s:=P.x.s) (A:=P.x.A) (n:=P.x.n) (c:=P.x.c) (A':=P.x.B) (n':=P.x.m) (c':=P.x.d) _ true Hx.out).mono ?_);rintro e w_z ⟨rfl,hh⟩
              (try replace EP:=EP.below hh);replace hb:=bend hb hh;obtain ⟨ep0,ep1,ep2,ep3,ep4,ep5,ep6,ep7,ep8⟩:=EP.all)
           | (go_at_call 49;(with_reducible refine (smallI 4 H4.out (s:=P.y.s) (A:=P.y.A) (n:=P.y.n) (c:=P.y.c) (A':=P.y.B) (n':=P.y.m) (c':=P.y.d) _ true Hy.out).mono ?_);rintro e w_z ⟨rfl,hh⟩
              (try replace EP:=EP.below hh);replace hb:=bend hb hh;obtain ⟨ep0,ep1,ep2,ep3,ep4,ep5,ep6,ep7,ep8⟩:=EP.all)
           | (go_at_call 49;(with_reducible refine (smallI 4 H4.out (s:=P.w.s) (A:=P.w.A) (n:=P.w.n) (c:=P.w.c) (A':=P.w.B) (n':=P.w.m) (c':=P.w.d) _ false Hw.out).mono ?_);rintro e w_z ⟨rfl,hh⟩
              (try replace EP:=EP.below hh);replace hb:=bend hb hh;obtain ⟨ep0,ep1,ep2,ep3,ep4,ep5,ep6,ep7,ep8⟩:=EP.all))
          (try rw [Exit.noGoto_ret])
          go_ret
          exact ⟨by rw [← HF.out];rfl,hb⟩
      · have Hy:Hid (decide (P.y.n≤4∧P.y.m≤4)=false):=decide_eq_false hy
        have HF:Hid (false=R):=by
         show _=_
         cases R with
         | false=>rfl
         | true=>exact absurd (((HR0.out.1 rfl).1 _ (List.mem_of_getElem? HP1.out)).2.1) hy
        clear hx hy
        go_wp2_with (first
         | (go_at_call 49;(with_reducible refine (smallI 4 H4.out (s:=P.x.s) (A:=P.x.A) (n:=P.x.n) (c:=P.x.c) (A':=P.x.B) (n':=P.x.m) (c':=P.x.d) _ true Hx.out).mono ?_);rintro e w_z ⟨rfl,hh⟩
            (try replace EP:=EP.below hh);replace hb:=bend hb hh;obtain ⟨ep0,ep1,ep2,ep3,ep4,ep5,ep6,ep7,ep8⟩:=EP.all)
         | (go_at_call 49;(with_reducible refine (smallI 4 H4.out (s:=P.y.s) (A:=P.y.A) (n:=P.y.n) (c:=P.y.c) (A':=P.y.B) (n':=P.y.m) (c':=P.y.d) _ false Hy.out).mono ?_);rintro e w_z ⟨rfl,hh⟩
            (try replace EP:=EP.below hh);replace hb:=bend hb hh;obtain ⟨ep0,ep1,ep2,ep3,ep4,ep5,ep6,ep7,ep8⟩:=EP.all))
        (try rw [Exit.noGoto_ret])
        go_ret
        exact ⟨by rw [← HF.out];rfl,hb⟩
    · have Hx:Hid (decide (P.x.n≤4∧P.x.m≤4)=false):=decide_eq_false hx
      have HF:Hid (false=R):=by
       show _=_
       cases R with
       | false=>rfl
       | true=>exact absurd (((HR0.out.1 rfl).1 _ (List.mem_of_getElem? HP1.out)).1) hx
      clear hx
      go_wp2_with (first
       | (go_at_call 49;(with_reducible refine (smallI 4 H4.out (s:=P.x.s) (A:=P.x.A) (n:=P.x.n) (c:=P.x.c) (A':=P.x.B) (n':=P.x.m) (c':=P.x.d) _ false Hx.out).mono ?_);rintro e w_z ⟨rfl,hh⟩
          (try replace EP:=EP.below hh);replace hb:=bend hb hh;obtain ⟨ep0,ep1,ep2,ep3,ep4,ep5,ep6,ep7,ep8⟩:=EP.all))
      (try rw [Exit.noGoto_ret])
      go_ret
      exact ⟨by rw [← HF.out];rfl,hb⟩
  · have hlt:¬ (m:Int) < (n:Int):=by omega
    have HT:Hid (decide ((n:Int)≤6)=R):=by
     have ha:∀ p ∈ L,p.small 4:=fun p hp=>by
      obtain ⟨i,hi⟩:=List.getElem?_of_mem hp
      have h7:=(List.getElem?_eq_some_iff.1 hi).1
      rw [HN.out] at h7
      exact HS.out i p (by omega) hi
     show _=_
     cases R with
     | true=>exact decide_eq_true (by have:=(HR0.out.1 rfl).2;omega)
     | false=>exact decide_eq_false fun h6=>by have:=HR0.out.2 ⟨ha,by omega⟩;cases this
    clear hmn
    go_wp2_with fail
    (try rw [Exit.noGoto_ret])
    go_ret
    exact ⟨by rw [← HT.out];rfl,hb⟩
end
section
open Go Go.RowKit
attribute [local go_sem ↓] open_LVM open_STM open_LVN open_STN
def AM.fits (v:AM) (K:Nat):Prop:=(v.a.num.natAbs < B64 ^ K∧v.a.den < B64 ^ K)∧(v.b.num.natAbs < B64 ^ K∧v.b.den < B64 ^ K)∧(v.c.num.natAbs < B64 ^ K∧v.c.den < B64 ^ K)∧(v.d.num.natAbs < B64 ^ K∧v.d.den < B64 ^ K)∧(v.e.num.natAbs < B64 ^ K∧v.e.den < B64 ^ K)∧v.f.num.natAbs < B64 ^ K∧v.f.den < B64 ^ K
theorem AM.fits_ex (v:AM):∃ K,v.fits K:=by
 have h:∀ n m:Nat,n≤m→n < B64 ^ m:=fun n m h=>Nat.lt_of_lt_of_le (Nat.lt_pow_self (by decide)) (Nat.pow_le_pow_right (by decide) h)
 exact ⟨v.a.num.natAbs+v.a.den+(v.b.num.natAbs+v.b.den)+(v.c.num.natAbs+v.c.den)+(v.d.num.natAbs+v.d.den)+(v.e.num.natAbs+v.e.den)+(v.f.num.natAbs+v.f.den),⟨h _ _ (by omega),h _ _ (by omega)⟩,⟨h _ _ (by omega),h _ _ (by omega)⟩,⟨h _ _ (by omega),h _ _ (by omega)⟩,⟨h _ _ (by omega),h _ _ (by omega)⟩,⟨h _ _ (by omega),h _ _ (by omega)⟩,h _ _ (by omega),h _ _ (by omega)⟩
end
section
open Go Go.RowKit
attribute [local go_sem ↓] open_LVM open_STM open_LVN open_STN
attribute [local go_sem ↓] open_LVH open_STH open_LVJ open_STJ
def AH.fits (u:AH) (K:Nat):Prop:=(u.x.num.natAbs < B64 ^ K∧u.x.den < B64 ^ K)∧(u.y.num.natAbs < B64 ^ K∧u.y.den < B64 ^ K)∧u.w.num.natAbs < B64 ^ K∧u.w.den < B64 ^ K
theorem AH.fits.xn {u:AH} {K:Nat} (h:u.fits K):u.x.num.natAbs < B64 ^ K:=h.1.1
theorem AH.fits.xd {u:AH} {K:Nat} (h:u.fits K):u.x.den < B64 ^ K:=h.1.2
theorem AH.fits.yn {u:AH} {K:Nat} (h:u.fits K):u.y.num.natAbs < B64 ^ K:=h.2.1.1
theorem AH.fits.yd {u:AH} {K:Nat} (h:u.fits K):u.y.den < B64 ^ K:=h.2.1.2
theorem AH.fits.wn {u:AH} {K:Nat} (h:u.fits K):u.w.num.natAbs < B64 ^ K:=h.2.2.1
theorem AH.fits.wd {u:AH} {K:Nat} (h:u.fits K):u.w.den < B64 ^ K:=h.2.2.2
theorem fits_ex (l:List AH):∃ K,∀ u ∈ l,u.fits K:=by
 have h:∀ n m:Nat,n≤m→n < B64 ^ m:=fun n m h=>Nat.lt_of_lt_of_le (Nat.lt_pow_self (by decide)) (Nat.pow_le_pow_right (by decide) h)
 induction l with
 | nil=>exact ⟨0,fun u hu=>by cases hu⟩
 | cons v l ih =>
   obtain ⟨K,hK⟩:=ih
   have up:∀ {a k K:Nat},a < B64 ^ k→k≤K→a < B64 ^ K:=fun h hk=>Nat.lt_of_lt_of_le h (Nat.pow_le_pow_right (by decide) hk)
   refine ⟨K+(v.x.num.natAbs+v.x.den+(v.y.num.natAbs+v.y.den)+(v.w.num.natAbs+v.w.den)),fun u hu=>?_⟩
   rcases List.mem_cons.1 hu with rfl | hu
   · exact ⟨⟨h _ _ (by omega),h _ _ (by omega)⟩,⟨h _ _ (by omega),h _ _ (by omega)⟩,h _ _ (by omega),h _ _ (by omega)⟩
   · obtain ⟨⟨h1,h2⟩,⟨h3,h4⟩,h5,h6⟩:=hK u hu
     exact ⟨⟨up h1 (by omega),up h2 (by omega)⟩,⟨up h3 (by omega),up h4 (by omega)⟩,up h5 (by omega),up h6 (by omega)⟩
theorem rins13 {A:Option Addr} {n c k:Nat} {L:List HV} {V:List AH} (hL:SV w A (hvs L)) (hE:EachH HR w L V k) (hn:L.length=n) (hm:n≤1000) (hk:k≤1000) (h1:1≤k) :
 Calls Tryz.prog 19 #[.slice A n c] w (GivesJs w V (2*k)):=by
 have HN:=Lib.hid hn
 have HVl:Hid (V.length=n):=hE.1.symm.trans hn
 have HL9:=Lib.hid hL;have E9:=Lib.hid hE;clear hL hE hn
 go_enter Tryz.func19,Tryz.ntmps19
 go_wp2_with fail
 go_loopg [3,4] n (fun gk out ix wr=>∃ (M:List HV) (m:Nat),Hid (gk+m=n)∧ix=.int .i64 (m:Int)∧LnH 96 w.heap.size wr out M∧Hid (EachH RH wr M (V.take m) (2*k))∧Below w.heap.size w wr)
 case atStart=>exact ⟨[],0,Nat.add_zero _,rfl,LnH.nil _ _ _,⟨rfl,fun i p u h=>by cases h⟩,Below.refl _ _⟩
 case round =>
  obtain ⟨M,m,HG9,rfl,LT,HQ,hB⟩:=hrel
  by_cases hmn:m < n
  · obtain ⟨P,u,hP1,hu1,p0⟩:=(EachH.belowR E9.out hB).at_ (i:=m) (by rw [HN.out];exact hmn)
    obtain ⟨g0,o0,hix0,EP0,_⟩:=HL9.out.ht hP1
    have hixa:∀ w',(Instr.indexAt 37 (.slice A n c) (.int .i64 (m:Int))).run Tryz.prog w'=.ok (.pointer (some ⟨g0,o0,none⟩)) w':=fun w'=>hix0 n c w' hmn
    have hlt:(m:Int) < (n:Int):=by omega
    have hwr:IntKind.i64.wrap ((m:Int)+1)=(m:Int)+1:=IntWalk.i64_in _ (by omega)
    have HU:=Lib.hid hu1
    have hMl:M.length≤1000000:=by have:=HQ.out.1;rw [List.length_take] at this;omega
    have HMN:=Lib.hid hmn;have EP:=EP0.below hB
    have hxg:∀ b,u3.ownBlock=some b→b ≠ g0:=fun b e=>by have:=LT.own_base e;have:=EP0.lt;omega
    have p:=p0;clear hP1 hu1 hix0 hmn EP0 p0
    go_upto_region 5 with (fail)
    replace LT:=LT.below (Below.refl _ _).drew
    replace EP:=EP.below (Below.refl _ _).drew
    replace p:=p.below (Below.refl _ _).drew
    replace HQ:=Lib.hid (EachH.belowJ HQ.out (Below.refl _ _).drew)
    replace hB:=hB.drew
    go_region_held3 (fun w'=>w'.cell? ⟨g0,o0,none⟩=some (.bool P.x.s)∧w'.cell? ⟨g0,o0+1,none⟩=some (.slice P.x.A P.x.n P.x.c)∧w'.cell? ⟨g0,o0+2,none⟩=some (.slice P.x.B P.x.m P.x.d)∧w'.cell? ⟨g0,o0+3,none⟩=some (.bool P.y.s)∧w'.cell? ⟨g0,o0+4,none⟩=some (.slice P.y.A P.y.n P.y.c)∧w'.cell? ⟨g0,o0+5,none⟩=some (.slice P.y.B P.y.m P.y.d)∧w'.cell? ⟨g0,o0+6,none⟩=some (.bool P.w.s)∧w'.cell? ⟨g0,o0+7,none⟩=some (.slice P.w.A P.w.n P.w.c)∧w'.cell? ⟨g0,o0+8,none⟩=some (.slice P.w.B P.w.m P.w.d))
     (first | with_reducible exact ⟨EPb.c0,EPb.c1,EPb.c2,EPb.c3,EPb.c4,EPb.c5,EPb.c6,EPb.c7,EPb.c8⟩ | with_reducible exact ⟨EP.c0,EP.c1,EP.c2,EP.c3,EP.c4,EP.c5,EP.c6,EP.c7,EP.c8⟩ | exact ⟨(EP.below ((Below.refl _ _).alloc (Nat.le_refl _) _)).c0,(EP.below ((Below.refl _ _).alloc (Nat.le_refl _) _)).c1,(EP.below ((Below.refl _ _).alloc (Nat.le_refl _) _)).c2,(EP.below ((Below.refl _ _).alloc (Nat.le_refl _) _)).c3,(EP.below ((Below.refl _ _).alloc (Nat.le_refl _) _)).c4,(EP.below ((Below.refl _ _).alloc (Nat.le_refl _) _)).c5,(EP.below ((Below.refl _ _).alloc (Nat.le_refl _) _)).c6,(EP.below ((Below.refl _ _).alloc (Nat.le_refl _) _)).c7,(EP.below ((Below.refl _ _).alloc (Nat.le_refl _) _)).c8⟩)
     (first
     | (go_at_call 46;(with_reducible refine (rin3 p.qx hk h1).mono ?_);rintro e w_r1 ⟨s_r1,A_r1,n_r1,c_r1,B_r1,m_r1,d_r1,rfl,r1,hh⟩
        (try replace LT:=LT.below hh);(try replace EP:=EP.below hh);(try replace p:=p.below hh);(try replace r2:=r2.below hh);(try replace r3:=r3.below hh)
        replace HQ:=Lib.hid (EachH.belowJ HQ.out hh)
        replace hB:=bend hB hh)
     | (go_at_call 46;(with_reducible refine (rin3 p.qy hk h1).mono ?_);rintro e w_r2 ⟨s_r2,A_r2,n_r2,c_r2,B_r2,m_r2,d_r2,rfl,r2,hh⟩
        (try replace LT:=LT.below hh);(try replace EP:=EP.below hh);(try replace p:=p.below hh);(try replace r1:=r1.below hh);(try replace r3:=r3.below hh)
        replace HQ:=Lib.hid (EachH.belowJ HQ.out hh)
        replace hB:=bend hB hh)
     | (go_at_call 46;(with_reducible refine (rin3 p.qw hk h1).mono ?_);rintro e w_r3 ⟨s_r3,A_r3,n_r3,c_r3,B_r3,m_r3,d_r3,rfl,r3,hh⟩
        (try replace LT:=LT.below hh);(try replace EP:=EP.below hh);(try replace p:=p.below hh);(try replace r1:=r1.below hh);(try replace r2:=r2.below hh)
        replace HQ:=Lib.hid (EachH.belowJ HQ.out hh)
        replace hB:=bend hB hh)
     | (have hal:Below w_r3.heap.size w_r3 (w_r3.alloc (Obj.cells #[Value.bool s_r1,Value.slice A_r1 n_r1 c_r1,Value.slice B_r1 m_r1 d_r1,Value.bool s_r2,Value.slice A_r2 n_r2 c_r2,Value.slice B_r2 m_r2 d_r2,Value.bool s_r3,Value.slice A_r3 n_r3 c_r3,Value.slice B_r3 m_r3 d_r3] 96)):=((Below.refl _ _).alloc (Nat.le_refl _) _)
        have EPa:=EP.below hal
        refine step_pushH Tryz.underlying41 info_rhom (by rfl) _ _ (by rfl) (p:=⟨⟨s_r1,A_r1,n_r1,c_r1,B_r1,m_r1,d_r1⟩,⟨s_r2,A_r2,n_r2,c_r2,B_r2,m_r2,d_r2⟩,⟨s_r3,A_r3,n_r3,c_r3,B_r3,m_r3,d_r3⟩⟩) (k0:=1) (b:=w_r3.heap.size) (by rfl) (by rfl) (LT.below hal) (Nat.le_trans hB.size hal.size) hMl (heap_alloc_new w_r3 _) ?_
        intro v3 w3 hn3 hg3 ho3
        have EPb:=EPa.push hg3 hxg))
    have hE3:EachH RH (w_r3.alloc (Obj.cells #[Value.bool s_r1,Value.slice A_r1 n_r1 c_r1,Value.slice B_r1 m_r1 d_r1,Value.bool s_r2,Value.slice A_r2 n_r2 c_r2,Value.slice B_r2 m_r2 d_r2,Value.bool s_r3,Value.slice A_r3 n_r3 c_r3,Value.slice B_r3 m_r3 d_r3] 96)) M (V.take m) (2*k):=EachH.belowJ HQ.out hal
    have hp3:RH (w_r3.alloc (Obj.cells #[Value.bool s_r1,Value.slice A_r1 n_r1 c_r1,Value.slice B_r1 m_r1 d_r1,Value.bool s_r2,Value.slice A_r2 n_r2 c_r2,Value.slice B_r2 m_r2 d_r2,Value.bool s_r3,Value.slice A_r3 n_r3 c_r3,Value.slice B_r3 m_r3 d_r3] 96)) ⟨⟨s_r1,A_r1,n_r1,c_r1,B_r1,m_r1,d_r1⟩,⟨s_r2,A_r2,n_r2,c_r2,B_r2,m_r2,d_r2⟩,⟨s_r3,A_r3,n_r3,c_r3,B_r3,m_r3,d_r3⟩⟩ u (2*k):=(RH.below (h:=⟨⟨s_r1,A_r1,n_r1,c_r1,B_r1,m_r1,d_r1⟩,⟨s_r2,A_r2,n_r2,c_r2,B_r2,m_r2,d_r2⟩,⟨s_r3,A_r3,n_r3,c_r3,B_r3,m_r3,d_r3⟩⟩) (v:=u) (k:=2*k) ⟨r1,r2,r3⟩ hal)
    have hB9:=LnH.under (T:=96) (base:=w.heap.size) (LT.below hal) hg3 (w0:=w) (bend hB hal) (Nat.le_refl _)
    have hE4:=takeH HU.out (EachH.push hE3 (fun _ _ h=>(LT.below hal).rh hg3 h) ((LT.below hal).rh hg3 hp3))
    clear hE3 hp3 EPa EPb EP p r1 r2 r3
    go_wp2_with fail
    go_roundg (gk - 1)
    case measure=>have:=HG9.out;have:=HMN.out;omega
    case rel=>exact ⟨M ++ [(⟨⟨s_r1,A_r1,n_r1,c_r1,B_r1,m_r1,d_r1⟩,⟨s_r2,A_r2,n_r2,c_r2,B_r2,m_r2,d_r2⟩,⟨s_r3,A_r3,n_r3,c_r3,B_r3,m_r3,d_r3⟩⟩:HV)],m+1,by have:=HG9.out;have:=HMN.out;show _=_;omega,by go_num,hn3,Lib.hid hE4,hB9⟩
  · have hlt:¬ (m:Int) < (n:Int):=by omega
    have HQ2:Hid (EachH RH wr M V (2*k)):=by
     have h:=HQ.out
     rwa [List.take_of_length_le (by rw [HVl.out];omega)] at h
    clear hmn
    go_wp2_with fail
    (try rw [Exit.noGoto_ret])
    go_ret
    exact ⟨_,M,rfl,LT,HQ2.out,hB⟩
theorem routs13 {A:Option Addr} {n c k:Nat} {L:List HV} {V:List AH} (hL:SV w A (hvs L)) (hE:EachH RH w L V k) (hn:L.length=n) (hm:n≤1000) (hk:k≤100000) (K:Nat) (hF:∀ u ∈ V,u.fits K) :
 Calls Tryz.prog 16 #[.slice A n c] w (GivesHs w V K):=by
 have HN:=Lib.hid hn
 have HVl:Hid (V.length=n):=hE.1.symm.trans hn
 have HL9:=Lib.hid hL;have E9:=Lib.hid hE;have HF9:=Lib.hid hF;clear hF;clear hL hE hn
 go_enter Tryz.func16,Tryz.ntmps16
 go_wp2_with fail
 go_loopg [3,4] n (fun gk out ix wr=>∃ (M:List HV) (m:Nat),Hid (gk+m=n)∧ix=.int .i64 (m:Int)∧LnH 79 w.heap.size wr out M∧Hid (EachH HG wr M (V.take m) (K))∧Below w.heap.size w wr)
 case atStart=>exact ⟨[],0,Nat.add_zero _,rfl,LnH.nil _ _ _,⟨rfl,fun i p u h=>by cases h⟩,Below.refl _ _⟩
 case round =>
  obtain ⟨M,m,HG9,rfl,LT,HQ,hB⟩:=hrel
  by_cases hmn:m < n
  · obtain ⟨P,u,hP1,hu1,p0⟩:=(EachH.belowJ E9.out hB).at_ (i:=m) (by rw [HN.out];exact hmn)
    obtain ⟨g0,o0,hix0,EP0,_⟩:=HL9.out.jt hP1
    have hixa:∀ w',(Instr.indexAt 41 (.slice A n c) (.int .i64 (m:Int))).run Tryz.prog w'=.ok (.pointer (some ⟨g0,o0,none⟩)) w':=fun w'=>hix0 n c w' hmn
    have hlt:(m:Int) < (n:Int):=by omega
    have hwr:IntKind.i64.wrap ((m:Int)+1)=(m:Int)+1:=IntWalk.i64_in _ (by omega)
    have HU:=Lib.hid hu1
    have hMl:M.length≤1000000:=by have:=HQ.out.1;rw [List.length_take] at this;omega
    have HMN:=Lib.hid hmn;have EP:=EP0.below hB
    have hxg:∀ b,u3.ownBlock=some b→b ≠ g0:=fun b e=>by have:=LT.own_base e;have:=EP0.lt;omega
    have p:=p0
    have HF:Hid (u.fits K):=HF9.out u (List.mem_of_getElem? hu1)
    clear hP1 hu1 hix0 hmn EP0 p0
    go_upto_region 5 with (fail)
    replace LT:=LT.below (Below.refl _ _).drew
    replace EP:=EP.below (Below.refl _ _).drew
    replace p:=p.below (Below.refl _ _).drew
    replace HQ:=Lib.hid (EachH.belowG HQ.out (Below.refl _ _).drew)
    replace hB:=hB.drew
    go_region_held3 (fun w'=>w'.cell? ⟨g0,o0,none⟩=some (.bool P.x.s)∧w'.cell? ⟨g0,o0+1,none⟩=some (.slice P.x.A P.x.n P.x.c)∧w'.cell? ⟨g0,o0+2,none⟩=some (.slice P.x.B P.x.m P.x.d)∧w'.cell? ⟨g0,o0+3,none⟩=some (.bool P.y.s)∧w'.cell? ⟨g0,o0+4,none⟩=some (.slice P.y.A P.y.n P.y.c)∧w'.cell? ⟨g0,o0+5,none⟩=some (.slice P.y.B P.y.m P.y.d)∧w'.cell? ⟨g0,o0+6,none⟩=some (.bool P.w.s)∧w'.cell? ⟨g0,o0+7,none⟩=some (.slice P.w.A P.w.n P.w.c)∧w'.cell? ⟨g0,o0+8,none⟩=some (.slice P.w.B P.w.m P.w.d))
     (first | with_reducible exact ⟨EPb.c0,EPb.c1,EPb.c2,EPb.c3,EPb.c4,EPb.c5,EPb.c6,EPb.c7,EPb.c8⟩ | with_reducible exact ⟨EP.c0,EP.c1,EP.c2,EP.c3,EP.c4,EP.c5,EP.c6,EP.c7,EP.c8⟩ | exact ⟨(EP.below ((Below.refl _ _).alloc (Nat.le_refl _) _)).c0,(EP.below ((Below.refl _ _).alloc (Nat.le_refl _) _)).c1,(EP.below ((Below.refl _ _).alloc (Nat.le_refl _) _)).c2,(EP.below ((Below.refl _ _).alloc (Nat.le_refl _) _)).c3,(EP.below ((Below.refl _ _).alloc (Nat.le_refl _) _)).c4,(EP.below ((Below.refl _ _).alloc (Nat.le_refl _) _)).c5,(EP.below ((Below.refl _ _).alloc (Nat.le_refl _) _)).c6,(EP.below ((Below.refl _ _).alloc (Nat.le_refl _) _)).c7,(EP.below ((Below.refl _ _).alloc (Nat.le_refl _) _)).c8⟩)
     (first
     | (go_at_call 48;(with_reducible refine (rout3g p.qx hk K HF.out.xn HF.out.xd).mono ?_);rintro e w_r1 ⟨s_r1,A_r1,n_r1,c_r1,B_r1,m_r1,d_r1,rfl,r1,hh⟩
        (try replace LT:=LT.below hh);(try replace EP:=EP.below hh);(try replace p:=p.below hh);(try replace r2:=r2.below hh);(try replace r3:=r3.below hh)
        replace HQ:=Lib.hid (EachH.belowG HQ.out hh)
        replace hB:=bend hB hh)
     | (go_at_call 48;(with_reducible refine (rout3g p.qy hk K HF.out.yn HF.out.yd).mono ?_);rintro e w_r2 ⟨s_r2,A_r2,n_r2,c_r2,B_r2,m_r2,d_r2,rfl,r2,hh⟩
        (try replace LT:=LT.below hh);(try replace EP:=EP.below hh);(try replace p:=p.below hh);(try replace r1:=r1.below hh);(try replace r3:=r3.below hh)
        replace HQ:=Lib.hid (EachH.belowG HQ.out hh)
        replace hB:=bend hB hh)
     | (go_at_call 48;(with_reducible refine (rout3g p.qw hk K HF.out.wn HF.out.wd).mono ?_);rintro e w_r3 ⟨s_r3,A_r3,n_r3,c_r3,B_r3,m_r3,d_r3,rfl,r3,hh⟩
        (try replace LT:=LT.below hh);(try replace EP:=EP.below hh);(try replace p:=p.below hh);(try replace r1:=r1.below hh);(try replace r2:=r2.below hh)
        replace HQ:=Lib.hid (EachH.belowG HQ.out hh)
        replace hB:=bend hB hh)
     | (have hal:Below w_r3.heap.size w_r3 (w_r3.alloc (Obj.cells #[Value.bool s_r1,Value.slice A_r1 n_r1 c_r1,Value.slice B_r1 m_r1 d_r1,Value.bool s_r2,Value.slice A_r2 n_r2 c_r2,Value.slice B_r2 m_r2 d_r2,Value.bool s_r3,Value.slice A_r3 n_r3 c_r3,Value.slice B_r3 m_r3 d_r3] 79)):=((Below.refl _ _).alloc (Nat.le_refl _) _)
        have EPa:=EP.below hal
        refine step_pushH Tryz.underlying37 info_hom (by rfl) _ _ (by rfl) (p:=⟨⟨s_r1,A_r1,n_r1,c_r1,B_r1,m_r1,d_r1⟩,⟨s_r2,A_r2,n_r2,c_r2,B_r2,m_r2,d_r2⟩,⟨s_r3,A_r3,n_r3,c_r3,B_r3,m_r3,d_r3⟩⟩) (k0:=1) (b:=w_r3.heap.size) (by rfl) (by rfl) (LT.below hal) (Nat.le_trans hB.size hal.size) hMl (heap_alloc_new w_r3 _) ?_
        intro v3 w3 hn3 hg3 ho3
        have EPb:=EPa.push hg3 hxg))
    have hE3:EachH HG (w_r3.alloc (Obj.cells #[Value.bool s_r1,Value.slice A_r1 n_r1 c_r1,Value.slice B_r1 m_r1 d_r1,Value.bool s_r2,Value.slice A_r2 n_r2 c_r2,Value.slice B_r2 m_r2 d_r2,Value.bool s_r3,Value.slice A_r3 n_r3 c_r3,Value.slice B_r3 m_r3 d_r3] 79)) M (V.take m) (K):=EachH.belowG HQ.out hal
    have hp3:HG (w_r3.alloc (Obj.cells #[Value.bool s_r1,Value.slice A_r1 n_r1 c_r1,Value.slice B_r1 m_r1 d_r1,Value.bool s_r2,Value.slice A_r2 n_r2 c_r2,Value.slice B_r2 m_r2 d_r2,Value.bool s_r3,Value.slice A_r3 n_r3 c_r3,Value.slice B_r3 m_r3 d_r3] 79)) ⟨⟨s_r1,A_r1,n_r1,c_r1,B_r1,m_r1,d_r1⟩,⟨s_r2,A_r2,n_r2,c_r2,B_r2,m_r2,d_r2⟩,⟨s_r3,A_r3,n_r3,c_r3,B_r3,m_r3,d_r3⟩⟩ u (K):=(HG.below (h:=⟨⟨s_r1,A_r1,n_r1,c_r1,B_r1,m_r1,d_r1⟩,⟨s_r2,A_r2,n_r2,c_r2,B_r2,m_r2,d_r2⟩,⟨s_r3,A_r3,n_r3,c_r3,B_r3,m_r3,d_r3⟩⟩) (v:=u) (k:=K) ⟨r1,r2,r3⟩ hal)
    have hB9:=LnH.under (T:=79) (base:=w.heap.size) (LT.below hal) hg3 (w0:=w) (bend hB hal) (Nat.le_refl _)
    have hE4:=takeH HU.out (EachH.push hE3 (fun _ _ h=>(LT.below hal).hg hg3 h) ((LT.below hal).hg hg3 hp3))
    clear hE3 hp3 EPa EPb EP p r1 r2 r3
    go_wp2_with fail
    go_roundg (gk - 1)
    case measure=>have:=HG9.out;have:=HMN.out;omega
    case rel=>exact ⟨M ++ [(⟨⟨s_r1,A_r1,n_r1,c_r1,B_r1,m_r1,d_r1⟩,⟨s_r2,A_r2,n_r2,c_r2,B_r2,m_r2,d_r2⟩,⟨s_r3,A_r3,n_r3,c_r3,B_r3,m_r3,d_r3⟩⟩:HV)],m+1,by have:=HG9.out;have:=HMN.out;show _=_;omega,by go_num,hn3,Lib.hid hE4,hB9⟩
  · have hlt:¬ (m:Int) < (n:Int):=by omega
    have HQ2:Hid (EachH HG wr M V (K)):=by
     have h:=HQ.out
     rwa [List.take_of_length_le (by rw [HVl.out];omega)] at h
    clear hmn
    go_wp2_with fail
    (try rw [Exit.noGoto_ret])
    go_ret
    exact ⟨_,M,rfl,LT,HQ2.out,hB⟩
end
section
open Go Go.RowKit
attribute [local go_sem ↓] open_LVM open_STM open_LVN open_STN
attribute [local go_sem ↓] open_LVH open_STH open_LVJ open_STJ
theorem i64In.lo {x:Int} (h:i64In x):-9223372036854775808≤x:=h.1
theorem i64In.hi {x:Int} (h:i64In x):x < 9223372036854775808:=h.2
theorem rgood13 {A:Option Addr} {n c k:Nat} {L:List HV} {V:List AH} (hL:SV w A (hvs L)) (hE:EachH RH w L V k) (hn:L.length=n) (hm:n≤1000) (R:Bool) (hR0:R=true ↔ GoodH V) :
 Calls Tryz.prog 22 #[.slice A n c] w fun e w'=>e=.returned (.bool R)∧Below w.heap.size w w':=by
 have HN:=Lib.hid hn
 have HVl:Hid (V.length=n):=hE.1.symm.trans hn
 have HL9:=Lib.hid hL;have E9:=Lib.hid hE;have HR0:=Lib.hid hR0;clear hL hE hn hR0
 go_enter Tryz.func22,Tryz.ntmps22
 go_wp2_with fail
 go_loopg [3] n (fun gk ix wr=>∃ (m:Nat),Hid (gk+m=n)∧ix=.int .i64 (m:Int)∧Hid (∀ (i:Nat) (u:AH),i < m→V[i]?=some u→0 < u.w)∧Below w.heap.size w wr)
 case atStart=>exact ⟨0,Nat.add_zero _,rfl,fun i p hi=>absurd hi (by omega),Below.refl _ _⟩
 case round =>
  obtain ⟨m,HG,rfl,HS,hb⟩:=hrel
  by_cases hmn:m < n
  · have HMN:=Lib.hid hmn
    obtain ⟨P,u,hP1,hu1,p0⟩:=E9.out.at_ (i:=m) (by rw [HN.out];exact hmn)
    obtain ⟨g0,o0,hix0,EP0,_⟩:=(HL9.out.below hb).jt hP1
    have hixa:∀ w',(Instr.indexAt 41 (.slice A n c) (.int .i64 (m:Int))).run Tryz.prog w'=.ok (.pointer (some ⟨g0,o0,none⟩)) w':=fun w'=>hix0 n c w' hmn
    have hlt:(m:Int) < (n:Int):=by omega
    have hwr:IntKind.i64.wrap ((m:Int)+1)=(m:Int)+1:=IntWalk.i64_in _ (by omega)
    have HU:=Lib.hid hu1
    have pw:=(p0.below hb).qw
    have ep6:=EP0.c6;have ep7:=EP0.c7;have ep8:=EP0.c8;clear hP1 hu1 hix0 hmn p0 EP0
    by_cases hs:0 < u.w
    · have HT:Hid (sgnQ u.w=1):=sgn_p hs
      have HSM:=Lib.hid hs;clear hs
      go_wp2_with (first
       | (go_at_call 53;(with_reducible refine (rsign3 pw).mono ?_);rintro e w_z ⟨rfl,hh⟩;rw [HT.out];replace hb:=bend hb hh))
      go_roundg (gk - 1)
      case measure=>have:=HG.out;have:=HMN.out;omega
      case rel =>
       refine ⟨m+1,by have:=HG.out;have:=HMN.out;show _=_;omega,by go_num,fun i v hi h5=>?_,hb⟩
       rcases Nat.lt_or_ge i m with h | h
       · exact HS.out i v h h5
       · obtain rfl:i=m:=by omega
         rw [HU.out] at h5;cases h5;exact HSM.out
    · obtain ⟨T,hT,hT0⟩:∃ T,sgnQ u.w=T∧T≤0:=⟨_,rfl,sgn_np hs⟩
      have HT:=Lib.hid hT
      have HF:Hid (false=R):=by
       show _=_
       cases R with
       | false=>rfl
       | true=>exact absurd ((HR0.out.1 rfl).2 _ (List.mem_of_getElem? HU.out)) hs
      clear hs hT
      go_wp2_with (first
       | (go_at_call 53;(with_reducible refine (rsign3 pw).mono ?_);rintro e w_z ⟨rfl,hh⟩;rw [HT.out];replace hb:=bend hb hh))
      (try rw [Exit.noGoto_ret])
      go_ret
      exact ⟨by rw [← HF.out];rfl,hb⟩
  · have hlt:¬ (m:Int) < (n:Int):=by omega
    have HA:Hid (∀ u ∈ V,0 < u.w):=by
     intro p hp
     obtain ⟨i,hi⟩:=List.getElem?_of_mem hp
     have h7:=(List.getElem?_eq_some_iff.1 hi).1
     rw [HVl.out] at h7
     exact HS.out i p (by omega) hi
    clear hmn
    by_cases h2:n < 2
    · have h2':¬ 2≤(n:Int):=by omega
      have HF:Hid (false=R):=by
       show _=_
       cases R with
       | false=>rfl
       | true=>have h5:=(HR0.out.1 rfl).1;rw [HVl.out] at h5;omega
      go_wp2_with fail
      (try rw [Exit.noGoto_ret])
      go_ret
      exact ⟨by rw [← HF.out];rfl,hb⟩
    · have h2':2≤(n:Int):=by omega
      by_cases h4:4 < n
      · have h4':¬ (n:Int)≤4:=by omega
        have HF:Hid (false=R):=by
         show _=_
         cases R with
         | false=>rfl
         | true=>have h5:=(HR0.out.1 rfl).1;rw [HVl.out] at h5;omega
        go_wp2_with fail
        (try rw [Exit.noGoto_ret])
        go_ret
        exact ⟨by rw [← HF.out];simp,hb⟩
      · have h4':(n:Int)≤4:=by omega
        have HF:Hid (true=R):=(HR0.out.2 ⟨by rw [HVl.out];omega,HA.out⟩).symm
        go_wp2_with fail
        (try rw [Exit.noGoto_ret])
        go_ret
        exact ⟨by rw [← HF.out];simp,hb⟩
end
section
open Go Go.RowKit
attribute [local go_sem ↓] open_LVH open_STH open_LVJ open_STJ
theorem one_n:(Rat.divInt 1 1).num.natAbs < B64 ^ 1:=by decide +kernel
theorem one_d:(Rat.divInt 1 1).den < B64 ^ 1:=by decide +kernel
theorem Ln.svX {T:TypeId} {base:Nat} {A:Option Addr} {n c:Nat} {L:List PV} (h:Ln T base w (.slice A n c) L):SV w A (pvs L):=fun hn=>by
 rcases h.own.2 with ⟨_,e⟩ | ⟨g,cap,cur,hv,_,hg,_⟩
 · rw [show L=[] from List.length_eq_zero_iff.1 e] at hn;exact absurd hn (by simp [pvs])
 · have hc:=h.own.cells (g:=g) (by rw [hv];rfl)
   have ha:∀ j,(⟨g,0,none⟩:Addr).add j=⟨g,j,none⟩:=fun j=>by unfold Addr.add;split <;> simp_all
   simp only [Value.slice.injEq] at hv
   refine ⟨g,0,hv.1,?_,fun j u hu=>by have:=hc j u hu;rw [ha] at this;rw [Nat.zero_add];exact this⟩
   rcases Nat.lt_or_ge g w.heap.size with q | q
   · exact q
   · rw [Array.getElem?_eq_none q] at hg;cases hg
def quadH (V:List (Rat × Rat)):List AH:=V.map fun u=>⟨u.1,u.2,1⟩
theorem E6x.pushX {w w':World} {g o:Nat} {p:PV} {row:Option Nat} (h:E6x w g o p) (hg:w.grownBy w' row) (hne:∀ k,row=some k→k ≠ g):E6x w' g o p:=by
 have hs:=hg.block g h.lt (fun e=>hne g e.symm rfl)
 exact ⟨Nat.lt_of_lt_of_le h.lt hg.size,(World.cell?_of_block (a:=⟨g,o,none⟩) hs).trans h.c0,(World.cell?_of_block (a:=⟨g,o+1,none⟩) hs).trans h.c1,(World.cell?_of_block (a:=⟨g,o+2,none⟩) hs).trans h.c2,(World.cell?_of_block (a:=⟨g,o+3,none⟩) hs).trans h.c3,(World.cell?_of_block (a:=⟨g,o+4,none⟩) hs).trans h.c4,(World.cell?_of_block (a:=⟨g,o+5,none⟩) hs).trans h.c5⟩
theorem mkbx31_12 {w W:World} {x0 x1 x2 x3 x4 x5 x6 x7 x8 x9 x10 x11 x12 x13 x14 x15 x16 x17:Value} (h:(((w.alloc (Obj.cells #[x0,x1,x2,x3,x4,x5] 28)).alloc (Obj.cells #[x6,x7,x8,x9,x10,x11] 28)).alloc (Obj.cells #[x12,x13,x14,x15,x16,x17] 28))=W):Below w.heap.size w W∧B6 W (w.heap.size) x0 x1 x2 x3 x4 x5∧B6 W (w.heap.size+1) x6 x7 x8 x9 x10 x11∧B6 W (w.heap.size+1+1) x12 x13 x14 x15 x16 x17∧W.heap.size=w.heap.size+3:=by subst h;exact ⟨by exact ((((Below.refl _ _).alloc (Nat.le_refl _) _).alloc (by simp) _).alloc (by simp;omega) _),by exact ((B6.new' _ _ _ _ _ _ _ _ rfl).alloc _).alloc _,by exact (B6.new' _ _ _ _ _ _ _ _ (by simp)).alloc _,by exact B6.new' _ _ _ _ _ _ _ _ (by simp),by simp⟩
theorem cquad {k:Nat} {x y x2 y2 x3 y3:Rat} (p:PG w s_p A_p n_p c_p B_p m_p d_p t_p E_p i_p e_p F_p j_p f_p x y k) (q:PG w s_q A_q n_q c_q B_q m_q d_q t_q E_q i_q e_q F_q j_q f_q x2 y2 k) (r:PG w s_r A_r n_r c_r B_r m_r d_r t_r E_r i_r e_r F_r j_r f_r x3 y3 k) (h1:1≤k) :
 Calls Tryz.prog 33 #[.agg #[.bool s_p,.slice A_p n_p c_p,.slice B_p m_p d_p,.bool t_p,.slice E_p i_p e_p,.slice F_p j_p f_p],.agg #[.bool s_q,.slice A_q n_q c_q,.slice B_q m_q d_q,.bool t_q,.slice E_q i_q e_q,.slice F_q j_q f_q],.agg #[.bool s_r,.slice A_r n_r c_r,.slice B_r m_r d_r,.bool t_r,.slice E_r i_r e_r,.slice F_r j_r f_r]] w (GivesHs w (quadH [(x,y),(x2,y2),(x3,y3)]) k):=by
 go_enter Tryz.func33,Tryz.ntmps33
 go_upto_region 1 with (fail)
 generalize hW:World.alloc _ _=W
 obtain ⟨hb,XA,XB,XC,hzW⟩:=mkbx31_12 hW;clear hW;replace p:=p.below hb;replace q:=q.below hb;replace r:=r.below hb;obtain ⟨xa0,xa1,xa2,xa3,xa4,xa5⟩:=XA.all;obtain ⟨xb0,xb1,xb2,xb3,xb4,xb5⟩:=XB.all;obtain ⟨xc0,xc1,xc2,xc3,xc4,xc5⟩:=XC.all
 have hLit:=Ln.lit (T:=28) (base:=W.heap.size) W [(PV.mk s_p A_p n_p c_p B_p m_p d_p t_p E_p i_p e_p F_p j_p f_p:PV),(PV.mk s_q A_q n_q c_q B_q m_q d_q t_q E_q i_q e_q F_q j_q f_q:PV),(PV.mk s_r A_r n_r c_r B_r m_r d_r t_r E_r i_r e_r F_r j_r f_r:PV)] (Nat.le_refl _) (by simp)
 have hal0:Below W.heap.size W (W.alloc (Obj.cells #[Value.bool s_p,Value.slice A_p n_p c_p,Value.slice B_p m_p d_p,Value.bool t_p,Value.slice E_p i_p e_p,Value.slice F_p j_p f_p,Value.bool s_q,Value.slice A_q n_q c_q,Value.slice B_q m_q d_q,Value.bool t_q,Value.slice E_q i_q e_q,Value.slice F_q j_q f_q,Value.bool s_r,Value.slice A_r n_r c_r,Value.slice B_r m_r d_r,Value.bool t_r,Value.slice E_r i_r e_r,Value.slice F_r j_r f_r] 28)):=((Below.refl _ _).alloc (Nat.le_refl _) _)
 have hE0:Each PV.PG (W.alloc (Obj.cells #[Value.bool s_p,Value.slice A_p n_p c_p,Value.slice B_p m_p d_p,Value.bool t_p,Value.slice E_p i_p e_p,Value.slice F_p j_p f_p,Value.bool s_q,Value.slice A_q n_q c_q,Value.slice B_q m_q d_q,Value.bool t_q,Value.slice E_q i_q e_q,Value.slice F_q j_q f_q,Value.bool s_r,Value.slice A_r n_r c_r,Value.slice B_r m_r d_r,Value.bool t_r,Value.slice E_r i_r e_r,Value.slice F_r j_r f_r] 28)) [(PV.mk s_p A_p n_p c_p B_p m_p d_p t_p E_p i_p e_p F_p j_p f_p:PV),(PV.mk s_q A_q n_q c_q B_q m_q d_q t_q E_q i_q e_q F_q j_q f_q:PV),(PV.mk s_r A_r n_r c_r B_r m_r d_r t_r E_r i_r e_r F_r j_r f_r:PV)] [(x,y),(x2,y2),(x3,y3)] k:=⟨rfl,fun i a b ha hb=>by
  match i with
  | 0=>cases ha;cases hb;exact PG.below p hal0
  | 1=>cases ha;cases hb;exact PG.below q hal0
  | 2=>cases ha;cases hb;exact PG.below r hal0
  | i+3=>cases ha⟩
 have hSV:SV (W.alloc (Obj.cells #[Value.bool s_p,Value.slice A_p n_p c_p,Value.slice B_p m_p d_p,Value.bool t_p,Value.slice E_p i_p e_p,Value.slice F_p j_p f_p,Value.bool s_q,Value.slice A_q n_q c_q,Value.slice B_q m_q d_q,Value.bool t_q,Value.slice E_q i_q e_q,Value.slice F_q j_q f_q,Value.bool s_r,Value.slice A_r n_r c_r,Value.slice B_r m_r d_r,Value.bool t_r,Value.slice E_r i_r e_r,Value.slice F_r j_r f_r] 28)) (some ⟨W.heap.size,0,none⟩) (pvs [(PV.mk s_p A_p n_p c_p B_p m_p d_p t_p E_p i_p e_p F_p j_p f_p:PV),(PV.mk s_q A_q n_q c_q B_q m_q d_q t_q E_q i_q e_q F_q j_q f_q:PV),(PV.mk s_r A_r n_r c_r B_r m_r d_r t_r E_r i_r e_r F_r j_r f_r:PV)]):=hLit.svX
 have hb0:=bend hb hal0;clear p q r hLit
 go_wp2_with fail
 generalize hL0:[(PV.mk s_p A_p n_p c_p B_p m_p d_p t_p E_p i_p e_p F_p j_p f_p:PV),(PV.mk s_q A_q n_q c_q B_q m_q d_q t_q E_q i_q e_q F_q j_q f_q:PV),(PV.mk s_r A_r n_r c_r B_r m_r d_r t_r E_r i_r e_r F_r j_r f_r:PV)]=L0 at *
 generalize hV0:[(x,y),(x2,y2),(x3,y3)]=V0 at *
 have HLl:Hid (L0.length=3):=by show _=_;rw [← hL0];rfl
 have HVl:Hid (V0.length=3):=by show _=_;rw [← hV0];rfl
 clear hL0 hV0
 generalize (W.alloc (Obj.cells #[Value.bool s_p,Value.slice A_p n_p c_p,Value.slice B_p m_p d_p,Value.bool t_p,Value.slice E_p i_p e_p,Value.slice F_p j_p f_p,Value.bool s_q,Value.slice A_q n_q c_q,Value.slice B_q m_q d_q,Value.bool t_q,Value.slice E_q i_q e_q,Value.slice F_q j_q f_q,Value.bool s_r,Value.slice A_r n_r c_r,Value.slice B_r m_r d_r,Value.bool t_r,Value.slice E_r i_r e_r,Value.slice F_r j_r f_r] 28))=W0 at *
 rw [hzW] at hSV
 generalize (some ({block:=w.heap.size+3,off:=0,spot:=none}:Addr))=A0 at *
 have HL9:=Lib.hid hSV;have E9:=Lib.hid hE0;have HB9:=Lib.hid hb0;clear hSV hE0 hb0 hb XA XB XC xa0 xa1 xa2 xa3 xa4 xa5 xb0 xb1 xb2 xb3 xb4 xb5 xc0 xc1 xc2 xc3 xc4 xc5
 go_loopg [8,9] 3 (fun gk out ix wr=>∃ (M:List HV) (m:Nat),Hid (gk+m=3)∧ix=.int .i64 (m:Int)∧LnH 79 W0.heap.size wr out M∧Hid (EachH HG wr M ((quadH V0).take m) k)∧Below W0.heap.size W0 wr)
 case atStart=>exact ⟨[],0,rfl,rfl,LnH.nil _ _ _,⟨rfl,fun i p u h=>by cases h⟩,Below.refl _ _⟩
 case round =>
  obtain ⟨M,m,HG9,rfl,LT,HQ,hB⟩:=hrel
  by_cases hmn:m < 3
  · obtain ⟨P,u,hP1,hu1,p0⟩:=(Each.below E9.out hB).at_ (i:=m) (by rw [HLl.out];exact hmn)
    obtain ⟨g0,o0,hix0,EP0,_⟩:=HL9.out.pt hP1
    have hixa:∀ (c:Nat) (w':World),(Instr.indexAt 83 (.slice A0 3 c) (.int .i64 (m:Int))).run Tryz.prog w'=.ok (.pointer (some ⟨g0,o0,none⟩)) w':=fun c w'=>hix0 3 c w' hmn
    have hlt:(m:Int) < 3:=by omega
    have hwr:IntKind.i64.wrap ((m:Int)+1)=(m:Int)+1:=IntWalk.i64_in _ (by omega)
    have HU:Hid ((quadH V0)[m]?=some ⟨u.1,u.2,1⟩):=by show _=_;unfold quadH;rw [List.getElem?_map,hu1];rfl
    have hMl:M.length≤1000000:=by have:=HQ.out.1;rw [List.length_take] at this;omega
    have HMN:=Lib.hid hmn;have EP:=EP0.below hB
    have hxg:∀ b,u8.ownBlock=some b→b ≠ g0:=fun b e=>by have:=LT.own_base e;have:=EP0.lt;omega
    replace p0:PG wr P.s P.A P.n P.c P.B P.m P.d P.t P.E P.i P.e P.F P.j P.f u.1 u.2 k:=p0
    clear hP1 hu1 hix0 hmn EP0
    go_upto_region 6 with (fail)
    replace LT:=LT.below (Below.refl _ _).drew
    replace EP:=EP.below (Below.refl _ _).drew
    replace p0:=p0.below (Below.refl _ _).drew
    replace HQ:=Lib.hid (EachH.belowG HQ.out (Below.refl _ _).drew)
    replace hB:=hB.drew
    go_region_held3 (fun w'=>w'.cell? ⟨g0,o0,none⟩=some (.bool P.s)∧w'.cell? ⟨g0,o0+1,none⟩=some (.slice P.A P.n P.c)∧w'.cell? ⟨g0,o0+2,none⟩=some (.slice P.B P.m P.d)∧w'.cell? ⟨g0,o0+3,none⟩=some (.bool P.t)∧w'.cell? ⟨g0,o0+4,none⟩=some (.slice P.E P.i P.e)∧w'.cell? ⟨g0,o0+5,none⟩=some (.slice P.F P.j P.f))
     (first | with_reducible exact ⟨EPb.c0,EPb.c1,EPb.c2,EPb.c3,EPb.c4,EPb.c5⟩ | with_reducible exact ⟨EP.c0,EP.c1,EP.c2,EP.c3,EP.c4,EP.c5⟩ | exact ⟨(EP.below ((Below.refl _ _).alloc (Nat.le_refl _) _)).c0,(EP.below ((Below.refl _ _).alloc (Nat.le_refl _) _)).c1,(EP.below ((Below.refl _ _).alloc (Nat.le_refl _) _)).c2,(EP.below ((Below.refl _ _).alloc (Nat.le_refl _) _)).c3,(EP.below ((Below.refl _ _).alloc (Nat.le_refl _) _)).c4,(EP.below ((Below.refl _ _).alloc (Nat.le_refl _) _)).c5⟩)
     (first
     | (go_at_call 42;(with_reducible refine (rof3 1 1 (by decide) (by decide) (by decide) (by decide) (by decide) _).mono ?_);rintro e w_a ⟨s_a,A_a,n_a,c_a,B_a,m_a,d_a,rfl,a,hh⟩
        (try replace LT:=LT.below hh);(try replace EP:=EP.below hh);(try replace p0:=p0.below hh)
        replace HQ:=Lib.hid (EachH.belowG HQ.out hh)
        replace hB:=bend hB hh)
     | (go_at_call 48;(with_reducible refine (rout3g a (by decide) 1 one_n one_d).mono ?_);rintro e w_o ⟨s_o,A_o,n_o,c_o,B_o,m_o,d_o,rfl,o,hh⟩
        (try replace LT:=LT.below hh);(try replace EP:=EP.below hh);(try replace p0:=p0.below hh)
        replace HQ:=Lib.hid (EachH.belowG HQ.out hh)
        replace hB:=bend hB hh)
     | (have hal:Below w_o.heap.size w_o (w_o.alloc (Obj.cells #[Value.bool P.s,Value.slice P.A P.n P.c,Value.slice P.B P.m P.d,Value.bool P.t,Value.slice P.E P.i P.e,Value.slice P.F P.j P.f,Value.bool s_o,Value.slice A_o n_o c_o,Value.slice B_o m_o d_o] 79)):=((Below.refl _ _).alloc (Nat.le_refl _) _)
        have EPa:=EP.below hal
        refine step_pushH Tryz.underlying37 info_hom (by rfl) _ _ (by rfl) (p:=(⟨⟨P.s,P.A,P.n,P.c,P.B,P.m,P.d⟩,⟨P.t,P.E,P.i,P.e,P.F,P.j,P.f⟩,⟨s_o,A_o,n_o,c_o,B_o,m_o,d_o⟩⟩:HV)) (k0:=1) (b:=w_o.heap.size) (by rfl) (by rfl) (LT.below hal) (Nat.le_trans hB.size hal.size) hMl (heap_alloc_new w_o _) ?_
        intro v3 w3 hn3 hg3 ho3
        have EPb:=EPa.pushX hg3 hxg))
    rw [one_q] at o
    have hE3:EachH HG (w_o.alloc (Obj.cells #[Value.bool P.s,Value.slice P.A P.n P.c,Value.slice P.B P.m P.d,Value.bool P.t,Value.slice P.E P.i P.e,Value.slice P.F P.j P.f,Value.bool s_o,Value.slice A_o n_o c_o,Value.slice B_o m_o d_o] 79)) M ((quadH V0).take m) k:=EachH.belowG HQ.out hal
    have hp3:HG (w_o.alloc (Obj.cells #[Value.bool P.s,Value.slice P.A P.n P.c,Value.slice P.B P.m P.d,Value.bool P.t,Value.slice P.E P.i P.e,Value.slice P.F P.j P.f,Value.bool s_o,Value.slice A_o n_o c_o,Value.slice B_o m_o d_o] 79)) (⟨⟨P.s,P.A,P.n,P.c,P.B,P.m,P.d⟩,⟨P.t,P.E,P.i,P.e,P.F,P.j,P.f⟩,⟨s_o,A_o,n_o,c_o,B_o,m_o,d_o⟩⟩:HV) ⟨u.1,u.2,1⟩ k:=(HG.below (h:=(⟨⟨P.s,P.A,P.n,P.c,P.B,P.m,P.d⟩,⟨P.t,P.E,P.i,P.e,P.F,P.j,P.f⟩,⟨s_o,A_o,n_o,c_o,B_o,m_o,d_o⟩⟩:HV)) (v:=⟨u.1,u.2,1⟩) (k:=k) ⟨p0.1,p0.2,o.more h1⟩ hal)
    have hB9:=LnH.under (T:=79) (base:=W0.heap.size) (LT.below hal) hg3 (w0:=W0) (bend hB hal) (Nat.le_refl _)
    have hE4:=takeH HU.out (EachH.push hE3 (fun _ _ h=>(LT.below hal).hg hg3 h) ((LT.below hal).hg hg3 hp3))
    clear hE3 hp3 EPa EPb EP p0 o a
    go_wp2_with fail
    go_roundg (gk - 1)
    case measure=>have:=HG9.out;have:=HMN.out;omega
    case rel=>exact ⟨M ++ [(⟨⟨P.s,P.A,P.n,P.c,P.B,P.m,P.d⟩,⟨P.t,P.E,P.i,P.e,P.F,P.j,P.f⟩,⟨s_o,A_o,n_o,c_o,B_o,m_o,d_o⟩⟩:HV)],m+1,by have:=HG9.out;have:=HMN.out;show _=_;omega,by go_num,hn3,Lib.hid hE4,hB9⟩
  · have hlt:¬ (m:Int) < 3:=by omega
    have HQ2:Hid (EachH HG wr M (quadH V0) k):=by
     have h:=HQ.out
     rwa [List.take_of_length_le (by unfold quadH;rw [List.length_map,HVl.out];omega)] at h
    clear hmn
    go_wp2_with fail
    (try rw [Exit.noGoto_ret])
    go_ret
    exact ⟨_,M,rfl,LT.base_le HB9.out.size,HQ2.out,bend HB9.out hB⟩
end
section
open Go Go.RowKit
attribute [local go_sem ↓] open_LVM open_STM open_LVN open_STN
attribute [local go_sem ↓] open_LVH open_STH open_LVJ open_STJ
instance (V:List AH):Decidable (GoodH V):=by unfold GoodH;exact inferInstance
end
section
open Go Go.RowKit
attribute [local go_sem ↓] open_LVH open_STH open_LVJ open_STJ
theorem GivesPtE.more {x y:Rat} {k k1:Nat} {en:Ending} {w':World} (h:GivesPtE w x y k en w') (hk:k≤k1):GivesPtE w x y k1 en w':=by
 obtain ⟨s,A,n,c,B,m,d,t,E,i,e,F,j,f,h1,h2,h3⟩:=h
 exact ⟨s,A,n,c,B,m,d,t,E,i,e,F,j,f,h1,h2.more hk,h3⟩
theorem fair13_t {A:Option Addr} {n c:Nat} {L:List HV} (hL:SV w A (hvs L)) (hn:L.length=n) (hm:n≤maxLen) (h:(∀ p ∈ L,p.small 4)∧n≤6):Calls Tryz.prog 17 #[.slice A n c] w fun e w'=>e=.returned (.bool true)∧Below w.heap.size w w':=fair13 hL hn hm true ⟨fun _=>h,fun _=>rfl⟩
theorem fair13_f {A:Option Addr} {n c:Nat} {L:List HV} (hL:SV w A (hvs L)) (hn:L.length=n) (hm:n≤maxLen) (h:¬ ((∀ p ∈ L,p.small 4)∧n≤6)):Calls Tryz.prog 17 #[.slice A n c] w fun e w'=>e=.returned (.bool false)∧Below w.heap.size w w':=fair13 hL hn hm false ⟨fun e=>by (cases e),fun e=>absurd e h⟩
theorem rgood13_t {A:Option Addr} {n c k:Nat} {L:List HV} {V:List AH} (hL:SV w A (hvs L)) (hE:EachH RH w L V k) (hn:L.length=n) (hm:n≤1000) (h:GoodH V):Calls Tryz.prog 22 #[.slice A n c] w fun e w'=>e=.returned (.bool true)∧Below w.heap.size w w':=rgood13 hL hE hn hm true ⟨fun _=>h,fun _=>rfl⟩
theorem rgood13_f {A:Option Addr} {n c k:Nat} {L:List HV} {V:List AH} (hL:SV w A (hvs L)) (hE:EachH RH w L V k) (hn:L.length=n) (hm:n≤1000) (h:¬ GoodH V):Calls Tryz.prog 22 #[.slice A n c] w fun e w'=>e=.returned (.bool false)∧Below w.heap.size w w':=rgood13 hL hE hn hm false ⟨fun e=>by (cases e),fun e=>absurd e h⟩
end
section
def nd (v:Nat→AH):Nat→Nat→AH
 | 0,k=>v k
 | i+1,k=>(nd v i k).mix (nd v i (k+1)) (1 / 2)
def lf (v:Nat→AH) (k:Nat):AH:=nd v k 0
def rg (n:Nat) (v:Nat→AH) (k:Nat):AH:=nd v (n - 1 - k) k
def li (n:Nat) (v:Nat→AH):List AH:=(List.range n).map v
theorem li_length (n:Nat) (v:Nat→AH):(li n v).length=n:=by simp [li]
theorem li_get {n k:Nat} (v:Nat→AH) (h:k < n):(li n v)[k]?=some (v k):=by simp [li,h]
theorem li_of {l:List AH}:l=li l.length (fun i=>l.getD i ⟨0,0,0⟩):=by
 apply List.ext_getElem?
 intro i
 by_cases h:i < l.length
 · rw [li_get _ h];simp [h]
 · rw [List.getElem?_eq_none (by omega),List.getElem?_eq_none (by rw [li_length];omega)]
def vfn (V:List AH):Nat→AH:=fun i=>V.getD i ⟨0,0,0⟩
theorem li_vfn (V:List AH):li V.length (vfn V)=V:=li_of.symm
def prt (n:Nat):Nat→(Nat→AH)→List (Nat→AH)
 | 0,v=>[v]
 | d+1,v=>prt n d (lf v) ++ prt n d (rg n v)
theorem prt_length (n:Nat):∀ (d:Nat) (v:Nat→AH),(prt n d v).length=2 ^ d
 | 0,_=>rfl
 | d+1,v=>by rw [prt,List.length_append,prt_length n d,prt_length n d,Nat.pow_succ];omega
theorem prt_step (n:Nat):∀ (d:Nat) (v:Nat→AH),prt n (d+1) v=(prt n d v).flatMap (fun x=>[lf x,rg n x])
 | 0,_=>rfl
 | d+1,v=>by rw [prt,prt_step n d,prt_step n d,← List.flatMap_append];rfl
theorem nd_pos {n:Nat} {v:Nat→AH} (h:∀ k,k < n→0 < (v k).w):∀ i k,i+k < n→0 < (nd v i k).w
 | 0,k,hk=>h k (by omega)
 | i+1,k,hk=>mixQ_pos (nd_pos h i k (by omega)) (nd_pos h i (k+1) (by omega)) (by grind) (by grind)
end
section
open Go Go.RowKit
attribute [local go_sem ↓] open_LVH open_STH open_LVJ open_STJ
def AH.add (p q:AH):AH:=⟨p.x+q.x,p.y+q.y,p.w+q.w⟩
theorem AH.add_zero (p:AH):p.add ⟨0,0,0⟩=p:=AH.eq (by unfold AH.add;grind) (by unfold AH.add;grind) (by unfold AH.add;grind)
theorem div_half:Rat.divInt 1 2=1 / 2:=by decide +kernel
theorem add_half (a b:Rat):(a+b)*Rat.divInt 1 2=mixQ a b (1 / 2):=by rw [div_half];unfold mixQ;grind
theorem hr_zero (w:World):HR w ⟨⟨false,none,0,0,none,0,0⟩,⟨false,none,0,0,none,0,0⟩,⟨false,none,0,0,none,0,0⟩⟩ ⟨0,0,0⟩ 1:=⟨qr_zero w,qr_zero w,qr_zero w⟩
theorem mkbx32_12 {w W:World} {x0 x1 x2 x3 x4 x5 x6 x7 x8 x9 x10 x11 x12 x13 x14 x15 x16 x17 x18 x19 x20 x21 x22 x23 x24 x25 x26:Value} (h:(((w.alloc (Obj.cells #[x0,x1,x2,x3,x4,x5,x6,x7,x8] 79)).alloc (Obj.cells #[x9,x10,x11,x12,x13,x14,x15,x16,x17] 79)).alloc (Obj.cells #[x18,x19,x20,x21,x22,x23,x24,x25,x26] 79))=W):Below w.heap.size w W∧BH W (w.heap.size) x0 x1 x2 x3 x4 x5 x6 x7 x8∧BH W (w.heap.size+1) x9 x10 x11 x12 x13 x14 x15 x16 x17∧BH W (w.heap.size+1+1) x18 x19 x20 x21 x22 x23 x24 x25 x26∧W.heap.size=w.heap.size+3:=by subst h;exact ⟨by exact ((((Below.refl _ _).alloc (Nat.le_refl _) _).alloc (by simp) _).alloc (by simp;omega) _),by exact ((BH.new' _ _ _ _ _ _ _ _ _ _ _ rfl).alloc _).alloc _,by exact (BH.new' _ _ _ _ _ _ _ _ _ _ _ (by simp)).alloc _,by exact BH.new' _ _ _ _ _ _ _ _ _ _ _ (by simp),by simp⟩
theorem hadded_h {k k2:Nat} {vp vq:AH} {p q:HV} (hp:HR w p vp k) (hq:HR w q vq k2) (hk:k≤40000) (hk2:k2≤40000) (h1:1≤k) (h2:1≤k2) :
 Calls Tryz.prog 88 #[.agg #[.bool p.x.s,.slice p.x.A p.x.n p.x.c,.slice p.x.B p.x.m p.x.d,.bool p.y.s,.slice p.y.A p.y.n p.y.c,.slice p.y.B p.y.m p.y.d,.bool p.w.s,.slice p.w.A p.w.n p.w.c,.slice p.w.B p.w.m p.w.d],.agg #[.bool q.x.s,.slice q.x.A q.x.n q.x.c,.slice q.x.B q.x.m q.x.d,.bool q.y.s,.slice q.y.A q.y.n q.y.c,.slice q.y.B q.y.m q.y.d,.bool q.w.s,.slice q.w.A q.w.n q.w.c,.slice q.w.B q.w.m q.w.d]] w (GivesH w (vp.add vq) (k+k2+1)):=by
 go_enter Tryz.func88,Tryz.ntmps88
 go_upto_region 1 with (fail)
 generalize hW:World.alloc _ _=W
 obtain ⟨hb,XA,XB,Z,hzW⟩:=mkbx32_12 hW;clear hW;replace hp:=hp.below hb;replace hq:=hq.below hb
 replace hp:=hp.below (Below.refl _ _).drew
 replace hq:=hq.below (Below.refl _ _).drew
 replace XA:=XA.below (Below.refl _ _).drew
 replace XB:=XB.below (Below.refl _ _).drew
 replace Z:=Z.below (Below.refl _ _).drew
 replace hb:=hb.drew
 go_region_held3 (fun w'=>w'.cell? ⟨w.heap.size,0,none⟩=some (.bool p.x.s)∧w'.cell? ⟨w.heap.size,1,none⟩=some (.slice p.x.A p.x.n p.x.c)∧w'.cell? ⟨w.heap.size,2,none⟩=some (.slice p.x.B p.x.m p.x.d)∧w'.cell? ⟨w.heap.size,3,none⟩=some (.bool p.y.s)∧w'.cell? ⟨w.heap.size,4,none⟩=some (.slice p.y.A p.y.n p.y.c)∧w'.cell? ⟨w.heap.size,5,none⟩=some (.slice p.y.B p.y.m p.y.d)∧w'.cell? ⟨w.heap.size,6,none⟩=some (.bool p.w.s)∧w'.cell? ⟨w.heap.size,7,none⟩=some (.slice p.w.A p.w.n p.w.c)∧w'.cell? ⟨w.heap.size,8,none⟩=some (.slice p.w.B p.w.m p.w.d)∧w'.cell? ⟨w.heap.size+1,0,none⟩=some (.bool q.x.s)∧w'.cell? ⟨w.heap.size+1,1,none⟩=some (.slice q.x.A q.x.n q.x.c)∧w'.cell? ⟨w.heap.size+1,2,none⟩=some (.slice q.x.B q.x.m q.x.d)∧w'.cell? ⟨w.heap.size+1,3,none⟩=some (.bool q.y.s)∧w'.cell? ⟨w.heap.size+1,4,none⟩=some (.slice q.y.A q.y.n q.y.c)∧w'.cell? ⟨w.heap.size+1,5,none⟩=some (.slice q.y.B q.y.m q.y.d)∧w'.cell? ⟨w.heap.size+1,6,none⟩=some (.bool q.w.s)∧w'.cell? ⟨w.heap.size+1,7,none⟩=some (.slice q.w.A q.w.n q.w.c)∧w'.cell? ⟨w.heap.size+1,8,none⟩=some (.slice q.w.B q.w.m q.w.d))
  (first | with_reducible exact ⟨XA.c0,XA.c1,XA.c2,XA.c3,XA.c4,XA.c5,XA.c6,XA.c7,XA.c8,XB.c0,XB.c1,XB.c2,XB.c3,XB.c4,XB.c5,XB.c6,XB.c7,XB.c8⟩ | with_reducible exact ⟨(XA.restm (by omega) (only_set9 _ _ _ _ _ _ _ _ _ _ _)).c0,(XA.restm (by omega) (only_set9 _ _ _ _ _ _ _ _ _ _ _)).c1,(XA.restm (by omega) (only_set9 _ _ _ _ _ _ _ _ _ _ _)).c2,(XA.restm (by omega) (only_set9 _ _ _ _ _ _ _ _ _ _ _)).c3,(XA.restm (by omega) (only_set9 _ _ _ _ _ _ _ _ _ _ _)).c4,(XA.restm (by omega) (only_set9 _ _ _ _ _ _ _ _ _ _ _)).c5,(XA.restm (by omega) (only_set9 _ _ _ _ _ _ _ _ _ _ _)).c6,(XA.restm (by omega) (only_set9 _ _ _ _ _ _ _ _ _ _ _)).c7,(XA.restm (by omega) (only_set9 _ _ _ _ _ _ _ _ _ _ _)).c8,(XB.restm (by omega) (only_set9 _ _ _ _ _ _ _ _ _ _ _)).c0,(XB.restm (by omega) (only_set9 _ _ _ _ _ _ _ _ _ _ _)).c1,(XB.restm (by omega) (only_set9 _ _ _ _ _ _ _ _ _ _ _)).c2,(XB.restm (by omega) (only_set9 _ _ _ _ _ _ _ _ _ _ _)).c3,(XB.restm (by omega) (only_set9 _ _ _ _ _ _ _ _ _ _ _)).c4,(XB.restm (by omega) (only_set9 _ _ _ _ _ _ _ _ _ _ _)).c5,(XB.restm (by omega) (only_set9 _ _ _ _ _ _ _ _ _ _ _)).c6,(XB.restm (by omega) (only_set9 _ _ _ _ _ _ _ _ _ _ _)).c7,(XB.restm (by omega) (only_set9 _ _ _ _ _ _ _ _ _ _ _)).c8⟩)
  (first
  | (go_at_call 112;(with_reducible refine (radd_q hp.qx hq.qx (by omega) (by omega) (.inl (by omega)) (by omega) (by omega)).mono ?_);rintro e w_ru ⟨s_ru,A_ru,n_ru,c_ru,B_ru,m_ru,d_ru,rfl,ru,hh⟩
     (try replace hp:=hp.below hh);(try replace hq:=hq.below hh);(try replace XA:=XA.below hh);(try replace XB:=XB.below hh);(try replace Z:=Z.below hh);(try replace rv:=rv.below hh);(try replace rz:=rz.below hh);replace hb:=bend hb hh)
  | (go_at_call 112;(with_reducible refine (radd_q hp.qy hq.qy (by omega) (by omega) (.inl (by omega)) (by omega) (by omega)).mono ?_);rintro e w_rv ⟨s_rv,A_rv,n_rv,c_rv,B_rv,m_rv,d_rv,rfl,rv,hh⟩
     (try replace hp:=hp.below hh);(try replace hq:=hq.below hh);(try replace XA:=XA.below hh);(try replace XB:=XB.below hh);(try replace Z:=Z.below hh);(try replace ru:=ru.below hh);(try replace rz:=rz.below hh);replace hb:=bend hb hh)
  | (go_at_call 112;(with_reducible refine (radd_q hp.qw hq.qw (by omega) (by omega) (.inl (by omega)) (by omega) (by omega)).mono ?_);rintro e w_rz ⟨s_rz,A_rz,n_rz,c_rz,B_rz,m_rz,d_rz,rfl,rz,hh⟩
     (try replace hp:=hp.below hh);(try replace hq:=hq.below hh);(try replace XA:=XA.below hh);(try replace XB:=XB.below hh);(try replace Z:=Z.below hh);(try replace ru:=ru.below hh);(try replace rv:=rv.below hh);replace hb:=bend hb hh
     have zst:=Z.st (.bool s_ru) (.slice A_ru n_ru c_ru) (.slice B_ru m_ru d_ru) (.bool s_rv) (.slice A_rv n_rv c_rv) (.slice B_rv m_rv d_rv) (.bool s_rz) (.slice A_rz n_rz c_rz) (.slice B_rz m_rz d_rz) (by simp [Value.oneCell'])))
 go_wp2_with fail
 have Z2:=Z.set9 (.bool s_ru) (.slice A_ru n_ru c_ru) (.slice B_ru m_ru d_ru) (.bool s_rv) (.slice A_rv n_rv c_rv) (.slice B_rv m_rv d_rv) (.bool s_rz) (.slice A_rz n_rz c_rz) (.slice B_rz m_rz d_rz)
 have gl:=Z2.ld
 refine bodyPost_ret (v:=.agg #[.bool s_ru,.slice A_ru n_ru c_ru,.slice B_ru m_ru d_ru,.bool s_rv,.slice A_rv n_rv c_rv,.slice B_rv m_rv d_rv,.bool s_rz,.slice A_rz n_rz c_rz,.slice B_rz m_rz d_rz]) (res_H Tryz.results88 _ _ (by simp) gl) rfl ?_
 exact ⟨⟨⟨s_ru,A_ru,n_ru,c_ru,B_ru,m_ru,d_ru⟩,⟨s_rv,A_rv,n_rv,c_rv,B_rv,m_rv,d_rv⟩,⟨s_rz,A_rz,n_rz,c_rz,B_rz,m_rz,d_rz⟩⟩,rfl,HG.set9 (h:=⟨⟨s_ru,A_ru,n_ru,c_ru,B_ru,m_ru,d_ru⟩,⟨s_rv,A_rv,n_rv,c_rv,B_rv,m_rv,d_rv⟩,⟨s_rz,A_rz,n_rz,c_rz,B_rz,m_rz,d_rz⟩⟩) (v:=vp.add vq) ⟨ru,rv,rz⟩ Z _ _ _ _ _ _ _ _ _,below_set9 hb (by omega) _ _ _ _ _ _ _ _ _⟩
theorem mkbx33_12 {w W:World} {x0 x1 x2 x3 x4 x5 x6 x7 x8 x9 x10 x11 x12 x13 x14 x15 x16 x17:Value} (h:((w.alloc (Obj.cells #[x0,x1,x2,x3,x4,x5,x6,x7,x8] 79)).alloc (Obj.cells #[x9,x10,x11,x12,x13,x14,x15,x16,x17] 79))=W):Below w.heap.size w W∧BH W (w.heap.size) x0 x1 x2 x3 x4 x5 x6 x7 x8∧BH W (w.heap.size+1) x9 x10 x11 x12 x13 x14 x15 x16 x17∧W.heap.size=w.heap.size+2:=by subst h;exact ⟨by exact (((Below.refl _ _).alloc (Nat.le_refl _) _).alloc (by simp) _),by exact (BH.new' _ _ _ _ _ _ _ _ _ _ _ rfl).alloc _,by exact BH.new' _ _ _ _ _ _ _ _ _ _ _ (by simp),by simp⟩
theorem hfresh_h {k:Nat} {v:AH} {h:HV} (hp:HR w h v k) (hk:k≤40000) (h1:1≤k) :
 Calls Tryz.prog 50 #[.agg #[.bool h.x.s,.slice h.x.A h.x.n h.x.c,.slice h.x.B h.x.m h.x.d,.bool h.y.s,.slice h.y.A h.y.n h.y.c,.slice h.y.B h.y.m h.y.d,.bool h.w.s,.slice h.w.A h.w.n h.w.c,.slice h.w.B h.w.m h.w.d]] w (GivesH w v (k+1+1)):=by
 go_enter Tryz.func50,Tryz.ntmps50
 go_upto_region 1 with (fail)
 generalize hW:World.alloc _ _=W
 obtain ⟨hb,XA,Z,hzW⟩:=mkbx33_12 hW;clear hW;replace hp:=hp.below hb;have xald:=XA.ld
 go_wp2_with (first
  | (go_at_call 88;(with_reducible refine (hadded_h hp (hr_zero _) hk (by decide) h1 (by decide)).mono ?_);rintro e w_r ⟨r,rfl,rh,hh⟩
     (try replace hp:=hp.below hh);(try replace XA:=XA.below hh);(try replace Z:=Z.below hh);replace hb:=bend hb hh;rw [AH.add_zero] at rh
     have zst:=Z.st (.bool r.x.s) (.slice r.x.A r.x.n r.x.c) (.slice r.x.B r.x.m r.x.d) (.bool r.y.s) (.slice r.y.A r.y.n r.y.c) (.slice r.y.B r.y.m r.y.d) (.bool r.w.s) (.slice r.w.A r.w.n r.w.c) (.slice r.w.B r.w.m r.w.d) (by simp [Value.oneCell'])))
 have Z2:=Z.set9 (.bool r.x.s) (.slice r.x.A r.x.n r.x.c) (.slice r.x.B r.x.m r.x.d) (.bool r.y.s) (.slice r.y.A r.y.n r.y.c) (.slice r.y.B r.y.m r.y.d) (.bool r.w.s) (.slice r.w.A r.w.n r.w.c) (.slice r.w.B r.w.m r.w.d)
 have gl:=Z2.ld
 refine bodyPost_ret (v:=.agg #[.bool r.x.s,.slice r.x.A r.x.n r.x.c,.slice r.x.B r.x.m r.x.d,.bool r.y.s,.slice r.y.A r.y.n r.y.c,.slice r.y.B r.y.m r.y.d,.bool r.w.s,.slice r.w.A r.w.n r.w.c,.slice r.w.B r.w.m r.w.d]) (res_H Tryz.results50 _ _ (by simp) gl) rfl ?_
 exact ⟨r,rfl,rh.set9 Z _ _ _ _ _ _ _ _ _,below_set9 hb (by omega) _ _ _ _ _ _ _ _ _⟩
theorem hmiddle_h {k:Nat} {vp vq:AH} {p q:HV} (hp:HR w p vp k) (hq:HR w q vq k) (hk:k≤15000) (h1:1≤k) :
 Calls Tryz.prog 122 #[.agg #[.bool p.x.s,.slice p.x.A p.x.n p.x.c,.slice p.x.B p.x.m p.x.d,.bool p.y.s,.slice p.y.A p.y.n p.y.c,.slice p.y.B p.y.m p.y.d,.bool p.w.s,.slice p.w.A p.w.n p.w.c,.slice p.w.B p.w.m p.w.d],.agg #[.bool q.x.s,.slice q.x.A q.x.n q.x.c,.slice q.x.B q.x.m q.x.d,.bool q.y.s,.slice q.y.A q.y.n q.y.c,.slice q.y.B q.y.m q.y.d,.bool q.w.s,.slice q.w.A q.w.n q.w.c,.slice q.w.B q.w.m q.w.d]] w (GivesH w (vp.mix vq (1 / 2)) (2*k+2)):=by
 go_enter Tryz.func122,Tryz.ntmps122
 go_upto_region 1 with (fail)
 generalize hW:World.alloc _ _=W
 obtain ⟨hb,XA,XB,Z,hzW⟩:=mkbx32_12 hW;clear hW;replace hp:=hp.below hb;replace hq:=hq.below hb;have xald:=XA.ld;have xbld:=XB.ld
 go_upto_region 2 with (first
  | (go_at_call 88;(with_reducible refine (hadded_h hp hq (by omega) (by omega) h1 h1).mono ?_);rintro e w_r ⟨r,rfl,rh,hh⟩
     (try replace hp:=hp.below hh);(try replace hq:=hq.below hh);(try replace XA:=XA.below hh);(try replace XB:=XB.below hh);(try replace Z:=Z.below hh);(try replace u:=u.below hh);replace hb:=bend hb hh;have xald:=XA.ld;have xbld:=XB.ld)
  | (go_at_call 26;(with_reducible refine (rof_q 1 2 (by decide) (by decide) (by decide) (by decide) (by decide) _).mono ?_);rintro e w_u ⟨s_u,A_u,n_u,c_u,B_u,m_u,d_u,rfl,u,hh⟩
     (try replace hp:=hp.below hh);(try replace hq:=hq.below hh);(try replace XA:=XA.below hh);(try replace XB:=XB.below hh);(try replace Z:=Z.below hh);(try replace rh:=rh.below hh);replace hb:=bend hb hh
     have XH:BH ((w_u.alloc (Obj.cells #[Value.bool false,Value.slice none 0 0,Value.slice none 0 0,Value.bool false,Value.slice none 0 0,Value.slice none 0 0,Value.bool false,Value.slice none 0 0,Value.slice none 0 0] 79)).alloc (Obj.cells #[Value.bool false,Value.slice none 0 0,Value.slice none 0 0] 26)) w_u.heap.size (Value.bool false) (Value.slice none 0 0) (Value.slice none 0 0) (Value.bool false) (Value.slice none 0 0) (Value.slice none 0 0) (Value.bool false) (Value.slice none 0 0) (Value.slice none 0 0):=(BH.new' _ _ _ _ _ _ _ _ _ _ _ rfl).alloc _
     have XQ:B3 ((w_u.alloc (Obj.cells #[Value.bool false,Value.slice none 0 0,Value.slice none 0 0,Value.bool false,Value.slice none 0 0,Value.slice none 0 0,Value.bool false,Value.slice none 0 0,Value.slice none 0 0] 79)).alloc (Obj.cells #[Value.bool false,Value.slice none 0 0,Value.slice none 0 0] 26)) (w_u.heap.size+1) (Value.bool false) (Value.slice none 0 0) (Value.slice none 0 0):=B3.new' _ _ _ _ _ (by simp)
     have zst:=XH.st (.bool r.x.s) (.slice r.x.A r.x.n r.x.c) (.slice r.x.B r.x.m r.x.d) (.bool r.y.s) (.slice r.y.A r.y.n r.y.c) (.slice r.y.B r.y.m r.y.d) (.bool r.w.s) (.slice r.w.A r.w.n r.w.c) (.slice r.w.B r.w.m r.w.d) (by simp [Value.oneCell'])
     have XQ9:=XQ.restm (show w_u.heap.size+1 ≠ w_u.heap.size by omega) (only_set9 _ _ (Value.bool r.x.s) (Value.slice r.x.A r.x.n r.x.c) (Value.slice r.x.B r.x.m r.x.d) (Value.bool r.y.s) (Value.slice r.y.A r.y.n r.y.c) (Value.slice r.y.B r.y.m r.y.d) (Value.bool r.w.s) (Value.slice r.w.A r.w.n r.w.c) (Value.slice r.w.B r.w.m r.w.d))
     obtain ⟨zq0,zq1,zq2⟩:=XQ9.all;have zf0:=XQ9.f0;have zf1:=XQ9.f1;have zf2:=XQ9.f2))
 clear zst zq0 zq1 zq2 zf0 zf1 zf2 XQ9 XH XQ xald xbld XA XB hp hq
 have hal:Below w_u.heap.size w_u ((w_u.alloc (Obj.cells #[Value.bool r.x.s,Value.slice r.x.A r.x.n r.x.c,Value.slice r.x.B r.x.m r.x.d,Value.bool r.y.s,Value.slice r.y.A r.y.n r.y.c,Value.slice r.y.B r.y.m r.y.d,Value.bool r.w.s,Value.slice r.w.A r.w.n r.w.c,Value.slice r.w.B r.w.m r.w.d] 79)).alloc (Obj.cells #[Value.bool s_u,Value.slice A_u n_u c_u,Value.slice B_u m_u d_u] 26)):=((Below.refl _ _).alloc (Nat.le_refl _) _).alloc (by simp) _
 have hlt1:w.heap.size+1+1 < w_u.heap.size:=Z.lt
 have XH2:BH ((w_u.alloc (Obj.cells #[Value.bool r.x.s,Value.slice r.x.A r.x.n r.x.c,Value.slice r.x.B r.x.m r.x.d,Value.bool r.y.s,Value.slice r.y.A r.y.n r.y.c,Value.slice r.y.B r.y.m r.y.d,Value.bool r.w.s,Value.slice r.w.A r.w.n r.w.c,Value.slice r.w.B r.w.m r.w.d] 79)).alloc (Obj.cells #[Value.bool s_u,Value.slice A_u n_u c_u,Value.slice B_u m_u d_u] 26)) w_u.heap.size (Value.bool r.x.s) (Value.slice r.x.A r.x.n r.x.c) (Value.slice r.x.B r.x.m r.x.d) (Value.bool r.y.s) (Value.slice r.y.A r.y.n r.y.c) (Value.slice r.y.B r.y.m r.y.d) (Value.bool r.w.s) (Value.slice r.w.A r.w.n r.w.c) (Value.slice r.w.B r.w.m r.w.d):=(BH.new' _ _ _ _ _ _ _ _ _ _ _ rfl).alloc _
 have XU:B3 ((w_u.alloc (Obj.cells #[Value.bool r.x.s,Value.slice r.x.A r.x.n r.x.c,Value.slice r.x.B r.x.m r.x.d,Value.bool r.y.s,Value.slice r.y.A r.y.n r.y.c,Value.slice r.y.B r.y.m r.y.d,Value.bool r.w.s,Value.slice r.w.A r.w.n r.w.c,Value.slice r.w.B r.w.m r.w.d] 79)).alloc (Obj.cells #[Value.bool s_u,Value.slice A_u n_u c_u,Value.slice B_u m_u d_u] 26)) (w_u.heap.size+1) (Value.bool s_u) (Value.slice A_u n_u c_u) (Value.slice B_u m_u d_u):=B3.new' _ _ _ _ _ (by simp)
 replace Z:=Z.below hal;replace rh:=rh.below hal;replace u:=u.below hal;replace hb:=bend hb hal;clear hal
 generalize ((w_u.alloc (Obj.cells #[Value.bool r.x.s,Value.slice r.x.A r.x.n r.x.c,Value.slice r.x.B r.x.m r.x.d,Value.bool r.y.s,Value.slice r.y.A r.y.n r.y.c,Value.slice r.y.B r.y.m r.y.d,Value.bool r.w.s,Value.slice r.w.A r.w.n r.w.c,Value.slice r.w.B r.w.m r.w.d] 79)).alloc (Obj.cells #[Value.bool s_u,Value.slice A_u n_u c_u,Value.slice B_u m_u d_u] 26))=W2 at *
 generalize w_u.heap.size=gH at *
 replace Z:=Z.below (Below.refl _ _).drew
 replace rh:=rh.below (Below.refl _ _).drew
 replace u:=u.below (Below.refl _ _).drew
 replace XH2:=XH2.below (Below.refl _ _).drew
 replace XU:=XU.below (Below.refl _ _).drew
 replace hb:=hb.drew
 refine wp_region_held_drew (S:=(fun w'=>w'.cell? ⟨gH,0,none⟩=some (.bool r.x.s)∧w'.cell? ⟨gH,1,none⟩=some (.slice r.x.A r.x.n r.x.c)∧w'.cell? ⟨gH,2,none⟩=some (.slice r.x.B r.x.m r.x.d)∧w'.cell? ⟨gH,3,none⟩=some (.bool r.y.s)∧w'.cell? ⟨gH,4,none⟩=some (.slice r.y.A r.y.n r.y.c)∧w'.cell? ⟨gH,5,none⟩=some (.slice r.y.B r.y.m r.y.d)∧w'.cell? ⟨gH,6,none⟩=some (.bool r.w.s)∧w'.cell? ⟨gH,7,none⟩=some (.slice r.w.A r.w.n r.w.c)∧w'.cell? ⟨gH,8,none⟩=some (.slice r.w.B r.w.m r.w.d)∧w'.cell? ⟨gH+1,0,none⟩=some (.bool s_u)∧w'.cell? ⟨gH+1,1,none⟩=some (.slice A_u n_u c_u)∧w'.cell? ⟨gH+1,2,none⟩=some (.slice B_u m_u d_u))) (by kernel_rfl) (by first | with_reducible exact ⟨XH2.c0,XH2.c1,XH2.c2,XH2.c3,XH2.c4,XH2.c5,XH2.c6,XH2.c7,XH2.c8,XU.c0,XU.c1,XU.c2⟩ | with_reducible exact ⟨(XH2.restm (by omega) (only_set9 _ _ _ _ _ _ _ _ _ _ _)).c0,(XH2.restm (by omega) (only_set9 _ _ _ _ _ _ _ _ _ _ _)).c1,(XH2.restm (by omega) (only_set9 _ _ _ _ _ _ _ _ _ _ _)).c2,(XH2.restm (by omega) (only_set9 _ _ _ _ _ _ _ _ _ _ _)).c3,(XH2.restm (by omega) (only_set9 _ _ _ _ _ _ _ _ _ _ _)).c4,(XH2.restm (by omega) (only_set9 _ _ _ _ _ _ _ _ _ _ _)).c5,(XH2.restm (by omega) (only_set9 _ _ _ _ _ _ _ _ _ _ _)).c6,(XH2.restm (by omega) (only_set9 _ _ _ _ _ _ _ _ _ _ _)).c7,(XH2.restm (by omega) (only_set9 _ _ _ _ _ _ _ _ _ _ _)).c8,(XU.restm (by omega) (only_set9 _ _ _ _ _ _ _ _ _ _ _)).c0,(XU.restm (by omega) (only_set9 _ _ _ _ _ _ _ _ _ _ _)).c1,(XU.restm (by omega) (only_set9 _ _ _ _ _ _ _ _ _ _ _)).c2⟩) (fun hHeld=>?_)
 refine wpAnyH_take (i:=0) (oi:=⟨some 11,.fieldAddr 79 (.tmp 5) 0,0, "room.go:52",#[],none⟩) (v:=?_) rfl (by kernel_rfl) (by kernel_rfl) (by kernel_rfl) (fun _ _ _ h=>h) (Or.inl ⟨by rfl,?_⟩) hHeld ?_
 rotate_left
 · (intro w hSw;(try dsimp only at hSw);go_simp;try with_reducible rfl)
 simp only [Act.put,List.setIfInBounds_toArray,List.set_cons_zero,List.set_cons_succ]
 refine wpAnyH_take (i:=1) (oi:=⟨some 12,.load 26 (.tmp 11),26, "room.go:52",#[⟨0,.data⟩],none⟩) (v:=?_) rfl (by kernel_rfl) (by kernel_rfl) (by kernel_rfl) (fun _ _ _ h=>h) (Or.inl ⟨by rfl,?_⟩) hHeld ?_
 rotate_left
 · (intro w hSw;(try dsimp only at hSw);go_simp;try with_reducible rfl)
 simp only [Act.put,List.setIfInBounds_toArray,List.set_cons_zero,List.set_cons_succ]
 refine wpAnyH_take (i:=2) (oi:=⟨some 13,.load 26 (.tmp 6),26, "room.go:52",#[],none⟩) (v:=?_) rfl (by kernel_rfl) (by kernel_rfl) (by kernel_rfl) (fun _ _ _ h=>h) (Or.inl ⟨by rfl,?_⟩) hHeld ?_
 rotate_left
 · (intro w hSw;(try dsimp only at hSw);go_simp;try with_reducible rfl)
 simp only [Act.put,List.setIfInBounds_toArray,List.set_cons_zero,List.set_cons_succ]
 refine wpAnyH_take (i:=4) (oi:=⟨some 15,.fieldAddr 79 (.tmp 5) 1,0, "room.go:52",#[],none⟩) (v:=?_) rfl (by kernel_rfl) (by kernel_rfl) (by kernel_rfl) (fun _ _ _ h=>h) (Or.inl ⟨by rfl,?_⟩) hHeld ?_
 rotate_left
 · (intro w hSw;(try dsimp only at hSw);go_simp;try with_reducible rfl)
 simp only [Act.put,List.setIfInBounds_toArray,List.set_cons_zero,List.set_cons_succ]
 refine wpAnyH_take (i:=5) (oi:=⟨some 16,.load 26 (.tmp 15),26, "room.go:52",#[⟨4,.data⟩],none⟩) (v:=?_) rfl (by kernel_rfl) (by kernel_rfl) (by kernel_rfl) (fun _ _ _ h=>h) (Or.inl ⟨by rfl,?_⟩) hHeld ?_
 rotate_left
 · (intro w hSw;(try dsimp only at hSw);go_simp;try with_reducible rfl)
 simp only [Act.put,List.setIfInBounds_toArray,List.set_cons_zero,List.set_cons_succ]
 refine wpAnyH_take (i:=6) (oi:=⟨some 17,.load 26 (.tmp 6),26, "room.go:52",#[],none⟩) (v:=?_) rfl (by kernel_rfl) (by kernel_rfl) (by kernel_rfl) (fun _ _ _ h=>h) (Or.inl ⟨by rfl,?_⟩) hHeld ?_
 rotate_left
 · (intro w hSw;(try dsimp only at hSw);go_simp;try with_reducible rfl)
 simp only [Act.put,List.setIfInBounds_toArray,List.set_cons_zero,List.set_cons_succ]
 refine wpAnyH_take (i:=8) (oi:=⟨some 19,.fieldAddr 79 (.tmp 5) 2,0, "room.go:52",#[],none⟩) (v:=?_) rfl (by kernel_rfl) (by kernel_rfl) (by kernel_rfl) (fun _ _ _ h=>h) (Or.inl ⟨by rfl,?_⟩) hHeld ?_
 rotate_left
 · (intro w hSw;(try dsimp only at hSw);go_simp;try with_reducible rfl)
 simp only [Act.put,List.setIfInBounds_toArray,List.set_cons_zero,List.set_cons_succ]
 refine wpAnyH_take (i:=9) (oi:=⟨some 20,.load 26 (.tmp 19),26, "room.go:52",#[⟨8,.data⟩],none⟩) (v:=?_) rfl (by kernel_rfl) (by kernel_rfl) (by kernel_rfl) (fun _ _ _ h=>h) (Or.inl ⟨by rfl,?_⟩) hHeld ?_
 rotate_left
 · (intro w hSw;(try dsimp only at hSw);go_simp;try with_reducible rfl)
 simp only [Act.put,List.setIfInBounds_toArray,List.set_cons_zero,List.set_cons_succ]
 refine wpAnyH_take (i:=10) (oi:=⟨some 21,.load 26 (.tmp 6),26, "room.go:52",#[],none⟩) (v:=?_) rfl (by kernel_rfl) (by kernel_rfl) (by kernel_rfl) (fun _ _ _ h=>h) (Or.inl ⟨by rfl,?_⟩) hHeld ?_
 rotate_left
 · (intro w hSw;(try dsimp only at hSw);go_simp;try with_reducible rfl)
 simp only [Act.put,List.setIfInBounds_toArray,List.set_cons_zero,List.set_cons_succ]
 refine wpAnyH_ready (rs:=[3]) (by kernel_rfl) (by simp) ?_
 refine AllReadyH.cons (o:=⟨some 14,.call ⟨.value (.func 107),#[.tmp 12,.tmp 13],#[26,26]⟩,26, "room.go:52",#[⟨1,.data⟩,⟨2,.data⟩],none⟩) rfl (fun K1 hK1=>?_) AllReadyH.nil
 go_simp
 first
 | (go_at_call 107;(with_reducible refine (rmul_q rh.qx.qr u.qr (by omega) (by decide) (.inl (by omega)) (by omega) (by decide)).mono ?_);rintro e w_ma ⟨s_ma,A_ma,n_ma,c_ma,B_ma,m_ma,d_ma,rfl,ma,hh⟩
    (try replace Z:=Z.below hh);(try replace rh:=rh.below hh);(try replace u:=u.below hh);(try replace XH2:=XH2.below hh);(try replace XU:=XU.below hh);(try replace mb:=mb.below hh);(try replace mc:=mc.below hh);replace hb:=bend hb hh)
 | (go_at_call 107;(with_reducible refine (rmul_q rh.qy.qr u.qr (by omega) (by decide) (.inl (by omega)) (by omega) (by decide)).mono ?_);rintro e w_mb ⟨s_mb,A_mb,n_mb,c_mb,B_mb,m_mb,d_mb,rfl,mb,hh⟩
    (try replace Z:=Z.below hh);(try replace rh:=rh.below hh);(try replace u:=u.below hh);(try replace XH2:=XH2.below hh);(try replace XU:=XU.below hh);(try replace ma:=ma.below hh);(try replace mc:=mc.below hh);replace hb:=bend hb hh)
 | (go_at_call 107;(with_reducible refine (rmul_q rh.qw.qr u.qr (by omega) (by decide) (.inl (by omega)) (by omega) (by decide)).mono ?_);rintro e w_mc ⟨s_mc,A_mc,n_mc,c_mc,B_mc,m_mc,d_mc,rfl,mc,hh⟩
    (try replace Z:=Z.below hh);(try replace rh:=rh.below hh);(try replace u:=u.below hh);(try replace XH2:=XH2.below hh);(try replace XU:=XU.below hh);(try replace ma:=ma.below hh);(try replace mb:=mb.below hh);replace hb:=bend hb hh
    have zst:=Z.st (.bool s_ma) (.slice A_ma n_ma c_ma) (.slice B_ma m_ma d_ma) (.bool s_mb) (.slice A_mb n_mb c_mb) (.slice B_mb m_mb d_mb) (.bool s_mc) (.slice A_mc n_mc c_mc) (.slice B_mc m_mc d_mc) (by simp [Value.oneCell']))
 refine hK1.out _ _ (by first | with_reducible exact ⟨XH2.c0,XH2.c1,XH2.c2,XH2.c3,XH2.c4,XH2.c5,XH2.c6,XH2.c7,XH2.c8,XU.c0,XU.c1,XU.c2⟩ | with_reducible exact ⟨(XH2.restm (by omega) (only_set9 _ _ _ _ _ _ _ _ _ _ _)).c0,(XH2.restm (by omega) (only_set9 _ _ _ _ _ _ _ _ _ _ _)).c1,(XH2.restm (by omega) (only_set9 _ _ _ _ _ _ _ _ _ _ _)).c2,(XH2.restm (by omega) (only_set9 _ _ _ _ _ _ _ _ _ _ _)).c3,(XH2.restm (by omega) (only_set9 _ _ _ _ _ _ _ _ _ _ _)).c4,(XH2.restm (by omega) (only_set9 _ _ _ _ _ _ _ _ _ _ _)).c5,(XH2.restm (by omega) (only_set9 _ _ _ _ _ _ _ _ _ _ _)).c6,(XH2.restm (by omega) (only_set9 _ _ _ _ _ _ _ _ _ _ _)).c7,(XH2.restm (by omega) (only_set9 _ _ _ _ _ _ _ _ _ _ _)).c8,(XU.restm (by omega) (only_set9 _ _ _ _ _ _ _ _ _ _ _)).c0,(XU.restm (by omega) (only_set9 _ _ _ _ _ _ _ _ _ _ _)).c1,(XU.restm (by omega) (only_set9 _ _ _ _ _ _ _ _ _ _ _)).c2⟩) (fun hHeld=>?_)
 clear hK1 K1
 refine wpAnyH_ready (rs:=[7]) (by kernel_rfl) (by simp) ?_
 refine AllReadyH.cons (o:=⟨some 18,.call ⟨.value (.func 107),#[.tmp 16,.tmp 17],#[26,26]⟩,26, "room.go:52",#[⟨5,.data⟩,⟨6,.data⟩,⟨3,.chain⟩],none⟩) rfl (fun K1 hK1=>?_) AllReadyH.nil
 go_simp
 first
 | (go_at_call 107;(with_reducible refine (rmul_q rh.qx.qr u.qr (by omega) (by decide) (.inl (by omega)) (by omega) (by decide)).mono ?_);rintro e w_ma ⟨s_ma,A_ma,n_ma,c_ma,B_ma,m_ma,d_ma,rfl,ma,hh⟩
    (try replace Z:=Z.below hh);(try replace rh:=rh.below hh);(try replace u:=u.below hh);(try replace XH2:=XH2.below hh);(try replace XU:=XU.below hh);(try replace mb:=mb.below hh);(try replace mc:=mc.below hh);replace hb:=bend hb hh)
 | (go_at_call 107;(with_reducible refine (rmul_q rh.qy.qr u.qr (by omega) (by decide) (.inl (by omega)) (by omega) (by decide)).mono ?_);rintro e w_mb ⟨s_mb,A_mb,n_mb,c_mb,B_mb,m_mb,d_mb,rfl,mb,hh⟩
    (try replace Z:=Z.below hh);(try replace rh:=rh.below hh);(try replace u:=u.below hh);(try replace XH2:=XH2.below hh);(try replace XU:=XU.below hh);(try replace ma:=ma.below hh);(try replace mc:=mc.below hh);replace hb:=bend hb hh)
 | (go_at_call 107;(with_reducible refine (rmul_q rh.qw.qr u.qr (by omega) (by decide) (.inl (by omega)) (by omega) (by decide)).mono ?_);rintro e w_mc ⟨s_mc,A_mc,n_mc,c_mc,B_mc,m_mc,d_mc,rfl,mc,hh⟩
    (try replace Z:=Z.below hh);(try replace rh:=rh.below hh);(try replace u:=u.below hh);(try replace XH2:=XH2.below hh);(try replace XU:=XU.below hh);(try replace ma:=ma.below hh);(try replace mb:=mb.below hh);replace hb:=bend hb hh
    have zst:=Z.st (.bool s_ma) (.slice A_ma n_ma c_ma) (.slice B_ma m_ma d_ma) (.bool s_mb) (.slice A_mb n_mb c_mb) (.slice B_mb m_mb d_mb) (.bool s_mc) (.slice A_mc n_mc c_mc) (.slice B_mc m_mc d_mc) (by simp [Value.oneCell']))
 refine hK1.out _ _ (by first | with_reducible exact ⟨XH2.c0,XH2.c1,XH2.c2,XH2.c3,XH2.c4,XH2.c5,XH2.c6,XH2.c7,XH2.c8,XU.c0,XU.c1,XU.c2⟩ | with_reducible exact ⟨(XH2.restm (by omega) (only_set9 _ _ _ _ _ _ _ _ _ _ _)).c0,(XH2.restm (by omega) (only_set9 _ _ _ _ _ _ _ _ _ _ _)).c1,(XH2.restm (by omega) (only_set9 _ _ _ _ _ _ _ _ _ _ _)).c2,(XH2.restm (by omega) (only_set9 _ _ _ _ _ _ _ _ _ _ _)).c3,(XH2.restm (by omega) (only_set9 _ _ _ _ _ _ _ _ _ _ _)).c4,(XH2.restm (by omega) (only_set9 _ _ _ _ _ _ _ _ _ _ _)).c5,(XH2.restm (by omega) (only_set9 _ _ _ _ _ _ _ _ _ _ _)).c6,(XH2.restm (by omega) (only_set9 _ _ _ _ _ _ _ _ _ _ _)).c7,(XH2.restm (by omega) (only_set9 _ _ _ _ _ _ _ _ _ _ _)).c8,(XU.restm (by omega) (only_set9 _ _ _ _ _ _ _ _ _ _ _)).c0,(XU.restm (by omega) (only_set9 _ _ _ _ _ _ _ _ _ _ _)).c1,(XU.restm (by omega) (only_set9 _ _ _ _ _ _ _ _ _ _ _)).c2⟩) (fun hHeld=>?_)
 clear hK1 K1
 refine wpAnyH_ready (rs:=[11]) (by kernel_rfl) (by simp) ?_
 refine AllReadyH.cons (o:=⟨some 22,.call ⟨.value (.func 107),#[.tmp 20,.tmp 21],#[26,26]⟩,26, "room.go:52",#[⟨9,.data⟩,⟨10,.data⟩,⟨7,.chain⟩],none⟩) rfl (fun K1 hK1=>?_) AllReadyH.nil
 go_simp
 first
 | (go_at_call 107;(with_reducible refine (rmul_q rh.qx.qr u.qr (by omega) (by decide) (.inl (by omega)) (by omega) (by decide)).mono ?_);rintro e w_ma ⟨s_ma,A_ma,n_ma,c_ma,B_ma,m_ma,d_ma,rfl,ma,hh⟩
    (try replace Z:=Z.below hh);(try replace rh:=rh.below hh);(try replace u:=u.below hh);(try replace XH2:=XH2.below hh);(try replace XU:=XU.below hh);(try replace mb:=mb.below hh);(try replace mc:=mc.below hh);replace hb:=bend hb hh)
 | (go_at_call 107;(with_reducible refine (rmul_q rh.qy.qr u.qr (by omega) (by decide) (.inl (by omega)) (by omega) (by decide)).mono ?_);rintro e w_mb ⟨s_mb,A_mb,n_mb,c_mb,B_mb,m_mb,d_mb,rfl,mb,hh⟩
    (try replace Z:=Z.below hh);(try replace rh:=rh.below hh);(try replace u:=u.below hh);(try replace XH2:=XH2.below hh);(try replace XU:=XU.below hh);(try replace ma:=ma.below hh);(try replace mc:=mc.below hh);replace hb:=bend hb hh)
 | (go_at_call 107;(with_reducible refine (rmul_q rh.qw.qr u.qr (by omega) (by decide) (.inl (by omega)) (by omega) (by decide)).mono ?_);rintro e w_mc ⟨s_mc,A_mc,n_mc,c_mc,B_mc,m_mc,d_mc,rfl,mc,hh⟩
    (try replace Z:=Z.below hh);(try replace rh:=rh.below hh);(try replace u:=u.below hh);(try replace XH2:=XH2.below hh);(try replace XU:=XU.below hh);(try replace ma:=ma.below hh);(try replace mb:=mb.below hh);replace hb:=bend hb hh
    have zst:=Z.st (.bool s_ma) (.slice A_ma n_ma c_ma) (.slice B_ma m_ma d_ma) (.bool s_mb) (.slice A_mb n_mb c_mb) (.slice B_mb m_mb d_mb) (.bool s_mc) (.slice A_mc n_mc c_mc) (.slice B_mc m_mc d_mc) (by simp [Value.oneCell']))
 refine hK1.out _ _ (by first | with_reducible exact ⟨XH2.c0,XH2.c1,XH2.c2,XH2.c3,XH2.c4,XH2.c5,XH2.c6,XH2.c7,XH2.c8,XU.c0,XU.c1,XU.c2⟩ | with_reducible exact ⟨(XH2.restm (by omega) (only_set9 _ _ _ _ _ _ _ _ _ _ _)).c0,(XH2.restm (by omega) (only_set9 _ _ _ _ _ _ _ _ _ _ _)).c1,(XH2.restm (by omega) (only_set9 _ _ _ _ _ _ _ _ _ _ _)).c2,(XH2.restm (by omega) (only_set9 _ _ _ _ _ _ _ _ _ _ _)).c3,(XH2.restm (by omega) (only_set9 _ _ _ _ _ _ _ _ _ _ _)).c4,(XH2.restm (by omega) (only_set9 _ _ _ _ _ _ _ _ _ _ _)).c5,(XH2.restm (by omega) (only_set9 _ _ _ _ _ _ _ _ _ _ _)).c6,(XH2.restm (by omega) (only_set9 _ _ _ _ _ _ _ _ _ _ _)).c7,(XH2.restm (by omega) (only_set9 _ _ _ _ _ _ _ _ _ _ _)).c8,(XU.restm (by omega) (only_set9 _ _ _ _ _ _ _ _ _ _ _)).c0,(XU.restm (by omega) (only_set9 _ _ _ _ _ _ _ _ _ _ _)).c1,(XU.restm (by omega) (only_set9 _ _ _ _ _ _ _ _ _ _ _)).c2⟩) (fun hHeld=>?_)
 clear hK1 K1
 refine wpAnyH_take (i:=12) (oi:=⟨some 23,.build 79 #[(0,.tmp 14),(1,.tmp 18),(2,.tmp 22)],79, "room.go:52",#[⟨3,.data⟩,⟨7,.data⟩,⟨11,.data⟩],none⟩) (v:=?_) rfl (by kernel_rfl) (by kernel_rfl) (by kernel_rfl) (fun _ _ _ h=>h) (Or.inl ⟨by rfl,?_⟩) hHeld ?_
 rotate_left
 · (intro w hSw;(try dsimp only at hSw);go_simp;try with_reducible rfl)
 simp only [Act.put,List.setIfInBounds_toArray,List.set_cons_zero,List.set_cons_succ]
 refine wpAnyH_ready (rs:=[13]) (by kernel_rfl) (by simp) ?_
 refine AllReadyH.cons (o:=⟨none,.store 79 (.tmp 4) (.tmp 23),0, "room.go:52",#[⟨12,.data⟩,⟨11,.chain⟩,⟨0,.phase⟩,⟨1,.phase⟩,⟨2,.phase⟩,⟨3,.phase⟩,⟨4,.phase⟩,⟨5,.phase⟩,⟨6,.phase⟩,⟨7,.phase⟩,⟨8,.phase⟩,⟨9,.phase⟩,⟨10,.phase⟩,⟨11,.phase⟩,⟨12,.phase⟩],none⟩) rfl (fun K1 hK1=>?_) AllReadyH.nil
 go_simp
 refine hK1.out _ _ (by first | with_reducible exact ⟨XH2.c0,XH2.c1,XH2.c2,XH2.c3,XH2.c4,XH2.c5,XH2.c6,XH2.c7,XH2.c8,XU.c0,XU.c1,XU.c2⟩ | with_reducible exact ⟨(XH2.restm (by omega) (only_set9 _ _ _ _ _ _ _ _ _ _ _)).c0,(XH2.restm (by omega) (only_set9 _ _ _ _ _ _ _ _ _ _ _)).c1,(XH2.restm (by omega) (only_set9 _ _ _ _ _ _ _ _ _ _ _)).c2,(XH2.restm (by omega) (only_set9 _ _ _ _ _ _ _ _ _ _ _)).c3,(XH2.restm (by omega) (only_set9 _ _ _ _ _ _ _ _ _ _ _)).c4,(XH2.restm (by omega) (only_set9 _ _ _ _ _ _ _ _ _ _ _)).c5,(XH2.restm (by omega) (only_set9 _ _ _ _ _ _ _ _ _ _ _)).c6,(XH2.restm (by omega) (only_set9 _ _ _ _ _ _ _ _ _ _ _)).c7,(XH2.restm (by omega) (only_set9 _ _ _ _ _ _ _ _ _ _ _)).c8,(XU.restm (by omega) (only_set9 _ _ _ _ _ _ _ _ _ _ _)).c0,(XU.restm (by omega) (only_set9 _ _ _ _ _ _ _ _ _ _ _)).c1,(XU.restm (by omega) (only_set9 _ _ _ _ _ _ _ _ _ _ _)).c2⟩) (fun hHeld=>?_)
 clear hK1 K1
 refine wpAnyH_done (by kernel_rfl) ?_ _
 go_wp2_with fail
 have ex:(vp.add vq).x*Rat.divInt 1 2=(vp.mix vq (1 / 2)).x:=add_half _ _
 have ey:(vp.add vq).y*Rat.divInt 1 2=(vp.mix vq (1 / 2)).y:=add_half _ _
 have ew:(vp.add vq).w*Rat.divInt 1 2=(vp.mix vq (1 / 2)).w:=add_half _ _
 rw [ex] at ma;rw [ey] at mb;rw [ew] at mc
 replace ma:=ma.more (show _≤2*k+2 by omega)
 replace mb:=mb.more (show _≤2*k+2 by omega)
 replace mc:=mc.more (show _≤2*k+2 by omega)
 have Z2:=Z.set9 (.bool s_ma) (.slice A_ma n_ma c_ma) (.slice B_ma m_ma d_ma) (.bool s_mb) (.slice A_mb n_mb c_mb) (.slice B_mb m_mb d_mb) (.bool s_mc) (.slice A_mc n_mc c_mc) (.slice B_mc m_mc d_mc)
 have gl:=Z2.ld
 refine bodyPost_ret (v:=.agg #[.bool s_ma,.slice A_ma n_ma c_ma,.slice B_ma m_ma d_ma,.bool s_mb,.slice A_mb n_mb c_mb,.slice B_mb m_mb d_mb,.bool s_mc,.slice A_mc n_mc c_mc,.slice B_mc m_mc d_mc]) (res_H Tryz.results122 _ _ (by simp) gl) rfl ?_
 exact ⟨⟨⟨s_ma,A_ma,n_ma,c_ma,B_ma,m_ma,d_ma⟩,⟨s_mb,A_mb,n_mb,c_mb,B_mb,m_mb,d_mb⟩,⟨s_mc,A_mc,n_mc,c_mc,B_mc,m_mc,d_mc⟩⟩,rfl,HG.set9 (h:=⟨⟨s_ma,A_ma,n_ma,c_ma,B_ma,m_ma,d_ma⟩,⟨s_mb,A_mb,n_mb,c_mb,B_mb,m_mb,d_mb⟩,⟨s_mc,A_mc,n_mc,c_mc,B_mc,m_mc,d_mc⟩⟩) (v:=vp.mix vq (1 / 2)) ⟨ma,mb,mc⟩ Z _ _ _ _ _ _ _ _ _,below_set9 hb (by omega) _ _ _ _ _ _ _ _ _⟩
end
section
open Go Go.RowKit
attribute [local go_sem ↓] open_LVH open_STH open_LVJ open_STJ
def RB (w:World) (b:Nat) (R:List HV):Prop:=w.heap[b]?=some (.cells (hvs R).toArray 79 (0,0))
def setL (l:List Value) (o:Nat) (p:HV):List Value:=((((((((l.set o (.bool p.x.s)).set (o+1) (.slice p.x.A p.x.n p.x.c)).set (o+2) (.slice p.x.B p.x.m p.x.d)).set (o+3) (.bool p.y.s)).set (o+4) (.slice p.y.A p.y.n p.y.c)).set (o+5) (.slice p.y.B p.y.m p.y.d)).set (o+6) (.bool p.w.s)).set (o+7) (.slice p.w.A p.w.n p.w.c)).set (o+8) (.slice p.w.B p.w.m p.w.d)
theorem setL_rows:∀ (R:List HV) (i:Nat) (p:HV),i < R.length→setL (hvs R) (i*9) p=hvs (R.set i p)
 | [],_,_,h=>absurd h (by simp)
 | q :: R,0,p,_=>rfl
 | q :: R,i+1,p,h=>by
   have ih:=setL_rows R i p (by simpa using h)
   rw [List.set_cons_succ,hvs_cons,hvs_cons,← ih,show (i+1)*9=i*9+9 by omega]
   rfl
section
variable {w w':World} {b k:Nat} {R:List HV}
theorem RB.lt (h:RB w b R):b < w.heap.size:=by
 rcases Nat.lt_or_ge b w.heap.size with q | q
 · exact q
 · unfold RB at h;rw [Array.getElem?_eq_none q] at h;cases h
theorem RB.below (h:RB w b R) (hb:Below w.heap.size w w'):RB w' b R:=(hb.block b h.lt).trans h
theorem RB.rest (h:RB w b R) (hne:b ≠ k) (ho:Only k w w'):RB w' b R:=(ho.block b h.lt hne).trans h
theorem RB.box (h:RB w b R):BoxAt 79 w b (hvs R).toArray:=⟨h,arr_free (hvs_free _)⟩
theorem RB.at_ (h:RB w b R) {x i:Nat} {p:HV} (hi:R[x+i]?=some p):EH w b (x*9+i*9) p:=by
 rw [← Nat.add_mul]
 refine ⟨h.lt,fun j v hv=>?_⟩
 rw [cell_of_row w b _ _ _ (0,0) h,List.getElem?_toArray]
 exact (rows_get hvc_len hi (by have:=(List.getElem?_eq_some_iff.1 hv).1;rwa [hvc_len] at this)).trans hv
theorem RB.st (h:RB w b R) {x i:Nat} (hi:x+i < R.length) (p:HV):∃ w',(STH ⟨b,x*9+i*9,none⟩ (.agg #[.bool p.x.s,.slice p.x.A p.x.n p.x.c,.slice p.x.B p.x.m p.x.d,.bool p.y.s,.slice p.y.A p.y.n p.y.c,.slice p.y.B p.y.m p.y.d,.bool p.w.s,.slice p.w.A p.w.n p.w.c,.slice p.w.B p.w.m p.w.d])).run Tryz.prog w=.ok () w'∧RB w' b (R.set (x+i) p)∧Only b w w':=by
 rw [← Nat.add_mul]
 generalize x+i=j at hi
 have hl:(hvs R).length=R.length*9:=hvs_length R
 have hc:=run_storeCells_cells (P:=Tryz.prog) b (j*9) p.cells 0 w (fun m hm=>by
  rw [hvc_len] at hm
  rw [cell_of_row w b _ _ _ (0,0) h,List.getElem?_toArray,List.getElem?_eq_getElem (by rw [hl];omega)];rfl) (fun m _=>frozen_of_row w b _ _ _ h) (hv_one p)
 have hz:(sizeOf 79).run Tryz.prog w=.ok 9 w:=by
  have hi:(Tryz.prog.info? 79).map (·.size)=some 9:=by kernel_rfl
  cases hq:Tryz.prog.info? 79 with
  | none=>simp [hq] at hi
  | some i=>simp [hq] at hi;simp [sizeOf,typeInfo,hq,hi]
 refine ⟨w.setCells b (j*9) p.cells,?_,?_,?_⟩
 · unfold STH storeVar
   simp only [Sem.run_bind,hz,Result.andThen_ok]
   exact hc
 · show _=_
   unfold RB at h
   rw [← setL_rows R j p hi]
   unfold setL
   simp only [World.setCells,HV.cells,Nat.add_assoc,Nat.reduceAdd]
   have h0:=heap_setCell_same _ b (j*9) _ _ (.bool p.x.s) h
   have h1:=heap_setCell_same _ b (j*9+1) _ _ (.slice p.x.A p.x.n p.x.c) h0
   have h2:=heap_setCell_same _ b (j*9+2) _ _ (.slice p.x.B p.x.m p.x.d) h1
   have h3:=heap_setCell_same _ b (j*9+3) _ _ (.bool p.y.s) h2
   have h4:=heap_setCell_same _ b (j*9+4) _ _ (.slice p.y.A p.y.n p.y.c) h3
   have h5:=heap_setCell_same _ b (j*9+5) _ _ (.slice p.y.B p.y.m p.y.d) h4
   have h6:=heap_setCell_same _ b (j*9+6) _ _ (.bool p.w.s) h5
   have h7:=heap_setCell_same _ b (j*9+7) _ _ (.slice p.w.A p.w.n p.w.c) h6
   have h8:=heap_setCell_same _ b (j*9+8) _ _ (.slice p.w.B p.w.m p.w.d) h7
   simp only [List.setIfInBounds_toArray] at h8
   exact h8
 · simp only [World.setCells,HV.cells]
   exact ((((((((Only.refl b w).setCell _ _).setCell _ _).setCell _ _).setCell _ _).setCell _ _).setCell _ _).setCell _ _).setCell _ _ |>.setCell _ _
theorem ixH {n i:Nat} (hi:i < n) (b o c:Nat) (w':World):(Instr.indexAt 37 (.slice (some ⟨b,o,none⟩) n c) (.int .i64 (i:Int))).run Tryz.prog w'=.ok (.pointer (some ⟨b,o+i*9,none⟩)) w':=by
 have ha:∀ j,(⟨b,o,none⟩:Addr).add j=⟨b,o+j,none⟩:=fun j=>by unfold Addr.add;split <;> simp_all
 obtain ⟨i0,hi0,hz,hs,hby⟩:=info_parts info_hom
 have k1:(0:Int)≤(i:Int):=by omega
 have k2:(i:Int) < (n:Int):=by omega
 simp [Instr.indexAt,asIntOf,run_underlying Tryz.underlying37,k1,sizeOf,typeInfo,hi0,hs,ha]
 exact fun e=>absurd hi (by omega)
def Vw (w:World) (R:List HV) (o n:Nat) (v:Nat→AH) (K:Nat→Nat):Prop:=∀ k,k < n→∃ p,R[o+k]?=some p∧HG w p (v k) (K k)
variable {o n:Nat} {v v':Nat→AH} {K K':Nat→Nat}
theorem Vw.below (h:Vw w R o n v K) (hb:Below w.heap.size w w'):Vw w' R o n v K:=fun k hk=>by
 obtain ⟨p,h1,h2⟩:=h k hk
 exact ⟨p,h1,h2.below hb⟩
theorem Vw.box {T:TypeId} {g:Nat} {cs:Array Value} (h:Vw w R o n v K) (Z:BoxAt T w g cs) (ho:Only g w w'):Vw w' R o n v K:=fun k hk=>by
 obtain ⟨p,h1,h2⟩:=h k hk
 exact ⟨p,h1,h2.box Z ho⟩
theorem Vw.imp (h:Vw w R o n v K) (hv:∀ k,k < n→v k=v' k∧K k≤K' k):Vw w R o n v' K':=fun k hk=>by
 obtain ⟨p,h1,h2⟩:=h k hk
 rw [← (hv k hk).1]
 exact ⟨p,h1,h2.more (hv k hk).2⟩
theorem Vw.take {m:Nat} (h:Vw w R o n v K) (hm:m≤n):Vw w R o m v K:=fun k hk=>h k (by omega)
theorem Vw.same {R':List HV} (h:Vw w R o n v K) (hs:∀ k,k < n→R'[o+k]?=R[o+k]?):Vw w R' o n v K:=fun k hk=>by
 obtain ⟨p,h1,h2⟩:=h k hk
 exact ⟨p,(hs k hk).trans h1,h2⟩
theorem Vw.off {j:Nat} {p:HV} (h:Vw w R o n v K) (hj:j < o ∨ o+n≤j):Vw w (R.set j p) o n v K:=h.same fun k hk=>by
 rw [List.getElem?_set_ne (by omega)]
theorem Vw.set {m:Nat} {p:HV} (h:Vw w R o n v K) (hm:m < n) (hp:HG w p (v' m) (K' m)) (hv:∀ k,k < n→k ≠ m→v k=v' k∧K k≤K' k):Vw w (R.set (o+m) p) o n v' K':=fun k hk=>by
 by_cases e:k=m
 · subst e
   obtain ⟨q,h1,_⟩:=h k hk
   have:=(List.getElem?_eq_some_iff.1 h1).1
   exact ⟨p,by rw [List.getElem?_set_self this],hp⟩
 · obtain ⟨q,h1,h2⟩:=h k hk
   rw [← (hv k hk e).1]
   exact ⟨q,by rw [List.getElem?_set_ne (by omega)];exact h1,h2.more (hv k hk e).2⟩
end
end
end Go.Proofs.YtfpaeophfcoohaaGreat
