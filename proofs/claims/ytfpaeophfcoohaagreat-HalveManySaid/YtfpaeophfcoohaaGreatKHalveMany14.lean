/- HalveMany: part 14. -/
import Derived.Lib.SmallJoins
import Derived.OpenShut
import Derived.Test.YtfpaeophfcoohaaGreatKHalveMany0
import Derived.Test.YtfpaeophfcoohaaGreatKHalveMany9
import Derived.Test.YtfpaeophfcoohaaGreatKHalveMany11
import Derived.Test.YtfpaeophfcoohaaGreatKHalveMany13
set_option linter.unusedVariables false
set_option maxRecDepth 100000
set_option maxHeartbeats 16000000
variable {w:Go.World}
namespace Go.Proofs.YtfpaeophfcoohaaGreat
section
open Go Go.RowKit
attribute [local go_sem ↓] open_LVH open_STH open_LVJ open_STJ
theorem li_first {n:Nat} (h:2≤n∧n≤4) (u:Nat→AH):bez 0 (li n u)=u 0:=by
 have e:=bez_0 (l:=li n u) (by rw [li_length];exact h)
 rw [li_get u (by omega)] at e
 exact (Option.some.inj e).symm
theorem li_last {n:Nat} (h:2≤n∧n≤4) (u:Nat→AH):bez 1 (li n u)=u (n - 1):=by
 have e:=bez_1 (l:=li n u) (by rw [li_length];exact h)
 rw [li_length,li_get u (by omega)] at e
 exact (Option.some.inj e).symm
theorem part_first {n d i:Nat} (h:2≤n∧n≤4) {v u:Nat→AH} (e:(prt n d v)[i]?=some u):u 0=bez ((i:Rat) / (2:Rat) ^ d) (li n v):=by
 rw [← li_first h u,prt_bez h d v i u 0 e]
 congr 2
 grind
theorem part_last {n d i:Nat} (h:2≤n∧n≤4) {v u:Nat→AH} (e:(prt n d v)[i]?=some u):u (n - 1)=bez (((i:Rat)+1) / (2:Rat) ^ d) (li n v):=by
 rw [← li_last h u,prt_bez h d v i u 1 e]
theorem part_at {i N d:Nat} (hN:N=2 ^ d):Rat.divInt (i:Int) (N:Int)=(i:Rat) / (2:Rat) ^ d:=by
 rw [Rat.divInt_eq_div,hN]
 congr 1
 push_cast
 rfl
theorem part_in {i N:Nat} (h8:N≤8) (h0:0 < N) (hi:i≤N):0≤Rat.divInt (i:Int) (N:Int)∧Rat.divInt (i:Int) (N:Int)≤1:=by
 have key:∀ (N:Fin 9) (i:Fin 9),0 < N.val→i.val≤N.val→0≤Rat.divInt (i.val:Int) (N.val:Int)∧Rat.divInt (i.val:Int) (N.val:Int)≤1:=by decide +kernel
 exact key ⟨N,by omega⟩ ⟨i,by omega⟩ h0 hi
theorem hmny_f {A:Option Addr} {n c k8:Nat} {L:List HV} (hL:SV w A (hvs L)) (hn:L.length=n) (hm:n≤maxLen) (hf:¬ ((∀ p ∈ L,p.small 4)∧n≤6)) :
 Calls Tryz.prog 7 #[.slice A n c,.int .u8 (k8:Int)] w fun e w'=>e=.returned (.bool true)∧Below w.heap.size w w':=by
 have HF:=Lib.hid hf;clear hf
 have hb:Below w.heap.size w w:=Below.refl _ _
 have HN:=Lib.hid hn;clear hn
 go_enter Tryz.func7,Tryz.ntmps7
 go_wp2_with (first
  | (go_at_call 17;(with_reducible refine (fair13_f hL HN.out hm HF.out).mono ?_);rintro e w_z ⟨rfl,hh⟩
     replace hb:=bend hb hh)
  | (go_at_call 18;(with_reducible refine (wakes14_any _).mono ?_);rintro e w_z ⟨rfl,hh⟩
     replace hb:=bend hb hh))
 (try rw [Exit.noGoto_ret])
 go_ret;exact ⟨rfl,hb⟩
theorem hmny_g {A:Option Addr} {n c k8:Nat} {L:List HV} {V:List AH} (hL:SV w A (hvs L)) (hn:L.length=n) (hE:EachH HR w L V 4) (hs:(∀ p ∈ L,p.small 4)∧n≤6) (hg:¬ GoodH V) :
 Calls Tryz.prog 7 #[.slice A n c,.int .u8 (k8:Int)] w fun e w'=>e=.returned (.bool true)∧Below w.heap.size w w':=by
 have HG:=Lib.hid hg;clear hg;have HF:=Lib.hid hs
 have hm:n≤maxLen:=by unfold maxLen;omega
 have hn9:n≤1000:=by omega
 have HVn:Hid (V.length=n):=hE.1.symm.trans hn
 clear hs
 have hb:Below w.heap.size w w:=Below.refl _ _
 have HN:=Lib.hid hn;clear hn
 go_enter Tryz.func7,Tryz.ntmps7
 go_wp2_with (first
  | (go_at_call 17;(with_reducible refine (fair13_t hL HN.out hm HF.out).mono ?_);rintro e w_z ⟨rfl,hh⟩
     (try replace hL:=hL.below hh);replace hb:=bend hb hh;replace hE:=EachH.belowR hE hh)
  | (go_at_call 19;(with_reducible refine (rins13 hL hE HN.out hn9 (by decide) (by decide)).mono ?_);rintro e w_i ⟨v1,M1,rfl,l1,e1,hh⟩
     (try replace hL:=hL.below hh);replace hb:=bend hb hh;replace hE:=EachH.belowR hE hh
     obtain ⟨A_x,c_x,rfl,_,_⟩:=l1.form
     have hM1:M1.length=n:=e1.1.trans HVn.out
     rw [hM1] at l1 ⊢
     have LM1:=l1.sv)
  | (go_at_call 22;(with_reducible refine (rgood13_f LM1 e1 hM1 hn9 HG.out).mono ?_);rintro e w_z ⟨rfl,hh⟩
     (try replace hL:=hL.below hh);replace hb:=bend hb hh;replace hE:=EachH.belowR hE hh;clear e1 l1 LM1)
  | (go_at_call 18;(with_reducible refine (wakes14_any _).mono ?_);rintro e w_z ⟨rfl,hh⟩
     replace hb:=bend hb hh))
 (try rw [Exit.noGoto_ret])
 go_ret;exact ⟨rfl,hb⟩
theorem hmny_p {A:Option Addr} {n c k8:Nat} {L:List HV} {V:List AH} (hL:SV w A (hvs L)) (hn:L.length=n) (hE:EachH HR w L V 4) (hs:(∀ p ∈ L,p.small 4)∧n≤6) (hk8:k8≤255) (hg:GoodH V) :
 Calls Tryz.prog 7 #[.slice A n c,.int .u8 (k8:Int)] w fun e w'=>e=.returned (.bool true)∧Below w.heap.size w w':=by
 have HG:=Lib.hid hg
 have hn24:2≤n∧n≤4:=by have:=hg.1;rw [← hE.1,hn] at this;exact this
 obtain ⟨d,hd⟩:∃ d,d=k8 % 4:=⟨_,rfl⟩
 have hd3:d≤3:=by omega
 have hmod:(k8:Int).tmod 4=(d:Int):=by rw [Int.tmod_eq_emod_of_nonneg (by omega)];omega
 have hwk:IntKind.i64.wrap (k8:Int)=(k8:Int):=IntWalk.i64_in _ (by omega)
 have hwd:IntKind.i64.wrap (d:Int)=(d:Int):=IntWalk.i64_in _ (by omega)
 have hwu:IntKind.u64.wrap (d:Int)=(d:Int):=by
  rcases (show d=0 ∨ d=1 ∨ d=2 ∨ d=3 by omega) with h | h | h | h <;> rw [h] <;> decide
 obtain ⟨N,hN⟩:∃ N,N=2 ^ d:=⟨_,rfl⟩
 have HNd:=Lib.hid hN
 have HN8:Hid (0 < N∧N≤8):=by
  rw [hN]
  rcases (show d=0 ∨ d=1 ∨ d=2 ∨ d=3 by omega) with h | h | h | h <;> rw [h] <;> exact ⟨by decide,by decide⟩
 have hpw:(2:Int) ^ d=(N:Int):=by rw [hN];push_cast;rfl
 have hpw1:(1:Int)*2 ^ d=(N:Int):=by rw [Int.one_mul];exact hpw
 have hwN:IntKind.i64.wrap (N:Int)=(N:Int):=IntWalk.i64_in _ (by have:=HN8.out;omega)
 obtain ⟨K,hK⟩:∃ K,K=cb (4+2) d:=⟨_,rfl⟩
 have HKc:Hid (1≤K∧K≤8000):=by
  rw [hK]
  rcases (show d=0 ∨ d=1 ∨ d=2 ∨ d=3 by omega) with h | h | h | h <;> rw [h] <;> exact ⟨by decide,by decide⟩
 have HK:=Lib.hid hK;have HD3:=Lib.hid hd3;clear hg hd hN hK;have HF:=Lib.hid hs
 have hm:n≤maxLen:=by unfold maxLen;omega
 have hn9:n≤1000:=by omega
 have HVn:Hid (V.length=n):=hE.1.symm.trans hn
 clear hs
 have hb:Below w.heap.size w w:=Below.refl _ _
 have HN:=Lib.hid hn;clear hn
 go_enter Tryz.func7,Tryz.ntmps7
 go_upto_region 5 with (first
  | (go_at_call 17;(with_reducible refine (fair13_t hL HN.out hm HF.out).mono ?_);rintro e w_z ⟨rfl,hh⟩
     (try replace hL:=hL.below hh);replace hb:=bend hb hh;replace hE:=EachH.belowR hE hh)
  | (go_at_call 19;(with_reducible refine (rins13 hL hE HN.out hn9 (by decide) (by decide)).mono ?_);rintro e w_i ⟨v1,M1,rfl,l1,e1,hh⟩
     (try replace hL:=hL.below hh);replace hb:=bend hb hh;replace hE:=EachH.belowR hE hh
     obtain ⟨A_x,c_x,rfl,_,_⟩:=l1.form
     have hM1:M1.length=n:=e1.1.trans HVn.out
     rw [hM1] at l1 ⊢
     have LM1:=l1.sv)
  | (go_at_call 22;(with_reducible refine (rgood13_t LM1 e1 hM1 hn9 HG.out).mono ?_);rintro e w_z ⟨rfl,hh⟩
     (try replace hL:=hL.below hh);replace hb:=bend hb hh;replace hE:=EachH.belowR hE hh;clear e1 l1 LM1)
  | (go_at_call 21;(with_reducible refine (hmany_ok (d:=d) hL hE HN.out (by decide) (by decide) (by omega) HG.out (by rw [← HK.out];exact HKc.out.2)).mono ?_);rintro e w_m ⟨v_m,b,R,rfl,hb0,lS,hR,hP,hh⟩
     (try replace hL:=hL.below hh);replace hb:=bend hb hh;replace hE:=EachH.belowR hE hh
     obtain ⟨A_m,c_m,rfl⟩:∃ A c,v_m=.slice A N c:=by
      obtain ⟨A,c,e,_⟩:=lS.form
      exact ⟨A,c,by rw [e,pl_length,← HNd.out]⟩))
 rw [← HK.out] at hP
 have S9:Hid (SV w_m A (hvs L)∧EachH HR w_m L V 4∧Below w.heap.size w w_m∧SV w_m A_m (slvs (pl b n d 0))∧RB w_m b R):=⟨hL,hE,hb,lS.sv,hR⟩
 have HP:=Lib.hid hP;clear hL hE hb lS hR hP hb0 hh
 go_wp2_with fail
 go_loopg [8] N (fun gk ix wr=>∃ (i:Nat),Hid (gk+i=N)∧ix=.int .i64 (i:Int)∧Below w_m.heap.size w_m wr)
 case atStart=>exact ⟨0,Nat.add_zero _,rfl,Below.refl _ _⟩
 case round =>
  obtain ⟨i,HGK,rfl,hB⟩:=hrel
  by_cases hin:i < N
  · have HIN:=Lib.hid hin
    obtain ⟨u,hux⟩:∃ u,(prt n d (vfn V))[i]?=some u:=⟨_,List.getElem?_eq_getElem (by rw [prt_length,← HNd.out];exact hin)⟩
    obtain ⟨gsx,osx,isx,_,csx⟩:=(S9.out.2.2.2.1.below hB).sl (pl_get b n d 0 (i) (by rw [← HNd.out];exact hin))
    obtain ⟨Lx,svx,eax,lnx⟩:=((HP.out (i) u hux).below hB).view (S9.out.2.2.2.2.below hB)
    rw [show (0+n*(i))*9=n*(i)*9 by omega] at csx
    generalize (some ⟨b,n*(i)*9,none⟩:Option Addr)=AEx at csx svx
    obtain ⟨Px,yx,hPx,hyx,px⟩:=eax.at_ (i:=0) (by rw [lnx];omega)
    obtain rfl:u (0)=yx:=by rw [li_get _ (by omega)] at hyx;exact Option.some.inj hyx
    obtain ⟨gpx,opx,ipx,epx,_⟩:=svx.ht hPx
    have HWx:Hid ((u (0)).w ≠ 0):=by
     have:=prt_pos d (vfn V) u (HG.out.vpos HVn.out) (List.mem_of_getElem? hux) (0) (by omega)
     show _ ≠ _;grind
    have hixs:∀ w',(Instr.indexAt 63 (.slice A_m N c_m) (.int .i64 (i:Int))).run Tryz.prog w'=.ok (.pointer (some ⟨gsx,osx,none⟩)) w':=fun w'=>isx N c_m w' hin
    have hixp:∀ w',(Instr.indexAt 37 (.slice AEx n n) (.int .i64 0)).run Tryz.prog w'=.ok (.pointer (some ⟨gpx,opx,none⟩)) w':=fun w'=>ipx n n w' (by omega)
    have epl:=epx.ldH
    have hlt:(i:Int) < (N:Int):=by omega
    have hwr:IntKind.i64.wrap ((i:Int)+1)=(i:Int)+1:=IntWalk.i64_in _ (by have:=HN8.out;omega)
    have hwr1:IntKind.i64.wrap ((i:Int) - 1)=(i:Int) - 1:=IntWalk.i64_in _ (by have:=HN8.out;omega)
    have hwr2:IntKind.i64.wrap ((n:Int) - 1)=(n:Int) - 1:=IntWalk.i64_in _ (by omega)
    have HX0:Hid (u 0=bez (Rat.divInt (i:Int) (N:Int)) V):=by show _=_;rw [part_first hn24 hux,part_at HNd.out,li_vfn' HVn.out]
    have HS1:Hid (decide ((u 0).px=(bez (Rat.divInt (i:Int) (N:Int)) V).px∧(u 0).py=(bez (Rat.divInt (i:Int) (N:Int)) V).py)=true):=same_pt HX0.out
    have HT:=Lib.hid (part_in HN8.out.2 HN8.out.1 (Nat.le_of_lt hin))
    have hN0:((N:Int) == 0)=false:=by have:=HN8.out;rw [beq_eq_false_iff_ne];omega
    clear isx ipx epx svx eax hPx hyx hux lnx
    go_upto_region 13 with (first
     | (go_at_call 30;(with_reducible refine (cpoint_p px.hr (by have:=HKc.out;omega) HKc.out.1 HWx.out).mono ?_);rintro e w_x ⟨s_x,A_x,n_x,c_x,B_x,m_x,d_x,t_x,E_x,i_x,e_x,F_x,j_x,f_x,rfl,x,hh⟩
        replace hB:=bend hB hh))
    clear epl csx hixs hixp px HWx
    have XX:=B6.new' w_x (Value.bool s_x) (Value.slice A_x n_x c_x) (Value.slice B_x m_x d_x) (Value.bool t_x) (Value.slice E_x i_x e_x) (Value.slice F_x j_x f_x) w_x.heap.size rfl
    have hh:Below w_x.heap.size w_x (w_x.alloc (Obj.cells #[Value.bool s_x,Value.slice A_x n_x c_x,Value.slice B_x m_x d_x,Value.bool t_x,Value.slice E_x i_x e_x,Value.slice F_x j_x f_x] 28)):=(Below.refl w_x.heap.size w_x).alloc (Nat.le_refl _) _
    generalize (w_x.alloc (Obj.cells #[Value.bool s_x,Value.slice A_x n_x c_x,Value.slice B_x m_x d_x,Value.bool t_x,Value.slice E_x i_x e_x,Value.slice F_x j_x f_x] 28))=W1 at *
    replace x:=x.below hh;replace hB:=bend hB hh;clear hh;have hL:=S9.out.1.below hB;have hE:=EachH.belowR S9.out.2.1 hB
    go_upto_region 14 with (first
     | (go_at_call 26;(with_reducible refine (rof_q (i:Int) (N:Int) (by omega) (by have:=HN8.out;omega) (by omega) (by have:=HN8.out;omega) hN0 _).mono ?_);rintro e w_h ⟨s_h,A_h,n_h,c_h,B_h,m_h,d_h,rfl,h,hh⟩
        replace x:=x.below hh;replace XX:=XX.below hh;replace hL:=hL.below hh;replace hE:=EachH.belowR hE hh;replace hB:=bend hB hh)
     | (go_at_call 25;(with_reducible refine (cat_any hL hE HN.out h.qr (by decide) (by decide) (by decide) (by decide) HG.out HT.out (by decide) (B:=300)).mono ?_);rintro e w_a ⟨s_a,A_a,n_a,c_a,B_a,m_a,d_a,t_a,E_a,i_a,e_a,F_a,j_a,f_a,rfl,a,hh⟩
        replace x:=x.below hh;replace XX:=XX.below hh;replace hB:=bend hB hh))
    clear h hL hE
    have HLx:Hid (w_x.heap.size < w_a.heap.size):=XX.lt
    have XA:=B6.new' w_a (Value.bool s_a) (Value.slice A_a n_a c_a) (Value.slice B_a m_a d_a) (Value.bool t_a) (Value.slice E_a i_a e_a) (Value.slice F_a j_a f_a) w_a.heap.size rfl
    have hh:Below w_a.heap.size w_a (w_a.alloc (Obj.cells #[Value.bool s_a,Value.slice A_a n_a c_a,Value.slice B_a m_a d_a,Value.bool t_a,Value.slice E_a i_a e_a,Value.slice F_a j_a f_a] 28)):=(Below.refl w_a.heap.size w_a).alloc (Nat.le_refl _) _
    generalize (w_a.alloc (Obj.cells #[Value.bool s_a,Value.slice A_a n_a c_a,Value.slice B_a m_a d_a,Value.bool t_a,Value.slice E_a i_a e_a,Value.slice F_a j_a f_a] 28))=W2 at *
    replace x:=x.below hh;replace a:=a.below hh;replace XX:=XX.below hh;replace hB:=bend hB hh;clear hh;have xx0:=XX.c0;have xa0:=XA.c0;have xx1:=XX.c1;have xa1:=XA.c1;have xx2:=XX.c2;have xa2:=XA.c2;have xx3:=XX.c3;have xa3:=XA.c3;have xx4:=XX.c4;have xa4:=XA.c4;have xx5:=XX.c5;have xa5:=XA.c5
    go_upto_region 16 with (first
     | (go_at_call 27;(with_reducible refine (psame_p x.pr a.pr (by have:=HKc.out;omega) (by decide) (by have:=HKc.out;omega) (by decide) true HS1.out).mono ?_);rintro e w_z ⟨rfl,hh⟩
        replace x:=x.below hh;replace XX:=XX.below hh;replace hB:=bend hB hh))
    clear a XA xx0 xa0 xx1 xa1 xx2 xa2 xx3 xa3 xx4 xa4 xx5 xa5
    by_cases hi0:i=0
    · have hgt:¬ (0:Int) < (i:Int):=by omega
      clear x XX
      go_wp2_with fail
      go_roundg (gk - 1)
      case measure=>have:=HGK.out;have:=HIN.out;omega
      case rel=>exact ⟨i+1,by have:=HGK.out;have:=HIN.out;show _=_;omega,by go_num,hB⟩
    · have hgt:(0:Int) < (i:Int):=by omega
      obtain ⟨v,huy⟩:∃ v,(prt n d (vfn V))[i - 1]?=some v:=⟨_,List.getElem?_eq_getElem (by rw [prt_length,← HNd.out];omega)⟩
      obtain ⟨gsy,osy,isy,_,csy⟩:=(S9.out.2.2.2.1.below hB).sl (pl_get b n d 0 (i - 1) (by rw [← HNd.out];omega))
      obtain ⟨Ly,svy,eay,lny⟩:=((HP.out (i - 1) v huy).below hB).view (S9.out.2.2.2.2.below hB)
      rw [show (0+n*(i - 1))*9=n*(i - 1)*9 by omega] at csy
      generalize (some ⟨b,n*(i - 1)*9,none⟩:Option Addr)=AEy at csy svy
      obtain ⟨Py,yy,hPy,hyy,py⟩:=eay.at_ (i:=n - 1) (by rw [lny];omega)
      obtain rfl:v (n - 1)=yy:=by rw [li_get _ (by omega)] at hyy;exact Option.some.inj hyy
      obtain ⟨gpy,opy,ipy,epy,_⟩:=svy.ht hPy
      have HWy:Hid ((v (n - 1)).w ≠ 0):=by
       have:=prt_pos d (vfn V) v (HG.out.vpos HVn.out) (List.mem_of_getElem? huy) (n - 1) (by omega)
       show _ ≠ _;grind
      have hixs:∀ w',(Instr.indexAt 63 (.slice A_m N c_m) (.int .i64 ((i:Int) - 1))).run Tryz.prog w'=.ok (.pointer (some ⟨gsy,osy,none⟩)) w':=fun w'=>by
       have:=isy N c_m w' (by have:=HIN.out;omega)
       rwa [show ((i - 1:Nat):Int)=(i:Int) - 1 by omega] at this
      have hixp:∀ w',(Instr.indexAt 37 (.slice AEy n n) (.int .i64 ((n:Int) - 1))).run Tryz.prog w'=.ok (.pointer (some ⟨gpy,opy,none⟩)) w':=fun w'=>by
       have:=ipy n n w' (by omega)
       rwa [show ((n - 1:Nat):Int)=(n:Int) - 1 by omega] at this
      have epl:=epy.ldH
      have HS2:Hid (decide ((u 0).px=(v (n - 1)).px∧(u 0).py=(v (n - 1)).py)=true):=same_pt (by
       rw [HX0.out,part_last hn24 huy,part_at HNd.out,li_vfn' HVn.out]
       congr 2
       have e:(i:Rat)=((i - 1+1:Nat):Rat):=by congr 1;omega
       rw [e,Rat.natCast_add]
       rfl)
      clear isy ipy epy svy eay hPy hyy huy lny
      go_upto_region 18 with (first
       | (go_at_call 30;(with_reducible refine (cpoint_p py.hr (by have:=HKc.out;omega) HKc.out.1 HWy.out).mono ?_);rintro e w_y ⟨s_y,A_y,n_y,c_y,B_y,m_y,d_y,t_y,E_y,i_y,e_y,F_y,j_y,f_y,rfl,y,hh⟩
          replace x:=x.below hh;replace XX:=XX.below hh;replace hB:=bend hB hh))
      clear epl csy hixs hixp py HWy
      have HLy:Hid (w_x.heap.size < w_y.heap.size):=XX.lt
      have XY:=B6.new' w_y (Value.bool s_y) (Value.slice A_y n_y c_y) (Value.slice B_y m_y d_y) (Value.bool t_y) (Value.slice E_y i_y e_y) (Value.slice F_y j_y f_y) w_y.heap.size rfl
      have hh:Below w_y.heap.size w_y (w_y.alloc (Obj.cells #[Value.bool s_y,Value.slice A_y n_y c_y,Value.slice B_y m_y d_y,Value.bool t_y,Value.slice E_y i_y e_y,Value.slice F_y j_y f_y] 28)):=(Below.refl w_y.heap.size w_y).alloc (Nat.le_refl _) _
      generalize (w_y.alloc (Obj.cells #[Value.bool s_y,Value.slice A_y n_y c_y,Value.slice B_y m_y d_y,Value.bool t_y,Value.slice E_y i_y e_y,Value.slice F_y j_y f_y] 28))=W3 at *
      replace x:=x.below hh;replace y:=y.below hh;replace XX:=XX.below hh;replace hB:=bend hB hh;clear hh;have xx0:=XX.c0;have xy0:=XY.c0;have xx1:=XX.c1;have xy1:=XY.c1;have xx2:=XX.c2;have xy2:=XY.c2;have xx3:=XX.c3;have xy3:=XY.c3;have xx4:=XX.c4;have xy4:=XY.c4;have xx5:=XX.c5;have xy5:=XY.c5
      go_wp2_with (first
       | (go_at_call 27;(with_reducible refine (psame_p x.pr y.pr (by have:=HKc.out;omega) (by have:=HKc.out;omega) (by have:=HKc.out;omega) (by have:=HKc.out;omega) true HS2.out).mono ?_);rintro e w_z ⟨rfl,hh⟩
          replace hB:=bend hB hh))
      clear x y XX XY xx0 xy0 xx1 xy1 xx2 xy2 xx3 xy3 xx4 xy4 xx5 xy5
      go_roundg (gk - 1)
      case measure=>have:=HGK.out;have:=HIN.out;omega
      case rel=>exact ⟨i+1,by have:=HGK.out;have:=HIN.out;show _=_;omega,by go_num,hB⟩
  · have hlt:¬ (i:Int) < (N:Int):=by omega
    have hwN1:IntKind.i64.wrap ((N:Int) - 1)=(N:Int) - 1:=IntWalk.i64_in _ (by have:=HN8.out;omega)
    have hwr2:IntKind.i64.wrap ((n:Int) - 1)=(n:Int) - 1:=IntWalk.i64_in _ (by omega)
    obtain ⟨u,huz⟩:∃ u,(prt n d (vfn V))[N - 1]?=some u:=⟨_,List.getElem?_eq_getElem (by rw [prt_length,← HNd.out];have:=HN8.out;omega)⟩
    obtain ⟨gsz,osz,isz,_,csz⟩:=(S9.out.2.2.2.1.below hB).sl (pl_get b n d 0 (N - 1) (by rw [← HNd.out];have:=HN8.out;omega))
    obtain ⟨Lz,svz,eaz,lnz⟩:=((HP.out (N - 1) u huz).below hB).view (S9.out.2.2.2.2.below hB)
    rw [show (0+n*(N - 1))*9=n*(N - 1)*9 by omega] at csz
    generalize (some ⟨b,n*(N - 1)*9,none⟩:Option Addr)=AEz at csz svz
    obtain ⟨Pz,yz,hPz,hyz,pz⟩:=eaz.at_ (i:=n - 1) (by rw [lnz];omega)
    obtain rfl:u (n - 1)=yz:=by rw [li_get _ (by omega)] at hyz;exact Option.some.inj hyz
    obtain ⟨gpz,opz,ipz,epz,_⟩:=svz.ht hPz
    have HWz:Hid ((u (n - 1)).w ≠ 0):=by
     have:=prt_pos d (vfn V) u (HG.out.vpos HVn.out) (List.mem_of_getElem? huz) (n - 1) (by omega)
     show _ ≠ _;grind
    have hixs:∀ w',(Instr.indexAt 63 (.slice A_m N c_m) (.int .i64 ((N:Int) - 1))).run Tryz.prog w'=.ok (.pointer (some ⟨gsz,osz,none⟩)) w':=fun w'=>by
     have:=isz N c_m w' (by have:=HN8.out;omega)
     rwa [show ((N - 1:Nat):Int)=(N:Int) - 1 by have:=HN8.out;omega] at this
    have hixp:∀ w',(Instr.indexAt 37 (.slice AEz n n) (.int .i64 ((n:Int) - 1))).run Tryz.prog w'=.ok (.pointer (some ⟨gpz,opz,none⟩)) w':=fun w'=>by
     have:=ipz n n w' (by omega)
     rwa [show ((n - 1:Nat):Int)=(n:Int) - 1 by omega] at this
    have epl:=epz.ldH
    obtain ⟨Q,y9,hQ,hy9,q9⟩:=(EachH.belowR S9.out.2.1 hB).at_ (i:=n - 1) (by rw [HN.out];omega)
    obtain ⟨g9,o9,i9,e9,_⟩:=(S9.out.1.below hB).ht hQ
    have hixq:∀ w',(Instr.indexAt 37 (.slice A n c) (.int .i64 ((n:Int) - 1))).run Tryz.prog w'=.ok (.pointer (some ⟨g9,o9,none⟩)) w':=fun w'=>by
     have:=i9 n c w' (by omega)
     rwa [show ((n - 1:Nat):Int)=(n:Int) - 1 by omega] at this
    have HW9:Hid (y9.w ≠ 0):=by have:=HG.out.2 _ (List.mem_of_getElem? hy9);show _ ≠ _;grind
    have HS3:Hid (decide ((u (n - 1)).px=y9.px∧(u (n - 1)).py=y9.py)=true):=same_pt (by
     rw [part_last hn24 huz,li_vfn' HVn.out]
     have e1:((N - 1:Nat):Rat)+1=(2:Rat) ^ d:=by
      have e:((N - 1:Nat):Rat)+1=((N - 1+1:Nat):Rat):=by rw [Rat.natCast_add];rfl
      rw [e,show N - 1+1=N by have:=HN8.out;omega,HNd.out]
      push_cast
      rfl
     have e2:(2:Rat) ^ d / (2:Rat) ^ d=1:=by have:=two_pow_ne d;grind
     rw [e1,e2]
     have h5:=bez_1 HG.out.1
     rw [HVn.out,hy9] at h5
     exact (Option.some.inj h5).symm)
    have hb:=bend S9.out.2.2.1 hB;clear isz ipz epz svz eaz hPz hyz huz lnz hQ hy9 i9 hB hin
    go_upto_region 21 with (first
     | (go_at_call 30;(with_reducible refine (cpoint_p pz.hr (by have:=HKc.out;omega) HKc.out.1 HWz.out).mono ?_);rintro e w_x ⟨s_x,A_x,n_x,c_x,B_x,m_x,d_x,t_x,E_x,i_x,e_x,F_x,j_x,f_x,rfl,x,hh⟩
        replace e9:=e9.below hh;replace q9:=q9.below hh;replace hb:=bend hb hh))
    clear epl csz hixs hixp pz HWz
    have XX:=B6.new' w_x (Value.bool s_x) (Value.slice A_x n_x c_x) (Value.slice B_x m_x d_x) (Value.bool t_x) (Value.slice E_x i_x e_x) (Value.slice F_x j_x f_x) w_x.heap.size rfl
    have hh:Below w_x.heap.size w_x (w_x.alloc (Obj.cells #[Value.bool s_x,Value.slice A_x n_x c_x,Value.slice B_x m_x d_x,Value.bool t_x,Value.slice E_x i_x e_x,Value.slice F_x j_x f_x] 28)):=(Below.refl w_x.heap.size w_x).alloc (Nat.le_refl _) _
    generalize (w_x.alloc (Obj.cells #[Value.bool s_x,Value.slice A_x n_x c_x,Value.slice B_x m_x d_x,Value.bool t_x,Value.slice E_x i_x e_x,Value.slice F_x j_x f_x] 28))=W1 at *
    replace x:=x.below hh;replace e9:=e9.below hh;replace q9:=q9.below hh;replace hb:=bend hb hh;clear hh;have epl:=e9.ldH
    go_upto_region 22 with (first
     | (go_at_call 30;(with_reducible refine (cpoint_p q9 (by decide) (by decide) HW9.out).mono ?_);rintro e w_y ⟨s_y,A_y,n_y,c_y,B_y,m_y,d_y,t_y,E_y,i_y,e_y,F_y,j_y,f_y,rfl,y,hh⟩
        replace x:=x.below hh;replace XX:=XX.below hh;replace hb:=bend hb hh))
    clear epl e9 q9 HW9 hixq
    have HLy:Hid (w_x.heap.size < w_y.heap.size):=XX.lt
    have XY:=B6.new' w_y (Value.bool s_y) (Value.slice A_y n_y c_y) (Value.slice B_y m_y d_y) (Value.bool t_y) (Value.slice E_y i_y e_y) (Value.slice F_y j_y f_y) w_y.heap.size rfl
    have hh:Below w_y.heap.size w_y (w_y.alloc (Obj.cells #[Value.bool s_y,Value.slice A_y n_y c_y,Value.slice B_y m_y d_y,Value.bool t_y,Value.slice E_y i_y e_y,Value.slice F_y j_y f_y] 28)):=(Below.refl w_y.heap.size w_y).alloc (Nat.le_refl _) _
    generalize (w_y.alloc (Obj.cells #[Value.bool s_y,Value.slice A_y n_y c_y,Value.slice B_y m_y d_y,Value.bool t_y,Value.slice E_y i_y e_y,Value.slice F_y j_y f_y] 28))=W3 at *
    replace x:=x.below hh;replace y:=y.below hh;replace XX:=XX.below hh;replace hb:=bend hb hh;clear hh;have xx0:=XX.c0;have xy0:=XY.c0;have xx1:=XX.c1;have xy1:=XY.c1;have xx2:=XX.c2;have xy2:=XY.c2;have xx3:=XX.c3;have xy3:=XY.c3;have xx4:=XX.c4;have xy4:=XY.c4;have xx5:=XX.c5;have xy5:=XY.c5
    go_wp2_with (first
     | (go_at_call 27;(with_reducible refine (psame_p x.pr y.pr (by have:=HKc.out;omega) (by decide) (by have:=HKc.out;omega) (by decide) true HS3.out).mono ?_);rintro e w_z ⟨rfl,hh⟩
        replace hb:=bend hb hh)
     | (go_at_call 18;(with_reducible refine (wakes14_any _).mono ?_);rintro e w_z ⟨rfl,hh⟩
        replace hb:=bend hb hh))
    (try rw [Exit.noGoto_ret])
    go_ret;exact ⟨rfl,hb⟩
end
section
open Go Go.ChangeShapes Go.WideShapes Go.ChangeAt Go.RowKit
theorem open_rat3 {H:Type} {enc:TypeId × Value→H} {base fuel:Nat} {held:Bool} {x0 x1 x2:Value} {y:DataW H × List MemPlace}
 (h:DataW.trod enc Tryz.prog w base (fun _=>true) held fuel 26 [x0,x1,x2]=some y) :
 ∃ (q:QV) (zs ys:List Int),x0=.bool q.s∧x1=.slice q.A q.n q.c∧x2=.slice q.B q.m q.d∧IsRow64 w q.A q.n q.c zs∧IsRow64 w q.B q.m q.d ys:=by
 have e0:Tryz.prog.cellsOf 24=2:=by kernel_rfl
 have e1:Tryz.prog.cellsOf 22=1:=by kernel_rfl
 have e2:Tryz.prog.cellsOf 4=1:=by kernel_rfl
 obtain ⟨z0,z1,m,hx2,_,h2,h3⟩:=trod_struct2 Tryz.underlying26 h
 simp [e0] at h2
 simp [e1] at h3
 obtain ⟨u0,u1,k,hx4,_,h6,h7⟩:=trod_struct2 Tryz.underlying24 h2
 simp [e2] at h6
 simp [e1] at h7
 obtain ⟨b,hb,_⟩:=DataW.trod_bool Tryz.underlying4 h6
 cases hb
 obtain ⟨A1,n1,c1,zs1,rfl,r1⟩:∃ A n c zs,x1=.slice A n c∧IsRow64 w A n c zs:=by
  rcases open_ints Tryz.underlying22 Tryz.underlying140 (by kernel_rfl) h7 with ⟨hcs,_⟩ | ⟨x,l,c,zs,hcs,_,hl,hm,hz,_,hcell,hwz⟩
  · exact ⟨none,0,0,[],by cases hcs;rfl,.inl ⟨rfl,rfl,rfl,rfl⟩⟩
  · exact ⟨some x,l,c,zs,by cases hcs;rfl,.inr ⟨x,rfl,hl,hm,by simpa using hz,hcell,hwz⟩⟩
 obtain ⟨A2,n2,c2,zs2,rfl,r2⟩:∃ A n c zs,x2=.slice A n c∧IsRow64 w A n c zs:=by
  rcases open_ints Tryz.underlying22 Tryz.underlying140 (by kernel_rfl) h3 with ⟨hcs,_⟩ | ⟨x,l,c,zs,hcs,_,hl,hm,hz,_,hcell,hwz⟩
  · exact ⟨none,0,0,[],by cases hcs;rfl,.inl ⟨rfl,rfl,rfl,rfl⟩⟩
  · exact ⟨some x,l,c,zs,by cases hcs;rfl,.inr ⟨x,rfl,hl,hm,by simpa using hz,hcell,hwz⟩⟩
 exact ⟨⟨_,A1,n1,c1,A2,n2,c2⟩,zs1,zs2,rfl,rfl,rfl,r1,r2⟩
end
section
open Go Go.ChangeShapes Go.WideShapes Go.ChangeAt Go.RowKit
def QV.Raw (w:World) (q:QV):Prop:=(∃ zs,IsRow64 w q.A q.n q.c zs)∧∃ zs,IsRow64 w q.B q.m q.d zs
def HV.Raw (w:World) (p:HV):Prop:=p.x.Raw w∧p.y.Raw w∧p.w.Raw w
theorem open_hom9 {H:Type} {enc:TypeId × Value→H} {base fuel:Nat} {held:Bool} {x0 x1 x2 x3 x4 x5 x6 x7 x8:Value} {y:DataW H × List MemPlace}
 (h:DataW.trod enc Tryz.prog w base (fun _=>true) held fuel 79 [x0,x1,x2,x3,x4,x5,x6,x7,x8]=some y) :
 ∃ p:HV,x0=.bool p.x.s∧x1=.slice p.x.A p.x.n p.x.c∧x2=.slice p.x.B p.x.m p.x.d∧x3=.bool p.y.s∧x4=.slice p.y.A p.y.n p.y.c∧x5=.slice p.y.B p.y.m p.y.d∧x6=.bool p.w.s∧x7=.slice p.w.A p.w.n p.w.c∧x8=.slice p.w.B p.w.m p.w.d∧p.Raw w:=by
 have e3:Tryz.prog.cellsOf 26=3:=by kernel_rfl
 obtain ⟨xs,n,_,_,_,hlen,hi⟩:=DataW.trod_struct Tryz.underlying79 h
 match xs,hlen with
 | [y0,y1,y2],_ =>
   have h0:=hi 0 _ rfl
   simp [e3] at h0
   have h1:=hi 1 _ rfl
   simp [e3] at h1
   have h2:=hi 2 _ rfl
   simp [e3] at h2
   obtain ⟨q0,z0,s0,rfl,rfl,rfl,r0,t0⟩:=open_rat3 h0
   obtain ⟨q1,z1,s1,rfl,rfl,rfl,r1,t1⟩:=open_rat3 h1
   obtain ⟨q2,z2,s2,rfl,rfl,rfl,r2,t2⟩:=open_rat3 h2
   exact ⟨⟨q0,q1,q2⟩,rfl,rfl,rfl,rfl,rfl,rfl,rfl,rfl,rfl,⟨⟨z0,r0⟩,⟨s0,t0⟩⟩,⟨⟨z1,r1⟩,⟨s1,t1⟩⟩,⟨z2,r2⟩,⟨s2,t2⟩⟩
theorem open_zhoms {H:Type} {enc:TypeId × Value→H} {base:Nat} {held:Bool} {r:Reach} {b0:Nat} {v:Value} {d:DataW H} {p:List MemPlace}
 (hv:Value.okWide Tryz.prog w r b0 37 v) (h:DataW.Trod enc Tryz.prog w base (fun _=>true) held 37 v d p) :
 ∃ (A:Option Addr) (n c:Nat) (L:List HV),v=.slice A n c∧SV w A (hvs L)∧L.length=n∧n≤c∧n≤maxLen∧∀ q ∈ L,q.Raw w:=by
 obtain ⟨A,n,c,rfl⟩:=okWide_slice Tryz.underlying37 hv
 have e9:Tryz.prog.cellsOf 79=9:=by kernel_rfl
 obtain ⟨fuel,hf⟩:=h
 rcases DataW.trod_slice Tryz.underlying37 hf with ⟨h0,_⟩ | ⟨a,len,cap,elems,rest,m,_,h0,_,hb,hl,hm,hlen,hel,_,_⟩
 · simp [Value.cells] at h0
   obtain ⟨rfl,rfl,rfl⟩:=h0
   exact ⟨none,0,0,[],rfl,SV.nil _ _,rfl,Nat.le_refl _,Nat.zero_le _,fun q hq=>by cases hq⟩
 · simp [Value.cells] at h0
   obtain ⟨rfl,rfl,rfl⟩:=h0
   rw [e9] at hel
   have each:∀ i,i < n→∃ q:HV,(∀ j u,q.cells[j]?=some u→w.cell? ((a.add (i*9)).add j)=some u)∧q.Raw w:=by
    intro i hi
    have h1:=hel i hi
    rw [List.getElem?_eq_getElem (by rw [hlen];exact hi)] at h1
    obtain ⟨cs,hc1,hc2⟩:=Option.bind_eq_some_iff.1 h1
    unfold World.cells? at hc1
    split at hc1
    · have hcl:=mapM_some_length hc1
      have hcg:=fun k (hk:k < 9)=>mapM_some_get hc1 k k (by simp [hk])
      rw [List.length_range] at hcl
      match cs,hcl with
      | [x0,x1,x2,x3,x4,x5,x6,x7,x8],_ =>
        obtain ⟨p,rfl,rfl,rfl,rfl,rfl,rfl,rfl,rfl,rfl,r1⟩:=open_hom9 hc2
        refine ⟨p,fun j u hu=>?_,r1⟩
        have hj:j < 9:=(List.getElem?_eq_some_iff.1 hu).1
        have:=hcg j hj
        rw [this];exact hu
    · cases hc1
   obtain ⟨L,hL,hq⟩:∃ L:List HV,L.length=n∧∀ i q,L[i]?=some q→(∀ j u,q.cells[j]?=some u→w.cell? ((a.add (i*9)).add j)=some u)∧q.Raw w:=by
    have:∀ m,m≤n→∃ L:List HV,L.length=m∧∀ i q,L[i]?=some q→(∀ j u,q.cells[j]?=some u→w.cell? ((a.add (i*9)).add j)=some u)∧q.Raw w:=by
     intro m
     induction m with
     | zero=>intro _;exact ⟨[],rfl,fun i q h=>by cases h⟩
     | succ m ih =>
       intro hm
       obtain ⟨L,h1,h2⟩:=ih (by omega)
       obtain ⟨q,h3⟩:=each m (by omega)
       refine ⟨L ++ [q],by rw [List.length_append,h1];rfl,fun i x hx=>?_⟩
       rcases Nat.lt_or_ge i L.length with k | k
       · rw [List.getElem?_append_left k] at hx;exact h2 i x hx
       · rw [List.getElem?_append_right k] at hx
         have:i - L.length=0:=by
          have:=(List.getElem?_eq_some_iff.1 hx).1
          simp at this;omega
         rw [this] at hx
         cases hx
         rw [show i=m by omega];exact h3
    exact this n (Nat.le_refl _)
   refine ⟨some a,n,c,L,rfl,fun hn=>?_,hL,hl,by omega,fun q hq2=>?_⟩
   · have hn0:0 < n:=by rw [show (hvs L).length=L.length*9 from rows_length hvc_len L,hL] at hn;omega
     obtain ⟨b,o,spot⟩:=a
     have hx:=(hq 0 _ (List.getElem?_eq_getElem (by rw [hL];exact hn0))).1 0 _ rfl
     have hspot:spot=none:=by simpa [Addr.add] using World.cell?_spot hx
     subst hspot
     refine ⟨b,o,rfl,?_,fun j u hu=>?_⟩
     · rw [add_at,add_at] at hx
       exact World.block_lt_of_cell? w _ hx
     · have hj:=(List.getElem?_eq_some_iff.1 hu).1
       rw [show (hvs L).length=L.length*9 from rows_length hvc_len L,hL] at hj
       obtain ⟨i,k,hk,rfl⟩:∃ i k,k < 9∧j=i*9+k:=⟨j / 9,j % 9,Nat.mod_lt _ (by decide),by omega⟩
       have hi:i < L.length:=by omega
       have hg:=List.getElem?_eq_getElem hi
       have:=(hq i _ hg).1 k u (by rw [← rows_get hvc_len hg hk];exact hu)
       rw [add_at,add_at] at this
       rwa [← Nat.add_assoc]
   · obtain ⟨i,hi⟩:=List.getElem?_of_mem hq2
     exact (hq i q hi).2
theorem raw_qr {q:QV} {M:Nat} (h:q.Raw w) (hs:q.small M):∃ v,QR w q.s q.A q.n q.c q.B q.m q.d v M:=by
 obtain ⟨⟨_,ra⟩,⟨_,ta⟩⟩:=h
 obtain ⟨l1,a1,b1,c1,_⟩:=ra.rd
 obtain ⟨l2,a2,b2,c2,_⟩:=ta.rd
 exact ⟨_,QR.of_rd a1 b1 c1 a2 b2 c2 hs.1 hs.2⟩
theorem raw_hr {p:HV} {M:Nat} (h:p.Raw w) (hs:p.small M):∃ u,HR w p u M:=by
 obtain ⟨x,hx⟩:=raw_qr h.1 hs.1
 obtain ⟨y,hy⟩:=raw_qr h.2.1 hs.2.1
 obtain ⟨z,hz⟩:=raw_qr h.2.2 hs.2.2
 exact ⟨⟨x,y,z⟩,hx,hy,hz⟩
theorem raw_eachH {M:Nat}:∀ {L:List HV},(∀ p ∈ L,p.Raw w)→(∀ p ∈ L,p.small M)→∃ l,EachH HR w L l M
 | [],_,_=>⟨[],EachH.nil⟩
 | p :: L,h,hs=>by
   obtain ⟨u,hu⟩:=raw_hr (h p List.mem_cons_self) (hs p List.mem_cons_self)
   obtain ⟨l,hl⟩:=raw_eachH (L:=L) (fun q hq=>h q (List.mem_cons_of_mem _ hq)) (fun q hq=>hs q (List.mem_cons_of_mem _ hq))
   refine ⟨u :: l,by rw [List.length_cons,List.length_cons,hl.1],fun i q v h1 h2=>?_⟩
   match i,h1,h2 with
   | 0,h1,h2=>cases h1;cases h2;exact hu
   | i+1,h1,h2=>exact hl.2 i q v h1 h2
end
section
open Go Go.RowKit
theorem law_hmny {A:Option Addr} {n c k8:Nat} {L:List HV} (hL:SV w A (hvs L)) (hn:L.length=n) (hm:n≤maxLen) (hz:∀ p ∈ L,p.Raw w) (hk8:k8≤255) :
 Calls Tryz.prog 7 #[.slice A n c,.int .u8 (k8:Int)] w fun e w'=>e=.returned (.bool true)∧Below w.heap.size w w':=by
 by_cases hs:(∀ p ∈ L,p.small 4)∧n≤6
 · obtain ⟨V,hE⟩:=raw_eachH hz hs.1
   by_cases hg:GoodH V
   · exact hmny_p hL hn hE hs hk8 hg
   · exact hmny_g hL hn hE hs hg
 · exact hmny_f hL hn hm hs
end
end Go.Proofs.YtfpaeophfcoohaaGreat
