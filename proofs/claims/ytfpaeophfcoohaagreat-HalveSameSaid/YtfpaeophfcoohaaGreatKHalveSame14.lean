/- HalveSame: part 14. -/
import Derived.Lib.SmallJoins
import Derived.OpenShut
import Derived.Test.YtfpaeophfcoohaaGreatKHalveSame0
import Derived.Test.YtfpaeophfcoohaaGreatKHalveSame9
import Derived.Test.YtfpaeophfcoohaaGreatKHalveSame11
import Derived.Test.YtfpaeophfcoohaaGreatKHalveSame12
import Derived.Test.YtfpaeophfcoohaaGreatKHalveSame13
set_option linter.unusedVariables false
set_option maxRecDepth 100000
set_option maxHeartbeats 16000000
variable {w:Go.World}
namespace Go.Proofs.YtfpaeophfcoohaaGreat
section
open Go Go.RowKit
attribute [local go_sem ↓] open_LVH open_STH open_LVJ open_STJ
theorem goodH_li {n:Nat} {v:Nat→AH} (h:2≤n∧n≤4) (hp:∀ k,k < n→0 < (v k).w):GoodH (li n v) :=
 ⟨by rw [li_length];exact h,fun u hu=>by
  obtain ⟨i,hi⟩:=List.getElem?_of_mem hu
  have hl:=(List.getElem?_eq_some_iff.1 hi).1
  rw [li_length] at hl;rw [li_get _ hl] at hi
  cases hi
  exact hp i hl⟩
theorem GoodH.vpos {V:List AH} (h:GoodH V) {n:Nat} (hn:V.length=n):∀ k,k < n→0 < (vfn V k).w:=fun k hk=>by
 obtain ⟨u,hu⟩:∃ u,V[k]?=some u:=⟨_,List.getElem?_eq_getElem (by omega)⟩
 have e:vfn V k=u:=by show V.getD k ⟨0,0,0⟩=u;rw [List.getD_eq_getElem?_getD,hu];rfl
 rw [e]
 exact h.2 u (List.mem_of_getElem? hu)
theorem GoodH.lf {V:List AH} (h:GoodH V) {n:Nat} (hn:V.length=n):GoodH (li n (lf (vfn V))) :=
 goodH_li (by rw [← hn];exact h.1) fun k hk=>nd_pos (h.vpos hn) k 0 (by omega)
theorem GoodH.rg {V:List AH} (h:GoodH V) {n:Nat} (hn:V.length=n):GoodH (li n (rg n (vfn V))) :=
 goodH_li (by rw [← hn];exact h.1) fun k hk=>nd_pos (h.vpos hn) (n - 1 - k) k (by omega)
theorem li_vfn' {V:List AH} {n:Nat} (hn:V.length=n):li n (vfn V)=V:=by subst hn;exact li_vfn V
theorem div_510 (k:Nat) (h:k≤255):Rat.divInt (k:Int) 510=Rat.divInt (k:Int) 255 / 2∧Rat.divInt (255+(k:Int)) 510=(1+Rat.divInt (k:Int) 255) / 2:=by
 have key:∀ i:Fin 256,Rat.divInt (i.val:Int) 510=Rat.divInt (i.val:Int) 255 / 2∧Rat.divInt (255+(i.val:Int)) 510=(1+Rat.divInt (i.val:Int) 255) / 2:=by decide +kernel
 exact key ⟨k,by omega⟩
theorem half_in {t:Rat} (h:0≤t∧t≤1):(0≤t / 2∧t / 2≤1)∧(0≤(1+t) / 2∧(1+t) / 2≤1):=by
 obtain ⟨h0,h1⟩:=h
 refine ⟨⟨?_,?_⟩,?_,?_⟩ <;> grind
theorem same_pt {a b:AH} (h:a=b):decide (a.px=b.px∧a.py=b.py)=true:=by subst h;simp
theorem hsame_f {A:Option Addr} {n c k8:Nat} {L:List HV} (hL:SV w A (hvs L)) (hn:L.length=n) (hm:n≤maxLen) (hf:¬ ((∀ p ∈ L,p.small 4)∧n≤6)) :
 Calls Tryz.prog 5 #[.slice A n c,.int .u8 (k8:Int)] w fun e w'=>e=.returned (.bool true)∧Below w.heap.size w w':=by
 have HF:=Lib.hid hf;clear hf
 have hb:Below w.heap.size w w:=Below.refl _ _
 have HN:=Lib.hid hn;clear hn
 go_enter Tryz.func5,Tryz.ntmps5
 go_wp2_with (first
  | (go_at_call 17;(with_reducible refine (fair13_f hL HN.out hm HF.out).mono ?_);rintro e w_z ⟨rfl,hh⟩
     replace hb:=bend hb hh)
  | (go_at_call 18;(with_reducible refine (wakes14_any _).mono ?_);rintro e w_z ⟨rfl,hh⟩
     replace hb:=bend hb hh))
 (try rw [Exit.noGoto_ret])
 go_ret;exact ⟨rfl,hb⟩
theorem hsame_g {A:Option Addr} {n c k8:Nat} {L:List HV} {V:List AH} (hL:SV w A (hvs L)) (hn:L.length=n) (hE:EachH HR w L V 4) (hs:(∀ p ∈ L,p.small 4)∧n≤6) (hg:¬ GoodH V) :
 Calls Tryz.prog 5 #[.slice A n c,.int .u8 (k8:Int)] w fun e w'=>e=.returned (.bool true)∧Below w.heap.size w w':=by
 have HG:=Lib.hid hg;clear hg;have HF:=Lib.hid hs
 have hm:n≤maxLen:=by unfold maxLen;omega
 have hn9:n≤1000:=by omega
 have HVn:Hid (V.length=n):=hE.1.symm.trans hn
 clear hs
 have hb:Below w.heap.size w w:=Below.refl _ _
 have HN:=Lib.hid hn;clear hn
 go_enter Tryz.func5,Tryz.ntmps5
 go_wp2_with (first
  | (go_at_call 17;(with_reducible refine (fair13_t hL HN.out hm HF.out).mono ?_);rintro e w_z ⟨rfl,hh⟩
     (try replace hL:=hL.below hh);replace hb:=bend hb hh;replace hE:=EachH.belowR hE hh)
  | (go_at_call 19;(with_reducible refine (rins13 hL hE HN.out hn9 (by decide) (by decide)).mono ?_);rintro e w_i ⟨v1,M1,rfl,l1,e1,hh⟩
     (try replace hL:=hL.below hh);replace hb:=bend hb hh;replace hE:=EachH.belowR hE hh
     obtain ⟨A_x,c_x,rfl,_,_⟩:=l1.form
     have hM1:M1.length=n:=e1.1.trans HVn.out
     rw [hM1] at l1 ⊢
     have LM1:=l1.sv)
  | (go_at_call 22;(with_reducible refine (rgood13_f LM1 e1 hM1 hn9 HG.out).mono ?_);rintro e w_z ⟨rfl,hh⟩
     (try replace hL:=hL.below hh);replace hb:=bend hb hh;replace hE:=EachH.belowR hE hh;clear e1 l1 LM1)
  | (go_at_call 18;(with_reducible refine (wakes14_any _).mono ?_);rintro e w_z ⟨rfl,hh⟩
     replace hb:=bend hb hh))
 (try rw [Exit.noGoto_ret])
 go_ret;exact ⟨rfl,hb⟩
theorem hsame_p {A:Option Addr} {n c k8:Nat} {L:List HV} {V:List AH} (hL:SV w A (hvs L)) (hn:L.length=n) (hE:EachH HR w L V 4) (hs:(∀ p ∈ L,p.small 4)∧n≤6) (hk8:k8≤255) (hg:GoodH V) :
 Calls Tryz.prog 5 #[.slice A n c,.int .u8 (k8:Int)] w fun e w'=>e=.returned (.bool true)∧Below w.heap.size w w':=by
 have HG:=Lib.hid hg
 have hn24:2≤n∧n≤4:=by have:=hg.1;rw [← hE.1,hn] at this;exact this
 have HC:=Lib.hid (div_255 k8 hk8)
 have HD:=Lib.hid (div_510 k8 hk8)
 have HC2:Hid (0≤Rat.divInt (k8:Int) 510∧Rat.divInt (k8:Int) 510≤1):=by show _∧_;rw [HD.out.1];exact (half_in HC.out).1
 have HC3:Hid (0≤Rat.divInt (255+(k8:Int)) 510∧Rat.divInt (255+(k8:Int)) 510≤1):=by show _∧_;rw [HD.out.2];exact (half_in HC.out).2
 have HT0:Hid (0≤Rat.divInt 0 1∧Rat.divInt 0 1≤1):=by show _∧_;decide +kernel
 have HT1:Hid (0≤Rat.divInt 1 1∧Rat.divInt 1 1≤1):=by show _∧_;decide +kernel
 clear hg;have HF:=Lib.hid hs
 have hm:n≤maxLen:=by unfold maxLen;omega
 have hn9:n≤1000:=by omega
 have HVn:Hid (V.length=n):=hE.1.symm.trans hn
 clear hs
 have HGL:=Lib.hid (HG.out.lf HVn.out)
 have HGR:=Lib.hid (HG.out.rg HVn.out)
 have HS1:Hid (decide ((bez (Rat.divInt (k8:Int) 255) (li n (lf (vfn V)))).px=(bez (Rat.divInt (k8:Int) 510) V).px∧(bez (Rat.divInt (k8:Int) 255) (li n (lf (vfn V)))).py=(bez (Rat.divInt (k8:Int) 510) V).py)=true):=same_pt (by rw [bez_lf hn24,← HD.out.1,li_vfn' HVn.out])
 have HS2:Hid (decide ((bez (Rat.divInt (k8:Int) 255) (li n (rg n (vfn V)))).px=(bez (Rat.divInt (255+(k8:Int)) 510) V).px∧(bez (Rat.divInt (k8:Int) 255) (li n (rg n (vfn V)))).py=(bez (Rat.divInt (255+(k8:Int)) 510) V).py)=true):=same_pt (by rw [bez_rg hn24,← HD.out.2,li_vfn' HVn.out])
 have HS3:Hid (decide ((bez (Rat.divInt 1 1) (li n (lf (vfn V)))).px=(bez (Rat.divInt 0 1) (li n (rg n (vfn V)))).px∧(bez (Rat.divInt 1 1) (li n (lf (vfn V)))).py=(bez (Rat.divInt 0 1) (li n (rg n (vfn V)))).py)=true):=same_pt (by rw [bez_lf hn24,bez_rg hn24,one_q,zero_q];congr 1;grind)
 have hwk:IntKind.i64.wrap (k8:Int)=(k8:Int):=IntWalk.i64_in _ (by omega)
 have hwk2:IntKind.i64.wrap (255+(k8:Int))=255+(k8:Int):=IntWalk.i64_in _ (by omega)
 have hb:Below w.heap.size w w:=Below.refl _ _
 have HN:=Lib.hid hn;clear hn
 go_enter Tryz.func5,Tryz.ntmps5
 go_upto_region 7 with (first
  | (go_at_call 17;(with_reducible refine (fair13_t hL HN.out hm HF.out).mono ?_);rintro e w_z ⟨rfl,hh⟩
     (try replace hL:=hL.below hh);replace hb:=bend hb hh;replace hE:=EachH.belowR hE hh)
  | (go_at_call 19;(with_reducible refine (rins13 hL hE HN.out hn9 (by decide) (by decide)).mono ?_);rintro e w_i ⟨v1,M1,rfl,l1,e1,hh⟩
     (try replace hL:=hL.below hh);replace hb:=bend hb hh;replace hE:=EachH.belowR hE hh
     obtain ⟨A_x,c_x,rfl,_,_⟩:=l1.form
     have hM1:M1.length=n:=e1.1.trans HVn.out
     rw [hM1] at l1 ⊢
     have LM1:=l1.sv)
  | (go_at_call 22;(with_reducible refine (rgood13_t LM1 e1 hM1 hn9 HG.out).mono ?_);rintro e w_z ⟨rfl,hh⟩
     (try replace hL:=hL.below hh);replace hb:=bend hb hh;replace hE:=EachH.belowR hE hh;clear e1 l1 LM1)
  | (go_at_call 20;(with_reducible refine (hCut_ok hL hE HN.out (by decide) (by decide) HG.out).mono ?_);rintro e w_c ⟨AL,AR,LL,LR,rfl,sL,eL,nL,sR,eR,nR,hh⟩
     (try replace hL:=hL.below hh);replace hb:=bend hb hh;replace hE:=EachH.belowR hE hh))
 replace eL:=eL.hr;replace eR:=eR.hr
 go_upto_region 8 with (first
  | (go_at_call 26;(with_reducible refine (rof_q (k8:Int) 255 (by omega) (by omega) (by decide) (by decide) (by decide) _).mono ?_);rintro e w_h ⟨s_h,A_h,n_h,c_h,B_h,m_h,d_h,rfl,h,hh⟩
     (try replace hL:=hL.below hh);(try replace sL:=sL.below hh);(try replace sR:=sR.below hh);replace hb:=bend hb hh;replace hE:=EachH.belowR hE hh;replace eL:=EachH.belowR eL hh;replace eR:=EachH.belowR eR hh)
  | (go_at_call 25;(with_reducible refine (cat_any sL eL nL h.qr (by decide) (by decide) (by decide) (by decide) HGL.out HC.out (by decide) (B:=4000)).mono ?_);rintro e w_a ⟨s_a,A_a,n_a,c_a,B_a,m_a,d_a,t_a,E_a,i_a,e_a,F_a,j_a,f_a,rfl,a,hh⟩
     (try replace hL:=hL.below hh);(try replace sL:=sL.below hh);(try replace sR:=sR.below hh);replace hb:=bend hb hh;replace hE:=EachH.belowR hE hh;replace eL:=EachH.belowR eL hh;replace eR:=EachH.belowR eR hh))
 clear h
 have XA:=B6.new' w_a (Value.bool s_a) (Value.slice A_a n_a c_a) (Value.slice B_a m_a d_a) (Value.bool t_a) (Value.slice E_a i_a e_a) (Value.slice F_a j_a f_a) w_a.heap.size rfl
 have hh:Below w_a.heap.size w_a (w_a.alloc (Obj.cells #[Value.bool s_a,Value.slice A_a n_a c_a,Value.slice B_a m_a d_a,Value.bool t_a,Value.slice E_a i_a e_a,Value.slice F_a j_a f_a] 28)):=(Below.refl w_a.heap.size w_a).alloc (Nat.le_refl _) _
 generalize (w_a.alloc (Obj.cells #[Value.bool s_a,Value.slice A_a n_a c_a,Value.slice B_a m_a d_a,Value.bool t_a,Value.slice E_a i_a e_a,Value.slice F_a j_a f_a] 28))=W1 at *
 replace hL:=hL.below hh;replace sL:=sL.below hh;replace sR:=sR.below hh;replace a:=a.below hh;replace hE:=EachH.belowR hE hh;replace eL:=EachH.belowR eL hh;replace eR:=EachH.belowR eR hh;replace hb:=bend hb hh;clear hh
 go_upto_region 9 with (first
  | (go_at_call 26;(with_reducible refine (rof_q (k8:Int) 510 (by omega) (by omega) (by decide) (by decide) (by decide) _).mono ?_);rintro e w_h ⟨s_h,A_h,n_h,c_h,B_h,m_h,d_h,rfl,h,hh⟩
     (try replace hL:=hL.below hh);(try replace sL:=sL.below hh);(try replace sR:=sR.below hh);(try replace a:=a.below hh);(try replace XA:=XA.below hh);replace hb:=bend hb hh;replace hE:=EachH.belowR hE hh;replace eL:=EachH.belowR eL hh;replace eR:=EachH.belowR eR hh)
  | (go_at_call 25;(with_reducible refine (cat_any hL hE HN.out h.qr (by decide) (by decide) (by decide) (by decide) HG.out HC2.out (by decide) (B:=4000)).mono ?_);rintro e w_b ⟨s_b,A_b,n_b,c_b,B_b,m_b,d_b,t_b,E_b,i_b,e_b,F_b,j_b,f_b,rfl,b,hh⟩
     (try replace hL:=hL.below hh);(try replace sL:=sL.below hh);(try replace sR:=sR.below hh);(try replace a:=a.below hh);(try replace XA:=XA.below hh);replace hb:=bend hb hh;replace hE:=EachH.belowR hE hh;replace eL:=EachH.belowR eL hh;replace eR:=EachH.belowR eR hh))
 clear h
 have XB:=B6.new' w_b (Value.bool s_b) (Value.slice A_b n_b c_b) (Value.slice B_b m_b d_b) (Value.bool t_b) (Value.slice E_b i_b e_b) (Value.slice F_b j_b f_b) w_b.heap.size rfl
 have hh:Below w_b.heap.size w_b (w_b.alloc (Obj.cells #[Value.bool s_b,Value.slice A_b n_b c_b,Value.slice B_b m_b d_b,Value.bool t_b,Value.slice E_b i_b e_b,Value.slice F_b j_b f_b] 28)):=(Below.refl w_b.heap.size w_b).alloc (Nat.le_refl _) _
 generalize (w_b.alloc (Obj.cells #[Value.bool s_b,Value.slice A_b n_b c_b,Value.slice B_b m_b d_b,Value.bool t_b,Value.slice E_b i_b e_b,Value.slice F_b j_b f_b] 28))=W2 at *
 replace hL:=hL.below hh;replace sL:=sL.below hh;replace sR:=sR.below hh;replace a:=a.below hh;replace XA:=XA.below hh;replace b:=b.below hh;replace hE:=EachH.belowR hE hh;replace eL:=EachH.belowR eL hh;replace eR:=EachH.belowR eR hh;replace hb:=bend hb hh;clear hh
 go_upto_region 10 with (first
  | (go_at_call 26;(with_reducible refine (rof_q (k8:Int) 255 (by omega) (by omega) (by decide) (by decide) (by decide) _).mono ?_);rintro e w_h ⟨s_h,A_h,n_h,c_h,B_h,m_h,d_h,rfl,h,hh⟩
     (try replace hL:=hL.below hh);(try replace sL:=sL.below hh);(try replace sR:=sR.below hh);(try replace a:=a.below hh);(try replace XA:=XA.below hh);(try replace b:=b.below hh);(try replace XB:=XB.below hh);replace hb:=bend hb hh;replace hE:=EachH.belowR hE hh;replace eL:=EachH.belowR eL hh;replace eR:=EachH.belowR eR hh)
  | (go_at_call 25;(with_reducible refine (cat_any sR eR nR h.qr (by decide) (by decide) (by decide) (by decide) HGR.out HC.out (by decide) (B:=4000)).mono ?_);rintro e w_f ⟨s_f,A_f,n_f,c_f,B_f,m_f,d_f,t_f,E_f,i_f,e_f,F_f,j_f,f_f,rfl,f,hh⟩
     (try replace hL:=hL.below hh);(try replace sL:=sL.below hh);(try replace sR:=sR.below hh);(try replace a:=a.below hh);(try replace XA:=XA.below hh);(try replace b:=b.below hh);(try replace XB:=XB.below hh);replace hb:=bend hb hh;replace hE:=EachH.belowR hE hh;replace eL:=EachH.belowR eL hh;replace eR:=EachH.belowR eR hh))
 clear h
 have XF:=B6.new' w_f (Value.bool s_f) (Value.slice A_f n_f c_f) (Value.slice B_f m_f d_f) (Value.bool t_f) (Value.slice E_f i_f e_f) (Value.slice F_f j_f f_f) w_f.heap.size rfl
 have hh:Below w_f.heap.size w_f (w_f.alloc (Obj.cells #[Value.bool s_f,Value.slice A_f n_f c_f,Value.slice B_f m_f d_f,Value.bool t_f,Value.slice E_f i_f e_f,Value.slice F_f j_f f_f] 28)):=(Below.refl w_f.heap.size w_f).alloc (Nat.le_refl _) _
 generalize (w_f.alloc (Obj.cells #[Value.bool s_f,Value.slice A_f n_f c_f,Value.slice B_f m_f d_f,Value.bool t_f,Value.slice E_f i_f e_f,Value.slice F_f j_f f_f] 28))=W3 at *
 replace hL:=hL.below hh;replace sL:=sL.below hh;replace sR:=sR.below hh;replace a:=a.below hh;replace XA:=XA.below hh;replace b:=b.below hh;replace XB:=XB.below hh;replace f:=f.below hh;replace hE:=EachH.belowR hE hh;replace eL:=EachH.belowR eL hh;replace eR:=EachH.belowR eR hh;replace hb:=bend hb hh;clear hh
 go_upto_region 11 with (first
  | (go_at_call 26;(with_reducible refine (rof_q (255+(k8:Int)) 510 (by omega) (by omega) (by decide) (by decide) (by decide) _).mono ?_);rintro e w_h ⟨s_h,A_h,n_h,c_h,B_h,m_h,d_h,rfl,h,hh⟩
     (try replace hL:=hL.below hh);(try replace sL:=sL.below hh);(try replace sR:=sR.below hh);(try replace a:=a.below hh);(try replace XA:=XA.below hh);(try replace b:=b.below hh);(try replace XB:=XB.below hh);(try replace f:=f.below hh);(try replace XF:=XF.below hh);replace hb:=bend hb hh;replace hE:=EachH.belowR hE hh;replace eL:=EachH.belowR eL hh;replace eR:=EachH.belowR eR hh)
  | (go_at_call 25;(with_reducible refine (cat_any hL hE HN.out h.qr (by decide) (by decide) (by decide) (by decide) HG.out HC3.out (by decide) (B:=4000)).mono ?_);rintro e w_g ⟨s_g,A_g,n_g,c_g,B_g,m_g,d_g,t_g,E_g,i_g,e_g,F_g,j_g,f_g,rfl,g,hh⟩
     (try replace hL:=hL.below hh);(try replace sL:=sL.below hh);(try replace sR:=sR.below hh);(try replace a:=a.below hh);(try replace XA:=XA.below hh);(try replace b:=b.below hh);(try replace XB:=XB.below hh);(try replace f:=f.below hh);(try replace XF:=XF.below hh);replace hb:=bend hb hh;replace hE:=EachH.belowR hE hh;replace eL:=EachH.belowR eL hh;replace eR:=EachH.belowR eR hh))
 clear h
 have XG:=B6.new' w_g (Value.bool s_g) (Value.slice A_g n_g c_g) (Value.slice B_g m_g d_g) (Value.bool t_g) (Value.slice E_g i_g e_g) (Value.slice F_g j_g f_g) w_g.heap.size rfl
 have hh:Below w_g.heap.size w_g (w_g.alloc (Obj.cells #[Value.bool s_g,Value.slice A_g n_g c_g,Value.slice B_g m_g d_g,Value.bool t_g,Value.slice E_g i_g e_g,Value.slice F_g j_g f_g] 28)):=(Below.refl w_g.heap.size w_g).alloc (Nat.le_refl _) _
 generalize (w_g.alloc (Obj.cells #[Value.bool s_g,Value.slice A_g n_g c_g,Value.slice B_g m_g d_g,Value.bool t_g,Value.slice E_g i_g e_g,Value.slice F_g j_g f_g] 28))=W4 at *
 replace hL:=hL.below hh;replace sL:=sL.below hh;replace sR:=sR.below hh;replace a:=a.below hh;replace XA:=XA.below hh;replace b:=b.below hh;replace XB:=XB.below hh;replace f:=f.below hh;replace XF:=XF.below hh;replace g:=g.below hh;replace hE:=EachH.belowR hE hh;replace eL:=EachH.belowR eL hh;replace eR:=EachH.belowR eR hh;replace hb:=bend hb hh;clear hh
 go_upto_region 12 with (first
  | (go_at_call 26;(with_reducible refine (rof_q 1 1 (by decide) (by decide) (by decide) (by decide) (by decide) _).mono ?_);rintro e w_h ⟨s_h,A_h,n_h,c_h,B_h,m_h,d_h,rfl,h,hh⟩
     (try replace hL:=hL.below hh);(try replace sL:=sL.below hh);(try replace sR:=sR.below hh);(try replace a:=a.below hh);(try replace XA:=XA.below hh);(try replace b:=b.below hh);(try replace XB:=XB.below hh);(try replace f:=f.below hh);(try replace XF:=XF.below hh);(try replace g:=g.below hh);(try replace XG:=XG.below hh);replace hb:=bend hb hh;replace hE:=EachH.belowR hE hh;replace eL:=EachH.belowR eL hh;replace eR:=EachH.belowR eR hh)
  | (go_at_call 25;(with_reducible refine (cat_any sL eL nL h.qr (by decide) (by decide) (by decide) (by decide) HGL.out HT1.out (by decide) (B:=4000)).mono ?_);rintro e w_x ⟨s_x,A_x,n_x,c_x,B_x,m_x,d_x,t_x,E_x,i_x,e_x,F_x,j_x,f_x,rfl,x,hh⟩
     (try replace hL:=hL.below hh);(try replace sL:=sL.below hh);(try replace sR:=sR.below hh);(try replace a:=a.below hh);(try replace XA:=XA.below hh);(try replace b:=b.below hh);(try replace XB:=XB.below hh);(try replace f:=f.below hh);(try replace XF:=XF.below hh);(try replace g:=g.below hh);(try replace XG:=XG.below hh);replace hb:=bend hb hh;replace hE:=EachH.belowR hE hh;replace eL:=EachH.belowR eL hh;replace eR:=EachH.belowR eR hh))
 clear h
 have XX:=B6.new' w_x (Value.bool s_x) (Value.slice A_x n_x c_x) (Value.slice B_x m_x d_x) (Value.bool t_x) (Value.slice E_x i_x e_x) (Value.slice F_x j_x f_x) w_x.heap.size rfl
 have hh:Below w_x.heap.size w_x (w_x.alloc (Obj.cells #[Value.bool s_x,Value.slice A_x n_x c_x,Value.slice B_x m_x d_x,Value.bool t_x,Value.slice E_x i_x e_x,Value.slice F_x j_x f_x] 28)):=(Below.refl w_x.heap.size w_x).alloc (Nat.le_refl _) _
 generalize (w_x.alloc (Obj.cells #[Value.bool s_x,Value.slice A_x n_x c_x,Value.slice B_x m_x d_x,Value.bool t_x,Value.slice E_x i_x e_x,Value.slice F_x j_x f_x] 28))=W5 at *
 replace hL:=hL.below hh;replace sL:=sL.below hh;replace sR:=sR.below hh;replace a:=a.below hh;replace XA:=XA.below hh;replace b:=b.below hh;replace XB:=XB.below hh;replace f:=f.below hh;replace XF:=XF.below hh;replace g:=g.below hh;replace XG:=XG.below hh;replace x:=x.below hh;replace hE:=EachH.belowR hE hh;replace eL:=EachH.belowR eL hh;replace eR:=EachH.belowR eR hh;replace hb:=bend hb hh;clear hh
 go_upto_region 13 with (first
  | (go_at_call 26;(with_reducible refine (rof_q 0 1 (by decide) (by decide) (by decide) (by decide) (by decide) _).mono ?_);rintro e w_h ⟨s_h,A_h,n_h,c_h,B_h,m_h,d_h,rfl,h,hh⟩
     (try replace hL:=hL.below hh);(try replace sL:=sL.below hh);(try replace sR:=sR.below hh);(try replace a:=a.below hh);(try replace XA:=XA.below hh);(try replace b:=b.below hh);(try replace XB:=XB.below hh);(try replace f:=f.below hh);(try replace XF:=XF.below hh);(try replace g:=g.below hh);(try replace XG:=XG.below hh);(try replace x:=x.below hh);(try replace XX:=XX.below hh);replace hb:=bend hb hh;replace hE:=EachH.belowR hE hh;replace eL:=EachH.belowR eL hh;replace eR:=EachH.belowR eR hh)
  | (go_at_call 25;(with_reducible refine (cat_any sR eR nR h.qr (by decide) (by decide) (by decide) (by decide) HGR.out HT0.out (by decide) (B:=4000)).mono ?_);rintro e w_y ⟨s_y,A_y,n_y,c_y,B_y,m_y,d_y,t_y,E_y,i_y,e_y,F_y,j_y,f_y,rfl,y,hh⟩
     (try replace hL:=hL.below hh);(try replace sL:=sL.below hh);(try replace sR:=sR.below hh);(try replace a:=a.below hh);(try replace XA:=XA.below hh);(try replace b:=b.below hh);(try replace XB:=XB.below hh);(try replace f:=f.below hh);(try replace XF:=XF.below hh);(try replace g:=g.below hh);(try replace XG:=XG.below hh);(try replace x:=x.below hh);(try replace XX:=XX.below hh);replace hb:=bend hb hh;replace hE:=EachH.belowR hE hh;replace eL:=EachH.belowR eL hh;replace eR:=EachH.belowR eR hh))
 clear h
 have XY:=B6.new' w_y (Value.bool s_y) (Value.slice A_y n_y c_y) (Value.slice B_y m_y d_y) (Value.bool t_y) (Value.slice E_y i_y e_y) (Value.slice F_y j_y f_y) w_y.heap.size rfl
 have hh:Below w_y.heap.size w_y (w_y.alloc (Obj.cells #[Value.bool s_y,Value.slice A_y n_y c_y,Value.slice B_y m_y d_y,Value.bool t_y,Value.slice E_y i_y e_y,Value.slice F_y j_y f_y] 28)):=(Below.refl w_y.heap.size w_y).alloc (Nat.le_refl _) _
 generalize (w_y.alloc (Obj.cells #[Value.bool s_y,Value.slice A_y n_y c_y,Value.slice B_y m_y d_y,Value.bool t_y,Value.slice E_y i_y e_y,Value.slice F_y j_y f_y] 28))=W6 at *
 replace hL:=hL.below hh;replace sL:=sL.below hh;replace sR:=sR.below hh;replace a:=a.below hh;replace XA:=XA.below hh;replace b:=b.below hh;replace XB:=XB.below hh;replace f:=f.below hh;replace XF:=XF.below hh;replace g:=g.below hh;replace XG:=XG.below hh;replace x:=x.below hh;replace XX:=XX.below hh;replace y:=y.below hh;replace hE:=EachH.belowR hE hh;replace eL:=EachH.belowR eL hh;replace eR:=EachH.belowR eR hh;replace hb:=bend hb hh;clear hh;obtain ⟨xa0,xa1,xa2,xa3,xa4,xa5⟩:=XA.all;obtain ⟨xb0,xb1,xb2,xb3,xb4,xb5⟩:=XB.all;obtain ⟨xf0,xf1,xf2,xf3,xf4,xf5⟩:=XF.all;obtain ⟨xg0,xg1,xg2,xg3,xg4,xg5⟩:=XG.all;obtain ⟨xx0,xx1,xx2,xx3,xx4,xx5⟩:=XX.all;obtain ⟨xy0,xy1,xy2,xy3,xy4,xy5⟩:=XY.all
 go_wp2_with (first
  | (go_at_call 27;(with_reducible refine (psame_p a.pr b.pr (by decide) (by decide) (by decide) (by decide) true HS1.out).mono ?_);rintro e w_z ⟨rfl,hh⟩
     (try replace a:=a.below hh);(try replace b:=b.below hh);(try replace x:=x.below hh);(try replace y:=y.below hh);(try replace f:=f.below hh);(try replace g:=g.below hh);(try replace XA:=XA.below hh);(try replace XB:=XB.below hh);(try replace XF:=XF.below hh);(try replace XG:=XG.below hh);(try replace XX:=XX.below hh);(try replace XY:=XY.below hh);replace hb:=bend hb hh;obtain ⟨xa0,xa1,xa2,xa3,xa4,xa5⟩:=XA.all;obtain ⟨xb0,xb1,xb2,xb3,xb4,xb5⟩:=XB.all;obtain ⟨xf0,xf1,xf2,xf3,xf4,xf5⟩:=XF.all;obtain ⟨xg0,xg1,xg2,xg3,xg4,xg5⟩:=XG.all;obtain ⟨xx0,xx1,xx2,xx3,xx4,xx5⟩:=XX.all;obtain ⟨xy0,xy1,xy2,xy3,xy4,xy5⟩:=XY.all)
  | (go_at_call 27;(with_reducible refine (psame_p f.pr g.pr (by decide) (by decide) (by decide) (by decide) true HS2.out).mono ?_);rintro e w_z ⟨rfl,hh⟩
     (try replace a:=a.below hh);(try replace b:=b.below hh);(try replace x:=x.below hh);(try replace y:=y.below hh);(try replace f:=f.below hh);(try replace g:=g.below hh);(try replace XA:=XA.below hh);(try replace XB:=XB.below hh);(try replace XF:=XF.below hh);(try replace XG:=XG.below hh);(try replace XX:=XX.below hh);(try replace XY:=XY.below hh);replace hb:=bend hb hh;obtain ⟨xa0,xa1,xa2,xa3,xa4,xa5⟩:=XA.all;obtain ⟨xb0,xb1,xb2,xb3,xb4,xb5⟩:=XB.all;obtain ⟨xf0,xf1,xf2,xf3,xf4,xf5⟩:=XF.all;obtain ⟨xg0,xg1,xg2,xg3,xg4,xg5⟩:=XG.all;obtain ⟨xx0,xx1,xx2,xx3,xx4,xx5⟩:=XX.all;obtain ⟨xy0,xy1,xy2,xy3,xy4,xy5⟩:=XY.all)
  | (go_at_call 27;(with_reducible refine (psame_p x.pr y.pr (by decide) (by decide) (by decide) (by decide) true HS3.out).mono ?_);rintro e w_z ⟨rfl,hh⟩
     (try replace a:=a.below hh);(try replace b:=b.below hh);(try replace x:=x.below hh);(try replace y:=y.below hh);(try replace f:=f.below hh);(try replace g:=g.below hh);(try replace XA:=XA.below hh);(try replace XB:=XB.below hh);(try replace XF:=XF.below hh);(try replace XG:=XG.below hh);(try replace XX:=XX.below hh);(try replace XY:=XY.below hh);replace hb:=bend hb hh)
  | (go_at_call 18;(with_reducible refine (wakes14_any _).mono ?_);rintro e w_z ⟨rfl,hh⟩
     replace hb:=bend hb hh))
 (try rw [Exit.noGoto_ret])
 go_ret;exact ⟨rfl,hb⟩
end
section
open Go Go.ChangeShapes Go.WideShapes Go.ChangeAt Go.RowKit
theorem open_rat3 {H:Type} {enc:TypeId × Value→H} {base fuel:Nat} {held:Bool} {x0 x1 x2:Value} {y:DataW H × List MemPlace}
 (h:DataW.trod enc Tryz.prog w base (fun _=>true) held fuel 26 [x0,x1,x2]=some y) :
 ∃ (q:QV) (zs ys:List Int),x0=.bool q.s∧x1=.slice q.A q.n q.c∧x2=.slice q.B q.m q.d∧IsRow64 w q.A q.n q.c zs∧IsRow64 w q.B q.m q.d ys:=by
 have e0:Tryz.prog.cellsOf 24=2:=by kernel_rfl
 have e1:Tryz.prog.cellsOf 22=1:=by kernel_rfl
 have e2:Tryz.prog.cellsOf 4=1:=by kernel_rfl
 obtain ⟨z0,z1,m,hx2,_,h2,h3⟩:=trod_struct2 Tryz.underlying26 h
 simp [e0] at h2
 simp [e1] at h3
 obtain ⟨u0,u1,k,hx4,_,h6,h7⟩:=trod_struct2 Tryz.underlying24 h2
 simp [e2] at h6
 simp [e1] at h7
 obtain ⟨b,hb,_⟩:=DataW.trod_bool Tryz.underlying4 h6
 cases hb
 obtain ⟨A1,n1,c1,zs1,rfl,r1⟩:∃ A n c zs,x1=.slice A n c∧IsRow64 w A n c zs:=by
  rcases open_ints Tryz.underlying22 Tryz.underlying140 (by kernel_rfl) h7 with ⟨hcs,_⟩ | ⟨x,l,c,zs,hcs,_,hl,hm,hz,_,hcell,hwz⟩
  · exact ⟨none,0,0,[],by cases hcs;rfl,.inl ⟨rfl,rfl,rfl,rfl⟩⟩
  · exact ⟨some x,l,c,zs,by cases hcs;rfl,.inr ⟨x,rfl,hl,hm,by simpa using hz,hcell,hwz⟩⟩
 obtain ⟨A2,n2,c2,zs2,rfl,r2⟩:∃ A n c zs,x2=.slice A n c∧IsRow64 w A n c zs:=by
  rcases open_ints Tryz.underlying22 Tryz.underlying140 (by kernel_rfl) h3 with ⟨hcs,_⟩ | ⟨x,l,c,zs,hcs,_,hl,hm,hz,_,hcell,hwz⟩
  · exact ⟨none,0,0,[],by cases hcs;rfl,.inl ⟨rfl,rfl,rfl,rfl⟩⟩
  · exact ⟨some x,l,c,zs,by cases hcs;rfl,.inr ⟨x,rfl,hl,hm,by simpa using hz,hcell,hwz⟩⟩
 exact ⟨⟨_,A1,n1,c1,A2,n2,c2⟩,zs1,zs2,rfl,rfl,rfl,r1,r2⟩
end
section
open Go Go.ChangeShapes Go.WideShapes Go.ChangeAt Go.RowKit
def QV.Raw (w:World) (q:QV):Prop:=(∃ zs,IsRow64 w q.A q.n q.c zs)∧∃ zs,IsRow64 w q.B q.m q.d zs
def HV.Raw (w:World) (p:HV):Prop:=p.x.Raw w∧p.y.Raw w∧p.w.Raw w
theorem open_hom9 {H:Type} {enc:TypeId × Value→H} {base fuel:Nat} {held:Bool} {x0 x1 x2 x3 x4 x5 x6 x7 x8:Value} {y:DataW H × List MemPlace}
 (h:DataW.trod enc Tryz.prog w base (fun _=>true) held fuel 79 [x0,x1,x2,x3,x4,x5,x6,x7,x8]=some y) :
 ∃ p:HV,x0=.bool p.x.s∧x1=.slice p.x.A p.x.n p.x.c∧x2=.slice p.x.B p.x.m p.x.d∧x3=.bool p.y.s∧x4=.slice p.y.A p.y.n p.y.c∧x5=.slice p.y.B p.y.m p.y.d∧x6=.bool p.w.s∧x7=.slice p.w.A p.w.n p.w.c∧x8=.slice p.w.B p.w.m p.w.d∧p.Raw w:=by
 have e3:Tryz.prog.cellsOf 26=3:=by kernel_rfl
 obtain ⟨xs,n,_,_,_,hlen,hi⟩:=DataW.trod_struct Tryz.underlying79 h
 match xs,hlen with
 | [y0,y1,y2],_ =>
   have h0:=hi 0 _ rfl
   simp [e3] at h0
   have h1:=hi 1 _ rfl
   simp [e3] at h1
   have h2:=hi 2 _ rfl
   simp [e3] at h2
   obtain ⟨q0,z0,s0,rfl,rfl,rfl,r0,t0⟩:=open_rat3 h0
   obtain ⟨q1,z1,s1,rfl,rfl,rfl,r1,t1⟩:=open_rat3 h1
   obtain ⟨q2,z2,s2,rfl,rfl,rfl,r2,t2⟩:=open_rat3 h2
   exact ⟨⟨q0,q1,q2⟩,rfl,rfl,rfl,rfl,rfl,rfl,rfl,rfl,rfl,⟨⟨z0,r0⟩,⟨s0,t0⟩⟩,⟨⟨z1,r1⟩,⟨s1,t1⟩⟩,⟨z2,r2⟩,⟨s2,t2⟩⟩
theorem open_zhoms {H:Type} {enc:TypeId × Value→H} {base:Nat} {held:Bool} {r:Reach} {b0:Nat} {v:Value} {d:DataW H} {p:List MemPlace}
 (hv:Value.okWide Tryz.prog w r b0 37 v) (h:DataW.Trod enc Tryz.prog w base (fun _=>true) held 37 v d p) :
 ∃ (A:Option Addr) (n c:Nat) (L:List HV),v=.slice A n c∧SV w A (hvs L)∧L.length=n∧n≤c∧n≤maxLen∧∀ q ∈ L,q.Raw w:=by
 obtain ⟨A,n,c,rfl⟩:=okWide_slice Tryz.underlying37 hv
 have e9:Tryz.prog.cellsOf 79=9:=by kernel_rfl
 obtain ⟨fuel,hf⟩:=h
 rcases DataW.trod_slice Tryz.underlying37 hf with ⟨h0,_⟩ | ⟨a,len,cap,elems,rest,m,_,h0,_,hb,hl,hm,hlen,hel,_,_⟩
 · simp [Value.cells] at h0
   obtain ⟨rfl,rfl,rfl⟩:=h0
   exact ⟨none,0,0,[],rfl,SV.nil _ _,rfl,Nat.le_refl _,Nat.zero_le _,fun q hq=>by cases hq⟩
 · simp [Value.cells] at h0
   obtain ⟨rfl,rfl,rfl⟩:=h0
   rw [e9] at hel
   have each:∀ i,i < n→∃ q:HV,(∀ j u,q.cells[j]?=some u→w.cell? ((a.add (i*9)).add j)=some u)∧q.Raw w:=by
    intro i hi
    have h1:=hel i hi
    rw [List.getElem?_eq_getElem (by rw [hlen];exact hi)] at h1
    obtain ⟨cs,hc1,hc2⟩:=Option.bind_eq_some_iff.1 h1
    unfold World.cells? at hc1
    split at hc1
    · have hcl:=mapM_some_length hc1
      have hcg:=fun k (hk:k < 9)=>mapM_some_get hc1 k k (by simp [hk])
      rw [List.length_range] at hcl
      match cs,hcl with
      | [x0,x1,x2,x3,x4,x5,x6,x7,x8],_ =>
        obtain ⟨p,rfl,rfl,rfl,rfl,rfl,rfl,rfl,rfl,rfl,r1⟩:=open_hom9 hc2
        refine ⟨p,fun j u hu=>?_,r1⟩
        have hj:j < 9:=(List.getElem?_eq_some_iff.1 hu).1
        have:=hcg j hj
        rw [this];exact hu
    · cases hc1
   obtain ⟨L,hL,hq⟩:∃ L:List HV,L.length=n∧∀ i q,L[i]?=some q→(∀ j u,q.cells[j]?=some u→w.cell? ((a.add (i*9)).add j)=some u)∧q.Raw w:=by
    have:∀ m,m≤n→∃ L:List HV,L.length=m∧∀ i q,L[i]?=some q→(∀ j u,q.cells[j]?=some u→w.cell? ((a.add (i*9)).add j)=some u)∧q.Raw w:=by
     intro m
     induction m with
     | zero=>intro _;exact ⟨[],rfl,fun i q h=>by cases h⟩
     | succ m ih =>
       intro hm
       obtain ⟨L,h1,h2⟩:=ih (by omega)
       obtain ⟨q,h3⟩:=each m (by omega)
       refine ⟨L ++ [q],by rw [List.length_append,h1];rfl,fun i x hx=>?_⟩
       rcases Nat.lt_or_ge i L.length with k | k
       · rw [List.getElem?_append_left k] at hx;exact h2 i x hx
       · rw [List.getElem?_append_right k] at hx
         have:i - L.length=0:=by
          have:=(List.getElem?_eq_some_iff.1 hx).1
          simp at this;omega
         rw [this] at hx
         cases hx
         rw [show i=m by omega];exact h3
    exact this n (Nat.le_refl _)
   refine ⟨some a,n,c,L,rfl,fun hn=>?_,hL,hl,by omega,fun q hq2=>?_⟩
   · have hn0:0 < n:=by rw [show (hvs L).length=L.length*9 from rows_length hvc_len L,hL] at hn;omega
     obtain ⟨b,o,spot⟩:=a
     have hx:=(hq 0 _ (List.getElem?_eq_getElem (by rw [hL];exact hn0))).1 0 _ rfl
     have hspot:spot=none:=by simpa [Addr.add] using World.cell?_spot hx
     subst hspot
     refine ⟨b,o,rfl,?_,fun j u hu=>?_⟩
     · rw [add_at,add_at] at hx
       exact World.block_lt_of_cell? w _ hx
     · have hj:=(List.getElem?_eq_some_iff.1 hu).1
       rw [show (hvs L).length=L.length*9 from rows_length hvc_len L,hL] at hj
       obtain ⟨i,k,hk,rfl⟩:∃ i k,k < 9∧j=i*9+k:=⟨j / 9,j % 9,Nat.mod_lt _ (by decide),by omega⟩
       have hi:i < L.length:=by omega
       have hg:=List.getElem?_eq_getElem hi
       have:=(hq i _ hg).1 k u (by rw [← rows_get hvc_len hg hk];exact hu)
       rw [add_at,add_at] at this
       rwa [← Nat.add_assoc]
   · obtain ⟨i,hi⟩:=List.getElem?_of_mem hq2
     exact (hq i q hi).2
theorem raw_qr {q:QV} {M:Nat} (h:q.Raw w) (hs:q.small M):∃ v,QR w q.s q.A q.n q.c q.B q.m q.d v M:=by
 obtain ⟨⟨_,ra⟩,⟨_,ta⟩⟩:=h
 obtain ⟨l1,a1,b1,c1,_⟩:=ra.rd
 obtain ⟨l2,a2,b2,c2,_⟩:=ta.rd
 exact ⟨_,QR.of_rd a1 b1 c1 a2 b2 c2 hs.1 hs.2⟩
theorem raw_hr {p:HV} {M:Nat} (h:p.Raw w) (hs:p.small M):∃ u,HR w p u M:=by
 obtain ⟨x,hx⟩:=raw_qr h.1 hs.1
 obtain ⟨y,hy⟩:=raw_qr h.2.1 hs.2.1
 obtain ⟨z,hz⟩:=raw_qr h.2.2 hs.2.2
 exact ⟨⟨x,y,z⟩,hx,hy,hz⟩
theorem raw_eachH {M:Nat}:∀ {L:List HV},(∀ p ∈ L,p.Raw w)→(∀ p ∈ L,p.small M)→∃ l,EachH HR w L l M
 | [],_,_=>⟨[],EachH.nil⟩
 | p :: L,h,hs=>by
   obtain ⟨u,hu⟩:=raw_hr (h p List.mem_cons_self) (hs p List.mem_cons_self)
   obtain ⟨l,hl⟩:=raw_eachH (L:=L) (fun q hq=>h q (List.mem_cons_of_mem _ hq)) (fun q hq=>hs q (List.mem_cons_of_mem _ hq))
   refine ⟨u :: l,by rw [List.length_cons,List.length_cons,hl.1],fun i q v h1 h2=>?_⟩
   match i,h1,h2 with
   | 0,h1,h2=>cases h1;cases h2;exact hu
   | i+1,h1,h2=>exact hl.2 i q v h1 h2
end
section
open Go Go.RowKit
theorem law_hsame {A:Option Addr} {n c k8:Nat} {L:List HV} (hL:SV w A (hvs L)) (hn:L.length=n) (hm:n≤maxLen) (hz:∀ p ∈ L,p.Raw w) (hk8:k8≤255) :
 Calls Tryz.prog 5 #[.slice A n c,.int .u8 (k8:Int)] w fun e w'=>e=.returned (.bool true)∧Below w.heap.size w w':=by
 by_cases hs:(∀ p ∈ L,p.small 4)∧n≤6
 · obtain ⟨V,hE⟩:=raw_eachH hz hs.1
   by_cases hg:GoodH V
   · exact hsame_p hL hn hE hs hk8 hg
   · exact hsame_g hL hn hE hs hg
 · exact hsame_f hL hn hm hs
end
end Go.Proofs.YtfpaeophfcoohaaGreat
