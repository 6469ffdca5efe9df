/- CurveHull: part 16. -/
import Derived.Lib.SmallJoins
import Derived.OpenShut
import Derived.Test.YtananlhdmekmjaaGreatKCurveHull0
import Derived.Test.YtananlhdmekmjaaGreatKCurveHull11
import Derived.Test.YtananlhdmekmjaaGreatKCurveHull14
import Derived.Test.YtananlhdmekmjaaGreatKCurveHull15
set_option linter.unusedVariables false
set_option maxRecDepth 100000
set_option maxHeartbeats 16000000
variable {w:Go.World}
namespace Go.Proofs.YtananlhdmekmjaaGreat
section
open Go Go.RowKit
attribute [local go_sem ↓] open_LVH open_STH open_LVJ open_STJ
section
variable {W W':World} {g:Nat} {x y z u v t:Value}
theorem B6.setx (h:B6 W g x y z u v t) (a b c:Value):B6 (((W.setCell ⟨g,0,none⟩ a).setCell ⟨g,1,none⟩ b).setCell ⟨g,2,none⟩ c) g a b c u v t:=by
 unfold B6 at h ⊢
 simp [World.setCell,Array.getElem?_modify,h]
theorem B6.sety (h:B6 W g x y z u v t) (a b c:Value):B6 (((W.setCell ⟨g,3,none⟩ a).setCell ⟨g,4,none⟩ b).setCell ⟨g,5,none⟩ c) g x y z a b c:=by
 unfold B6 at h ⊢
 simp [World.setCell,Array.getElem?_modify,h]
end
theorem only_x (W:World) (g:Nat) (a b c:Value):Only g W (((W.setCell ⟨g,0,none⟩ a).setCell ⟨g,1,none⟩ b).setCell ⟨g,2,none⟩ c):=(((Only.refl g W).setCell 0 _).setCell 1 _).setCell 2 _
theorem only_y (W:World) (g:Nat) (a b c:Value):Only g W (((W.setCell ⟨g,3,none⟩ a).setCell ⟨g,4,none⟩ b).setCell ⟨g,5,none⟩ c):=(((Only.refl g W).setCell 3 _).setCell 4 _).setCell 5 _
def QV.QG (w:World) (q:QV) (v:Rat) (k:Nat):Prop:=Go.Proofs.YtananlhdmekmjaaGreat.QG w q.s q.A q.n q.c q.B q.m q.d v k
theorem QV.QG.below {w w':World} {q:QV} {v:Rat} {k:Nat} (h:q.QG w v k) (hb:Below w.heap.size w w'):q.QG w' v k:=Go.Proofs.YtananlhdmekmjaaGreat.QG.below h hb
theorem QV.QG.qr {q:QV} {v:Rat} {k:Nat} (h:q.QG w v k):QR w q.s q.A q.n q.c q.B q.m q.d v k:=Go.Proofs.YtananlhdmekmjaaGreat.QG.qr h
def BP (w:World) (g:Nat) (a b:QV):Prop:=B6 w g (.bool a.s) (.slice a.A a.n a.c) (.slice a.B a.m a.d) (.bool b.s) (.slice b.A b.n b.c) (.slice b.B b.m b.d)
section
variable {w w':World} {g k:Nat} {a b q:QV} {v:Rat}
theorem BP.b6 (h:BP w g a b):B6 w g (.bool a.s) (.slice a.A a.n a.c) (.slice a.B a.m a.d) (.bool b.s) (.slice b.A b.n b.c) (.slice b.B b.m b.d):=h
theorem BP.below (h:BP w g a b) (hb:Below w.heap.size w w'):BP w' g a b:=B6.below h hb
theorem BP.rest (h:BP w g a b) (hne:g ≠ k) (ho:Only k w w'):BP w' g a b:=B6.restm h hne ho
theorem QV.QG.on (h:q.QG w v k) {a b:QV} (Z:BP w g a b) (ho:Only g w w'):q.QG w' v k :=
 ⟨⟨h.1.1,h.1.2.1.only (h.1.2.1.off6 Z.b6) ho,h.1.2.2⟩,⟨h.2.1.only (h.2.1.off6 Z.b6) ho,h.2.2⟩⟩
end
theorem cmp_lt {x y:Rat} (h:x < y):cmpQ x y=-1:=by unfold cmpQ;rw [if_pos h]
theorem cmp_nlt {x y:Rat} (h:¬ x < y):¬ cmpQ x y < 0:=by
 unfold cmpQ;rw [if_neg h]
 split <;> decide
theorem cmp_ngt {x y:Rat} (h:¬ y < x):¬ 0 < cmpQ x y:=by
 have:=cmp_le (x:=x) (y:=y) (by grind)
 omega
theorem line_p {a b:AH} {t:Rat} (_ha:a.w ≠ 0) (h:a.w=b.w):(bez t [a,b]).px=a.px+(b.px - a.px)*t∧(bez t [a,b]).py=a.py+(b.py - a.py)*t:=by
 rw [bez2]
 have e:(a.mix b t).w=a.w:=by unfold AH.mix mixQ;grind
 unfold AH.px AH.py
 rw [e,← h]
 constructor
 · show mixQ a.x b.x t*(1 / a.w)=_;unfold mixQ;grind
 · show mixQ a.y b.y t*(1 / a.w)=_;unfold mixQ;grind
theorem hull_f {A:Option Addr} {n c k8:Nat} {L:List HV} (hL:SV w A (hvs L)) (hn:L.length=n) (hm:n≤maxLen) (hf:¬ ((∀ p ∈ L,p.small 4)∧n≤6)) :
 Calls Tryz.prog 7 #[.slice A n c,.int .u8 (k8:Int)] w fun e w'=>e=.returned (.bool true)∧Below w.heap.size w w':=by
 have HF:=Lib.hid hf;clear hf
 have hb:Below w.heap.size w w:=Below.refl _ _
 have HN:=Lib.hid hn;clear hn
 go_enter Tryz.func7,Tryz.ntmps7
 go_wp2_with (first
  | (go_at_call 17;(with_reducible refine (fair13_f hL HN.out hm HF.out).mono ?_);rintro e w_z ⟨rfl,hh⟩
     replace hb:=bend hb hh)
  | (go_at_call 10;(with_reducible refine (wakes13_any _).mono ?_);rintro e w_z ⟨rfl,hh⟩
     replace hb:=bend hb hh))
 (try rw [Exit.noGoto_ret])
 go_ret;exact ⟨rfl,hb⟩
theorem hull_g {A:Option Addr} {n c k8:Nat} {L:List HV} {V:List AH} (hL:SV w A (hvs L)) (hn:L.length=n) (hE:EachH HR w L V 4) (hs:(∀ p ∈ L,p.small 4)∧n≤6) (hg:¬ GoodH V) :
 Calls Tryz.prog 7 #[.slice A n c,.int .u8 (k8:Int)] w fun e w'=>e=.returned (.bool true)∧Below w.heap.size w w':=by
 have HG:=Lib.hid hg;clear hg;have HF:=Lib.hid hs
 have hm:n≤maxLen:=by unfold maxLen;omega
 have hn9:n≤1000:=by omega
 have HVn:Hid (V.length=n):=hE.1.symm.trans hn
 clear hs
 have hb:Below w.heap.size w w:=Below.refl _ _
 have HN:=Lib.hid hn;clear hn
 go_enter Tryz.func7,Tryz.ntmps7
 go_wp2_with (first
  | (go_at_call 17;(with_reducible refine (fair13_t hL HN.out hm HF.out).mono ?_);rintro e w_z ⟨rfl,hh⟩
     (try replace hL:=hL.below hh);replace hb:=bend hb hh;replace hE:=EachH.belowR hE hh)
  | (go_at_call 19;(with_reducible refine (rins13 hL hE HN.out hn9 (by decide) (by decide)).mono ?_);rintro e w_i ⟨v1,M1,rfl,l1,e1,hh⟩
     (try replace hL:=hL.below hh);replace hb:=bend hb hh;replace hE:=EachH.belowR hE hh
     obtain ⟨A_x,c_x,rfl,_,_⟩:=l1.form
     have hM1:M1.length=n:=e1.1.trans HVn.out
     rw [hM1] at l1 ⊢
     have LM1:=l1.sv)
  | (go_at_call 22;(with_reducible refine (rgood13_f LM1 e1 hM1 hn9 HG.out).mono ?_);rintro e w_z ⟨rfl,hh⟩
     (try replace hL:=hL.below hh);replace hb:=bend hb hh;replace hE:=EachH.belowR hE hh;clear e1 l1 LM1)
  | (go_at_call 10;(with_reducible refine (wakes13_any _).mono ?_);rintro e w_z ⟨rfl,hh⟩
     replace hb:=bend hb hh))
 (try rw [Exit.noGoto_ret])
 go_ret;exact ⟨rfl,hb⟩
theorem hull_p {A:Option Addr} {n c k8:Nat} {L:List HV} {V:List AH} (hL:SV w A (hvs L)) (hn:L.length=n) (hE:EachH HR w L V 4) (hs:(∀ p ∈ L,p.small 4)∧n≤6) (hk8:k8≤255) (hg:GoodH V) :
 Calls Tryz.prog 7 #[.slice A n c,.int .u8 (k8:Int)] w fun e w'=>e=.returned (.bool true)∧Below w.heap.size w w':=by
 have HG:=Lib.hid hg
 have hn24:2≤n∧n≤4:=by have:=hg.1;rw [← hE.1,hn] at this;exact this
 obtain ⟨t,ht⟩:∃ t,Rat.divInt (k8:Int) 255=t:=⟨_,rfl⟩
 have HT:=Lib.hid ht
 have HC:Hid (0≤t∧t≤1):=by have:=div_255 k8 hk8;rw [ht] at this;exact this
 clear hg ht;have HF:=Lib.hid hs
 have hm:n≤maxLen:=by unfold maxLen;omega
 have hn9:n≤1000:=by omega
 have HVn:Hid (V.length=n):=hE.1.symm.trans hn
 clear hs
 have hb:Below w.heap.size w w:=Below.refl _ _
 have HN:=Lib.hid hn;clear hn
 go_enter Tryz.func7,Tryz.ntmps7
 go_upto_region 4 with (first
  | (go_at_call 17;(with_reducible refine (fair13_t hL HN.out hm HF.out).mono ?_);rintro e w_z ⟨rfl,hh⟩
     (try replace hL:=hL.below hh);replace hb:=bend hb hh;replace hE:=EachH.belowR hE hh)
  | (go_at_call 19;(with_reducible refine (rins13 hL hE HN.out hn9 (by decide) (by decide)).mono ?_);rintro e w_i ⟨v1,M1,rfl,l1,e1,hh⟩
     (try replace hL:=hL.below hh);replace hb:=bend hb hh;replace hE:=EachH.belowR hE hh
     obtain ⟨A_x,c_x,rfl,_,_⟩:=l1.form
     have hM1:M1.length=n:=e1.1.trans HVn.out
     rw [hM1] at l1 ⊢
     have LM1:=l1.sv)
  | (go_at_call 22;(with_reducible refine (rgood13_t LM1 e1 hM1 hn9 HG.out).mono ?_);rintro e w_z ⟨rfl,hh⟩
     (try replace hL:=hL.below hh);replace hb:=bend hb hh;replace hE:=EachH.belowR hE hh;clear e1 l1 LM1)
  | (go_at_call 31;(with_reducible refine (rof_q (k8:Int) 255 (by omega) (by omega) (by decide) (by decide) (by decide) _).mono ?_);rintro e w_h ⟨s_h,A_h,n_h,c_h,B_h,m_h,d_h,rfl,h,hh⟩
     (try replace hL:=hL.below hh);replace hb:=bend hb hh;replace hE:=EachH.belowR hE hh;rw [HT.out] at h))
 have XK:=B3.new' w_h (Value.bool s_h) (Value.slice A_h n_h c_h) (Value.slice B_h m_h d_h) w_h.heap.size rfl
 have hh:Below w_h.heap.size w_h (w_h.alloc (Obj.cells #[Value.bool s_h,Value.slice A_h n_h c_h,Value.slice B_h m_h d_h] 26)):=(Below.refl w_h.heap.size w_h).alloc (Nat.le_refl _) _
 have hzW1:(w_h.alloc (Obj.cells #[Value.bool s_h,Value.slice A_h n_h c_h,Value.slice B_h m_h d_h] 26)).heap.size=w_h.heap.size+1:=World.size_alloc _ _
 generalize (w_h.alloc (Obj.cells #[Value.bool s_h,Value.slice A_h n_h c_h,Value.slice B_h m_h d_h] 26))=W1 at *
 replace hL:=hL.below hh;replace h:=h.below hh;replace hE:=EachH.belowR hE hh;replace hb:=bend hb hh;clear hh;obtain ⟨xk0,xk1,xk2⟩:=XK.all
 go_upto_region 5 with (first
  | (go_at_call 21;(with_reducible refine (cat_any hL hE HN.out h.qr (by decide) (by decide) (by decide) (by decide) HG.out HC.out (by decide) (B:=300)).mono ?_);rintro e w_a ⟨s_a,A_a,n_a,c_a,B_a,m_a,d_a,t_a,E_a,i_a,e_a,F_a,j_a,f_a,rfl,a,hh⟩
     (try replace hL:=hL.below hh);(try replace h:=h.below hh);(try replace XK:=XK.below hh);replace hb:=bend hb hh;replace hE:=EachH.belowR hE hh))
 clear xk0 xk1 xk2
 have XP:=B6.new' w_a (Value.bool s_a) (Value.slice A_a n_a c_a) (Value.slice B_a m_a d_a) (Value.bool t_a) (Value.slice E_a i_a e_a) (Value.slice F_a j_a f_a) w_a.heap.size rfl
 have hh:Below w_a.heap.size w_a (w_a.alloc (Obj.cells #[Value.bool s_a,Value.slice A_a n_a c_a,Value.slice B_a m_a d_a,Value.bool t_a,Value.slice E_a i_a e_a,Value.slice F_a j_a f_a] 28)):=(Below.refl w_a.heap.size w_a).alloc (Nat.le_refl _) _
 have hzW2:(w_a.alloc (Obj.cells #[Value.bool s_a,Value.slice A_a n_a c_a,Value.slice B_a m_a d_a,Value.bool t_a,Value.slice E_a i_a e_a,Value.slice F_a j_a f_a] 28)).heap.size=w_a.heap.size+1:=World.size_alloc _ _
 generalize (w_a.alloc (Obj.cells #[Value.bool s_a,Value.slice A_a n_a c_a,Value.slice B_a m_a d_a,Value.bool t_a,Value.slice E_a i_a e_a,Value.slice F_a j_a f_a] 28))=W2 at *
 replace hL:=hL.below hh;replace h:=h.below hh;replace XK:=XK.below hh;replace a:=a.below hh;replace hE:=EachH.belowR hE hh;replace hb:=bend hb hh;clear hh
 obtain ⟨P0,y0,hP0,hy0,p0⟩:=hE.at_ (i:=0) (by rw [HN.out];omega)
 have hw0:y0.w ≠ 0:=by have:=HG.out.2 _ (List.mem_of_getElem? hy0);grind
 obtain ⟨g0,o0,hix0,E0,_⟩:=hL.ht hP0
 have hixa:∀ w',(Instr.indexAt 37 (.slice A n c) (.int .i64 0)).run Tryz.prog w'=.ok (.pointer (some ⟨g0,o0,none⟩)) w':=fun w'=>hix0 n c w' (by omega)
 have epl:=E0.ldH;have HW0:=Lib.hid hw0;have HP0:=Lib.hid hP0;have HY0:=Lib.hid hy0;clear hP0 hy0 hix0 hw0
 go_upto_region 6 with (first
  | (go_at_call 28;(with_reducible refine (cpoint_p p0 (by decide) (by decide) HW0.out).mono ?_);rintro e w_x ⟨s_x,A_x,n_x,c_x,B_x,m_x,d_x,t_x,E_x,i_x,e_x,F_x,j_x,f_x,rfl,x,hh⟩
     (try replace hL:=hL.below hh);(try replace h:=h.below hh);(try replace XK:=XK.below hh);(try replace a:=a.below hh);(try replace XP:=XP.below hh);(try replace E0:=E0.below hh);(try replace p0:=p0.below hh);replace hb:=bend hb hh;replace hE:=EachH.belowR hE hh))
 clear epl
 have S9:Hid (SV w_x A (hvs L)∧EachH HR w_x L V 4∧QG w_x s_h A_h n_h c_h B_h m_h d_h t 1∧B3 w_x w_h.heap.size (.bool s_h) (.slice A_h n_h c_h) (.slice B_h m_h d_h)∧PG w_x s_a A_a n_a c_a B_a m_a d_a t_a E_a i_a e_a F_a j_a f_a (bez t V).px (bez t V).py 300∧B6 w_x w_a.heap.size (.bool s_a) (.slice A_a n_a c_a) (.slice B_a m_a d_a) (.bool t_a) (.slice E_a i_a e_a) (.slice F_a j_a f_a)∧EH w_x g0 o0 P0∧HR w_x P0 y0 4∧Below w.heap.size w w_x):=⟨hL,hE,h,XK,a,XP,E0,p0,hb⟩
 have XA:BP (w_x.alloc (Obj.cells #[Value.bool s_x,Value.slice A_x n_x c_x,Value.slice B_x m_x d_x,Value.bool t_x,Value.slice E_x i_x e_x,Value.slice F_x j_x f_x] 28)) w_x.heap.size (⟨s_x,A_x,n_x,c_x,B_x,m_x,d_x⟩:QV) (⟨t_x,E_x,i_x,e_x,F_x,j_x,f_x⟩:QV):=B6.new' w_x (Value.bool s_x) (Value.slice A_x n_x c_x) (Value.slice B_x m_x d_x) (Value.bool t_x) (Value.slice E_x i_x e_x) (Value.slice F_x j_x f_x) w_x.heap.size rfl
 have hh:Below w_x.heap.size w_x (w_x.alloc (Obj.cells #[Value.bool s_x,Value.slice A_x n_x c_x,Value.slice B_x m_x d_x,Value.bool t_x,Value.slice E_x i_x e_x,Value.slice F_x j_x f_x] 28)):=(Below.refl _ _).alloc (Nat.le_refl _) _
 have hz3:(w_x.alloc (Obj.cells #[Value.bool s_x,Value.slice A_x n_x c_x,Value.slice B_x m_x d_x,Value.bool t_x,Value.slice E_x i_x e_x,Value.slice F_x j_x f_x] 28)).heap.size=w_x.heap.size+1:=World.size_alloc _ _
 have hpx:w_a.heap.size < w_x.heap.size:=XP.lt
 have hkx:w_h.heap.size < w_x.heap.size:=XK.lt
 replace x:=x.below hh;have hB:=hh;clear hL hE h XK a XP E0 p0 hb hh
 generalize w_x.alloc (Obj.cells #[Value.bool s_x,Value.slice A_x n_x c_x,Value.slice B_x m_x d_x,Value.bool t_x,Value.slice E_x i_x e_x,Value.slice F_x j_x f_x] 28)=W3 at *
 have xa0:=XA.b6.c0;have xa1:=XA.b6.c1;have xa2:=XA.b6.c2;have xa3:=XA.b6.c3;have xa4:=XA.b6.c4;have xa5:=XA.b6.c5
 simp only at xa0 xa1 xa2 xa3 xa4 xa5
 go_wp2_with fail
 clear xa0 xa1 xa2 xa3 xa4 xa5
 have XB:BP (W3.alloc (Obj.cells #[Value.bool s_x,Value.slice A_x n_x c_x,Value.slice B_x m_x d_x,Value.bool t_x,Value.slice E_x i_x e_x,Value.slice F_x j_x f_x] 28)) (w_x.heap.size+1) (⟨s_x,A_x,n_x,c_x,B_x,m_x,d_x⟩:QV) (⟨t_x,E_x,i_x,e_x,F_x,j_x,f_x⟩:QV):=B6.new' W3 (Value.bool s_x) (Value.slice A_x n_x c_x) (Value.slice B_x m_x d_x) (Value.bool t_x) (Value.slice E_x i_x e_x) (Value.slice F_x j_x f_x) (w_x.heap.size+1) hz3.symm
 have hh:Below W3.heap.size W3 (W3.alloc (Obj.cells #[Value.bool s_x,Value.slice A_x n_x c_x,Value.slice B_x m_x d_x,Value.bool t_x,Value.slice E_x i_x e_x,Value.slice F_x j_x f_x] 28)):=(Below.refl _ _).alloc (Nat.le_refl _) _
 have hz4:(W3.alloc (Obj.cells #[Value.bool s_x,Value.slice A_x n_x c_x,Value.slice B_x m_x d_x,Value.bool t_x,Value.slice E_x i_x e_x,Value.slice F_x j_x f_x] 28)).heap.size=w_x.heap.size+2:=by rw [World.size_alloc,hz3]
 replace XA:=XA.below hh;replace x:=x.below hh;replace hB:=bend hB hh;clear hh hz3
 generalize W3.alloc (Obj.cells #[Value.bool s_x,Value.slice A_x n_x c_x,Value.slice B_x m_x d_x,Value.bool t_x,Value.slice E_x i_x e_x,Value.slice F_x j_x f_x] 28)=W4 at *
 have HX0:Hid ((((⟨s_x,A_x,n_x,c_x,B_x,m_x,d_x⟩:QV).QG W4 y0.px (4+(1+4))∧(⟨t_x,E_x,i_x,e_x,F_x,j_x,f_x⟩:QV).QG W4 y0.py (4+(1+4)))∧(⟨s_x,A_x,n_x,c_x,B_x,m_x,d_x⟩:QV).QG W4 y0.px (4+(1+4))∧(⟨t_x,E_x,i_x,e_x,F_x,j_x,f_x⟩:QV).QG W4 y0.py (4+(1+4)))):=⟨⟨x.1,x.2⟩,x.1,x.2⟩
 have HXA:=Lib.hid XA;have HXB:=Lib.hid XB;have HB4:=Lib.hid hB;clear x XA XB hB
 go_loopg [11] n (fun gk ix wr=>∃ (m:Nat) (qa qb qc qd:QV) (va vb vc vd:Rat),Hid (gk+m=n)∧ix=.int .i64 (m:Int)∧Hid (BP wr w_x.heap.size qa qb)∧Hid (BP wr (w_x.heap.size+1) qc qd)∧Hid ((qa.QG wr va (4+(1+4))∧qb.QG wr vb (4+(1+4)))∧qc.QG wr vc (4+(1+4))∧qd.QG wr vd (4+(1+4)))∧Hid (∀ (i:Nat) (u:AH),i < m→V[i]?=some u→(va≤u.px∧vb≤u.py)∧u.px≤vc∧u.py≤vd)∧w_x.heap.size+2≤wr.heap.size∧Below w_x.heap.size w_x wr)
 case atStart=>exact ⟨0,_,_,_,_,_,_,_,_,Nat.add_zero _,rfl,HXA.out,HXB.out,HX0.out,fun i u hi=>absurd hi (by omega),by omega,HB4.out⟩
 case round =>
  obtain ⟨m,qa,qb,qc,qd,va,vb,vc,vd,HG9,rfl,HA,HB,HQ,HS,hs2,hB⟩:=hrel
  by_cases hmn:m < n
  · obtain ⟨P,u,hP1,hu1,p9⟩:=S9.out.2.1.at_ (i:=m) (by rw [HN.out];exact hmn)
    obtain ⟨g1,o1,hix1,EP0,_⟩:=S9.out.1.ht hP1
    have hixa:∀ w',(Instr.indexAt 37 (.slice A n c) (.int .i64 (m:Int))).run Tryz.prog w'=.ok (.pointer (some ⟨g1,o1,none⟩)) w':=fun w'=>hix1 n c w' hmn
    have hlt:(m:Int) < (n:Int):=by omega
    have hwr:IntKind.i64.wrap ((m:Int)+1)=(m:Int)+1:=IntWalk.i64_in _ (by omega)
    have HU:=Lib.hid hu1;have HMN:=Lib.hid hmn
    have hw1:u.w ≠ 0:=by have:=HG.out.2 _ (List.mem_of_getElem? hu1);grind
    have HW:=Lib.hid hw1;clear hw1
    have epl:=(EP0.below hB).ldH
    have p:=p9.below hB;clear hP1 hu1 hix1 hmn EP0 p9;have XA:=HA.out;have XB:=HB.out;have na:=HQ.out.1.1;have nb:=HQ.out.1.2;have nc:=HQ.out.2.1;have nd:=HQ.out.2.2;clear HA HB HQ
    go_upto_region 13 with (first
     | (go_at_call 28;(with_reducible refine (cpoint_p p (by decide) (by decide) HW.out).mono ?_);rintro e w_q ⟨s_q,A_q,n_q,c_q,B_q,m_q,d_q,t_q,E_q,i_q,e_q,F_q,j_q,f_q,rfl,q,hh⟩
        (try replace XA:=XA.below hh);(try replace XB:=XB.below hh);(try replace na:=na.below hh);(try replace nb:=nb.below hh);(try replace nc:=nc.below hh);(try replace nd:=nd.below hh);replace hB:=bend hB hh;have hs3:=Nat.le_trans hs2 hh.size;clear p epl))
    have XQ:BP (w_q.alloc (Obj.cells #[Value.bool s_q,Value.slice A_q n_q c_q,Value.slice B_q m_q d_q,Value.bool t_q,Value.slice E_q i_q e_q,Value.slice F_q j_q f_q] 28)) w_q.heap.size (⟨s_q,A_q,n_q,c_q,B_q,m_q,d_q⟩:QV) (⟨t_q,E_q,i_q,e_q,F_q,j_q,f_q⟩:QV):=B6.new' w_q (Value.bool s_q) (Value.slice A_q n_q c_q) (Value.slice B_q m_q d_q) (Value.bool t_q) (Value.slice E_q i_q e_q) (Value.slice F_q j_q f_q) w_q.heap.size rfl
    have hh:Below w_q.heap.size w_q (w_q.alloc (Obj.cells #[Value.bool s_q,Value.slice A_q n_q c_q,Value.slice B_q m_q d_q,Value.bool t_q,Value.slice E_q i_q e_q,Value.slice F_q j_q f_q] 28)):=(Below.refl _ _).alloc (Nat.le_refl _) _
    have nq:(⟨s_q,A_q,n_q,c_q,B_q,m_q,d_q⟩:QV).QG (w_q.alloc (Obj.cells #[Value.bool s_q,Value.slice A_q n_q c_q,Value.slice B_q m_q d_q,Value.bool t_q,Value.slice E_q i_q e_q,Value.slice F_q j_q f_q] 28)) u.px (4+(1+4)):=QV.QG.below (q:=(⟨s_q,A_q,n_q,c_q,B_q,m_q,d_q⟩:QV)) q.1 hh
    have nr:(⟨t_q,E_q,i_q,e_q,F_q,j_q,f_q⟩:QV).QG (w_q.alloc (Obj.cells #[Value.bool s_q,Value.slice A_q n_q c_q,Value.slice B_q m_q d_q,Value.bool t_q,Value.slice E_q i_q e_q,Value.slice F_q j_q f_q] 28)) u.py (4+(1+4)):=QV.QG.below (q:=(⟨t_q,E_q,i_q,e_q,F_q,j_q,f_q⟩:QV)) q.2 hh
    replace XA:=XA.below hh;replace XB:=XB.below hh;replace na:=na.below hh;replace nb:=nb.below hh;replace nc:=nc.below hh;replace nd:=nd.below hh;replace hB:=bend hB hh;have hs4:=Nat.le_trans hs3 hh.size
    obtain ⟨gq,hgq⟩:∃ gq,w_q.heap.size=gq:=⟨_,rfl⟩
    have hgq2:w_x.heap.size+2≤gq:=by rw [← hgq];exact hs3
    clear hh hs3 q
    generalize (w_q.alloc (Obj.cells #[Value.bool s_q,Value.slice A_q n_q c_q,Value.slice B_q m_q d_q,Value.bool t_q,Value.slice E_q i_q e_q,Value.slice F_q j_q f_q] 28))=Wn at *
    rw [hgq] at XQ ⊢
    clear hgq
    generalize hqx:(⟨s_q,A_q,n_q,c_q,B_q,m_q,d_q⟩:QV)=qx at *
    generalize hqy:(⟨t_q,E_q,i_q,e_q,F_q,j_q,f_q⟩:QV)=qy at *
    have hc9:Hid True:=trivial
    by_cases h1:u.px < va
    focus
     have HT1:Hid (cmpQ u.px va=-1):=cmp_lt h1
     have ya0:=XA.b6.c0;have ya1:=XA.b6.c1;have ya2:=XA.b6.c2;have yq0:=XQ.b6.c0;have yq1:=XQ.b6.c1;have yq2:=XQ.b6.c2
     go_upto_region 17 with (go_at_call 35;(with_reducible refine (rcmp_q nq.qr na.qr (by decide) (by decide) (.inl (by decide)) (by decide) (by decide)).mono ?_);rintro e w_z ⟨rfl,hh⟩;rw [HT1.out];clear ya0 yq0 ya1 yq1 ya2 yq2;replace XA:=XA.below hh;replace XB:=XB.below hh;replace XQ:=XQ.below hh;replace nq:=nq.below hh;replace nr:=nr.below hh;replace na:=na.below hh;replace nb:=nb.below hh;replace nc:=nc.below hh;replace nd:=nd.below hh;replace hB:=bend hB hh;replace hs4:=Nat.le_trans hs4 hh.size;have yq0:=XQ.b6.c0;have yq1:=XQ.b6.c1;have yq2:=XQ.b6.c2;have yf0:=XA.b6.f0;have yf1:=XA.b6.f1;have yf2:=XA.b6.f2;have ya0:=XA.b6.c0;have ya1:=XA.b6.c1;have ya2:=XA.b6.c2)
     have Z2:BP (((w_z.setCell ⟨w_x.heap.size,0,none⟩ (.bool qx.s)).setCell ⟨w_x.heap.size,1,none⟩ (.slice qx.A qx.n qx.c)).setCell ⟨w_x.heap.size,2,none⟩ (.slice qx.B qx.m qx.d)) w_x.heap.size qx qb:=XA.b6.setx (.bool qx.s) (.slice qx.A qx.n qx.c) (.slice qx.B qx.m qx.d)
     have ho:=only_x w_z w_x.heap.size (.bool qx.s) (.slice qx.A qx.n qx.c) (.slice qx.B qx.m qx.d)
     have hge:w_x.heap.size≤w_x.heap.size:=by omega
     have hB2:=Below.only hB hge hB.size ho;have hs5:=Nat.le_trans hs4 ho.size;have nz:=nq.on XA ho;replace nq:=nq.on XA ho;replace nr:=nr.on XA ho;replace nb:=nb.on XA ho;replace nc:=nc.on XA ho;replace nd:=nd.on XA ho
     replace XQ:=XQ.rest (show gq ≠ w_x.heap.size by omega) ho
     replace XB:=XB.rest (show w_x.heap.size+1 ≠ w_x.heap.size by omega) ho
     clear ho hB hs4 hge XA na HT1 ya0 yq0 yf0 ya1 yq1 yf1 ya2 yq2 yf2
     generalize (((w_z.setCell ⟨w_x.heap.size,0,none⟩ (.bool qx.s)).setCell ⟨w_x.heap.size,1,none⟩ (.slice qx.A qx.n qx.c)).setCell ⟨w_x.heap.size,2,none⟩ (.slice qx.B qx.m qx.d))=Wz at *
     have hB:=hB2;have hs4:=hs5;clear hB2 hs5
     have PK:∃ (qz:QV) (vz:Rat),BP Wz w_x.heap.size qz qb∧qz.QG Wz vz (4+(1+4))∧Hid (vz≤va∧vz≤u.px):=⟨qx,u.px,Z2,nz,Rat.le_of_lt h1,Rat.le_refl⟩
     clear Z2 nz h1
    rotate_left
    focus
     obtain ⟨T,hT,hT0⟩:∃ T,cmpQ u.px va=T∧¬ T < 0:=⟨_,rfl,cmp_nlt h1⟩
     have HT1:=Lib.hid hT;clear hT;have ya0:=XA.b6.c0;have ya1:=XA.b6.c1;have ya2:=XA.b6.c2;have yq0:=XQ.b6.c0;have yq1:=XQ.b6.c1;have yq2:=XQ.b6.c2
     go_upto_region 17 with (go_at_call 35;(with_reducible refine (rcmp_q nq.qr na.qr (by decide) (by decide) (.inl (by decide)) (by decide) (by decide)).mono ?_);rintro e w_z ⟨rfl,hh⟩;rw [HT1.out];clear ya0 yq0 ya1 yq1 ya2 yq2;replace XA:=XA.below hh;replace XB:=XB.below hh;replace XQ:=XQ.below hh;replace nq:=nq.below hh;replace nr:=nr.below hh;replace na:=na.below hh;replace nb:=nb.below hh;replace nc:=nc.below hh;replace nd:=nd.below hh;replace hB:=bend hB hh;replace hs4:=Nat.le_trans hs4 hh.size)
     clear HT1 hT0
     generalize w_z=Wz at *
     have PK:∃ (qz:QV) (vz:Rat),BP Wz w_x.heap.size qz qb∧qz.QG Wz vz (4+(1+4))∧Hid (vz≤va∧vz≤u.px):=⟨qa,va,XA,na,Rat.le_refl,Rat.not_lt.1 h1⟩
     clear XA na h1
    all_goals
     obtain ⟨qa2,va2,XA,na,Ha⟩:=PK
     generalize Wz=Wn at *
     by_cases h1:u.py < vb
     focus
      have HT1:Hid (cmpQ u.py vb=-1):=cmp_lt h1
      have ya0:=XA.b6.c3;have ya1:=XA.b6.c4;have ya2:=XA.b6.c5;have yq0:=XQ.b6.c3;have yq1:=XQ.b6.c4;have yq2:=XQ.b6.c5
      go_upto_region 19 with (go_at_call 35;(with_reducible refine (rcmp_q nr.qr nb.qr (by decide) (by decide) (.inl (by decide)) (by decide) (by decide)).mono ?_);rintro e w_z ⟨rfl,hh⟩;rw [HT1.out];clear ya0 yq0 ya1 yq1 ya2 yq2;replace XA:=XA.below hh;replace XB:=XB.below hh;replace XQ:=XQ.below hh;replace nq:=nq.below hh;replace nr:=nr.below hh;replace na:=na.below hh;replace nb:=nb.below hh;replace nc:=nc.below hh;replace nd:=nd.below hh;replace hB:=bend hB hh;replace hs4:=Nat.le_trans hs4 hh.size;have yq0:=XQ.b6.c3;have yq1:=XQ.b6.c4;have yq2:=XQ.b6.c5;have yf0:=XA.b6.f3;have yf1:=XA.b6.f4;have yf2:=XA.b6.f5;have ya0:=XA.b6.c3;have ya1:=XA.b6.c4;have ya2:=XA.b6.c5)
      have Z2:BP (((w_z.setCell ⟨w_x.heap.size,3,none⟩ (.bool qy.s)).setCell ⟨w_x.heap.size,4,none⟩ (.slice qy.A qy.n qy.c)).setCell ⟨w_x.heap.size,5,none⟩ (.slice qy.B qy.m qy.d)) w_x.heap.size qa2 qy:=XA.b6.sety (.bool qy.s) (.slice qy.A qy.n qy.c) (.slice qy.B qy.m qy.d)
      have ho:=only_y w_z w_x.heap.size (.bool qy.s) (.slice qy.A qy.n qy.c) (.slice qy.B qy.m qy.d)
      have hge:w_x.heap.size≤w_x.heap.size:=by omega
      have hB2:=Below.only hB hge hB.size ho;have hs5:=Nat.le_trans hs4 ho.size;have nz:=nr.on XA ho;replace nq:=nq.on XA ho;replace nr:=nr.on XA ho;replace na:=na.on XA ho;replace nc:=nc.on XA ho;replace nd:=nd.on XA ho
      replace XQ:=XQ.rest (show gq ≠ w_x.heap.size by omega) ho
      replace XB:=XB.rest (show w_x.heap.size+1 ≠ w_x.heap.size by omega) ho
      clear ho hB hs4 hge XA nb HT1 ya0 yq0 yf0 ya1 yq1 yf1 ya2 yq2 yf2
      generalize (((w_z.setCell ⟨w_x.heap.size,3,none⟩ (.bool qy.s)).setCell ⟨w_x.heap.size,4,none⟩ (.slice qy.A qy.n qy.c)).setCell ⟨w_x.heap.size,5,none⟩ (.slice qy.B qy.m qy.d))=Wz at *
      have hB:=hB2;have hs4:=hs5;clear hB2 hs5
      have PK:∃ (qz:QV) (vz:Rat),BP Wz w_x.heap.size qa2 qz∧qz.QG Wz vz (4+(1+4))∧Hid (vz≤vb∧vz≤u.py):=⟨qy,u.py,Z2,nz,Rat.le_of_lt h1,Rat.le_refl⟩
      clear Z2 nz h1
     rotate_left
     focus
      obtain ⟨T,hT,hT0⟩:∃ T,cmpQ u.py vb=T∧¬ T < 0:=⟨_,rfl,cmp_nlt h1⟩
      have HT1:=Lib.hid hT;clear hT;have ya0:=XA.b6.c3;have ya1:=XA.b6.c4;have ya2:=XA.b6.c5;have yq0:=XQ.b6.c3;have yq1:=XQ.b6.c4;have yq2:=XQ.b6.c5
      go_upto_region 19 with (go_at_call 35;(with_reducible refine (rcmp_q nr.qr nb.qr (by decide) (by decide) (.inl (by decide)) (by decide) (by decide)).mono ?_);rintro e w_z ⟨rfl,hh⟩;rw [HT1.out];clear ya0 yq0 ya1 yq1 ya2 yq2;replace XA:=XA.below hh;replace XB:=XB.below hh;replace XQ:=XQ.below hh;replace nq:=nq.below hh;replace nr:=nr.below hh;replace na:=na.below hh;replace nb:=nb.below hh;replace nc:=nc.below hh;replace nd:=nd.below hh;replace hB:=bend hB hh;replace hs4:=Nat.le_trans hs4 hh.size)
      clear HT1 hT0
      generalize w_z=Wz at *
      have PK:∃ (qz:QV) (vz:Rat),BP Wz w_x.heap.size qa2 qz∧qz.QG Wz vz (4+(1+4))∧Hid (vz≤vb∧vz≤u.py):=⟨qb,vb,XA,nb,Rat.le_refl,Rat.not_lt.1 h1⟩
      clear XA nb h1
     all_goals
      obtain ⟨qb2,vb2,XA,nb,Hb⟩:=PK
      generalize Wz=Wn at *
      by_cases h1:vc < u.px
      focus
       have HT1:Hid (cmpQ u.px vc=1):=cmp_gt h1
       have ya0:=XB.b6.c0;have ya1:=XB.b6.c1;have ya2:=XB.b6.c2;have yq0:=XQ.b6.c0;have yq1:=XQ.b6.c1;have yq2:=XQ.b6.c2
       go_upto_region 21 with (go_at_call 35;(with_reducible refine (rcmp_q nq.qr nc.qr (by decide) (by decide) (.inl (by decide)) (by decide) (by decide)).mono ?_);rintro e w_z ⟨rfl,hh⟩;rw [HT1.out];clear ya0 yq0 ya1 yq1 ya2 yq2;replace XA:=XA.below hh;replace XB:=XB.below hh;replace XQ:=XQ.below hh;replace nq:=nq.below hh;replace nr:=nr.below hh;replace na:=na.below hh;replace nb:=nb.below hh;replace nc:=nc.below hh;replace nd:=nd.below hh;replace hB:=bend hB hh;replace hs4:=Nat.le_trans hs4 hh.size;have yq0:=XQ.b6.c0;have yq1:=XQ.b6.c1;have yq2:=XQ.b6.c2;have yf0:=XB.b6.f0;have yf1:=XB.b6.f1;have yf2:=XB.b6.f2;have ya0:=XB.b6.c0;have ya1:=XB.b6.c1;have ya2:=XB.b6.c2)
       have Z2:BP (((w_z.setCell ⟨w_x.heap.size+1,0,none⟩ (.bool qx.s)).setCell ⟨w_x.heap.size+1,1,none⟩ (.slice qx.A qx.n qx.c)).setCell ⟨w_x.heap.size+1,2,none⟩ (.slice qx.B qx.m qx.d)) (w_x.heap.size+1) qx qd:=XB.b6.setx (.bool qx.s) (.slice qx.A qx.n qx.c) (.slice qx.B qx.m qx.d)
       have ho:=only_x w_z (w_x.heap.size+1) (.bool qx.s) (.slice qx.A qx.n qx.c) (.slice qx.B qx.m qx.d)
       have hge:w_x.heap.size≤w_x.heap.size+1:=by omega
       have hB2:=Below.only hB hge hB.size ho;have hs5:=Nat.le_trans hs4 ho.size;have nz:=nq.on XB ho;replace nq:=nq.on XB ho;replace nr:=nr.on XB ho;replace na:=na.on XB ho;replace nb:=nb.on XB ho;replace nd:=nd.on XB ho
       replace XQ:=XQ.rest (show gq ≠ w_x.heap.size+1 by omega) ho
       replace XA:=XA.rest (show w_x.heap.size ≠ w_x.heap.size+1 by omega) ho
       clear ho hB hs4 hge XB nc HT1 ya0 yq0 yf0 ya1 yq1 yf1 ya2 yq2 yf2
       generalize (((w_z.setCell ⟨w_x.heap.size+1,0,none⟩ (.bool qx.s)).setCell ⟨w_x.heap.size+1,1,none⟩ (.slice qx.A qx.n qx.c)).setCell ⟨w_x.heap.size+1,2,none⟩ (.slice qx.B qx.m qx.d))=Wz at *
       have hB:=hB2;have hs4:=hs5;clear hB2 hs5
       have PK:∃ (qz:QV) (vz:Rat),BP Wz (w_x.heap.size+1) qz qd∧qz.QG Wz vz (4+(1+4))∧Hid (vc≤vz∧u.px≤vz):=⟨qx,u.px,Z2,nz,Rat.le_of_lt h1,Rat.le_refl⟩
       clear Z2 nz h1
      rotate_left
      focus
       obtain ⟨T,hT,hT0⟩:∃ T,cmpQ u.px vc=T∧¬ 0 < T:=⟨_,rfl,cmp_ngt h1⟩
       have HT1:=Lib.hid hT;clear hT;have ya0:=XB.b6.c0;have ya1:=XB.b6.c1;have ya2:=XB.b6.c2;have yq0:=XQ.b6.c0;have yq1:=XQ.b6.c1;have yq2:=XQ.b6.c2
       go_upto_region 21 with (go_at_call 35;(with_reducible refine (rcmp_q nq.qr nc.qr (by decide) (by decide) (.inl (by decide)) (by decide) (by decide)).mono ?_);rintro e w_z ⟨rfl,hh⟩;rw [HT1.out];clear ya0 yq0 ya1 yq1 ya2 yq2;replace XA:=XA.below hh;replace XB:=XB.below hh;replace XQ:=XQ.below hh;replace nq:=nq.below hh;replace nr:=nr.below hh;replace na:=na.below hh;replace nb:=nb.below hh;replace nc:=nc.below hh;replace nd:=nd.below hh;replace hB:=bend hB hh;replace hs4:=Nat.le_trans hs4 hh.size)
       clear HT1 hT0
       generalize w_z=Wz at *
       have PK:∃ (qz:QV) (vz:Rat),BP Wz (w_x.heap.size+1) qz qd∧qz.QG Wz vz (4+(1+4))∧Hid (vc≤vz∧u.px≤vz):=⟨qc,vc,XB,nc,Rat.le_refl,Rat.not_lt.1 h1⟩
       clear XB nc h1
      all_goals
       obtain ⟨qc2,vc2,XB,nc,Hc⟩:=PK
       generalize Wz=Wn at *
       by_cases h1:vd < u.py
       focus
        have HT1:Hid (cmpQ u.py vd=1):=cmp_gt h1
        have ya0:=XB.b6.c3;have ya1:=XB.b6.c4;have ya2:=XB.b6.c5;have yq0:=XQ.b6.c3;have yq1:=XQ.b6.c4;have yq2:=XQ.b6.c5
        go_upto_region 11 with (go_at_call 35;(with_reducible refine (rcmp_q nr.qr nd.qr (by decide) (by decide) (.inl (by decide)) (by decide) (by decide)).mono ?_);rintro e w_z ⟨rfl,hh⟩;rw [HT1.out];clear ya0 yq0 ya1 yq1 ya2 yq2;replace XA:=XA.below hh;replace XB:=XB.below hh;replace XQ:=XQ.below hh;replace nq:=nq.below hh;replace nr:=nr.below hh;replace na:=na.below hh;replace nb:=nb.below hh;replace nc:=nc.below hh;replace nd:=nd.below hh;replace hB:=bend hB hh;replace hs4:=Nat.le_trans hs4 hh.size;have yq0:=XQ.b6.c3;have yq1:=XQ.b6.c4;have yq2:=XQ.b6.c5;have yf0:=XB.b6.f3;have yf1:=XB.b6.f4;have yf2:=XB.b6.f5;have ya0:=XB.b6.c3;have ya1:=XB.b6.c4;have ya2:=XB.b6.c5)
        have Z2:BP (((w_z.setCell ⟨w_x.heap.size+1,3,none⟩ (.bool qy.s)).setCell ⟨w_x.heap.size+1,4,none⟩ (.slice qy.A qy.n qy.c)).setCell ⟨w_x.heap.size+1,5,none⟩ (.slice qy.B qy.m qy.d)) (w_x.heap.size+1) qc2 qy:=XB.b6.sety (.bool qy.s) (.slice qy.A qy.n qy.c) (.slice qy.B qy.m qy.d)
        have ho:=only_y w_z (w_x.heap.size+1) (.bool qy.s) (.slice qy.A qy.n qy.c) (.slice qy.B qy.m qy.d)
        have hge:w_x.heap.size≤w_x.heap.size+1:=by omega
        have hB2:=Below.only hB hge hB.size ho;have hs5:=Nat.le_trans hs4 ho.size;have nz:=nr.on XB ho;replace nq:=nq.on XB ho;replace nr:=nr.on XB ho;replace na:=na.on XB ho;replace nb:=nb.on XB ho;replace nc:=nc.on XB ho
        replace XQ:=XQ.rest (show gq ≠ w_x.heap.size+1 by omega) ho
        replace XA:=XA.rest (show w_x.heap.size ≠ w_x.heap.size+1 by omega) ho
        clear ho hB hs4 hge XB nd HT1 ya0 yq0 yf0 ya1 yq1 yf1 ya2 yq2 yf2
        generalize (((w_z.setCell ⟨w_x.heap.size+1,3,none⟩ (.bool qy.s)).setCell ⟨w_x.heap.size+1,4,none⟩ (.slice qy.A qy.n qy.c)).setCell ⟨w_x.heap.size+1,5,none⟩ (.slice qy.B qy.m qy.d))=Wz at *
        have hB:=hB2;have hs4:=hs5;clear hB2 hs5
        have PK:∃ (qz:QV) (vz:Rat),BP Wz (w_x.heap.size+1) qc2 qz∧qz.QG Wz vz (4+(1+4))∧Hid (vd≤vz∧u.py≤vz):=⟨qy,u.py,Z2,nz,Rat.le_of_lt h1,Rat.le_refl⟩
        clear Z2 nz h1
       rotate_left
       focus
        obtain ⟨T,hT,hT0⟩:∃ T,cmpQ u.py vd=T∧¬ 0 < T:=⟨_,rfl,cmp_ngt h1⟩
        have HT1:=Lib.hid hT;clear hT;have ya0:=XB.b6.c3;have ya1:=XB.b6.c4;have ya2:=XB.b6.c5;have yq0:=XQ.b6.c3;have yq1:=XQ.b6.c4;have yq2:=XQ.b6.c5
        go_upto_region 11 with (go_at_call 35;(with_reducible refine (rcmp_q nr.qr nd.qr (by decide) (by decide) (.inl (by decide)) (by decide) (by decide)).mono ?_);rintro e w_z ⟨rfl,hh⟩;rw [HT1.out];clear ya0 yq0 ya1 yq1 ya2 yq2;replace XA:=XA.below hh;replace XB:=XB.below hh;replace XQ:=XQ.below hh;replace nq:=nq.below hh;replace nr:=nr.below hh;replace na:=na.below hh;replace nb:=nb.below hh;replace nc:=nc.below hh;replace nd:=nd.below hh;replace hB:=bend hB hh;replace hs4:=Nat.le_trans hs4 hh.size)
        clear HT1 hT0
        generalize w_z=Wz at *
        have PK:∃ (qz:QV) (vz:Rat),BP Wz (w_x.heap.size+1) qc2 qz∧qz.QG Wz vz (4+(1+4))∧Hid (vd≤vz∧u.py≤vz):=⟨qd,vd,XB,nd,Rat.le_refl,Rat.not_lt.1 h1⟩
        clear XB nd h1
       all_goals
        obtain ⟨qd2,vd2,XB,nd,Hd⟩:=PK
        generalize Wz=Wn at *
        go_wp2_with fail
        go_roundg (gk - 1)
        case measure=>have:=HG9.out;have:=HMN.out;omega
        case rel =>
         refine ⟨m+1,qa2,qb2,qc2,qd2,va2,vb2,vc2,vd2,by have:=HG9.out;have:=HMN.out;show _=_;omega,by go_num,XA,XB,⟨⟨na,nb⟩,nc,nd⟩,fun i v hi h5=>?_,hs4,hB⟩
         have ha:=Ha.out;have hb_:=Hb.out;have hc:=Hc.out;have hd:=Hd.out
         rcases Nat.lt_or_ge i m with h | h
         · have h6:=HS.out i v h h5
           exact ⟨⟨Rat.le_trans ha.1 h6.1.1,Rat.le_trans hb_.1 h6.1.2⟩,Rat.le_trans h6.2.1 hc.1,Rat.le_trans h6.2.2 hd.1⟩
         · obtain rfl:i=m:=by omega
           rw [HU.out] at h5;cases h5
           exact ⟨⟨ha.2,hb_.2⟩,hc.2,hd.2⟩
  · have hlt:¬ (m:Int) < (n:Int):=by omega
    have hall:∀ u ∈ V,(va≤u.px∧vb≤u.py)∧u.px≤vc∧u.py≤vd:=fun p hp=>by
     obtain ⟨i,hi⟩:=List.getElem?_of_mem hp
     have h7:=(List.getElem?_eq_some_iff.1 hi).1
     rw [HVn.out] at h7
     exact HS.out i p (by omega) hi
    have hV0:0 < V.length:=by rw [HVn.out];omega
    obtain ⟨T1,hT1,ht1⟩:∃ T,cmpQ (bez t V).px va=T∧¬ T < 0:=⟨_,rfl,cmp_nlt (Rat.not_lt.2 (hull_x hV0 HC.out.1 HC.out.2 HG.out.2 fun p hp=>(hall p hp).1.1))⟩
    obtain ⟨T2,hT2,ht2⟩:∃ T,cmpQ (bez t V).px vc=T∧¬ 0 < T:=⟨_,rfl,cmp_ngt (Rat.not_lt.2 (hull_X hV0 HC.out.1 HC.out.2 HG.out.2 fun p hp=>(hall p hp).2.1))⟩
    obtain ⟨T3,hT3,ht3⟩:∃ T,cmpQ (bez t V).py vb=T∧¬ T < 0:=⟨_,rfl,cmp_nlt (Rat.not_lt.2 (hull_y hV0 HC.out.1 HC.out.2 HG.out.2 fun p hp=>(hall p hp).1.2))⟩
    obtain ⟨T4,hT4,ht4⟩:∃ T,cmpQ (bez t V).py vd=T∧¬ 0 < T:=⟨_,rfl,cmp_ngt (Rat.not_lt.2 (hull_Y hV0 HC.out.1 HC.out.2 HG.out.2 fun p hp=>(hall p hp).2.2))⟩
    have HT1:=Lib.hid hT1;have HT2:=Lib.hid hT2;have HT3:=Lib.hid hT3;have HT4:=Lib.hid hT4;have XA:=HA.out;have XB:=HB.out;have na:=HQ.out.1.1;have nb:=HQ.out.1.2;have nc:=HQ.out.2.1;have nd:=HQ.out.2.2;have hL:=S9.out.1.below hB;have hE:=EachH.belowR S9.out.2.1 hB;have h:=S9.out.2.2.1.below hB;have XK:=S9.out.2.2.2.1.below hB;have a:=S9.out.2.2.2.2.1.below hB;have XP:=S9.out.2.2.2.2.2.1.below hB;have E0:=S9.out.2.2.2.2.2.2.1.below hB;have p0:=S9.out.2.2.2.2.2.2.2.1.below hB;have hb:=bend S9.out.2.2.2.2.2.2.2.2 hB;clear hall hV0 hT1 hT2 hT3 hT4 HA HB HQ HS hmn hB hs2 HX0 HXA HXB HB4;obtain ⟨xp0,xp1,xp2,xp3,xp4,xp5⟩:=XP.all;have xa0:=XA.b6.c0;have xa1:=XA.b6.c1;have xa2:=XA.b6.c2;have xa3:=XA.b6.c3;have xa4:=XA.b6.c4;have xa5:=XA.b6.c5;have xb0:=XB.b6.c0;have xb1:=XB.b6.c1;have xb2:=XB.b6.c2;have xb3:=XB.b6.c3;have xb4:=XB.b6.c4;have xb5:=XB.b6.c5
    go_upto_region 25 with (first
     | (go_at_call 35;(with_reducible refine (rcmp_q a.qx.qr na.qr (by decide) (by decide) (.inl (by decide)) (by decide) (by decide)).mono ?_);rintro e w_c1 ⟨rfl,hh⟩
        rw [HT1.out];(try replace hL:=hL.below hh);(try replace h:=h.below hh);(try replace XK:=XK.below hh);(try replace a:=a.below hh);(try replace XP:=XP.below hh);(try replace E0:=E0.below hh);(try replace p0:=p0.below hh);(try replace XA:=XA.below hh);(try replace XB:=XB.below hh);(try replace na:=na.below hh);(try replace nb:=nb.below hh);(try replace nc:=nc.below hh);(try replace nd:=nd.below hh);replace hb:=bend hb hh;replace hE:=EachH.belowR hE hh;obtain ⟨xp0,xp1,xp2,xp3,xp4,xp5⟩:=XP.all;have xa0:=XA.b6.c0;have xa1:=XA.b6.c1;have xa2:=XA.b6.c2;have xa3:=XA.b6.c3;have xa4:=XA.b6.c4;have xa5:=XA.b6.c5;have xb0:=XB.b6.c0;have xb1:=XB.b6.c1;have xb2:=XB.b6.c2;have xb3:=XB.b6.c3;have xb4:=XB.b6.c4;have xb5:=XB.b6.c5)
     | (go_at_call 35;(with_reducible refine (rcmp_q a.qx.qr nc.qr (by decide) (by decide) (.inl (by decide)) (by decide) (by decide)).mono ?_);rintro e w_c2 ⟨rfl,hh⟩
        rw [HT2.out];(try replace hL:=hL.below hh);(try replace h:=h.below hh);(try replace XK:=XK.below hh);(try replace a:=a.below hh);(try replace XP:=XP.below hh);(try replace E0:=E0.below hh);(try replace p0:=p0.below hh);(try replace XA:=XA.below hh);(try replace XB:=XB.below hh);(try replace na:=na.below hh);(try replace nb:=nb.below hh);(try replace nc:=nc.below hh);(try replace nd:=nd.below hh);replace hb:=bend hb hh;replace hE:=EachH.belowR hE hh;obtain ⟨xp0,xp1,xp2,xp3,xp4,xp5⟩:=XP.all;have xa0:=XA.b6.c0;have xa1:=XA.b6.c1;have xa2:=XA.b6.c2;have xa3:=XA.b6.c3;have xa4:=XA.b6.c4;have xa5:=XA.b6.c5;have xb0:=XB.b6.c0;have xb1:=XB.b6.c1;have xb2:=XB.b6.c2;have xb3:=XB.b6.c3;have xb4:=XB.b6.c4;have xb5:=XB.b6.c5)
     | (go_at_call 35;(with_reducible refine (rcmp_q a.qy.qr nb.qr (by decide) (by decide) (.inl (by decide)) (by decide) (by decide)).mono ?_);rintro e w_c3 ⟨rfl,hh⟩
        rw [HT3.out];(try replace hL:=hL.below hh);(try replace h:=h.below hh);(try replace XK:=XK.below hh);(try replace a:=a.below hh);(try replace XP:=XP.below hh);(try replace E0:=E0.below hh);(try replace p0:=p0.below hh);(try replace XA:=XA.below hh);(try replace XB:=XB.below hh);(try replace na:=na.below hh);(try replace nb:=nb.below hh);(try replace nc:=nc.below hh);(try replace nd:=nd.below hh);replace hb:=bend hb hh;replace hE:=EachH.belowR hE hh;obtain ⟨xp0,xp1,xp2,xp3,xp4,xp5⟩:=XP.all;have xa0:=XA.b6.c0;have xa1:=XA.b6.c1;have xa2:=XA.b6.c2;have xa3:=XA.b6.c3;have xa4:=XA.b6.c4;have xa5:=XA.b6.c5;have xb0:=XB.b6.c0;have xb1:=XB.b6.c1;have xb2:=XB.b6.c2;have xb3:=XB.b6.c3;have xb4:=XB.b6.c4;have xb5:=XB.b6.c5)
     | (go_at_call 35;(with_reducible refine (rcmp_q a.qy.qr nd.qr (by decide) (by decide) (.inl (by decide)) (by decide) (by decide)).mono ?_);rintro e w_c4 ⟨rfl,hh⟩
        rw [HT4.out];(try replace hL:=hL.below hh);(try replace h:=h.below hh);(try replace XK:=XK.below hh);(try replace a:=a.below hh);(try replace XP:=XP.below hh);(try replace E0:=E0.below hh);(try replace p0:=p0.below hh);(try replace XA:=XA.below hh);(try replace XB:=XB.below hh);(try replace na:=na.below hh);(try replace nb:=nb.below hh);(try replace nc:=nc.below hh);(try replace nd:=nd.below hh);replace hb:=bend hb hh;replace hE:=EachH.belowR hE hh;obtain ⟨xp0,xp1,xp2,xp3,xp4,xp5⟩:=XP.all;have xa0:=XA.b6.c0;have xa1:=XA.b6.c1;have xa2:=XA.b6.c2;have xa3:=XA.b6.c3;have xa4:=XA.b6.c4;have xa5:=XA.b6.c5;have xb0:=XB.b6.c0;have xb1:=XB.b6.c1;have xb2:=XB.b6.c2;have xb3:=XB.b6.c3;have xb4:=XB.b6.c4;have xb5:=XB.b6.c5))
    clear HT1 HT2 HT3 HT4 ht1 ht2 ht3 ht4 XA XB na nb nc nd xp0 xa0 xb0 xp1 xa1 xb1 xp2 xa2 xb2 xp3 xa3 xb3 xp4 xa4 xb4 xp5 xa5 xb5
    by_cases hn2:n=2
    rotate_left
    · have hnb:((n:Int) == 2)=false:=by simp;omega
      have hnbb:((n:Int) != 2)=true:=by simp;omega
      replace hL:=hL.below (Below.refl _ _).drew
      replace h:=h.below (Below.refl _ _).drew
      replace XK:=XK.below (Below.refl _ _).drew
      replace a:=a.below (Below.refl _ _).drew
      replace XP:=XP.below (Below.refl _ _).drew
      replace E0:=E0.below (Below.refl _ _).drew
      replace p0:=p0.below (Below.refl _ _).drew
      replace hE:=EachH.belowR hE (Below.refl _ _).drew
      replace hb:=hb.drew
      refine wp_region_held_drew (S:=(fun _=>True)) (by kernel_rfl) (by trivial) (fun hHeld=>?_)
      refine wpAnyH_take (i:=0) (oi:=⟨some 133,.move (.tmp 0),37, "law.go:162",#[],none⟩) (v:=?_) rfl (by kernel_rfl) (by kernel_rfl) (by kernel_rfl) (fun _ _ _ h=>h) (Or.inl ⟨by rfl,?_⟩) hHeld ?_
      rotate_left
      · (intro w hSw;(try dsimp only at hSw);go_simp;try with_reducible rfl)
      simp only [Act.put,List.setIfInBounds_toArray,List.set_cons_zero,List.set_cons_succ]
      refine wpAnyH_take (i:=1) (oi:=⟨some 134,.call ⟨.builtin Builtin.len,#[.tmp 133],#[37]⟩,3, "law.go:162",#[⟨0,.data⟩],none⟩) (v:=?_) rfl (by kernel_rfl) (by kernel_rfl) (by kernel_rfl) (fun _ _ _ h=>h) (Or.inl ⟨by rfl,?_⟩) hHeld ?_
      rotate_left
      · (intro w hSw;(try dsimp only at hSw);go_simp;try with_reducible rfl)
      simp only [Act.put,List.setIfInBounds_toArray,List.set_cons_zero,List.set_cons_succ]
      refine wpAnyH_take (i:=2) (oi:=⟨some 135,.binOp BinOp.neq 3 (.tmp 134) (.const (Value.int IntKind.i64 2)) 3,4, "law.go:162",#[⟨1,.data⟩],none⟩) (v:=?_) rfl (by kernel_rfl) (by kernel_rfl) (by kernel_rfl) (fun _ _ _ h=>h) (Or.inl ⟨by rfl,?_⟩) hHeld ?_
      rotate_left
      · (intro w hSw;(try dsimp only at hSw);go_simp;try with_reducible rfl)
      simp only [Act.put,List.setIfInBounds_toArray,List.set_cons_zero,List.set_cons_succ]
      refine wpAnyH_take (i:=3) (oi:=⟨some 136,.move (.tmp 135),4, "law.go:162",#[⟨2,.data⟩],none⟩) (v:=?_) rfl (by kernel_rfl) (by kernel_rfl) (by kernel_rfl) (fun _ _ _ h=>h) (Or.inl ⟨by rfl,?_⟩) hHeld ?_
      rotate_left
      · (intro w hSw;(try dsimp only at hSw);go_simp;try with_reducible rfl)
      simp only [Act.put,List.setIfInBounds_toArray,List.set_cons_zero,List.set_cons_succ]
      refine wpAnyH_take (i:=4) (oi:=⟨some 137,.move (.tmp 0),37, "law.go:162",#[⟨3,.guard⟩],some (3,false)⟩) (v:=undef) rfl (by kernel_rfl) (by kernel_rfl) (by kernel_rfl) (fun _ _ _ h=>h) (Or.inr ⟨by rfl,rfl⟩) hHeld ?_
      simp only [Act.put,List.setIfInBounds_toArray,List.set_cons_zero,List.set_cons_succ]
      refine wpAnyH_take (i:=5) (oi:=⟨some 138,.indexAddr 37 (.tmp 137) (.const (Value.int IntKind.i64 0)),0, "law.go:162",#[⟨4,.data⟩,⟨3,.guard⟩],some (3,false)⟩) (v:=undef) rfl (by kernel_rfl) (by kernel_rfl) (by kernel_rfl) (fun _ _ _ h=>h) (Or.inr ⟨by rfl,rfl⟩) hHeld ?_
      simp only [Act.put,List.setIfInBounds_toArray,List.set_cons_zero,List.set_cons_succ]
      refine wpAnyH_take (i:=6) (oi:=⟨some 139,.fieldAddr 73 (.tmp 138) 2,0, "law.go:162",#[⟨5,.data⟩,⟨3,.guard⟩],some (3,false)⟩) (v:=undef) rfl (by kernel_rfl) (by kernel_rfl) (by kernel_rfl) (fun _ _ _ h=>h) (Or.inr ⟨by rfl,rfl⟩) hHeld ?_
      simp only [Act.put,List.setIfInBounds_toArray,List.set_cons_zero,List.set_cons_succ]
      refine wpAnyH_take (i:=7) (oi:=⟨some 140,.load 26 (.tmp 139),26, "law.go:162",#[⟨6,.data⟩,⟨3,.guard⟩],some (3,false)⟩) (v:=undef) rfl (by kernel_rfl) (by kernel_rfl) (by kernel_rfl) (fun _ _ _ h=>h) (Or.inr ⟨by rfl,rfl⟩) hHeld ?_
      simp only [Act.put,List.setIfInBounds_toArray,List.set_cons_zero,List.set_cons_succ]
      refine wpAnyH_take (i:=8) (oi:=⟨some 141,.move (.tmp 0),37, "law.go:162",#[⟨3,.guard⟩],some (3,false)⟩) (v:=undef) rfl (by kernel_rfl) (by kernel_rfl) (by kernel_rfl) (fun _ _ _ h=>h) (Or.inr ⟨by rfl,rfl⟩) hHeld ?_
      simp only [Act.put,List.setIfInBounds_toArray,List.set_cons_zero,List.set_cons_succ]
      refine wpAnyH_take (i:=9) (oi:=⟨some 142,.indexAddr 37 (.tmp 141) (.const (Value.int IntKind.i64 1)),0, "law.go:162",#[⟨8,.data⟩,⟨3,.guard⟩],some (3,false)⟩) (v:=undef) rfl (by kernel_rfl) (by kernel_rfl) (by kernel_rfl) (fun _ _ _ h=>h) (Or.inr ⟨by rfl,rfl⟩) hHeld ?_
      simp only [Act.put,List.setIfInBounds_toArray,List.set_cons_zero,List.set_cons_succ]
      refine wpAnyH_take (i:=10) (oi:=⟨some 143,.fieldAddr 73 (.tmp 142) 2,0, "law.go:162",#[⟨9,.data⟩,⟨3,.guard⟩],some (3,false)⟩) (v:=undef) rfl (by kernel_rfl) (by kernel_rfl) (by kernel_rfl) (fun _ _ _ h=>h) (Or.inr ⟨by rfl,rfl⟩) hHeld ?_
      simp only [Act.put,List.setIfInBounds_toArray,List.set_cons_zero,List.set_cons_succ]
      refine wpAnyH_take (i:=11) (oi:=⟨some 144,.load 26 (.tmp 143),26, "law.go:162",#[⟨10,.data⟩,⟨3,.guard⟩],some (3,false)⟩) (v:=undef) rfl (by kernel_rfl) (by kernel_rfl) (by kernel_rfl) (fun _ _ _ h=>h) (Or.inr ⟨by rfl,rfl⟩) hHeld ?_
      simp only [Act.put,List.setIfInBounds_toArray,List.set_cons_zero,List.set_cons_succ]
      refine wpAnyH_take (i:=12) (oi:=⟨some 145,.call ⟨.value (.func 35),#[.tmp 140,.tmp 144],#[26,26]⟩,3, "law.go:162",#[⟨7,.data⟩,⟨11,.data⟩,⟨3,.chain⟩,⟨3,.guard⟩],some (3,false)⟩) (v:=undef) rfl (by kernel_rfl) (by kernel_rfl) (by kernel_rfl) (fun _ _ _ h=>h) (Or.inr ⟨by rfl,rfl⟩) hHeld ?_
      simp only [Act.put,List.setIfInBounds_toArray,List.set_cons_zero,List.set_cons_succ]
      refine wpAnyH_take (i:=13) (oi:=⟨some 146,.binOp BinOp.neq 3 (.tmp 145) (.const (Value.int IntKind.i64 0)) 3,4, "law.go:162",#[⟨12,.data⟩,⟨3,.guard⟩],some (3,false)⟩) (v:=undef) rfl (by kernel_rfl) (by kernel_rfl) (by kernel_rfl) (fun _ _ _ h=>h) (Or.inr ⟨by rfl,rfl⟩) hHeld ?_
      simp only [Act.put,List.setIfInBounds_toArray,List.set_cons_zero,List.set_cons_succ]
      refine wpAnyH_take (i:=14) (oi:=⟨some 147,.pick (.tmp 136) (.const (Value.bool true)) (.tmp 146),4, "law.go:162",#[⟨3,.data⟩,⟨13,.data⟩],none⟩) (v:=?_) rfl (by kernel_rfl) (by kernel_rfl) (by kernel_rfl) (fun _ _ _ h=>h) (Or.inl ⟨by rfl,?_⟩) hHeld ?_
      rotate_left
      · (intro w hSw;(try dsimp only at hSw);go_simp;try with_reducible rfl)
      simp only [Act.put,List.setIfInBounds_toArray,List.set_cons_zero,List.set_cons_succ]
      refine wpAnyH_done (by kernel_rfl) ?_ _
      go_wp2_with (first
       | (go_at_call 10;(with_reducible refine (wakes13_any _).mono ?_);rintro e w_z ⟨rfl,hh⟩
          replace hb:=bend hb hh))
      (try rw [Exit.noGoto_ret])
      go_ret;exact ⟨rfl,hb⟩
    subst hn2
    obtain ⟨P1,y1,hP1,hy1,p1⟩:=hE.at_ (i:=1) (by rw [HN.out];decide)
    obtain ⟨g1,o1,hix1,E1,_⟩:=hL.ht hP1
    have hixb:∀ w',(Instr.indexAt 37 (.slice A 2 c) (.int .i64 1)).run Tryz.prog w'=.ok (.pointer (some ⟨g1,o1,none⟩)) w':=fun w'=>hix1 2 c w' (by decide)
    have hV:V=[y0,y1]:=by
     have h5:=HVn.out;have h6:=HY0.out
     match V,h5 with
     | [v0,v1],_=>cases h6;cases hy1;rfl
    have hw1:y1.w ≠ 0:=by have:=HG.out.2 _ (List.mem_of_getElem? hy1);grind
    have HW1:=Lib.hid hw1;clear hP1 hy1 hix1 hw1
    by_cases hww:y0.w=y1.w
    rotate_left
    · obtain ⟨T5,hT5,ht5⟩:∃ T,cmpQ y0.w y1.w=T∧((T:Int) == 0)=false:=⟨_,rfl,by simpa using fun e=>hww (cmpQ_nul.1 e)⟩
      have HT5:=Lib.hid hT5;clear hT5 hww
      replace hL:=hL.below (Below.refl _ _).drew
      replace h:=h.below (Below.refl _ _).drew
      replace XK:=XK.below (Below.refl _ _).drew
      replace a:=a.below (Below.refl _ _).drew
      replace XP:=XP.below (Below.refl _ _).drew
      replace E0:=E0.below (Below.refl _ _).drew
      replace p0:=p0.below (Below.refl _ _).drew
      replace E1:=E1.below (Below.refl _ _).drew
      replace p1:=p1.below (Below.refl _ _).drew
      replace hE:=EachH.belowR hE (Below.refl _ _).drew
      replace hb:=hb.drew
      refine wp_region_held_drew (S:=(fun w'=>w'.cell? ⟨g0,o0+6,none⟩=some (.bool P0.w.s)∧w'.cell? ⟨g0,o0+7,none⟩=some (.slice P0.w.A P0.w.n P0.w.c)∧w'.cell? ⟨g0,o0+8,none⟩=some (.slice P0.w.B P0.w.m P0.w.d)∧w'.cell? ⟨g1,o1+6,none⟩=some (.bool P1.w.s)∧w'.cell? ⟨g1,o1+7,none⟩=some (.slice P1.w.A P1.w.n P1.w.c)∧w'.cell? ⟨g1,o1+8,none⟩=some (.slice P1.w.B P1.w.m P1.w.d))) (by kernel_rfl) (by with_reducible exact ⟨E0.c6,E0.c7,E0.c8,E1.c6,E1.c7,E1.c8⟩) (fun hHeld=>?_)
      refine wpAnyH_take (i:=0) (oi:=⟨some 133,.move (.tmp 0),37, "law.go:162",#[],none⟩) (v:=?_) rfl (by kernel_rfl) (by kernel_rfl) (by kernel_rfl) (fun _ _ _ h=>h) (Or.inl ⟨by rfl,?_⟩) hHeld ?_
      rotate_left
      · (intro w hSw;(try dsimp only at hSw);go_simp;try with_reducible rfl)
      simp only [Act.put,List.setIfInBounds_toArray,List.set_cons_zero,List.set_cons_succ]
      refine wpAnyH_take (i:=1) (oi:=⟨some 134,.call ⟨.builtin Builtin.len,#[.tmp 133],#[37]⟩,3, "law.go:162",#[⟨0,.data⟩],none⟩) (v:=?_) rfl (by kernel_rfl) (by kernel_rfl) (by kernel_rfl) (fun _ _ _ h=>h) (Or.inl ⟨by rfl,?_⟩) hHeld ?_
      rotate_left
      · (intro w hSw;(try dsimp only at hSw);go_simp;try with_reducible rfl)
      simp only [Act.put,List.setIfInBounds_toArray,List.set_cons_zero,List.set_cons_succ]
      refine wpAnyH_take (i:=2) (oi:=⟨some 135,.binOp BinOp.neq 3 (.tmp 134) (.const (Value.int IntKind.i64 2)) 3,4, "law.go:162",#[⟨1,.data⟩],none⟩) (v:=?_) rfl (by kernel_rfl) (by kernel_rfl) (by kernel_rfl) (fun _ _ _ h=>h) (Or.inl ⟨by rfl,?_⟩) hHeld ?_
      rotate_left
      · (intro w hSw;(try dsimp only at hSw);go_simp;try with_reducible rfl)
      simp only [Act.put,List.setIfInBounds_toArray,List.set_cons_zero,List.set_cons_succ]
      refine wpAnyH_take (i:=3) (oi:=⟨some 136,.move (.tmp 135),4, "law.go:162",#[⟨2,.data⟩],none⟩) (v:=?_) rfl (by kernel_rfl) (by kernel_rfl) (by kernel_rfl) (fun _ _ _ h=>h) (Or.inl ⟨by rfl,?_⟩) hHeld ?_
      rotate_left
      · (intro w hSw;(try dsimp only at hSw);go_simp;try with_reducible rfl)
      simp only [Act.put,List.setIfInBounds_toArray,List.set_cons_zero,List.set_cons_succ]
      refine wpAnyH_take (i:=4) (oi:=⟨some 137,.move (.tmp 0),37, "law.go:162",#[⟨3,.guard⟩],some (3,false)⟩) (v:=?_) rfl (by kernel_rfl) (by kernel_rfl) (by kernel_rfl) (fun _ _ _ h=>h) (Or.inl ⟨by rfl,?_⟩) hHeld ?_
      rotate_left
      · (intro w hSw;(try dsimp only at hSw);go_simp;try with_reducible rfl)
      simp only [Act.put,List.setIfInBounds_toArray,List.set_cons_zero,List.set_cons_succ]
      refine wpAnyH_take (i:=5) (oi:=⟨some 138,.indexAddr 37 (.tmp 137) (.const (Value.int IntKind.i64 0)),0, "law.go:162",#[⟨4,.data⟩,⟨3,.guard⟩],some (3,false)⟩) (v:=?_) rfl (by kernel_rfl) (by kernel_rfl) (by kernel_rfl) (fun _ _ _ h=>h) (Or.inl ⟨by rfl,?_⟩) hHeld ?_
      rotate_left
      · (intro w hSw;(try dsimp only at hSw);go_simp;try with_reducible rfl)
      simp only [Act.put,List.setIfInBounds_toArray,List.set_cons_zero,List.set_cons_succ]
      refine wpAnyH_take (i:=6) (oi:=⟨some 139,.fieldAddr 73 (.tmp 138) 2,0, "law.go:162",#[⟨5,.data⟩,⟨3,.guard⟩],some (3,false)⟩) (v:=?_) rfl (by kernel_rfl) (by kernel_rfl) (by kernel_rfl) (fun _ _ _ h=>h) (Or.inl ⟨by rfl,?_⟩) hHeld ?_
      rotate_left
      · (intro w hSw;(try dsimp only at hSw);go_simp;try with_reducible rfl)
      simp only [Act.put,List.setIfInBounds_toArray,List.set_cons_zero,List.set_cons_succ]
      refine wpAnyH_take (i:=7) (oi:=⟨some 140,.load 26 (.tmp 139),26, "law.go:162",#[⟨6,.data⟩,⟨3,.guard⟩],some (3,false)⟩) (v:=?_) rfl (by kernel_rfl) (by kernel_rfl) (by kernel_rfl) (fun _ _ _ h=>h) (Or.inl ⟨by rfl,?_⟩) hHeld ?_
      rotate_left
      · (intro w hSw;(try dsimp only at hSw);go_simp;try with_reducible rfl)
      simp only [Act.put,List.setIfInBounds_toArray,List.set_cons_zero,List.set_cons_succ]
      refine wpAnyH_take (i:=8) (oi:=⟨some 141,.move (.tmp 0),37, "law.go:162",#[⟨3,.guard⟩],some (3,false)⟩) (v:=?_) rfl (by kernel_rfl) (by kernel_rfl) (by kernel_rfl) (fun _ _ _ h=>h) (Or.inl ⟨by rfl,?_⟩) hHeld ?_
      rotate_left
      · (intro w hSw;(try dsimp only at hSw);go_simp;try with_reducible rfl)
      simp only [Act.put,List.setIfInBounds_toArray,List.set_cons_zero,List.set_cons_succ]
      refine wpAnyH_take (i:=9) (oi:=⟨some 142,.indexAddr 37 (.tmp 141) (.const (Value.int IntKind.i64 1)),0, "law.go:162",#[⟨8,.data⟩,⟨3,.guard⟩],some (3,false)⟩) (v:=?_) rfl (by kernel_rfl) (by kernel_rfl) (by kernel_rfl) (fun _ _ _ h=>h) (Or.inl ⟨by rfl,?_⟩) hHeld ?_
      rotate_left
      · (intro w hSw;(try dsimp only at hSw);go_simp;try with_reducible rfl)
      simp only [Act.put,List.setIfInBounds_toArray,List.set_cons_zero,List.set_cons_succ]
      refine wpAnyH_take (i:=10) (oi:=⟨some 143,.fieldAddr 73 (.tmp 142) 2,0, "law.go:162",#[⟨9,.data⟩,⟨3,.guard⟩],some (3,false)⟩) (v:=?_) rfl (by kernel_rfl) (by kernel_rfl) (by kernel_rfl) (fun _ _ _ h=>h) (Or.inl ⟨by rfl,?_⟩) hHeld ?_
      rotate_left
      · (intro w hSw;(try dsimp only at hSw);go_simp;try with_reducible rfl)
      simp only [Act.put,List.setIfInBounds_toArray,List.set_cons_zero,List.set_cons_succ]
      refine wpAnyH_take (i:=11) (oi:=⟨some 144,.load 26 (.tmp 143),26, "law.go:162",#[⟨10,.data⟩,⟨3,.guard⟩],some (3,false)⟩) (v:=?_) rfl (by kernel_rfl) (by kernel_rfl) (by kernel_rfl) (fun _ _ _ h=>h) (Or.inl ⟨by rfl,?_⟩) hHeld ?_
      rotate_left
      · (intro w hSw;(try dsimp only at hSw);go_simp;try with_reducible rfl)
      simp only [Act.put,List.setIfInBounds_toArray,List.set_cons_zero,List.set_cons_succ]
      refine wpAnyH_ready (rs:=[12]) (by kernel_rfl) (by simp) ?_
      refine AllReadyH.cons (o:=⟨some 145,.call ⟨.value (.func 35),#[.tmp 140,.tmp 144],#[26,26]⟩,3, "law.go:162",#[⟨7,.data⟩,⟨11,.data⟩,⟨3,.chain⟩,⟨3,.guard⟩],some (3,false)⟩) rfl (fun K1 hK1=>?_) AllReadyH.nil
      go_simp
      first
      | (go_at_call 35;(with_reducible refine (rcmp_q p0.qw p1.qw (by decide) (by decide) (.inl (by decide)) (by decide) (by decide)).mono ?_);rintro e w_d ⟨rfl,hh⟩
         rw [HT5.out];(try replace hL:=hL.below hh);(try replace h:=h.below hh);(try replace XK:=XK.below hh);(try replace a:=a.below hh);(try replace XP:=XP.below hh);(try replace E0:=E0.below hh);(try replace p0:=p0.below hh);(try replace E1:=E1.below hh);(try replace p1:=p1.below hh);replace hb:=bend hb hh;replace hE:=EachH.belowR hE hh)
      refine hK1.out _ _ (by with_reducible exact ⟨E0.c6,E0.c7,E0.c8,E1.c6,E1.c7,E1.c8⟩) (fun hHeld=>?_)
      clear hK1 K1
      refine wpAnyH_take (i:=13) (oi:=⟨some 146,.binOp BinOp.neq 3 (.tmp 145) (.const (Value.int IntKind.i64 0)) 3,4, "law.go:162",#[⟨12,.data⟩,⟨3,.guard⟩],some (3,false)⟩) (v:=?_) rfl (by kernel_rfl) (by kernel_rfl) (by kernel_rfl) (fun _ _ _ h=>h) (Or.inl ⟨by rfl,?_⟩) hHeld ?_
      rotate_left
      · (intro w hSw;(try dsimp only at hSw);go_simp;try with_reducible rfl)
      simp only [Act.put,List.setIfInBounds_toArray,List.set_cons_zero,List.set_cons_succ]
      refine wpAnyH_take (i:=14) (oi:=⟨some 147,.pick (.tmp 136) (.const (Value.bool true)) (.tmp 146),4, "law.go:162",#[⟨3,.data⟩,⟨13,.data⟩],none⟩) (v:=?_) rfl (by kernel_rfl) (by kernel_rfl) (by kernel_rfl) (fun _ _ _ h=>h) (Or.inl ⟨by rfl,?_⟩) hHeld ?_
      rotate_left
      · (intro w hSw;(try dsimp only at hSw);go_simp;try with_reducible rfl)
      simp only [Act.put,List.setIfInBounds_toArray,List.set_cons_zero,List.set_cons_succ]
      refine wpAnyH_done (by kernel_rfl) ?_ _
      go_wp2_with (first
       | (go_at_call 10;(with_reducible refine (wakes13_any _).mono ?_);rintro e w_z ⟨rfl,hh⟩
          replace hb:=bend hb hh))
      (try rw [Exit.noGoto_ret])
      go_ret;exact ⟨rfl,hb⟩
    · have HT5:Hid (cmpQ y0.w y1.w=0):=cmpQ_nul.2 hww
      have HSm:Hid (decide ((bez t V).px=y0.px+(y1.px - y0.px)*t∧(bez t V).py=y0.py+(y1.py - y0.py)*t)=true):=by
       have h5:=line_p (t:=t) HW0.out hww
       rw [← hV] at h5
       exact decide_eq_true h5
      clear hww hV
      replace hL:=hL.below (Below.refl _ _).drew
      replace h:=h.below (Below.refl _ _).drew
      replace XK:=XK.below (Below.refl _ _).drew
      replace a:=a.below (Below.refl _ _).drew
      replace XP:=XP.below (Below.refl _ _).drew
      replace E0:=E0.below (Below.refl _ _).drew
      replace p0:=p0.below (Below.refl _ _).drew
      replace E1:=E1.below (Below.refl _ _).drew
      replace p1:=p1.below (Below.refl _ _).drew
      replace hE:=EachH.belowR hE (Below.refl _ _).drew
      replace hb:=hb.drew
      refine wp_region_held_drew (S:=(fun w'=>w'.cell? ⟨g0,o0+6,none⟩=some (.bool P0.w.s)∧w'.cell? ⟨g0,o0+7,none⟩=some (.slice P0.w.A P0.w.n P0.w.c)∧w'.cell? ⟨g0,o0+8,none⟩=some (.slice P0.w.B P0.w.m P0.w.d)∧w'.cell? ⟨g1,o1+6,none⟩=some (.bool P1.w.s)∧w'.cell? ⟨g1,o1+7,none⟩=some (.slice P1.w.A P1.w.n P1.w.c)∧w'.cell? ⟨g1,o1+8,none⟩=some (.slice P1.w.B P1.w.m P1.w.d))) (by kernel_rfl) (by with_reducible exact ⟨E0.c6,E0.c7,E0.c8,E1.c6,E1.c7,E1.c8⟩) (fun hHeld=>?_)
      refine wpAnyH_take (i:=0) (oi:=⟨some 133,.move (.tmp 0),37, "law.go:162",#[],none⟩) (v:=?_) rfl (by kernel_rfl) (by kernel_rfl) (by kernel_rfl) (fun _ _ _ h=>h) (Or.inl ⟨by rfl,?_⟩) hHeld ?_
      rotate_left
      · (intro w hSw;(try dsimp only at hSw);go_simp;try with_reducible rfl)
      simp only [Act.put,List.setIfInBounds_toArray,List.set_cons_zero,List.set_cons_succ]
      refine wpAnyH_take (i:=1) (oi:=⟨some 134,.call ⟨.builtin Builtin.len,#[.tmp 133],#[37]⟩,3, "law.go:162",#[⟨0,.data⟩],none⟩) (v:=?_) rfl (by kernel_rfl) (by kernel_rfl) (by kernel_rfl) (fun _ _ _ h=>h) (Or.inl ⟨by rfl,?_⟩) hHeld ?_
      rotate_left
      · (intro w hSw;(try dsimp only at hSw);go_simp;try with_reducible rfl)
      simp only [Act.put,List.setIfInBounds_toArray,List.set_cons_zero,List.set_cons_succ]
      refine wpAnyH_take (i:=2) (oi:=⟨some 135,.binOp BinOp.neq 3 (.tmp 134) (.const (Value.int IntKind.i64 2)) 3,4, "law.go:162",#[⟨1,.data⟩],none⟩) (v:=?_) rfl (by kernel_rfl) (by kernel_rfl) (by kernel_rfl) (fun _ _ _ h=>h) (Or.inl ⟨by rfl,?_⟩) hHeld ?_
      rotate_left
      · (intro w hSw;(try dsimp only at hSw);go_simp;try with_reducible rfl)
      simp only [Act.put,List.setIfInBounds_toArray,List.set_cons_zero,List.set_cons_succ]
      refine wpAnyH_take (i:=3) (oi:=⟨some 136,.move (.tmp 135),4, "law.go:162",#[⟨2,.data⟩],none⟩) (v:=?_) rfl (by kernel_rfl) (by kernel_rfl) (by kernel_rfl) (fun _ _ _ h=>h) (Or.inl ⟨by rfl,?_⟩) hHeld ?_
      rotate_left
      · (intro w hSw;(try dsimp only at hSw);go_simp;try with_reducible rfl)
      simp only [Act.put,List.setIfInBounds_toArray,List.set_cons_zero,List.set_cons_succ]
      refine wpAnyH_take (i:=4) (oi:=⟨some 137,.move (.tmp 0),37, "law.go:162",#[⟨3,.guard⟩],some (3,false)⟩) (v:=?_) rfl (by kernel_rfl) (by kernel_rfl) (by kernel_rfl) (fun _ _ _ h=>h) (Or.inl ⟨by rfl,?_⟩) hHeld ?_
      rotate_left
      · (intro w hSw;(try dsimp only at hSw);go_simp;try with_reducible rfl)
      simp only [Act.put,List.setIfInBounds_toArray,List.set_cons_zero,List.set_cons_succ]
      refine wpAnyH_take (i:=5) (oi:=⟨some 138,.indexAddr 37 (.tmp 137) (.const (Value.int IntKind.i64 0)),0, "law.go:162",#[⟨4,.data⟩,⟨3,.guard⟩],some (3,false)⟩) (v:=?_) rfl (by kernel_rfl) (by kernel_rfl) (by kernel_rfl) (fun _ _ _ h=>h) (Or.inl ⟨by rfl,?_⟩) hHeld ?_
      rotate_left
      · (intro w hSw;(try dsimp only at hSw);go_simp;try with_reducible rfl)
      simp only [Act.put,List.setIfInBounds_toArray,List.set_cons_zero,List.set_cons_succ]
      refine wpAnyH_take (i:=6) (oi:=⟨some 139,.fieldAddr 73 (.tmp 138) 2,0, "law.go:162",#[⟨5,.data⟩,⟨3,.guard⟩],some (3,false)⟩) (v:=?_) rfl (by kernel_rfl) (by kernel_rfl) (by kernel_rfl) (fun _ _ _ h=>h) (Or.inl ⟨by rfl,?_⟩) hHeld ?_
      rotate_left
      · (intro w hSw;(try dsimp only at hSw);go_simp;try with_reducible rfl)
      simp only [Act.put,List.setIfInBounds_toArray,List.set_cons_zero,List.set_cons_succ]
      refine wpAnyH_take (i:=7) (oi:=⟨some 140,.load 26 (.tmp 139),26, "law.go:162",#[⟨6,.data⟩,⟨3,.guard⟩],some (3,false)⟩) (v:=?_) rfl (by kernel_rfl) (by kernel_rfl) (by kernel_rfl) (fun _ _ _ h=>h) (Or.inl ⟨by rfl,?_⟩) hHeld ?_
      rotate_left
      · (intro w hSw;(try dsimp only at hSw);go_simp;try with_reducible rfl)
      simp only [Act.put,List.setIfInBounds_toArray,List.set_cons_zero,List.set_cons_succ]
      refine wpAnyH_take (i:=8) (oi:=⟨some 141,.move (.tmp 0),37, "law.go:162",#[⟨3,.guard⟩],some (3,false)⟩) (v:=?_) rfl (by kernel_rfl) (by kernel_rfl) (by kernel_rfl) (fun _ _ _ h=>h) (Or.inl ⟨by rfl,?_⟩) hHeld ?_
      rotate_left
      · (intro w hSw;(try dsimp only at hSw);go_simp;try with_reducible rfl)
      simp only [Act.put,List.setIfInBounds_toArray,List.set_cons_zero,List.set_cons_succ]
      refine wpAnyH_take (i:=9) (oi:=⟨some 142,.indexAddr 37 (.tmp 141) (.const (Value.int IntKind.i64 1)),0, "law.go:162",#[⟨8,.data⟩,⟨3,.guard⟩],some (3,false)⟩) (v:=?_) rfl (by kernel_rfl) (by kernel_rfl) (by kernel_rfl) (fun _ _ _ h=>h) (Or.inl ⟨by rfl,?_⟩) hHeld ?_
      rotate_left
      · (intro w hSw;(try dsimp only at hSw);go_simp;try with_reducible rfl)
      simp only [Act.put,List.setIfInBounds_toArray,List.set_cons_zero,List.set_cons_succ]
      refine wpAnyH_take (i:=10) (oi:=⟨some 143,.fieldAddr 73 (.tmp 142) 2,0, "law.go:162",#[⟨9,.data⟩,⟨3,.guard⟩],some (3,false)⟩) (v:=?_) rfl (by kernel_rfl) (by kernel_rfl) (by kernel_rfl) (fun _ _ _ h=>h) (Or.inl ⟨by rfl,?_⟩) hHeld ?_
      rotate_left
      · (intro w hSw;(try dsimp only at hSw);go_simp;try with_reducible rfl)
      simp only [Act.put,List.setIfInBounds_toArray,List.set_cons_zero,List.set_cons_succ]
      refine wpAnyH_take (i:=11) (oi:=⟨some 144,.load 26 (.tmp 143),26, "law.go:162",#[⟨10,.data⟩,⟨3,.guard⟩],some (3,false)⟩) (v:=?_) rfl (by kernel_rfl) (by kernel_rfl) (by kernel_rfl) (fun _ _ _ h=>h) (Or.inl ⟨by rfl,?_⟩) hHeld ?_
      rotate_left
      · (intro w hSw;(try dsimp only at hSw);go_simp;try with_reducible rfl)
      simp only [Act.put,List.setIfInBounds_toArray,List.set_cons_zero,List.set_cons_succ]
      refine wpAnyH_ready (rs:=[12]) (by kernel_rfl) (by simp) ?_
      refine AllReadyH.cons (o:=⟨some 145,.call ⟨.value (.func 35),#[.tmp 140,.tmp 144],#[26,26]⟩,3, "law.go:162",#[⟨7,.data⟩,⟨11,.data⟩,⟨3,.chain⟩,⟨3,.guard⟩],some (3,false)⟩) rfl (fun K1 hK1=>?_) AllReadyH.nil
      go_simp
      first
      | (go_at_call 35;(with_reducible refine (rcmp_q p0.qw p1.qw (by decide) (by decide) (.inl (by decide)) (by decide) (by decide)).mono ?_);rintro e w_d ⟨rfl,hh⟩
         rw [HT5.out];(try replace hL:=hL.below hh);(try replace h:=h.below hh);(try replace XK:=XK.below hh);(try replace a:=a.below hh);(try replace XP:=XP.below hh);(try replace E0:=E0.below hh);(try replace p0:=p0.below hh);(try replace E1:=E1.below hh);(try replace p1:=p1.below hh);replace hb:=bend hb hh;replace hE:=EachH.belowR hE hh)
      refine hK1.out _ _ (by with_reducible exact ⟨E0.c6,E0.c7,E0.c8,E1.c6,E1.c7,E1.c8⟩) (fun hHeld=>?_)
      clear hK1 K1
      refine wpAnyH_take (i:=13) (oi:=⟨some 146,.binOp BinOp.neq 3 (.tmp 145) (.const (Value.int IntKind.i64 0)) 3,4, "law.go:162",#[⟨12,.data⟩,⟨3,.guard⟩],some (3,false)⟩) (v:=?_) rfl (by kernel_rfl) (by kernel_rfl) (by kernel_rfl) (fun _ _ _ h=>h) (Or.inl ⟨by rfl,?_⟩) hHeld ?_
      rotate_left
      · (intro w hSw;(try dsimp only at hSw);go_simp;try with_reducible rfl)
      simp only [Act.put,List.setIfInBounds_toArray,List.set_cons_zero,List.set_cons_succ]
      refine wpAnyH_take (i:=14) (oi:=⟨some 147,.pick (.tmp 136) (.const (Value.bool true)) (.tmp 146),4, "law.go:162",#[⟨3,.data⟩,⟨13,.data⟩],none⟩) (v:=?_) rfl (by kernel_rfl) (by kernel_rfl) (by kernel_rfl) (fun _ _ _ h=>h) (Or.inl ⟨by rfl,?_⟩) hHeld ?_
      rotate_left
      · (intro w hSw;(try dsimp only at hSw);go_simp;try with_reducible rfl)
      simp only [Act.put,List.setIfInBounds_toArray,List.set_cons_zero,List.set_cons_succ]
      refine wpAnyH_done (by kernel_rfl) ?_ _
      have epl:=E0.ldH
      go_upto_region 28 with (first
       | (go_at_call 28;(with_reducible refine (cpoint_p p0 (by decide) (by decide) HW0.out).mono ?_);rintro e w_y ⟨s_y,A_y,n_y,c_y,B_y,m_y,d_y,t_y,E_y,i_y,e_y,F_y,j_y,f_y,rfl,y,hh⟩
          (try replace hL:=hL.below hh);(try replace h:=h.below hh);(try replace XK:=XK.below hh);(try replace a:=a.below hh);(try replace XP:=XP.below hh);(try replace E0:=E0.below hh);(try replace p0:=p0.below hh);(try replace E1:=E1.below hh);(try replace p1:=p1.below hh);replace hb:=bend hb hh;replace hE:=EachH.belowR hE hh))
      clear epl
      have XY:=B6.new' w_y (Value.bool s_y) (Value.slice A_y n_y c_y) (Value.slice B_y m_y d_y) (Value.bool t_y) (Value.slice E_y i_y e_y) (Value.slice F_y j_y f_y) w_y.heap.size rfl
      have hh:Below w_y.heap.size w_y (w_y.alloc (Obj.cells #[Value.bool s_y,Value.slice A_y n_y c_y,Value.slice B_y m_y d_y,Value.bool t_y,Value.slice E_y i_y e_y,Value.slice F_y j_y f_y] 28)):=(Below.refl w_y.heap.size w_y).alloc (Nat.le_refl _) _
      have hzW5:(w_y.alloc (Obj.cells #[Value.bool s_y,Value.slice A_y n_y c_y,Value.slice B_y m_y d_y,Value.bool t_y,Value.slice E_y i_y e_y,Value.slice F_y j_y f_y] 28)).heap.size=w_y.heap.size+1:=World.size_alloc _ _
      generalize (w_y.alloc (Obj.cells #[Value.bool s_y,Value.slice A_y n_y c_y,Value.slice B_y m_y d_y,Value.bool t_y,Value.slice E_y i_y e_y,Value.slice F_y j_y f_y] 28))=W5 at *
      replace hL:=hL.below hh;replace h:=h.below hh;replace XK:=XK.below hh;replace a:=a.below hh;replace XP:=XP.below hh;replace E0:=E0.below hh;replace p0:=p0.below hh;replace E1:=E1.below hh;replace p1:=p1.below hh;replace y:=y.below hh;replace hE:=EachH.belowR hE hh;replace hb:=bend hb hh;clear hh;have epl:=E1.ldH
      go_upto_region 29 with (first
       | (go_at_call 28;(with_reducible refine (cpoint_p p1 (by decide) (by decide) HW1.out).mono ?_);rintro e w_v ⟨s_v,A_v,n_v,c_v,B_v,m_v,d_v,t_v,E_v,i_v,e_v,F_v,j_v,f_v,rfl,v,hh⟩
          (try replace hL:=hL.below hh);(try replace h:=h.below hh);(try replace XK:=XK.below hh);(try replace a:=a.below hh);(try replace XP:=XP.below hh);(try replace E0:=E0.below hh);(try replace p0:=p0.below hh);(try replace E1:=E1.below hh);(try replace p1:=p1.below hh);(try replace y:=y.below hh);(try replace XY:=XY.below hh);replace hb:=bend hb hh;replace hE:=EachH.belowR hE hh))
      clear epl
      have XV:=B6.new' w_v (Value.bool s_v) (Value.slice A_v n_v c_v) (Value.slice B_v m_v d_v) (Value.bool t_v) (Value.slice E_v i_v e_v) (Value.slice F_v j_v f_v) w_v.heap.size rfl
      have hh:Below w_v.heap.size w_v (w_v.alloc (Obj.cells #[Value.bool s_v,Value.slice A_v n_v c_v,Value.slice B_v m_v d_v,Value.bool t_v,Value.slice E_v i_v e_v,Value.slice F_v j_v f_v] 28)):=(Below.refl w_v.heap.size w_v).alloc (Nat.le_refl _) _
      have hzW6:(w_v.alloc (Obj.cells #[Value.bool s_v,Value.slice A_v n_v c_v,Value.slice B_v m_v d_v,Value.bool t_v,Value.slice E_v i_v e_v,Value.slice F_v j_v f_v] 28)).heap.size=w_v.heap.size+1:=World.size_alloc _ _
      generalize (w_v.alloc (Obj.cells #[Value.bool s_v,Value.slice A_v n_v c_v,Value.slice B_v m_v d_v,Value.bool t_v,Value.slice E_v i_v e_v,Value.slice F_v j_v f_v] 28))=W6 at *
      replace hL:=hL.below hh;replace h:=h.below hh;replace XK:=XK.below hh;replace a:=a.below hh;replace XP:=XP.below hh;replace E0:=E0.below hh;replace p0:=p0.below hh;replace E1:=E1.below hh;replace p1:=p1.below hh;replace y:=y.below hh;replace XY:=XY.below hh;replace v:=v.below hh;replace hE:=EachH.belowR hE hh;replace hb:=bend hb hh;clear hh;clear hL hE E0 E1 p0 p1
      replace h:=h.below (Below.refl _ _).drew
      replace a:=a.below (Below.refl _ _).drew
      replace y:=y.below (Below.refl _ _).drew
      replace v:=v.below (Below.refl _ _).drew
      replace XK:=XK.below (Below.refl _ _).drew
      replace XP:=XP.below (Below.refl _ _).drew
      replace XY:=XY.below (Below.refl _ _).drew
      replace XV:=XV.below (Below.refl _ _).drew
      replace hb:=hb.drew
      refine wp_region_held_drew (S:=(fun w'=>w'.cell? ⟨w_a.heap.size,0,none⟩=some (.bool s_a)∧w'.cell? ⟨w_a.heap.size,1,none⟩=some (.slice A_a n_a c_a)∧w'.cell? ⟨w_a.heap.size,2,none⟩=some (.slice B_a m_a d_a)∧w'.cell? ⟨w_a.heap.size,3,none⟩=some (.bool t_a)∧w'.cell? ⟨w_a.heap.size,4,none⟩=some (.slice E_a i_a e_a)∧w'.cell? ⟨w_a.heap.size,5,none⟩=some (.slice F_a j_a f_a)∧w'.cell? ⟨w_y.heap.size,0,none⟩=some (.bool s_y)∧w'.cell? ⟨w_y.heap.size,1,none⟩=some (.slice A_y n_y c_y)∧w'.cell? ⟨w_y.heap.size,2,none⟩=some (.slice B_y m_y d_y)∧w'.cell? ⟨w_y.heap.size,3,none⟩=some (.bool t_y)∧w'.cell? ⟨w_y.heap.size,4,none⟩=some (.slice E_y i_y e_y)∧w'.cell? ⟨w_y.heap.size,5,none⟩=some (.slice F_y j_y f_y)∧w'.cell? ⟨w_v.heap.size,0,none⟩=some (.bool s_v)∧w'.cell? ⟨w_v.heap.size,1,none⟩=some (.slice A_v n_v c_v)∧w'.cell? ⟨w_v.heap.size,2,none⟩=some (.slice B_v m_v d_v)∧w'.cell? ⟨w_v.heap.size,3,none⟩=some (.bool t_v)∧w'.cell? ⟨w_v.heap.size,4,none⟩=some (.slice E_v i_v e_v)∧w'.cell? ⟨w_v.heap.size,5,none⟩=some (.slice F_v j_v f_v)∧w'.cell? ⟨w_h.heap.size,0,none⟩=some (.bool s_h)∧w'.cell? ⟨w_h.heap.size,1,none⟩=some (.slice A_h n_h c_h)∧w'.cell? ⟨w_h.heap.size,2,none⟩=some (.slice B_h m_h d_h))) (by kernel_rfl) (by with_reducible exact ⟨XP.c0,XP.c1,XP.c2,XP.c3,XP.c4,XP.c5,XY.c0,XY.c1,XY.c2,XY.c3,XY.c4,XY.c5,XV.c0,XV.c1,XV.c2,XV.c3,XV.c4,XV.c5,XK.c0,XK.c1,XK.c2⟩) (fun hHeld=>?_)
      refine wpAnyH_take (i:=0) (oi:=⟨some 163,.move (.tmp 15),38, "law.go:167",#[],none⟩) (v:=?_) rfl (by kernel_rfl) (by kernel_rfl) (by kernel_rfl) (fun _ _ _ h=>h) (Or.inl ⟨by rfl,?_⟩) hHeld ?_
      rotate_left
      · (intro w hSw;(try dsimp only at hSw);go_simp;try with_reducible rfl)
      simp only [Act.put,List.setIfInBounds_toArray,List.set_cons_zero,List.set_cons_succ]
      refine wpAnyH_take (i:=1) (oi:=⟨some 164,.binOp BinOp.eql 38 (.tmp 163) (.const (Value.int IntKind.i64 0)) 38,4, "law.go:167",#[⟨0,.data⟩],none⟩) (v:=?_) rfl (by kernel_rfl) (by kernel_rfl) (by kernel_rfl) (fun _ _ _ h=>h) (Or.inl ⟨by rfl,?_⟩) hHeld ?_
      rotate_left
      · (intro w hSw;(try dsimp only at hSw);go_simp;try with_reducible rfl)
      simp only [Act.put,List.setIfInBounds_toArray,List.set_cons_zero,List.set_cons_succ]
      refine wpAnyH_take (i:=2) (oi:=⟨some 165,.move (.tmp 164),4, "law.go:167",#[⟨1,.data⟩],none⟩) (v:=?_) rfl (by kernel_rfl) (by kernel_rfl) (by kernel_rfl) (fun _ _ _ h=>h) (Or.inl ⟨by rfl,?_⟩) hHeld ?_
      rotate_left
      · (intro w hSw;(try dsimp only at hSw);go_simp;try with_reducible rfl)
      simp only [Act.put,List.setIfInBounds_toArray,List.set_cons_zero,List.set_cons_succ]
      refine wpAnyH_take (i:=3) (oi:=⟨some 166,.move (.tmp 17),38, "law.go:167",#[⟨2,.guard⟩],some (2,true)⟩) (v:=?_) rfl (by kernel_rfl) (by kernel_rfl) (by kernel_rfl) (fun _ _ _ h=>h) (Or.inl ⟨by rfl,?_⟩) hHeld ?_
      rotate_left
      · (intro w hSw;(try dsimp only at hSw);go_simp;try with_reducible rfl)
      simp only [Act.put,List.setIfInBounds_toArray,List.set_cons_zero,List.set_cons_succ]
      refine wpAnyH_take (i:=4) (oi:=⟨some 167,.binOp BinOp.eql 38 (.tmp 166) (.const (Value.int IntKind.i64 0)) 38,4, "law.go:167",#[⟨3,.data⟩,⟨2,.guard⟩],some (2,true)⟩) (v:=?_) rfl (by kernel_rfl) (by kernel_rfl) (by kernel_rfl) (fun _ _ _ h=>h) (Or.inl ⟨by rfl,?_⟩) hHeld ?_
      rotate_left
      · (intro w hSw;(try dsimp only at hSw);go_simp;try with_reducible rfl)
      simp only [Act.put,List.setIfInBounds_toArray,List.set_cons_zero,List.set_cons_succ]
      refine wpAnyH_take (i:=5) (oi:=⟨some 168,.pick (.tmp 165) (.tmp 167) (.const (Value.bool false)),4, "law.go:167",#[⟨2,.data⟩,⟨4,.data⟩],none⟩) (v:=?_) rfl (by kernel_rfl) (by kernel_rfl) (by kernel_rfl) (fun _ _ _ h=>h) (Or.inl ⟨by rfl,?_⟩) hHeld ?_
      rotate_left
      · (intro w hSw;(try dsimp only at hSw);go_simp;try with_reducible rfl)
      simp only [Act.put,List.setIfInBounds_toArray,List.set_cons_zero,List.set_cons_succ]
      refine wpAnyH_take (i:=6) (oi:=⟨some 169,.move (.tmp 168),4, "law.go:167",#[⟨5,.data⟩,⟨2,.chain⟩],none⟩) (v:=?_) rfl (by kernel_rfl) (by kernel_rfl) (by kernel_rfl) (fun _ _ _ h=>h) (Or.inl ⟨by rfl,?_⟩) hHeld ?_
      rotate_left
      · (intro w hSw;(try dsimp only at hSw);go_simp;try with_reducible rfl)
      simp only [Act.put,List.setIfInBounds_toArray,List.set_cons_zero,List.set_cons_succ]
      refine wpAnyH_take (i:=7) (oi:=⟨some 170,.load 28 (.tmp 6),28, "law.go:167",#[⟨6,.guard⟩],some (6,true)⟩) (v:=?_) rfl (by kernel_rfl) (by kernel_rfl) (by kernel_rfl) (fun _ _ _ h=>h) (Or.inl ⟨by rfl,?_⟩) hHeld ?_
      rotate_left
      · (intro w hSw;(try dsimp only at hSw);go_simp;try with_reducible rfl)
      simp only [Act.put,List.setIfInBounds_toArray,List.set_cons_zero,List.set_cons_succ]
      refine wpAnyH_take (i:=8) (oi:=⟨some 171,.load 28 (.tmp 14),28, "law.go:167",#[⟨6,.guard⟩],some (6,true)⟩) (v:=?_) rfl (by kernel_rfl) (by kernel_rfl) (by kernel_rfl) (fun _ _ _ h=>h) (Or.inl ⟨by rfl,?_⟩) hHeld ?_
      rotate_left
      · (intro w hSw;(try dsimp only at hSw);go_simp;try with_reducible rfl)
      simp only [Act.put,List.setIfInBounds_toArray,List.set_cons_zero,List.set_cons_succ]
      refine wpAnyH_take (i:=9) (oi:=⟨some 172,.load 28 (.tmp 16),28, "law.go:167",#[⟨6,.guard⟩],some (6,true)⟩) (v:=?_) rfl (by kernel_rfl) (by kernel_rfl) (by kernel_rfl) (fun _ _ _ h=>h) (Or.inl ⟨by rfl,?_⟩) hHeld ?_
      rotate_left
      · (intro w hSw;(try dsimp only at hSw);go_simp;try with_reducible rfl)
      simp only [Act.put,List.setIfInBounds_toArray,List.set_cons_zero,List.set_cons_succ]
      refine wpAnyH_take (i:=10) (oi:=⟨some 173,.load 26 (.tmp 5),26, "law.go:167",#[⟨6,.guard⟩],some (6,true)⟩) (v:=?_) rfl (by kernel_rfl) (by kernel_rfl) (by kernel_rfl) (fun _ _ _ h=>h) (Or.inl ⟨by rfl,?_⟩) hHeld ?_
      rotate_left
      · (intro w hSw;(try dsimp only at hSw);go_simp;try with_reducible rfl)
      simp only [Act.put,List.setIfInBounds_toArray,List.set_cons_zero,List.set_cons_succ]
      refine wpAnyH_ready (rs:=[11]) (by kernel_rfl) (by simp) ?_
      refine AllReadyH.cons (o:=⟨some 174,.call ⟨.value (.func 36),#[.tmp 171,.tmp 172,.tmp 173],#[28,28,26]⟩,28, "law.go:167",#[⟨8,.data⟩,⟨9,.data⟩,⟨10,.data⟩,⟨6,.chain⟩,⟨6,.guard⟩],some (6,true)⟩) rfl (fun K1 hK1=>?_) AllReadyH.nil
      go_simp
      first
      | (go_at_call 36;(with_reducible refine (pmix_p y.pr v.pr h.qr (by decide) (by decide) (by decide) (by decide) (by decide) (by decide)).mono ?_);rintro e w_r ⟨s_r,A_r,n_r,c_r,B_r,m_r,d_r,t_r,E_r,i_r,e_r,F_r,j_r,f_r,rfl,r,hh⟩
         (try replace h:=h.below hh);(try replace a:=a.below hh);(try replace y:=y.below hh);(try replace v:=v.below hh);(try replace XK:=XK.below hh);(try replace XP:=XP.below hh);(try replace XY:=XY.below hh);(try replace XV:=XV.below hh);replace hb:=bend hb hh)
      | (go_at_call 32;(with_reducible refine (psame_p a.pr r.pr (by decide) (by decide) (by decide) (by decide) true HSm.out).mono ?_);rintro e w_z ⟨rfl,hh⟩
         (try replace h:=h.below hh);(try replace a:=a.below hh);(try replace y:=y.below hh);(try replace v:=v.below hh);(try replace XK:=XK.below hh);(try replace XP:=XP.below hh);(try replace XY:=XY.below hh);(try replace XV:=XV.below hh);replace hb:=bend hb hh)
      | (go_at_call 10;(with_reducible refine (wakes13_any _).mono ?_);rintro e w_k ⟨rfl,hh⟩
         (try replace h:=h.below hh);(try replace a:=a.below hh);(try replace y:=y.below hh);(try replace v:=v.below hh);(try replace XK:=XK.below hh);(try replace XP:=XP.below hh);(try replace XY:=XY.below hh);(try replace XV:=XV.below hh);replace hb:=bend hb hh)
      refine hK1.out _ _ (by with_reducible exact ⟨XP.c0,XP.c1,XP.c2,XP.c3,XP.c4,XP.c5,XY.c0,XY.c1,XY.c2,XY.c3,XY.c4,XY.c5,XV.c0,XV.c1,XV.c2,XV.c3,XV.c4,XV.c5,XK.c0,XK.c1,XK.c2⟩) (fun hHeld=>?_)
      clear hK1 K1
      refine wpAnyH_ready (rs:=[12]) (by kernel_rfl) (by simp) ?_
      refine AllReadyH.cons (o:=⟨some 175,.call ⟨.value (.func 32),#[.tmp 170,.tmp 174],#[28,28]⟩,4, "law.go:167",#[⟨7,.data⟩,⟨11,.data⟩,⟨11,.chain⟩,⟨6,.guard⟩],some (6,true)⟩) rfl (fun K1 hK1=>?_) AllReadyH.nil
      go_simp
      first
      | (go_at_call 36;(with_reducible refine (pmix_p y.pr v.pr h.qr (by decide) (by decide) (by decide) (by decide) (by decide) (by decide)).mono ?_);rintro e w_r ⟨s_r,A_r,n_r,c_r,B_r,m_r,d_r,t_r,E_r,i_r,e_r,F_r,j_r,f_r,rfl,r,hh⟩
         (try replace h:=h.below hh);(try replace a:=a.below hh);(try replace y:=y.below hh);(try replace v:=v.below hh);(try replace XK:=XK.below hh);(try replace XP:=XP.below hh);(try replace XY:=XY.below hh);(try replace XV:=XV.below hh);replace hb:=bend hb hh)
      | (go_at_call 32;(with_reducible refine (psame_p a.pr r.pr (by decide) (by decide) (by decide) (by decide) true HSm.out).mono ?_);rintro e w_z ⟨rfl,hh⟩
         (try replace h:=h.below hh);(try replace a:=a.below hh);(try replace y:=y.below hh);(try replace v:=v.below hh);(try replace XK:=XK.below hh);(try replace XP:=XP.below hh);(try replace XY:=XY.below hh);(try replace XV:=XV.below hh);replace hb:=bend hb hh)
      | (go_at_call 10;(with_reducible refine (wakes13_any _).mono ?_);rintro e w_k ⟨rfl,hh⟩
         (try replace h:=h.below hh);(try replace a:=a.below hh);(try replace y:=y.below hh);(try replace v:=v.below hh);(try replace XK:=XK.below hh);(try replace XP:=XP.below hh);(try replace XY:=XY.below hh);(try replace XV:=XV.below hh);replace hb:=bend hb hh)
      refine hK1.out _ _ (by with_reducible exact ⟨XP.c0,XP.c1,XP.c2,XP.c3,XP.c4,XP.c5,XY.c0,XY.c1,XY.c2,XY.c3,XY.c4,XY.c5,XV.c0,XV.c1,XV.c2,XV.c3,XV.c4,XV.c5,XK.c0,XK.c1,XK.c2⟩) (fun hHeld=>?_)
      clear hK1 K1
      refine wpAnyH_take (i:=13) (oi:=⟨some 176,.pick (.tmp 169) (.tmp 175) (.const (Value.bool false)),4, "law.go:167",#[⟨6,.data⟩,⟨12,.data⟩],none⟩) (v:=?_) rfl (by kernel_rfl) (by kernel_rfl) (by kernel_rfl) (fun _ _ _ h=>h) (Or.inl ⟨by rfl,?_⟩) hHeld ?_
      rotate_left
      · (intro w hSw;(try dsimp only at hSw);go_simp;try with_reducible rfl)
      simp only [Act.put,List.setIfInBounds_toArray,List.set_cons_zero,List.set_cons_succ]
      refine wpAnyH_take (i:=14) (oi:=⟨some 177,.move (.tmp 176),4, "law.go:167",#[⟨13,.data⟩,⟨12,.chain⟩],none⟩) (v:=?_) rfl (by kernel_rfl) (by kernel_rfl) (by kernel_rfl) (fun _ _ _ h=>h) (Or.inl ⟨by rfl,?_⟩) hHeld ?_
      rotate_left
      · (intro w hSw;(try dsimp only at hSw);go_simp;try with_reducible rfl)
      simp only [Act.put,List.setIfInBounds_toArray,List.set_cons_zero,List.set_cons_succ]
      refine wpAnyH_ready (rs:=[15]) (by kernel_rfl) (by simp) ?_
      refine AllReadyH.cons (o:=⟨some 178,.call ⟨.value (.func 10),#[],#[]⟩,4, "law.go:167",#[⟨14,.chain⟩,⟨14,.guard⟩],some (14,true)⟩) rfl (fun K1 hK1=>?_) AllReadyH.nil
      go_simp
      first
      | (go_at_call 36;(with_reducible refine (pmix_p y.pr v.pr h.qr (by decide) (by decide) (by decide) (by decide) (by decide) (by decide)).mono ?_);rintro e w_r ⟨s_r,A_r,n_r,c_r,B_r,m_r,d_r,t_r,E_r,i_r,e_r,F_r,j_r,f_r,rfl,r,hh⟩
         (try replace h:=h.below hh);(try replace a:=a.below hh);(try replace y:=y.below hh);(try replace v:=v.below hh);(try replace XK:=XK.below hh);(try replace XP:=XP.below hh);(try replace XY:=XY.below hh);(try replace XV:=XV.below hh);replace hb:=bend hb hh)
      | (go_at_call 32;(with_reducible refine (psame_p a.pr r.pr (by decide) (by decide) (by decide) (by decide) true HSm.out).mono ?_);rintro e w_z ⟨rfl,hh⟩
         (try replace h:=h.below hh);(try replace a:=a.below hh);(try replace y:=y.below hh);(try replace v:=v.below hh);(try replace XK:=XK.below hh);(try replace XP:=XP.below hh);(try replace XY:=XY.below hh);(try replace XV:=XV.below hh);replace hb:=bend hb hh)
      | (go_at_call 10;(with_reducible refine (wakes13_any _).mono ?_);rintro e w_k ⟨rfl,hh⟩
         (try replace h:=h.below hh);(try replace a:=a.below hh);(try replace y:=y.below hh);(try replace v:=v.below hh);(try replace XK:=XK.below hh);(try replace XP:=XP.below hh);(try replace XY:=XY.below hh);(try replace XV:=XV.below hh);replace hb:=bend hb hh)
      refine hK1.out _ _ (by with_reducible exact ⟨XP.c0,XP.c1,XP.c2,XP.c3,XP.c4,XP.c5,XY.c0,XY.c1,XY.c2,XY.c3,XY.c4,XY.c5,XV.c0,XV.c1,XV.c2,XV.c3,XV.c4,XV.c5,XK.c0,XK.c1,XK.c2⟩) (fun hHeld=>?_)
      clear hK1 K1
      refine wpAnyH_take (i:=16) (oi:=⟨some 179,.pick (.tmp 177) (.tmp 178) (.const (Value.bool false)),4, "law.go:167",#[⟨14,.data⟩,⟨15,.data⟩],none⟩) (v:=?_) rfl (by kernel_rfl) (by kernel_rfl) (by kernel_rfl) (fun _ _ _ h=>h) (Or.inl ⟨by rfl,?_⟩) hHeld ?_
      rotate_left
      · (intro w hSw;(try dsimp only at hSw);go_simp;try with_reducible rfl)
      simp only [Act.put,List.setIfInBounds_toArray,List.set_cons_zero,List.set_cons_succ]
      refine wpAnyH_take (i:=17) (oi:=⟨some 4,.assign (.tmp 179),4, "law.go:167",#[⟨16,.data⟩,⟨15,.chain⟩,⟨0,.phase⟩,⟨1,.phase⟩,⟨2,.phase⟩,⟨3,.phase⟩,⟨4,.phase⟩,⟨5,.phase⟩,⟨6,.phase⟩,⟨7,.phase⟩,⟨8,.phase⟩,⟨9,.phase⟩,⟨10,.phase⟩,⟨11,.phase⟩,⟨12,.phase⟩,⟨13,.phase⟩,⟨14,.phase⟩,⟨15,.phase⟩,⟨16,.phase⟩],none⟩) (v:=?_) rfl (by kernel_rfl) (by kernel_rfl) (by kernel_rfl) (fun _ _ _ h=>h) (Or.inl ⟨by rfl,?_⟩) hHeld ?_
      rotate_left
      · (intro w hSw;(try dsimp only at hSw);go_simp;try with_reducible rfl)
      simp only [Act.put,List.setIfInBounds_toArray,List.set_cons_zero,List.set_cons_succ]
      refine wpAnyH_done (by kernel_rfl) ?_ _
      go_wp2_with fail
      (try rw [Exit.noGoto_ret])
      go_ret;exact ⟨rfl,hb⟩
end
section
open Go Go.ChangeShapes Go.WideShapes Go.ChangeAt Go.RowKit
theorem open_rat3 {H:Type} {enc:TypeId × Value→H} {base fuel:Nat} {held:Bool} {x0 x1 x2:Value} {y:DataW H × List MemPlace}
 (h:DataW.trod enc Tryz.prog w base (fun _=>true) held fuel 26 [x0,x1,x2]=some y) :
 ∃ (q:QV) (zs ys:List Int),x0=.bool q.s∧x1=.slice q.A q.n q.c∧x2=.slice q.B q.m q.d∧IsRow64 w q.A q.n q.c zs∧IsRow64 w q.B q.m q.d ys:=by
 have e0:Tryz.prog.cellsOf 24=2:=by kernel_rfl
 have e1:Tryz.prog.cellsOf 22=1:=by kernel_rfl
 have e2:Tryz.prog.cellsOf 4=1:=by kernel_rfl
 obtain ⟨z0,z1,m,hx2,_,h2,h3⟩:=trod_struct2 Tryz.underlying26 h
 simp [e0] at h2
 simp [e1] at h3
 obtain ⟨u0,u1,k,hx4,_,h6,h7⟩:=trod_struct2 Tryz.underlying24 h2
 simp [e2] at h6
 simp [e1] at h7
 obtain ⟨b,hb,_⟩:=DataW.trod_bool Tryz.underlying4 h6
 cases hb
 obtain ⟨A1,n1,c1,zs1,rfl,r1⟩:∃ A n c zs,x1=.slice A n c∧IsRow64 w A n c zs:=by
  rcases open_ints Tryz.underlying22 Tryz.underlying101 (by kernel_rfl) h7 with ⟨hcs,_⟩ | ⟨x,l,c,zs,hcs,_,hl,hm,hz,_,hcell,hwz⟩
  · exact ⟨none,0,0,[],by cases hcs;rfl,.inl ⟨rfl,rfl,rfl,rfl⟩⟩
  · exact ⟨some x,l,c,zs,by cases hcs;rfl,.inr ⟨x,rfl,hl,hm,by simpa using hz,hcell,hwz⟩⟩
 obtain ⟨A2,n2,c2,zs2,rfl,r2⟩:∃ A n c zs,x2=.slice A n c∧IsRow64 w A n c zs:=by
  rcases open_ints Tryz.underlying22 Tryz.underlying101 (by kernel_rfl) h3 with ⟨hcs,_⟩ | ⟨x,l,c,zs,hcs,_,hl,hm,hz,_,hcell,hwz⟩
  · exact ⟨none,0,0,[],by cases hcs;rfl,.inl ⟨rfl,rfl,rfl,rfl⟩⟩
  · exact ⟨some x,l,c,zs,by cases hcs;rfl,.inr ⟨x,rfl,hl,hm,by simpa using hz,hcell,hwz⟩⟩
 exact ⟨⟨_,A1,n1,c1,A2,n2,c2⟩,zs1,zs2,rfl,rfl,rfl,r1,r2⟩
def MRows (w:World) (m:MV):Prop:=(∃ zs,IsRow64 w m.a.A m.a.n m.a.c zs)∧(∃ zs,IsRow64 w m.a.B m.a.m m.a.d zs)∧(∃ zs,IsRow64 w m.b.A m.b.n m.b.c zs)∧(∃ zs,IsRow64 w m.b.B m.b.m m.b.d zs)∧(∃ zs,IsRow64 w m.c.A m.c.n m.c.c zs)∧(∃ zs,IsRow64 w m.c.B m.c.m m.c.d zs)∧(∃ zs,IsRow64 w m.d.A m.d.n m.d.c zs)∧(∃ zs,IsRow64 w m.d.B m.d.m m.d.d zs)∧(∃ zs,IsRow64 w m.e.A m.e.n m.e.c zs)∧(∃ zs,IsRow64 w m.e.B m.e.m m.e.d zs)∧(∃ zs,IsRow64 w m.f.A m.f.n m.f.c zs)∧(∃ zs,IsRow64 w m.f.B m.f.m m.f.d zs)
theorem MRows.mr {m:MV} (h:MRows w m):∃ v:AM,((((m.a.n≤6∧m.a.m≤6)∧m.b.n≤6∧m.b.m≤6)∧(((m.c.n≤6∧m.c.m≤6)∧m.d.n≤6∧m.d.m≤6))∧(((m.e.n≤6∧m.e.m≤6)∧m.f.n≤6∧m.f.m≤6)))→MR w m v 6 6):=by
 obtain ⟨⟨_,ra⟩,⟨_,ta⟩,⟨_,rb⟩,⟨_,tb⟩,⟨_,rc⟩,⟨_,tc⟩,⟨_,rd⟩,⟨_,td⟩,⟨_,re⟩,⟨_,te⟩,⟨_,rf⟩,⟨_,tf⟩⟩:=h
 obtain ⟨lia,pa,sa,ea,_⟩:=ra.rd
 obtain ⟨lja,qa,ua,ga,_⟩:=ta.rd
 obtain ⟨lib,pb,sb,eb,_⟩:=rb.rd
 obtain ⟨ljb,qb,ub,gb,_⟩:=tb.rd
 obtain ⟨lic,pc,sc,ec,_⟩:=rc.rd
 obtain ⟨ljc,qc,uc,gc,_⟩:=tc.rd
 obtain ⟨lid,pd,sd,ed,_⟩:=rd.rd
 obtain ⟨ljd,qd,ud,gd,_⟩:=td.rd
 obtain ⟨lie,pe,se,ee,_⟩:=re.rd
 obtain ⟨lje,qe,ue,ge,_⟩:=te.rd
 obtain ⟨lif,pf,sf,ef,_⟩:=rf.rd
 obtain ⟨ljf,qf,uf,gf,_⟩:=tf.rd
 exact ⟨⟨_,_,_,_,_,_⟩,fun k=>⟨⟨QR.of_rd pa sa ea qa ua ga k.1.1.1 k.1.1.2,QR.of_rd pb sb eb qb ub gb k.1.2.1 k.1.2.2⟩,⟨QR.of_rd pc sc ec qc uc gc k.2.1.1.1 k.2.1.1.2,QR.of_rd pd sd ed qd ud gd k.2.1.2.1 k.2.1.2.2⟩,⟨QR.of_rd pe se ee qe ue ge k.2.2.1.1 k.2.2.1.2,QR.of_rd pf sf ef qf uf gf k.2.2.2.1 k.2.2.2.2⟩⟩⟩
end
section
open Go Go.ChangeShapes Go.WideShapes Go.ChangeAt Go.RowKit
def QV.Raw (w:World) (q:QV):Prop:=(∃ zs,IsRow64 w q.A q.n q.c zs)∧∃ zs,IsRow64 w q.B q.m q.d zs
def HV.Raw (w:World) (p:HV):Prop:=p.x.Raw w∧p.y.Raw w∧p.w.Raw w
theorem open_hom9 {H:Type} {enc:TypeId × Value→H} {base fuel:Nat} {held:Bool} {x0 x1 x2 x3 x4 x5 x6 x7 x8:Value} {y:DataW H × List MemPlace}
 (h:DataW.trod enc Tryz.prog w base (fun _=>true) held fuel 73 [x0,x1,x2,x3,x4,x5,x6,x7,x8]=some y) :
 ∃ p:HV,x0=.bool p.x.s∧x1=.slice p.x.A p.x.n p.x.c∧x2=.slice p.x.B p.x.m p.x.d∧x3=.bool p.y.s∧x4=.slice p.y.A p.y.n p.y.c∧x5=.slice p.y.B p.y.m p.y.d∧x6=.bool p.w.s∧x7=.slice p.w.A p.w.n p.w.c∧x8=.slice p.w.B p.w.m p.w.d∧p.Raw w:=by
 have e3:Tryz.prog.cellsOf 26=3:=by kernel_rfl
 obtain ⟨xs,n,_,_,_,hlen,hi⟩:=DataW.trod_struct Tryz.underlying73 h
 match xs,hlen with
 | [y0,y1,y2],_ =>
   have h0:=hi 0 _ rfl
   simp [e3] at h0
   have h1:=hi 1 _ rfl
   simp [e3] at h1
   have h2:=hi 2 _ rfl
   simp [e3] at h2
   obtain ⟨q0,z0,s0,rfl,rfl,rfl,r0,t0⟩:=open_rat3 h0
   obtain ⟨q1,z1,s1,rfl,rfl,rfl,r1,t1⟩:=open_rat3 h1
   obtain ⟨q2,z2,s2,rfl,rfl,rfl,r2,t2⟩:=open_rat3 h2
   exact ⟨⟨q0,q1,q2⟩,rfl,rfl,rfl,rfl,rfl,rfl,rfl,rfl,rfl,⟨⟨z0,r0⟩,⟨s0,t0⟩⟩,⟨⟨z1,r1⟩,⟨s1,t1⟩⟩,⟨z2,r2⟩,⟨s2,t2⟩⟩
theorem open_zhoms {H:Type} {enc:TypeId × Value→H} {base:Nat} {held:Bool} {r:Reach} {b0:Nat} {v:Value} {d:DataW H} {p:List MemPlace}
 (hv:Value.okWide Tryz.prog w r b0 37 v) (h:DataW.Trod enc Tryz.prog w base (fun _=>true) held 37 v d p) :
 ∃ (A:Option Addr) (n c:Nat) (L:List HV),v=.slice A n c∧SV w A (hvs L)∧L.length=n∧n≤c∧n≤maxLen∧∀ q ∈ L,q.Raw w:=by
 obtain ⟨A,n,c,rfl⟩:=okWide_slice Tryz.underlying37 hv
 have e9:Tryz.prog.cellsOf 73=9:=by kernel_rfl
 obtain ⟨fuel,hf⟩:=h
 rcases DataW.trod_slice Tryz.underlying37 hf with ⟨h0,_⟩ | ⟨a,len,cap,elems,rest,m,_,h0,_,hb,hl,hm,hlen,hel,_,_⟩
 · simp [Value.cells] at h0
   obtain ⟨rfl,rfl,rfl⟩:=h0
   exact ⟨none,0,0,[],rfl,SV.nil _ _,rfl,Nat.le_refl _,Nat.zero_le _,fun q hq=>by cases hq⟩
 · simp [Value.cells] at h0
   obtain ⟨rfl,rfl,rfl⟩:=h0
   rw [e9] at hel
   have each:∀ i,i < n→∃ q:HV,(∀ j u,q.cells[j]?=some u→w.cell? ((a.add (i*9)).add j)=some u)∧q.Raw w:=by
    intro i hi
    have h1:=hel i hi
    rw [List.getElem?_eq_getElem (by rw [hlen];exact hi)] at h1
    obtain ⟨cs,hc1,hc2⟩:=Option.bind_eq_some_iff.1 h1
    unfold World.cells? at hc1
    split at hc1
    · have hcl:=mapM_some_length hc1
      have hcg:=fun k (hk:k < 9)=>mapM_some_get hc1 k k (by simp [hk])
      rw [List.length_range] at hcl
      match cs,hcl with
      | [x0,x1,x2,x3,x4,x5,x6,x7,x8],_ =>
        obtain ⟨p,rfl,rfl,rfl,rfl,rfl,rfl,rfl,rfl,rfl,r1⟩:=open_hom9 hc2
        refine ⟨p,fun j u hu=>?_,r1⟩
        have hj:j < 9:=(List.getElem?_eq_some_iff.1 hu).1
        have:=hcg j hj
        rw [this];exact hu
    · cases hc1
   obtain ⟨L,hL,hq⟩:∃ L:List HV,L.length=n∧∀ i q,L[i]?=some q→(∀ j u,q.cells[j]?=some u→w.cell? ((a.add (i*9)).add j)=some u)∧q.Raw w:=by
    have:∀ m,m≤n→∃ L:List HV,L.length=m∧∀ i q,L[i]?=some q→(∀ j u,q.cells[j]?=some u→w.cell? ((a.add (i*9)).add j)=some u)∧q.Raw w:=by
     intro m
     induction m with
     | zero=>intro _;exact ⟨[],rfl,fun i q h=>by cases h⟩
     | succ m ih =>
       intro hm
       obtain ⟨L,h1,h2⟩:=ih (by omega)
       obtain ⟨q,h3⟩:=each m (by omega)
       refine ⟨L ++ [q],by rw [List.length_append,h1];rfl,fun i x hx=>?_⟩
       rcases Nat.lt_or_ge i L.length with k | k
       · rw [List.getElem?_append_left k] at hx;exact h2 i x hx
       · rw [List.getElem?_append_right k] at hx
         have:i - L.length=0:=by
          have:=(List.getElem?_eq_some_iff.1 hx).1
          simp at this;omega
         rw [this] at hx
         cases hx
         rw [show i=m by omega];exact h3
    exact this n (Nat.le_refl _)
   refine ⟨some a,n,c,L,rfl,fun hn=>?_,hL,hl,by omega,fun q hq2=>?_⟩
   · have hn0:0 < n:=by rw [show (hvs L).length=L.length*9 from rows_length hvc_len L,hL] at hn;omega
     obtain ⟨b,o,spot⟩:=a
     have hx:=(hq 0 _ (List.getElem?_eq_getElem (by rw [hL];exact hn0))).1 0 _ rfl
     have hspot:spot=none:=by simpa [Addr.add] using World.cell?_spot hx
     subst hspot
     refine ⟨b,o,rfl,?_,fun j u hu=>?_⟩
     · rw [add_at,add_at] at hx
       exact World.block_lt_of_cell? w _ hx
     · have hj:=(List.getElem?_eq_some_iff.1 hu).1
       rw [show (hvs L).length=L.length*9 from rows_length hvc_len L,hL] at hj
       obtain ⟨i,k,hk,rfl⟩:∃ i k,k < 9∧j=i*9+k:=⟨j / 9,j % 9,Nat.mod_lt _ (by decide),by omega⟩
       have hi:i < L.length:=by omega
       have hg:=List.getElem?_eq_getElem hi
       have:=(hq i _ hg).1 k u (by rw [← rows_get hvc_len hg hk];exact hu)
       rw [add_at,add_at] at this
       rwa [← Nat.add_assoc]
   · obtain ⟨i,hi⟩:=List.getElem?_of_mem hq2
     exact (hq i q hi).2
theorem raw_qr {q:QV} {M:Nat} (h:q.Raw w) (hs:q.small M):∃ v,QR w q.s q.A q.n q.c q.B q.m q.d v M:=by
 obtain ⟨⟨_,ra⟩,⟨_,ta⟩⟩:=h
 obtain ⟨l1,a1,b1,c1,_⟩:=ra.rd
 obtain ⟨l2,a2,b2,c2,_⟩:=ta.rd
 exact ⟨_,QR.of_rd a1 b1 c1 a2 b2 c2 hs.1 hs.2⟩
theorem raw_hr {p:HV} {M:Nat} (h:p.Raw w) (hs:p.small M):∃ u,HR w p u M:=by
 obtain ⟨x,hx⟩:=raw_qr h.1 hs.1
 obtain ⟨y,hy⟩:=raw_qr h.2.1 hs.2.1
 obtain ⟨z,hz⟩:=raw_qr h.2.2 hs.2.2
 exact ⟨⟨x,y,z⟩,hx,hy,hz⟩
theorem raw_eachH {M:Nat}:∀ {L:List HV},(∀ p ∈ L,p.Raw w)→(∀ p ∈ L,p.small M)→∃ l,EachH HR w L l M
 | [],_,_=>⟨[],EachH.nil⟩
 | p :: L,h,hs=>by
   obtain ⟨u,hu⟩:=raw_hr (h p List.mem_cons_self) (hs p List.mem_cons_self)
   obtain ⟨l,hl⟩:=raw_eachH (L:=L) (fun q hq=>h q (List.mem_cons_of_mem _ hq)) (fun q hq=>hs q (List.mem_cons_of_mem _ hq))
   refine ⟨u :: l,by rw [List.length_cons,List.length_cons,hl.1],fun i q v h1 h2=>?_⟩
   match i,h1,h2 with
   | 0,h1,h2=>cases h1;cases h2;exact hu
   | i+1,h1,h2=>exact hl.2 i q v h1 h2
end
section
open Go Go.RowKit
theorem law_hull13 {A:Option Addr} {n c k8:Nat} {L:List HV} (hL:SV w A (hvs L)) (hn:L.length=n) (hm:n≤maxLen) (hz:∀ p ∈ L,p.Raw w) (hk8:k8≤255) :
 Calls Tryz.prog 7 #[.slice A n c,.int .u8 (k8:Int)] w fun e w'=>e=.returned (.bool true)∧Below w.heap.size w w':=by
 by_cases hs:(∀ p ∈ L,p.small 4)∧n≤6
 · obtain ⟨V,hE⟩:=raw_eachH hz hs.1
   by_cases hg:GoodH V
   · exact hull_p hL hn hE hs hk8 hg
   · exact hull_g hL hn hE hs hg
 · exact hull_f hL hn hm hs
end
end Go.Proofs.YtananlhdmekmjaaGreat
