/- SegCrosses: part 16. -/
import Derived.Test.YtmgklaklnaihpaaGreatKSegCrosses11
import Derived.Test.YtmgklaklnaihpaaGreatKSegCrosses15
set_option linter.unusedVariables false
set_option maxRecDepth 100000
set_option maxHeartbeats 16000000
variable {w:Go.World}
variable {s_p t_p:Bool} {A_p B_p E_p F_p:Option Go.Addr} {n_p c_p m_p d_p i_p e_p j_p f_p:Nat}
variable {s_q t_q:Bool} {A_q B_q E_q F_q:Option Go.Addr} {n_q c_q m_q d_q i_q e_q j_q f_q:Nat}
variable {s_r t_r:Bool} {A_r B_r E_r F_r:Option Go.Addr} {n_r c_r m_r d_r i_r e_r j_r f_r:Nat}
variable {s_u t_u:Bool} {A_u B_u E_u F_u:Option Go.Addr} {n_u c_u m_u d_u i_u e_u j_u f_u:Nat}
namespace Go.Proofs.YtmgklaklnaihpaaGreat
open Go Go.RowKit
def crQ (ax ay bx by_ cx cy:Rat):Rat:=(bx - ax)*(cy - ay) - (by_ - ay)*(cx - ax)
theorem orient_cr (ax ay bx by_ cx cy:Rat):orientQ ax ay bx by_ cx cy=sgnQ (crQ ax ay bx by_ cx cy):=by unfold orientQ crQ;rw [cmp_sub]
theorem sgn_mul_neg (x y:Rat):sgnQ x*sgnQ y < 0 ↔ x*y < 0:=by
 have:=sgn_mul x y
 rw [← Rat.not_le,← this];omega
theorem sgn_mul_pos (x y:Rat):0 < sgnQ x*sgnQ y ↔ 0 < x*y:=by
 have h:=sgn_mul_neg x (-y)
 rw [sgnQ_neg,Int.mul_neg,Rat.mul_neg] at h
 constructor
 · intro q;have:=h.1 (by omega);grind
 · intro q;have:=h.2 (by grind);omega
theorem wrap_or (a b c d e f a' b' c' d' e' f':Rat):IntKind.i64.wrap (orientQ a b c d e f*orientQ a' b' c' d' e' f')=orientQ a b c d e f*orientQ a' b' c' d' e' f':=by
 have h1:=orient_abs a b c d e f
 have h2:=orient_abs a' b' c' d' e' f'
 have a1:orientQ a b c d e f=-1 ∨ orientQ a b c d e f=0 ∨ orientQ a b c d e f=1:=by omega
 have a2:orientQ a' b' c' d' e' f'=-1 ∨ orientQ a' b' c' d' e' f'=0 ∨ orientQ a' b' c' d' e' f'=1:=by omega
 rcases a1 with q | q | q <;> rcases a2 with r | r | r <;> rw [q,r] <;> decide +kernel
theorem on_cr {x y ax ay bx by_:Rat} (h:onS x y ax ay bx by_):crQ ax ay bx by_ x y=0:=by
 have:=(of_on h).2.2
 unfold crQ;rw [this];grind
theorem cr_mix {x y ax ay bx by_ cx cy dx dy s:Rat} (hx:x=cx+(dx - cx)*s) (hy:y=cy+(dy - cy)*s):crQ ax ay bx by_ x y=(1 - s)*crQ ax ay bx by_ cx cy+s*crQ ax ay bx by_ dx dy:=by
 unfold crQ;rw [hx,hy];grind
section
variable {ax ay bx by_ cx cy dx dy:Rat}
theorem one_side {x y:Rat} (h:0 < crQ ax ay bx by_ cx cy*crQ ax ay bx by_ dx dy) (h1:onS x y ax ay bx by_) (h2:onS x y cx cy dx dy):False:=by
 have e0:=on_cr h1
 obtain ⟨s,s0,s1,hx,hy⟩:=h2
 rw [cr_mix hx hy] at e0
 generalize crQ ax ay bx by_ cx cy=u at *
 generalize crQ ax ay bx by_ dx dy=v at *
 have p1:=Rat.mul_nonneg s0 (Rat.le_of_lt h)
 have hu:u ≠ 0:=fun e=>by rw [e] at h;grind
 have p2:=sq_pos' hu
 have p3:=Rat.mul_nonneg (show 0≤1 - s by grind) (Rat.le_of_lt p2)
 have e1:(1 - s)*(u*u)+s*(u*v)=0:=by
  have:((1 - s)*u+s*v)*u=0:=by rw [e0];grind
  grind
 have e2:s*(u*v)=0:=by grind
 have e3:(1 - s)*(u*u)=0:=by grind
 have e4:s=0:=by
  by_cases q:s=0
  · exact q
  · have:=Rat.mul_pos (show 0 < s by grind) h
    grind
 rw [e4] at e3
 grind
theorem told_side1 (h:0 < crQ ax ay bx by_ cx cy*crQ ax ay bx by_ dx dy):Told ax ay bx by_ cx cy dx dy []:=fun _ _ q=>one_side h q.1 q.2
theorem told_side2 (h:0 < crQ cx cy dx dy ax ay*crQ cx cy dx dy bx by_):Told ax ay bx by_ cx cy dx dy []:=fun _ _ q=>one_side h q.2 q.1
theorem frac_unit {u v t:Rat} (h:u*v < 0) (ht:t*(u - v)=u):0≤t∧t≤1:=by
 have hk:u - v ≠ 0:=fun e=>by
  have:u=v:=by grind
  rw [this] at h
  have hv:v ≠ 0:=fun e=>by rw [e] at h;grind
  have:=sq_pos' hv
  grind
 refine unit_of (nn_of_mul (u:=(u - v)*(u - v)) (sq_pos' hk) ?_)
 have:t*(1 - t)*((u - v)*(u - v))=(t*(u - v))*((u - v) - t*(u - v)):=by grind
 rw [this,ht];grind
theorem told_both (h:crQ ax ay bx by_ cx cy*crQ ax ay bx by_ dx dy < 0) (g:crQ cx cy dx dy ax ay*crQ cx cy dx dy bx by_ < 0) :
 ∃ p,Told ax ay bx by_ cx cy dx dy [p]∧¬ (p.1=ax∧p.2=ay)∧¬ (p.1=bx∧p.2=by_)∧¬ (p.1=cx∧p.2=cy)∧¬ (p.1=dx∧p.2=dy):=by
 have hk:(bx - ax)*(dy - cy) - (by_ - ay)*(dx - cx) ≠ 0:=fun e=>by
  have:crQ ax ay bx by_ cx cy=crQ ax ay bx by_ dx dy:=by unfold crQ;grind
  rw [this] at h
  have hv:crQ ax ay bx by_ dx dy ≠ 0:=fun e=>by rw [e] at h;grind
  have:=sq_pos' hv
  grind
 have ef:=div_mul_self (x:=(cx - ax)*(dy - cy) - (cy - ay)*(dx - cx)) hk
 have eg:=div_mul_self (x:=(cx - ax)*(by_ - ay) - (cy - ay)*(bx - ax)) hk
 generalize ((cx - ax)*(dy - cy) - (cy - ay)*(dx - cx)) / ((bx - ax)*(dy - cy) - (by_ - ay)*(dx - cx))=f at ef
 generalize ((cx - ax)*(by_ - ay) - (cy - ay)*(bx - ax)) / ((bx - ax)*(dy - cy) - (by_ - ay)*(dx - cx))=gg at eg
 have uf:0≤f∧f≤1:=frac_unit g (by unfold crQ;grind)
 have ug:0≤gg∧gg≤1:=frac_unit h (by unfold crQ;grind)
 have T:=told_cross hk ef eg ⟨uf,ug⟩
 have hm:=told_mem T (List.mem_cons_self ..)
 have c1:=on_cr hm.1;have c2:=on_cr hm.2
 refine ⟨_,T,?_,?_,?_,?_⟩
 · rintro ⟨e1,e2⟩;rw [e1,e2] at c2;rw [c2] at g;grind
 · rintro ⟨e1,e2⟩;rw [e1,e2] at c2;rw [c2] at g;grind
 · rintro ⟨e1,e2⟩;rw [e1,e2] at c1;rw [c1] at h;grind
 · rintro ⟨e1,e2⟩;rw [e1,e2] at c1;rw [c1] at h;grind
end
theorem mkbx32_16 {w W:World} {x0 x1 x2 x3 x4 x5 x6 x7 x8 x9 x10 x11 x12 x13 x14 x15 x16 x17 x18 x19 x20 x21 x22 x23:Value} (h:(w.alloc (Obj.cells #[x0,x1,x2,x3,x4,x5,x6,x7,x8,x9,x10,x11,x12,x13,x14,x15,x16,x17,x18,x19,x20,x21,x22,x23] 57))=W):Below w.heap.size w W∧BA4 W (w.heap.size) x0 x1 x2 x3 x4 x5 x6 x7 x8 x9 x10 x11 x12 x13 x14 x15 x16 x17 x18 x19 x20 x21 x22 x23∧W.heap.size=w.heap.size+1:=by subst h;exact ⟨by exact ((Below.refl _ _).alloc (Nat.le_refl _) _),by exact BA4.new' _ _ _ _ _ _ _ _ _ _ _ _ _ _ _ _ _ _ _ _ _ _ _ _ _ _ rfl,by simp⟩
theorem mkbx33_16 {w W:World} {x0 x1 x2 x3 x4 x5 x6 x7 x8 x9 x10 x11 x12 x13 x14 x15 x16 x17 x18 x19 x20 x21 x22 x23:Value} (h:(w.alloc (Obj.cells #[x0,x1,x2,x3,x4,x5,x6,x7,x8,x9,x10,x11,x12,x13,x14,x15,x16,x17,x18,x19,x20,x21,x22,x23] 56))=W):Below w.heap.size w W∧BL4 W (w.heap.size) x0 x1 x2 x3 x4 x5 x6 x7 x8 x9 x10 x11 x12 x13 x14 x15 x16 x17 x18 x19 x20 x21 x22 x23∧W.heap.size=w.heap.size+1:=by subst h;exact ⟨by exact ((Below.refl _ _).alloc (Nat.le_refl _) _),by exact BL4.new' _ _ _ _ _ _ _ _ _ _ _ _ _ _ _ _ _ _ _ _ _ _ _ _ _ _ rfl,by simp⟩
theorem crosses_l (h:¬ (((n_p≤6∧m_p≤6)∧i_p≤6∧j_p≤6)∧((n_q≤6∧m_q≤6)∧i_q≤6∧j_q≤6)∧((n_r≤6∧m_r≤6)∧i_r≤6∧j_r≤6)∧((n_u≤6∧m_u≤6)∧i_u≤6∧j_u≤6))) :
 Calls Tryz.prog 9 #[.agg #[.bool s_p,.slice A_p n_p c_p,.slice B_p m_p d_p,.bool t_p,.slice E_p i_p e_p,.slice F_p j_p f_p,.bool s_q,.slice A_q n_q c_q,.slice B_q m_q d_q,.bool t_q,.slice E_q i_q e_q,.slice F_q j_q f_q,.bool s_r,.slice A_r n_r c_r,.slice B_r m_r d_r,.bool t_r,.slice E_r i_r e_r,.slice F_r j_r f_r,.bool s_u,.slice A_u n_u c_u,.slice B_u m_u d_u,.bool t_u,.slice E_u i_u e_u,.slice F_u j_u f_u]] w fun e w'=>e=.returned (.bool true)∧Below w.heap.size w w':=by
 have HL:Hid (decide (((n_p≤6∧m_p≤6)∧i_p≤6∧j_p≤6)∧((n_q≤6∧m_q≤6)∧i_q≤6∧j_q≤6)∧((n_r≤6∧m_r≤6)∧i_r≤6∧j_r≤6)∧((n_u≤6∧m_u≤6)∧i_u≤6∧j_u≤6))=false):=decide_eq_false h
 clear h
 go_enter Tryz.func9,Tryz.ntmps9
 go_upto_region 1 with (fail)
 generalize hW:World.alloc _ _=W
 obtain ⟨hb,XA,hzW⟩:=mkbx32_16 hW;clear hW;have ia0:=at4_0 w.heap.size;have ia1:=at4_1 w.heap.size;have ia2:=at4_2 w.heap.size;have ia3:=at4_3 w.heap.size;obtain ⟨xa0,xa1,xa2,xa3,xa4,xa5,xa6,xa7,xa8,xa9,xa10,xa11,xa12,xa13,xa14,xa15,xa16,xa17,xa18,xa19,xa20,xa21,xa22,xa23⟩:=XA.all
 go_wp2_with fail
 generalize hW:World.alloc _ _=W2
 obtain ⟨hh,XL,hzW2⟩:=mkbx33_16 hW;clear hW;(try replace XA:=XA.below hh);replace hb:=bend hb hh;rw [hzW] at XL
 go_wp2_with (first
  | (go_at_call 29;(with_reducible refine (fair4 XL false HL.out).mono ?_);rintro e w_z ⟨rfl,hh⟩
     clear XL;(try replace XA:=XA.below hh);replace hb:=bend hb hh;obtain ⟨xa0,xa1,xa2,xa3,xa4,xa5,xa6,xa7,xa8,xa9,xa10,xa11,xa12,xa13,xa14,xa15,xa16,xa17,xa18,xa19,xa20,xa21,xa22,xa23⟩:=XA.all)
  | (go_at_call 30;(with_reducible refine (segwakes_any _).mono ?_);rintro e w_z ⟨rfl,hh⟩
     replace hb:=bend hb hh))
 go_ret;exact ⟨rfl,hb⟩
theorem crosses_s1 {ax ay bx by_ cx cy dx dy:Rat} (p:PR w s_p A_p n_p c_p B_p m_p d_p t_p E_p i_p e_p F_p j_p f_p ax ay 6) (q:PR w s_q A_q n_q c_q B_q m_q d_q t_q E_q i_q e_q F_q j_q f_q bx by_ 6) (r:PR w s_r A_r n_r c_r B_r m_r d_r t_r E_r i_r e_r F_r j_r f_r cx cy 6) (u:PR w s_u A_u n_u c_u B_u m_u d_u t_u E_u i_u e_u F_u j_u f_u dx dy 6) (h:(((n_p≤6∧m_p≤6)∧i_p≤6∧j_p≤6)∧((n_q≤6∧m_q≤6)∧i_q≤6∧j_q≤6)∧((n_r≤6∧m_r≤6)∧i_r≤6∧j_r≤6)∧((n_u≤6∧m_u≤6)∧i_u≤6∧j_u≤6))) (hu:0 < orientQ ax ay bx by_ cx cy*orientQ ax ay bx by_ dx dy) :
 Calls Tryz.prog 9 #[.agg #[.bool s_p,.slice A_p n_p c_p,.slice B_p m_p d_p,.bool t_p,.slice E_p i_p e_p,.slice F_p j_p f_p,.bool s_q,.slice A_q n_q c_q,.slice B_q m_q d_q,.bool t_q,.slice E_q i_q e_q,.slice F_q j_q f_q,.bool s_r,.slice A_r n_r c_r,.slice B_r m_r d_r,.bool t_r,.slice E_r i_r e_r,.slice F_r j_r f_r,.bool s_u,.slice A_u n_u c_u,.slice B_u m_u d_u,.bool t_u,.slice E_u i_u e_u,.slice F_u j_u f_u]] w fun e w'=>e=.returned (.bool true)∧Below w.heap.size w w':=by
 have HL:Hid (decide (((n_p≤6∧m_p≤6)∧i_p≤6∧j_p≤6)∧((n_q≤6∧m_q≤6)∧i_q≤6∧j_q≤6)∧((n_r≤6∧m_r≤6)∧i_r≤6∧j_r≤6)∧((n_u≤6∧m_u≤6)∧i_u≤6∧j_u≤6))=true):=decide_eq_true h
 clear h
 have HT:Hid (Told ax ay bx by_ cx cy dx dy []):=told_side1 ((sgn_mul_pos _ _).1 (by rw [← orient_cr,← orient_cr];exact hu))
 have eu:=wrap_or ax ay bx by_ cx cy ax ay bx by_ dx dy;have ev:=wrap_or cx cy dx dy ax ay cx cy dx dy bx by_
 obtain ⟨K1,h1⟩:∃ K,orientQ ax ay bx by_ cx cy=K:=⟨_,rfl⟩
 obtain ⟨K2,h2⟩:∃ K,orientQ ax ay bx by_ dx dy=K:=⟨_,rfl⟩
 obtain ⟨K3,h3⟩:∃ K,orientQ cx cy dx dy ax ay=K:=⟨_,rfl⟩
 obtain ⟨K4,h4⟩:∃ K,orientQ cx cy dx dy bx by_=K:=⟨_,rfl⟩
 rw [h1,h2] at eu hu
 rw [h3,h4] at ev
 generalize hU:K1*K2=U at hu
 generalize hV:K3*K4=V
 replace eu:IntKind.i64.wrap (K1*K2)=U:=eu.trans hU
 replace ev:IntKind.i64.wrap (K3*K4)=V:=ev.trans hV
 have H1:=Lib.hid h1;have H2:=Lib.hid h2;have H3:=Lib.hid h3;have H4:=Lib.hid h4;clear h1 h2 h3 h4 hU hV
 have u0:decide (0 < U)=true:=decide_eq_true hu
 clear hu
 go_enter Tryz.func9,Tryz.ntmps9
 go_upto_region 1 with (fail)
 generalize hW:World.alloc _ _=W
 obtain ⟨hb,XA,hzW⟩:=mkbx32_16 hW;clear hW;replace p:=p.below hb;replace q:=q.below hb;replace r:=r.below hb;replace u:=u.below hb;have ia0:=at4_0 w.heap.size;have ia1:=at4_1 w.heap.size;have ia2:=at4_2 w.heap.size;have ia3:=at4_3 w.heap.size;obtain ⟨xa0,xa1,xa2,xa3,xa4,xa5,xa6,xa7,xa8,xa9,xa10,xa11,xa12,xa13,xa14,xa15,xa16,xa17,xa18,xa19,xa20,xa21,xa22,xa23⟩:=XA.all
 go_wp2_with fail
 generalize hW:World.alloc _ _=W2
 obtain ⟨hh,XL,hzW2⟩:=mkbx33_16 hW;clear hW;(try replace p:=p.below hh);(try replace q:=q.below hh);(try replace r:=r.below hh);(try replace u:=u.below hh);(try replace XA:=XA.below hh);replace hb:=bend hb hh;rw [hzW] at XL;clear hzW2
 go_upto_region 3 with (first
  | (go_at_call 29;(with_reducible refine (fair4 XL true HL.out).mono ?_);rintro e w_z ⟨rfl,hh⟩
     clear XL;(try replace p:=p.below hh);(try replace q:=q.below hh);(try replace r:=r.below hh);(try replace u:=u.below hh);(try replace XA:=XA.below hh);replace hb:=bend hb hh;obtain ⟨xa0,xa1,xa2,xa3,xa4,xa5,xa6,xa7,xa8,xa9,xa10,xa11,xa12,xa13,xa14,xa15,xa16,xa17,xa18,xa19,xa20,xa21,xa22,xa23⟩:=XA.all))
 clear xa0 xa1 xa2 xa3 xa4 xa5 xa6 xa7 xa8 xa9 xa10 xa11 xa12 xa13 xa14 xa15 xa16 xa17 xa18 xa19 xa20 xa21 xa22 xa23
 replace p:=p.below (Below.refl _ _).drew
 replace q:=q.below (Below.refl _ _).drew
 replace r:=r.below (Below.refl _ _).drew
 replace u:=u.below (Below.refl _ _).drew
 replace XA:=XA.below (Below.refl _ _).drew
 replace hb:=hb.drew
 go_region_held3 (fun w'=>w'.cell? ⟨w.heap.size,0,none⟩=some (.bool s_p)∧w'.cell? ⟨w.heap.size,1,none⟩=some (.slice A_p n_p c_p)∧w'.cell? ⟨w.heap.size,2,none⟩=some (.slice B_p m_p d_p)∧w'.cell? ⟨w.heap.size,3,none⟩=some (.bool t_p)∧w'.cell? ⟨w.heap.size,4,none⟩=some (.slice E_p i_p e_p)∧w'.cell? ⟨w.heap.size,5,none⟩=some (.slice F_p j_p f_p)∧w'.cell? ⟨w.heap.size,6,none⟩=some (.bool s_q)∧w'.cell? ⟨w.heap.size,7,none⟩=some (.slice A_q n_q c_q)∧w'.cell? ⟨w.heap.size,8,none⟩=some (.slice B_q m_q d_q)∧w'.cell? ⟨w.heap.size,9,none⟩=some (.bool t_q)∧w'.cell? ⟨w.heap.size,10,none⟩=some (.slice E_q i_q e_q)∧w'.cell? ⟨w.heap.size,11,none⟩=some (.slice F_q j_q f_q)∧w'.cell? ⟨w.heap.size,12,none⟩=some (.bool s_r)∧w'.cell? ⟨w.heap.size,13,none⟩=some (.slice A_r n_r c_r)∧w'.cell? ⟨w.heap.size,14,none⟩=some (.slice B_r m_r d_r)∧w'.cell? ⟨w.heap.size,15,none⟩=some (.bool t_r)∧w'.cell? ⟨w.heap.size,16,none⟩=some (.slice E_r i_r e_r)∧w'.cell? ⟨w.heap.size,17,none⟩=some (.slice F_r j_r f_r)∧w'.cell? ⟨w.heap.size,18,none⟩=some (.bool s_u)∧w'.cell? ⟨w.heap.size,19,none⟩=some (.slice A_u n_u c_u)∧w'.cell? ⟨w.heap.size,20,none⟩=some (.slice B_u m_u d_u)∧w'.cell? ⟨w.heap.size,21,none⟩=some (.bool t_u)∧w'.cell? ⟨w.heap.size,22,none⟩=some (.slice E_u i_u e_u)∧w'.cell? ⟨w.heap.size,23,none⟩=some (.slice F_u j_u f_u))
  (first | with_reducible exact ⟨XA.c0,XA.c1,XA.c2,XA.c3,XA.c4,XA.c5,XA.c6,XA.c7,XA.c8,XA.c9,XA.c10,XA.c11,XA.c12,XA.c13,XA.c14,XA.c15,XA.c16,XA.c17,XA.c18,XA.c19,XA.c20,XA.c21,XA.c22,XA.c23⟩)
  (first
  | (go_at_call 46;(with_reducible refine (porient_p p q r (by decide) (by decide)).mono ?_);rintro e w_z ⟨rfl,hh⟩
     rw [H1.out];(try replace p:=p.below hh);(try replace q:=q.below hh);(try replace r:=r.below hh);(try replace u:=u.below hh);(try replace XA:=XA.below hh);replace hb:=bend hb hh)
  | (go_at_call 46;(with_reducible refine (porient_p p q u (by decide) (by decide)).mono ?_);rintro e w_z ⟨rfl,hh⟩
     rw [H2.out];(try replace p:=p.below hh);(try replace q:=q.below hh);(try replace r:=r.below hh);(try replace u:=u.below hh);(try replace XA:=XA.below hh);replace hb:=bend hb hh))
 go_upto_region 4 with (fail)
 replace p:=p.below (Below.refl _ _).drew
 replace q:=q.below (Below.refl _ _).drew
 replace r:=r.below (Below.refl _ _).drew
 replace u:=u.below (Below.refl _ _).drew
 replace XA:=XA.below (Below.refl _ _).drew
 replace hb:=hb.drew
 go_region_held3 (fun w'=>w'.cell? ⟨w.heap.size,0,none⟩=some (.bool s_p)∧w'.cell? ⟨w.heap.size,1,none⟩=some (.slice A_p n_p c_p)∧w'.cell? ⟨w.heap.size,2,none⟩=some (.slice B_p m_p d_p)∧w'.cell? ⟨w.heap.size,3,none⟩=some (.bool t_p)∧w'.cell? ⟨w.heap.size,4,none⟩=some (.slice E_p i_p e_p)∧w'.cell? ⟨w.heap.size,5,none⟩=some (.slice F_p j_p f_p)∧w'.cell? ⟨w.heap.size,6,none⟩=some (.bool s_q)∧w'.cell? ⟨w.heap.size,7,none⟩=some (.slice A_q n_q c_q)∧w'.cell? ⟨w.heap.size,8,none⟩=some (.slice B_q m_q d_q)∧w'.cell? ⟨w.heap.size,9,none⟩=some (.bool t_q)∧w'.cell? ⟨w.heap.size,10,none⟩=some (.slice E_q i_q e_q)∧w'.cell? ⟨w.heap.size,11,none⟩=some (.slice F_q j_q f_q)∧w'.cell? ⟨w.heap.size,12,none⟩=some (.bool s_r)∧w'.cell? ⟨w.heap.size,13,none⟩=some (.slice A_r n_r c_r)∧w'.cell? ⟨w.heap.size,14,none⟩=some (.slice B_r m_r d_r)∧w'.cell? ⟨w.heap.size,15,none⟩=some (.bool t_r)∧w'.cell? ⟨w.heap.size,16,none⟩=some (.slice E_r i_r e_r)∧w'.cell? ⟨w.heap.size,17,none⟩=some (.slice F_r j_r f_r)∧w'.cell? ⟨w.heap.size,18,none⟩=some (.bool s_u)∧w'.cell? ⟨w.heap.size,19,none⟩=some (.slice A_u n_u c_u)∧w'.cell? ⟨w.heap.size,20,none⟩=some (.slice B_u m_u d_u)∧w'.cell? ⟨w.heap.size,21,none⟩=some (.bool t_u)∧w'.cell? ⟨w.heap.size,22,none⟩=some (.slice E_u i_u e_u)∧w'.cell? ⟨w.heap.size,23,none⟩=some (.slice F_u j_u f_u))
  (first | with_reducible exact ⟨XA.c0,XA.c1,XA.c2,XA.c3,XA.c4,XA.c5,XA.c6,XA.c7,XA.c8,XA.c9,XA.c10,XA.c11,XA.c12,XA.c13,XA.c14,XA.c15,XA.c16,XA.c17,XA.c18,XA.c19,XA.c20,XA.c21,XA.c22,XA.c23⟩)
  (first
  | (go_at_call 46;(with_reducible refine (porient_p r u p (by decide) (by decide)).mono ?_);rintro e w_z ⟨rfl,hh⟩
     rw [H3.out];(try replace p:=p.below hh);(try replace q:=q.below hh);(try replace r:=r.below hh);(try replace u:=u.below hh);(try replace XA:=XA.below hh);replace hb:=bend hb hh)
  | (go_at_call 46;(with_reducible refine (porient_p r u q (by decide) (by decide)).mono ?_);rintro e w_z ⟨rfl,hh⟩
     rw [H4.out];(try replace p:=p.below hh);(try replace q:=q.below hh);(try replace r:=r.below hh);(try replace u:=u.below hh);(try replace XA:=XA.below hh);replace hb:=bend hb hh))
 obtain ⟨xa0,xa1,xa2,xa3,xa4,xa5,xa6,xa7,xa8,xa9,xa10,xa11,xa12,xa13,xa14,xa15,xa16,xa17,xa18,xa19,xa20,xa21,xa22,xa23⟩:=XA.all
 go_wp2_with (first
  | (go_at_call 33;(with_reducible refine (meet_p p q r u (by decide) (by decide)).mono ?_);rintro e w_m ⟨l,ht,v,L,rfl,hL,hE,hh⟩
     (try replace p:=p.below hh);(try replace q:=q.below hh);(try replace r:=r.below hh);(try replace u:=u.below hh);(try replace XA:=XA.below hh);replace hb:=bend hb hh
     obtain rfl:=told_same (fun _ _=>Iff.rfl) ht HT.out
     obtain ⟨A_m,c_m,rfl,rfl⟩:=ln_nil hL hE
     clear ht hE hL)
  | (go_at_call 30;(with_reducible refine (segwakes_any _).mono ?_);rintro e w_z ⟨rfl,hh⟩
     (try replace p:=p.below hh);(try replace q:=q.below hh);(try replace r:=r.below hh);(try replace u:=u.below hh);(try replace XA:=XA.below hh);replace hb:=bend hb hh))
 go_ret;exact ⟨rfl,hb⟩
theorem crosses_s2 {ax ay bx by_ cx cy dx dy:Rat} (p:PR w s_p A_p n_p c_p B_p m_p d_p t_p E_p i_p e_p F_p j_p f_p ax ay 6) (q:PR w s_q A_q n_q c_q B_q m_q d_q t_q E_q i_q e_q F_q j_q f_q bx by_ 6) (r:PR w s_r A_r n_r c_r B_r m_r d_r t_r E_r i_r e_r F_r j_r f_r cx cy 6) (u:PR w s_u A_u n_u c_u B_u m_u d_u t_u E_u i_u e_u F_u j_u f_u dx dy 6) (h:(((n_p≤6∧m_p≤6)∧i_p≤6∧j_p≤6)∧((n_q≤6∧m_q≤6)∧i_q≤6∧j_q≤6)∧((n_r≤6∧m_r≤6)∧i_r≤6∧j_r≤6)∧((n_u≤6∧m_u≤6)∧i_u≤6∧j_u≤6))) (hu:¬ 0 < orientQ ax ay bx by_ cx cy*orientQ ax ay bx by_ dx dy) (hv:0 < orientQ cx cy dx dy ax ay*orientQ cx cy dx dy bx by_) :
 Calls Tryz.prog 9 #[.agg #[.bool s_p,.slice A_p n_p c_p,.slice B_p m_p d_p,.bool t_p,.slice E_p i_p e_p,.slice F_p j_p f_p,.bool s_q,.slice A_q n_q c_q,.slice B_q m_q d_q,.bool t_q,.slice E_q i_q e_q,.slice F_q j_q f_q,.bool s_r,.slice A_r n_r c_r,.slice B_r m_r d_r,.bool t_r,.slice E_r i_r e_r,.slice F_r j_r f_r,.bool s_u,.slice A_u n_u c_u,.slice B_u m_u d_u,.bool t_u,.slice E_u i_u e_u,.slice F_u j_u f_u]] w fun e w'=>e=.returned (.bool true)∧Below w.heap.size w w':=by
 have HL:Hid (decide (((n_p≤6∧m_p≤6)∧i_p≤6∧j_p≤6)∧((n_q≤6∧m_q≤6)∧i_q≤6∧j_q≤6)∧((n_r≤6∧m_r≤6)∧i_r≤6∧j_r≤6)∧((n_u≤6∧m_u≤6)∧i_u≤6∧j_u≤6))=true):=decide_eq_true h
 clear h
 have HT:Hid (Told ax ay bx by_ cx cy dx dy []):=told_side2 ((sgn_mul_pos _ _).1 (by rw [← orient_cr,← orient_cr];exact hv))
 have eu:=wrap_or ax ay bx by_ cx cy ax ay bx by_ dx dy;have ev:=wrap_or cx cy dx dy ax ay cx cy dx dy bx by_
 obtain ⟨K1,h1⟩:∃ K,orientQ ax ay bx by_ cx cy=K:=⟨_,rfl⟩
 obtain ⟨K2,h2⟩:∃ K,orientQ ax ay bx by_ dx dy=K:=⟨_,rfl⟩
 obtain ⟨K3,h3⟩:∃ K,orientQ cx cy dx dy ax ay=K:=⟨_,rfl⟩
 obtain ⟨K4,h4⟩:∃ K,orientQ cx cy dx dy bx by_=K:=⟨_,rfl⟩
 rw [h1,h2] at eu hu
 rw [h3,h4] at ev hv
 generalize hU:K1*K2=U at hu
 generalize hV:K3*K4=V at hv
 replace eu:IntKind.i64.wrap (K1*K2)=U:=eu.trans hU
 replace ev:IntKind.i64.wrap (K3*K4)=V:=ev.trans hV
 have H1:=Lib.hid h1;have H2:=Lib.hid h2;have H3:=Lib.hid h3;have H4:=Lib.hid h4;clear h1 h2 h3 h4 hU hV
 have u0:decide (0 < U)=false:=decide_eq_false hu
 have v0:decide (0 < V)=true:=decide_eq_true hv
 clear hu hv
 go_enter Tryz.func9,Tryz.ntmps9
 go_upto_region 1 with (fail)
 generalize hW:World.alloc _ _=W
 obtain ⟨hb,XA,hzW⟩:=mkbx32_16 hW;clear hW;replace p:=p.below hb;replace q:=q.below hb;replace r:=r.below hb;replace u:=u.below hb;have ia0:=at4_0 w.heap.size;have ia1:=at4_1 w.heap.size;have ia2:=at4_2 w.heap.size;have ia3:=at4_3 w.heap.size;obtain ⟨xa0,xa1,xa2,xa3,xa4,xa5,xa6,xa7,xa8,xa9,xa10,xa11,xa12,xa13,xa14,xa15,xa16,xa17,xa18,xa19,xa20,xa21,xa22,xa23⟩:=XA.all
 go_wp2_with fail
 generalize hW:World.alloc _ _=W2
 obtain ⟨hh,XL,hzW2⟩:=mkbx33_16 hW;clear hW;(try replace p:=p.below hh);(try replace q:=q.below hh);(try replace r:=r.below hh);(try replace u:=u.below hh);(try replace XA:=XA.below hh);replace hb:=bend hb hh;rw [hzW] at XL;clear hzW2
 go_upto_region 3 with (first
  | (go_at_call 29;(with_reducible refine (fair4 XL true HL.out).mono ?_);rintro e w_z ⟨rfl,hh⟩
     clear XL;(try replace p:=p.below hh);(try replace q:=q.below hh);(try replace r:=r.below hh);(try replace u:=u.below hh);(try replace XA:=XA.below hh);replace hb:=bend hb hh;obtain ⟨xa0,xa1,xa2,xa3,xa4,xa5,xa6,xa7,xa8,xa9,xa10,xa11,xa12,xa13,xa14,xa15,xa16,xa17,xa18,xa19,xa20,xa21,xa22,xa23⟩:=XA.all))
 clear xa0 xa1 xa2 xa3 xa4 xa5 xa6 xa7 xa8 xa9 xa10 xa11 xa12 xa13 xa14 xa15 xa16 xa17 xa18 xa19 xa20 xa21 xa22 xa23
 replace p:=p.below (Below.refl _ _).drew
 replace q:=q.below (Below.refl _ _).drew
 replace r:=r.below (Below.refl _ _).drew
 replace u:=u.below (Below.refl _ _).drew
 replace XA:=XA.below (Below.refl _ _).drew
 replace hb:=hb.drew
 go_region_held3 (fun w'=>w'.cell? ⟨w.heap.size,0,none⟩=some (.bool s_p)∧w'.cell? ⟨w.heap.size,1,none⟩=some (.slice A_p n_p c_p)∧w'.cell? ⟨w.heap.size,2,none⟩=some (.slice B_p m_p d_p)∧w'.cell? ⟨w.heap.size,3,none⟩=some (.bool t_p)∧w'.cell? ⟨w.heap.size,4,none⟩=some (.slice E_p i_p e_p)∧w'.cell? ⟨w.heap.size,5,none⟩=some (.slice F_p j_p f_p)∧w'.cell? ⟨w.heap.size,6,none⟩=some (.bool s_q)∧w'.cell? ⟨w.heap.size,7,none⟩=some (.slice A_q n_q c_q)∧w'.cell? ⟨w.heap.size,8,none⟩=some (.slice B_q m_q d_q)∧w'.cell? ⟨w.heap.size,9,none⟩=some (.bool t_q)∧w'.cell? ⟨w.heap.size,10,none⟩=some (.slice E_q i_q e_q)∧w'.cell? ⟨w.heap.size,11,none⟩=some (.slice F_q j_q f_q)∧w'.cell? ⟨w.heap.size,12,none⟩=some (.bool s_r)∧w'.cell? ⟨w.heap.size,13,none⟩=some (.slice A_r n_r c_r)∧w'.cell? ⟨w.heap.size,14,none⟩=some (.slice B_r m_r d_r)∧w'.cell? ⟨w.heap.size,15,none⟩=some (.bool t_r)∧w'.cell? ⟨w.heap.size,16,none⟩=some (.slice E_r i_r e_r)∧w'.cell? ⟨w.heap.size,17,none⟩=some (.slice F_r j_r f_r)∧w'.cell? ⟨w.heap.size,18,none⟩=some (.bool s_u)∧w'.cell? ⟨w.heap.size,19,none⟩=some (.slice A_u n_u c_u)∧w'.cell? ⟨w.heap.size,20,none⟩=some (.slice B_u m_u d_u)∧w'.cell? ⟨w.heap.size,21,none⟩=some (.bool t_u)∧w'.cell? ⟨w.heap.size,22,none⟩=some (.slice E_u i_u e_u)∧w'.cell? ⟨w.heap.size,23,none⟩=some (.slice F_u j_u f_u))
  (first | with_reducible exact ⟨XA.c0,XA.c1,XA.c2,XA.c3,XA.c4,XA.c5,XA.c6,XA.c7,XA.c8,XA.c9,XA.c10,XA.c11,XA.c12,XA.c13,XA.c14,XA.c15,XA.c16,XA.c17,XA.c18,XA.c19,XA.c20,XA.c21,XA.c22,XA.c23⟩)
  (first
  | (go_at_call 46;(with_reducible refine (porient_p p q r (by decide) (by decide)).mono ?_);rintro e w_z ⟨rfl,hh⟩
     rw [H1.out];(try replace p:=p.below hh);(try replace q:=q.below hh);(try replace r:=r.below hh);(try replace u:=u.below hh);(try replace XA:=XA.below hh);replace hb:=bend hb hh)
  | (go_at_call 46;(with_reducible refine (porient_p p q u (by decide) (by decide)).mono ?_);rintro e w_z ⟨rfl,hh⟩
     rw [H2.out];(try replace p:=p.below hh);(try replace q:=q.below hh);(try replace r:=r.below hh);(try replace u:=u.below hh);(try replace XA:=XA.below hh);replace hb:=bend hb hh))
 go_upto_region 4 with (fail)
 replace p:=p.below (Below.refl _ _).drew
 replace q:=q.below (Below.refl _ _).drew
 replace r:=r.below (Below.refl _ _).drew
 replace u:=u.below (Below.refl _ _).drew
 replace XA:=XA.below (Below.refl _ _).drew
 replace hb:=hb.drew
 go_region_held3 (fun w'=>w'.cell? ⟨w.heap.size,0,none⟩=some (.bool s_p)∧w'.cell? ⟨w.heap.size,1,none⟩=some (.slice A_p n_p c_p)∧w'.cell? ⟨w.heap.size,2,none⟩=some (.slice B_p m_p d_p)∧w'.cell? ⟨w.heap.size,3,none⟩=some (.bool t_p)∧w'.cell? ⟨w.heap.size,4,none⟩=some (.slice E_p i_p e_p)∧w'.cell? ⟨w.heap.size,5,none⟩=some (.slice F_p j_p f_p)∧w'.cell? ⟨w.heap.size,6,none⟩=some (.bool s_q)∧w'.cell? ⟨w.heap.size,7,none⟩=some (.slice A_q n_q c_q)∧w'.cell? ⟨w.heap.size,8,none⟩=some (.slice B_q m_q d_q)∧w'.cell? ⟨w.heap.size,9,none⟩=some (.bool t_q)∧w'.cell? ⟨w.heap.size,10,none⟩=some (.slice E_q i_q e_q)∧w'.cell? ⟨w.heap.size,11,none⟩=some (.slice F_q j_q f_q)∧w'.cell? ⟨w.heap.size,12,none⟩=some (.bool s_r)∧w'.cell? ⟨w.heap.size,13,none⟩=some (.slice A_r n_r c_r)∧w'.cell? ⟨w.heap.size,14,none⟩=some (.slice B_r m_r d_r)∧w'.cell? ⟨w.heap.size,15,none⟩=some (.bool t_r)∧w'.cell? ⟨w.heap.size,16,none⟩=some (.slice E_r i_r e_r)∧w'.cell? ⟨w.heap.size,17,none⟩=some (.slice F_r j_r f_r)∧w'.cell? ⟨w.heap.size,18,none⟩=some (.bool s_u)∧w'.cell? ⟨w.heap.size,19,none⟩=some (.slice A_u n_u c_u)∧w'.cell? ⟨w.heap.size,20,none⟩=some (.slice B_u m_u d_u)∧w'.cell? ⟨w.heap.size,21,none⟩=some (.bool t_u)∧w'.cell? ⟨w.heap.size,22,none⟩=some (.slice E_u i_u e_u)∧w'.cell? ⟨w.heap.size,23,none⟩=some (.slice F_u j_u f_u))
  (first | with_reducible exact ⟨XA.c0,XA.c1,XA.c2,XA.c3,XA.c4,XA.c5,XA.c6,XA.c7,XA.c8,XA.c9,XA.c10,XA.c11,XA.c12,XA.c13,XA.c14,XA.c15,XA.c16,XA.c17,XA.c18,XA.c19,XA.c20,XA.c21,XA.c22,XA.c23⟩)
  (first
  | (go_at_call 46;(with_reducible refine (porient_p r u p (by decide) (by decide)).mono ?_);rintro e w_z ⟨rfl,hh⟩
     rw [H3.out];(try replace p:=p.below hh);(try replace q:=q.below hh);(try replace r:=r.below hh);(try replace u:=u.below hh);(try replace XA:=XA.below hh);replace hb:=bend hb hh)
  | (go_at_call 46;(with_reducible refine (porient_p r u q (by decide) (by decide)).mono ?_);rintro e w_z ⟨rfl,hh⟩
     rw [H4.out];(try replace p:=p.below hh);(try replace q:=q.below hh);(try replace r:=r.below hh);(try replace u:=u.below hh);(try replace XA:=XA.below hh);replace hb:=bend hb hh))
 obtain ⟨xa0,xa1,xa2,xa3,xa4,xa5,xa6,xa7,xa8,xa9,xa10,xa11,xa12,xa13,xa14,xa15,xa16,xa17,xa18,xa19,xa20,xa21,xa22,xa23⟩:=XA.all
 go_wp2_with (first
  | (go_at_call 33;(with_reducible refine (meet_p p q r u (by decide) (by decide)).mono ?_);rintro e w_m ⟨l,ht,v,L,rfl,hL,hE,hh⟩
     (try replace p:=p.below hh);(try replace q:=q.below hh);(try replace r:=r.below hh);(try replace u:=u.below hh);(try replace XA:=XA.below hh);replace hb:=bend hb hh
     obtain rfl:=told_same (fun _ _=>Iff.rfl) ht HT.out
     obtain ⟨A_m,c_m,rfl,rfl⟩:=ln_nil hL hE
     clear ht hE hL)
  | (go_at_call 30;(with_reducible refine (segwakes_any _).mono ?_);rintro e w_z ⟨rfl,hh⟩
     (try replace p:=p.below hh);(try replace q:=q.below hh);(try replace r:=r.below hh);(try replace u:=u.below hh);(try replace XA:=XA.below hh);replace hb:=bend hb hh))
 go_ret;exact ⟨rfl,hb⟩
theorem crosses_n1 {ax ay bx by_ cx cy dx dy:Rat} (p:PR w s_p A_p n_p c_p B_p m_p d_p t_p E_p i_p e_p F_p j_p f_p ax ay 6) (q:PR w s_q A_q n_q c_q B_q m_q d_q t_q E_q i_q e_q F_q j_q f_q bx by_ 6) (r:PR w s_r A_r n_r c_r B_r m_r d_r t_r E_r i_r e_r F_r j_r f_r cx cy 6) (u:PR w s_u A_u n_u c_u B_u m_u d_u t_u E_u i_u e_u F_u j_u f_u dx dy 6) (h:(((n_p≤6∧m_p≤6)∧i_p≤6∧j_p≤6)∧((n_q≤6∧m_q≤6)∧i_q≤6∧j_q≤6)∧((n_r≤6∧m_r≤6)∧i_r≤6∧j_r≤6)∧((n_u≤6∧m_u≤6)∧i_u≤6∧j_u≤6))) (hu:orientQ ax ay bx by_ cx cy*orientQ ax ay bx by_ dx dy=0) (hv:¬ 0 < orientQ cx cy dx dy ax ay*orientQ cx cy dx dy bx by_) :
 Calls Tryz.prog 9 #[.agg #[.bool s_p,.slice A_p n_p c_p,.slice B_p m_p d_p,.bool t_p,.slice E_p i_p e_p,.slice F_p j_p f_p,.bool s_q,.slice A_q n_q c_q,.slice B_q m_q d_q,.bool t_q,.slice E_q i_q e_q,.slice F_q j_q f_q,.bool s_r,.slice A_r n_r c_r,.slice B_r m_r d_r,.bool t_r,.slice E_r i_r e_r,.slice F_r j_r f_r,.bool s_u,.slice A_u n_u c_u,.slice B_u m_u d_u,.bool t_u,.slice E_u i_u e_u,.slice F_u j_u f_u]] w fun e w'=>e=.returned (.bool true)∧Below w.heap.size w w':=by
 have HL:Hid (decide (((n_p≤6∧m_p≤6)∧i_p≤6∧j_p≤6)∧((n_q≤6∧m_q≤6)∧i_q≤6∧j_q≤6)∧((n_r≤6∧m_r≤6)∧i_r≤6∧j_r≤6)∧((n_u≤6∧m_u≤6)∧i_u≤6∧j_u≤6))=true):=decide_eq_true h
 clear h;have eu:=wrap_or ax ay bx by_ cx cy ax ay bx by_ dx dy;have ev:=wrap_or cx cy dx dy ax ay cx cy dx dy bx by_
 obtain ⟨K1,h1⟩:∃ K,orientQ ax ay bx by_ cx cy=K:=⟨_,rfl⟩
 obtain ⟨K2,h2⟩:∃ K,orientQ ax ay bx by_ dx dy=K:=⟨_,rfl⟩
 obtain ⟨K3,h3⟩:∃ K,orientQ cx cy dx dy ax ay=K:=⟨_,rfl⟩
 obtain ⟨K4,h4⟩:∃ K,orientQ cx cy dx dy bx by_=K:=⟨_,rfl⟩
 rw [h1,h2] at eu hu
 rw [h3,h4] at ev hv
 generalize hU:K1*K2=U at hu
 generalize hV:K3*K4=V at hv
 replace eu:IntKind.i64.wrap (K1*K2)=U:=eu.trans hU
 replace ev:IntKind.i64.wrap (K3*K4)=V:=ev.trans hV
 have H1:=Lib.hid h1;have H2:=Lib.hid h2;have H3:=Lib.hid h3;have H4:=Lib.hid h4;clear h1 h2 h3 h4 hU hV
 have u0:decide (0 < U)=false:=decide_eq_false (by omega)
 have u1:decide (U < 0)=false:=decide_eq_false (by omega)
 have v0:decide (0 < V)=false:=decide_eq_false hv
 clear hu hv
 go_enter Tryz.func9,Tryz.ntmps9
 go_upto_region 1 with (fail)
 generalize hW:World.alloc _ _=W
 obtain ⟨hb,XA,hzW⟩:=mkbx32_16 hW;clear hW;replace p:=p.below hb;replace q:=q.below hb;replace r:=r.below hb;replace u:=u.below hb;have ia0:=at4_0 w.heap.size;have ia1:=at4_1 w.heap.size;have ia2:=at4_2 w.heap.size;have ia3:=at4_3 w.heap.size;obtain ⟨xa0,xa1,xa2,xa3,xa4,xa5,xa6,xa7,xa8,xa9,xa10,xa11,xa12,xa13,xa14,xa15,xa16,xa17,xa18,xa19,xa20,xa21,xa22,xa23⟩:=XA.all
 go_wp2_with fail
 generalize hW:World.alloc _ _=W2
 obtain ⟨hh,XL,hzW2⟩:=mkbx33_16 hW;clear hW;(try replace p:=p.below hh);(try replace q:=q.below hh);(try replace r:=r.below hh);(try replace u:=u.below hh);(try replace XA:=XA.below hh);replace hb:=bend hb hh;rw [hzW] at XL;clear hzW2
 go_upto_region 3 with (first
  | (go_at_call 29;(with_reducible refine (fair4 XL true HL.out).mono ?_);rintro e w_z ⟨rfl,hh⟩
     clear XL;(try replace p:=p.below hh);(try replace q:=q.below hh);(try replace r:=r.below hh);(try replace u:=u.below hh);(try replace XA:=XA.below hh);replace hb:=bend hb hh;obtain ⟨xa0,xa1,xa2,xa3,xa4,xa5,xa6,xa7,xa8,xa9,xa10,xa11,xa12,xa13,xa14,xa15,xa16,xa17,xa18,xa19,xa20,xa21,xa22,xa23⟩:=XA.all))
 clear xa0 xa1 xa2 xa3 xa4 xa5 xa6 xa7 xa8 xa9 xa10 xa11 xa12 xa13 xa14 xa15 xa16 xa17 xa18 xa19 xa20 xa21 xa22 xa23
 replace p:=p.below (Below.refl _ _).drew
 replace q:=q.below (Below.refl _ _).drew
 replace r:=r.below (Below.refl _ _).drew
 replace u:=u.below (Below.refl _ _).drew
 replace XA:=XA.below (Below.refl _ _).drew
 replace hb:=hb.drew
 go_region_held3 (fun w'=>w'.cell? ⟨w.heap.size,0,none⟩=some (.bool s_p)∧w'.cell? ⟨w.heap.size,1,none⟩=some (.slice A_p n_p c_p)∧w'.cell? ⟨w.heap.size,2,none⟩=some (.slice B_p m_p d_p)∧w'.cell? ⟨w.heap.size,3,none⟩=some (.bool t_p)∧w'.cell? ⟨w.heap.size,4,none⟩=some (.slice E_p i_p e_p)∧w'.cell? ⟨w.heap.size,5,none⟩=some (.slice F_p j_p f_p)∧w'.cell? ⟨w.heap.size,6,none⟩=some (.bool s_q)∧w'.cell? ⟨w.heap.size,7,none⟩=some (.slice A_q n_q c_q)∧w'.cell? ⟨w.heap.size,8,none⟩=some (.slice B_q m_q d_q)∧w'.cell? ⟨w.heap.size,9,none⟩=some (.bool t_q)∧w'.cell? ⟨w.heap.size,10,none⟩=some (.slice E_q i_q e_q)∧w'.cell? ⟨w.heap.size,11,none⟩=some (.slice F_q j_q f_q)∧w'.cell? ⟨w.heap.size,12,none⟩=some (.bool s_r)∧w'.cell? ⟨w.heap.size,13,none⟩=some (.slice A_r n_r c_r)∧w'.cell? ⟨w.heap.size,14,none⟩=some (.slice B_r m_r d_r)∧w'.cell? ⟨w.heap.size,15,none⟩=some (.bool t_r)∧w'.cell? ⟨w.heap.size,16,none⟩=some (.slice E_r i_r e_r)∧w'.cell? ⟨w.heap.size,17,none⟩=some (.slice F_r j_r f_r)∧w'.cell? ⟨w.heap.size,18,none⟩=some (.bool s_u)∧w'.cell? ⟨w.heap.size,19,none⟩=some (.slice A_u n_u c_u)∧w'.cell? ⟨w.heap.size,20,none⟩=some (.slice B_u m_u d_u)∧w'.cell? ⟨w.heap.size,21,none⟩=some (.bool t_u)∧w'.cell? ⟨w.heap.size,22,none⟩=some (.slice E_u i_u e_u)∧w'.cell? ⟨w.heap.size,23,none⟩=some (.slice F_u j_u f_u))
  (first | with_reducible exact ⟨XA.c0,XA.c1,XA.c2,XA.c3,XA.c4,XA.c5,XA.c6,XA.c7,XA.c8,XA.c9,XA.c10,XA.c11,XA.c12,XA.c13,XA.c14,XA.c15,XA.c16,XA.c17,XA.c18,XA.c19,XA.c20,XA.c21,XA.c22,XA.c23⟩)
  (first
  | (go_at_call 46;(with_reducible refine (porient_p p q r (by decide) (by decide)).mono ?_);rintro e w_z ⟨rfl,hh⟩
     rw [H1.out];(try replace p:=p.below hh);(try replace q:=q.below hh);(try replace r:=r.below hh);(try replace u:=u.below hh);(try replace XA:=XA.below hh);replace hb:=bend hb hh)
  | (go_at_call 46;(with_reducible refine (porient_p p q u (by decide) (by decide)).mono ?_);rintro e w_z ⟨rfl,hh⟩
     rw [H2.out];(try replace p:=p.below hh);(try replace q:=q.below hh);(try replace r:=r.below hh);(try replace u:=u.below hh);(try replace XA:=XA.below hh);replace hb:=bend hb hh))
 go_upto_region 4 with (fail)
 replace p:=p.below (Below.refl _ _).drew
 replace q:=q.below (Below.refl _ _).drew
 replace r:=r.below (Below.refl _ _).drew
 replace u:=u.below (Below.refl _ _).drew
 replace XA:=XA.below (Below.refl _ _).drew
 replace hb:=hb.drew
 go_region_held3 (fun w'=>w'.cell? ⟨w.heap.size,0,none⟩=some (.bool s_p)∧w'.cell? ⟨w.heap.size,1,none⟩=some (.slice A_p n_p c_p)∧w'.cell? ⟨w.heap.size,2,none⟩=some (.slice B_p m_p d_p)∧w'.cell? ⟨w.heap.size,3,none⟩=some (.bool t_p)∧w'.cell? ⟨w.heap.size,4,none⟩=some (.slice E_p i_p e_p)∧w'.cell? ⟨w.heap.size,5,none⟩=some (.slice F_p j_p f_p)∧w'.cell? ⟨w.heap.size,6,none⟩=some (.bool s_q)∧w'.cell? ⟨w.heap.size,7,none⟩=some (.slice A_q n_q c_q)∧w'.cell? ⟨w.heap.size,8,none⟩=some (.slice B_q m_q d_q)∧w'.cell? ⟨w.heap.size,9,none⟩=some (.bool t_q)∧w'.cell? ⟨w.heap.size,10,none⟩=some (.slice E_q i_q e_q)∧w'.cell? ⟨w.heap.size,11,none⟩=some (.slice F_q j_q f_q)∧w'.cell? ⟨w.heap.size,12,none⟩=some (.bool s_r)∧w'.cell? ⟨w.heap.size,13,none⟩=some (.slice A_r n_r c_r)∧w'.cell? ⟨w.heap.size,14,none⟩=some (.slice B_r m_r d_r)∧w'.cell? ⟨w.heap.size,15,none⟩=some (.bool t_r)∧w'.cell? ⟨w.heap.size,16,none⟩=some (.slice E_r i_r e_r)∧w'.cell? ⟨w.heap.size,17,none⟩=some (.slice F_r j_r f_r)∧w'.cell? ⟨w.heap.size,18,none⟩=some (.bool s_u)∧w'.cell? ⟨w.heap.size,19,none⟩=some (.slice A_u n_u c_u)∧w'.cell? ⟨w.heap.size,20,none⟩=some (.slice B_u m_u d_u)∧w'.cell? ⟨w.heap.size,21,none⟩=some (.bool t_u)∧w'.cell? ⟨w.heap.size,22,none⟩=some (.slice E_u i_u e_u)∧w'.cell? ⟨w.heap.size,23,none⟩=some (.slice F_u j_u f_u))
  (first | with_reducible exact ⟨XA.c0,XA.c1,XA.c2,XA.c3,XA.c4,XA.c5,XA.c6,XA.c7,XA.c8,XA.c9,XA.c10,XA.c11,XA.c12,XA.c13,XA.c14,XA.c15,XA.c16,XA.c17,XA.c18,XA.c19,XA.c20,XA.c21,XA.c22,XA.c23⟩)
  (first
  | (go_at_call 46;(with_reducible refine (porient_p r u p (by decide) (by decide)).mono ?_);rintro e w_z ⟨rfl,hh⟩
     rw [H3.out];(try replace p:=p.below hh);(try replace q:=q.below hh);(try replace r:=r.below hh);(try replace u:=u.below hh);(try replace XA:=XA.below hh);replace hb:=bend hb hh)
  | (go_at_call 46;(with_reducible refine (porient_p r u q (by decide) (by decide)).mono ?_);rintro e w_z ⟨rfl,hh⟩
     rw [H4.out];(try replace p:=p.below hh);(try replace q:=q.below hh);(try replace r:=r.below hh);(try replace u:=u.below hh);(try replace XA:=XA.below hh);replace hb:=bend hb hh))
 obtain ⟨xa0,xa1,xa2,xa3,xa4,xa5,xa6,xa7,xa8,xa9,xa10,xa11,xa12,xa13,xa14,xa15,xa16,xa17,xa18,xa19,xa20,xa21,xa22,xa23⟩:=XA.all
 go_wp2_with (first
  | (go_at_call 33;(with_reducible refine (meet_p p q r u (by decide) (by decide)).mono ?_);rintro e w_m ⟨l,ht,v,L,rfl,hL,hE,hh⟩
     (try replace p:=p.below hh);(try replace q:=q.below hh);(try replace r:=r.below hh);(try replace u:=u.below hh);(try replace XA:=XA.below hh);replace hb:=bend hb hh
     obtain ⟨A_m,c_m,hvm,hLc,hA0⟩:=hL.form
     subst hvm
     clear hLc hA0 hL hE ht)
  | (go_at_call 30;(with_reducible refine (segwakes_any _).mono ?_);rintro e w_z ⟨rfl,hh⟩
     (try replace p:=p.below hh);(try replace q:=q.below hh);(try replace r:=r.below hh);(try replace u:=u.below hh);(try replace XA:=XA.below hh);replace hb:=bend hb hh))
 go_ret;exact ⟨rfl,hb⟩
theorem crosses_n2 {ax ay bx by_ cx cy dx dy:Rat} (p:PR w s_p A_p n_p c_p B_p m_p d_p t_p E_p i_p e_p F_p j_p f_p ax ay 6) (q:PR w s_q A_q n_q c_q B_q m_q d_q t_q E_q i_q e_q F_q j_q f_q bx by_ 6) (r:PR w s_r A_r n_r c_r B_r m_r d_r t_r E_r i_r e_r F_r j_r f_r cx cy 6) (u:PR w s_u A_u n_u c_u B_u m_u d_u t_u E_u i_u e_u F_u j_u f_u dx dy 6) (h:(((n_p≤6∧m_p≤6)∧i_p≤6∧j_p≤6)∧((n_q≤6∧m_q≤6)∧i_q≤6∧j_q≤6)∧((n_r≤6∧m_r≤6)∧i_r≤6∧j_r≤6)∧((n_u≤6∧m_u≤6)∧i_u≤6∧j_u≤6))) (hu:orientQ ax ay bx by_ cx cy*orientQ ax ay bx by_ dx dy < 0) (hv:orientQ cx cy dx dy ax ay*orientQ cx cy dx dy bx by_=0) :
 Calls Tryz.prog 9 #[.agg #[.bool s_p,.slice A_p n_p c_p,.slice B_p m_p d_p,.bool t_p,.slice E_p i_p e_p,.slice F_p j_p f_p,.bool s_q,.slice A_q n_q c_q,.slice B_q m_q d_q,.bool t_q,.slice E_q i_q e_q,.slice F_q j_q f_q,.bool s_r,.slice A_r n_r c_r,.slice B_r m_r d_r,.bool t_r,.slice E_r i_r e_r,.slice F_r j_r f_r,.bool s_u,.slice A_u n_u c_u,.slice B_u m_u d_u,.bool t_u,.slice E_u i_u e_u,.slice F_u j_u f_u]] w fun e w'=>e=.returned (.bool true)∧Below w.heap.size w w':=by
 have HL:Hid (decide (((n_p≤6∧m_p≤6)∧i_p≤6∧j_p≤6)∧((n_q≤6∧m_q≤6)∧i_q≤6∧j_q≤6)∧((n_r≤6∧m_r≤6)∧i_r≤6∧j_r≤6)∧((n_u≤6∧m_u≤6)∧i_u≤6∧j_u≤6))=true):=decide_eq_true h
 clear h;have eu:=wrap_or ax ay bx by_ cx cy ax ay bx by_ dx dy;have ev:=wrap_or cx cy dx dy ax ay cx cy dx dy bx by_
 obtain ⟨K1,h1⟩:∃ K,orientQ ax ay bx by_ cx cy=K:=⟨_,rfl⟩
 obtain ⟨K2,h2⟩:∃ K,orientQ ax ay bx by_ dx dy=K:=⟨_,rfl⟩
 obtain ⟨K3,h3⟩:∃ K,orientQ cx cy dx dy ax ay=K:=⟨_,rfl⟩
 obtain ⟨K4,h4⟩:∃ K,orientQ cx cy dx dy bx by_=K:=⟨_,rfl⟩
 rw [h1,h2] at eu hu
 rw [h3,h4] at ev hv
 generalize hU:K1*K2=U at hu
 generalize hV:K3*K4=V at hv
 replace eu:IntKind.i64.wrap (K1*K2)=U:=eu.trans hU
 replace ev:IntKind.i64.wrap (K3*K4)=V:=ev.trans hV
 have H1:=Lib.hid h1;have H2:=Lib.hid h2;have H3:=Lib.hid h3;have H4:=Lib.hid h4;clear h1 h2 h3 h4 hU hV
 have u0:decide (0 < U)=false:=decide_eq_false (by omega)
 have u1:decide (U < 0)=true:=decide_eq_true hu
 have v0:decide (0 < V)=false:=decide_eq_false (by omega)
 have v1:decide (V < 0)=false:=decide_eq_false (by omega)
 clear hu hv
 go_enter Tryz.func9,Tryz.ntmps9
 go_upto_region 1 with (fail)
 generalize hW:World.alloc _ _=W
 obtain ⟨hb,XA,hzW⟩:=mkbx32_16 hW;clear hW;replace p:=p.below hb;replace q:=q.below hb;replace r:=r.below hb;replace u:=u.below hb;have ia0:=at4_0 w.heap.size;have ia1:=at4_1 w.heap.size;have ia2:=at4_2 w.heap.size;have ia3:=at4_3 w.heap.size;obtain ⟨xa0,xa1,xa2,xa3,xa4,xa5,xa6,xa7,xa8,xa9,xa10,xa11,xa12,xa13,xa14,xa15,xa16,xa17,xa18,xa19,xa20,xa21,xa22,xa23⟩:=XA.all
 go_wp2_with fail
 generalize hW:World.alloc _ _=W2
 obtain ⟨hh,XL,hzW2⟩:=mkbx33_16 hW;clear hW;(try replace p:=p.below hh);(try replace q:=q.below hh);(try replace r:=r.below hh);(try replace u:=u.below hh);(try replace XA:=XA.below hh);replace hb:=bend hb hh;rw [hzW] at XL;clear hzW2
 go_upto_region 3 with (first
  | (go_at_call 29;(with_reducible refine (fair4 XL true HL.out).mono ?_);rintro e w_z ⟨rfl,hh⟩
     clear XL;(try replace p:=p.below hh);(try replace q:=q.below hh);(try replace r:=r.below hh);(try replace u:=u.below hh);(try replace XA:=XA.below hh);replace hb:=bend hb hh;obtain ⟨xa0,xa1,xa2,xa3,xa4,xa5,xa6,xa7,xa8,xa9,xa10,xa11,xa12,xa13,xa14,xa15,xa16,xa17,xa18,xa19,xa20,xa21,xa22,xa23⟩:=XA.all))
 clear xa0 xa1 xa2 xa3 xa4 xa5 xa6 xa7 xa8 xa9 xa10 xa11 xa12 xa13 xa14 xa15 xa16 xa17 xa18 xa19 xa20 xa21 xa22 xa23
 replace p:=p.below (Below.refl _ _).drew
 replace q:=q.below (Below.refl _ _).drew
 replace r:=r.below (Below.refl _ _).drew
 replace u:=u.below (Below.refl _ _).drew
 replace XA:=XA.below (Below.refl _ _).drew
 replace hb:=hb.drew
 go_region_held3 (fun w'=>w'.cell? ⟨w.heap.size,0,none⟩=some (.bool s_p)∧w'.cell? ⟨w.heap.size,1,none⟩=some (.slice A_p n_p c_p)∧w'.cell? ⟨w.heap.size,2,none⟩=some (.slice B_p m_p d_p)∧w'.cell? ⟨w.heap.size,3,none⟩=some (.bool t_p)∧w'.cell? ⟨w.heap.size,4,none⟩=some (.slice E_p i_p e_p)∧w'.cell? ⟨w.heap.size,5,none⟩=some (.slice F_p j_p f_p)∧w'.cell? ⟨w.heap.size,6,none⟩=some (.bool s_q)∧w'.cell? ⟨w.heap.size,7,none⟩=some (.slice A_q n_q c_q)∧w'.cell? ⟨w.heap.size,8,none⟩=some (.slice B_q m_q d_q)∧w'.cell? ⟨w.heap.size,9,none⟩=some (.bool t_q)∧w'.cell? ⟨w.heap.size,10,none⟩=some (.slice E_q i_q e_q)∧w'.cell? ⟨w.heap.size,11,none⟩=some (.slice F_q j_q f_q)∧w'.cell? ⟨w.heap.size,12,none⟩=some (.bool s_r)∧w'.cell? ⟨w.heap.size,13,none⟩=some (.slice A_r n_r c_r)∧w'.cell? ⟨w.heap.size,14,none⟩=some (.slice B_r m_r d_r)∧w'.cell? ⟨w.heap.size,15,none⟩=some (.bool t_r)∧w'.cell? ⟨w.heap.size,16,none⟩=some (.slice E_r i_r e_r)∧w'.cell? ⟨w.heap.size,17,none⟩=some (.slice F_r j_r f_r)∧w'.cell? ⟨w.heap.size,18,none⟩=some (.bool s_u)∧w'.cell? ⟨w.heap.size,19,none⟩=some (.slice A_u n_u c_u)∧w'.cell? ⟨w.heap.size,20,none⟩=some (.slice B_u m_u d_u)∧w'.cell? ⟨w.heap.size,21,none⟩=some (.bool t_u)∧w'.cell? ⟨w.heap.size,22,none⟩=some (.slice E_u i_u e_u)∧w'.cell? ⟨w.heap.size,23,none⟩=some (.slice F_u j_u f_u))
  (first | with_reducible exact ⟨XA.c0,XA.c1,XA.c2,XA.c3,XA.c4,XA.c5,XA.c6,XA.c7,XA.c8,XA.c9,XA.c10,XA.c11,XA.c12,XA.c13,XA.c14,XA.c15,XA.c16,XA.c17,XA.c18,XA.c19,XA.c20,XA.c21,XA.c22,XA.c23⟩)
  (first
  | (go_at_call 46;(with_reducible refine (porient_p p q r (by decide) (by decide)).mono ?_);rintro e w_z ⟨rfl,hh⟩
     rw [H1.out];(try replace p:=p.below hh);(try replace q:=q.below hh);(try replace r:=r.below hh);(try replace u:=u.below hh);(try replace XA:=XA.below hh);replace hb:=bend hb hh)
  | (go_at_call 46;(with_reducible refine (porient_p p q u (by decide) (by decide)).mono ?_);rintro e w_z ⟨rfl,hh⟩
     rw [H2.out];(try replace p:=p.below hh);(try replace q:=q.below hh);(try replace r:=r.below hh);(try replace u:=u.below hh);(try replace XA:=XA.below hh);replace hb:=bend hb hh))
 go_upto_region 4 with (fail)
 replace p:=p.below (Below.refl _ _).drew
 replace q:=q.below (Below.refl _ _).drew
 replace r:=r.below (Below.refl _ _).drew
 replace u:=u.below (Below.refl _ _).drew
 replace XA:=XA.below (Below.refl _ _).drew
 replace hb:=hb.drew
 go_region_held3 (fun w'=>w'.cell? ⟨w.heap.size,0,none⟩=some (.bool s_p)∧w'.cell? ⟨w.heap.size,1,none⟩=some (.slice A_p n_p c_p)∧w'.cell? ⟨w.heap.size,2,none⟩=some (.slice B_p m_p d_p)∧w'.cell? ⟨w.heap.size,3,none⟩=some (.bool t_p)∧w'.cell? ⟨w.heap.size,4,none⟩=some (.slice E_p i_p e_p)∧w'.cell? ⟨w.heap.size,5,none⟩=some (.slice F_p j_p f_p)∧w'.cell? ⟨w.heap.size,6,none⟩=some (.bool s_q)∧w'.cell? ⟨w.heap.size,7,none⟩=some (.slice A_q n_q c_q)∧w'.cell? ⟨w.heap.size,8,none⟩=some (.slice B_q m_q d_q)∧w'.cell? ⟨w.heap.size,9,none⟩=some (.bool t_q)∧w'.cell? ⟨w.heap.size,10,none⟩=some (.slice E_q i_q e_q)∧w'.cell? ⟨w.heap.size,11,none⟩=some (.slice F_q j_q f_q)∧w'.cell? ⟨w.heap.size,12,none⟩=some (.bool s_r)∧w'.cell? ⟨w.heap.size,13,none⟩=some (.slice A_r n_r c_r)∧w'.cell? ⟨w.heap.size,14,none⟩=some (.slice B_r m_r d_r)∧w'.cell? ⟨w.heap.size,15,none⟩=some (.bool t_r)∧w'.cell? ⟨w.heap.size,16,none⟩=some (.slice E_r i_r e_r)∧w'.cell? ⟨w.heap.size,17,none⟩=some (.slice F_r j_r f_r)∧w'.cell? ⟨w.heap.size,18,none⟩=some (.bool s_u)∧w'.cell? ⟨w.heap.size,19,none⟩=some (.slice A_u n_u c_u)∧w'.cell? ⟨w.heap.size,20,none⟩=some (.slice B_u m_u d_u)∧w'.cell? ⟨w.heap.size,21,none⟩=some (.bool t_u)∧w'.cell? ⟨w.heap.size,22,none⟩=some (.slice E_u i_u e_u)∧w'.cell? ⟨w.heap.size,23,none⟩=some (.slice F_u j_u f_u))
  (first | with_reducible exact ⟨XA.c0,XA.c1,XA.c2,XA.c3,XA.c4,XA.c5,XA.c6,XA.c7,XA.c8,XA.c9,XA.c10,XA.c11,XA.c12,XA.c13,XA.c14,XA.c15,XA.c16,XA.c17,XA.c18,XA.c19,XA.c20,XA.c21,XA.c22,XA.c23⟩)
  (first
  | (go_at_call 46;(with_reducible refine (porient_p r u p (by decide) (by decide)).mono ?_);rintro e w_z ⟨rfl,hh⟩
     rw [H3.out];(try replace p:=p.below hh);(try replace q:=q.below hh);(try replace r:=r.below hh);(try replace u:=u.below hh);(try replace XA:=XA.below hh);replace hb:=bend hb hh)
  | (go_at_call 46;(with_reducible refine (porient_p r u q (by decide) (by decide)).mono ?_);rintro e w_z ⟨rfl,hh⟩
     rw [H4.out];(try replace p:=p.below hh);(try replace q:=q.below hh);(try replace r:=r.below hh);(try replace u:=u.below hh);(try replace XA:=XA.below hh);replace hb:=bend hb hh))
 obtain ⟨xa0,xa1,xa2,xa3,xa4,xa5,xa6,xa7,xa8,xa9,xa10,xa11,xa12,xa13,xa14,xa15,xa16,xa17,xa18,xa19,xa20,xa21,xa22,xa23⟩:=XA.all
 go_wp2_with (first
  | (go_at_call 33;(with_reducible refine (meet_p p q r u (by decide) (by decide)).mono ?_);rintro e w_m ⟨l,ht,v,L,rfl,hL,hE,hh⟩
     (try replace p:=p.below hh);(try replace q:=q.below hh);(try replace r:=r.below hh);(try replace u:=u.below hh);(try replace XA:=XA.below hh);replace hb:=bend hb hh
     obtain ⟨A_m,c_m,hvm,hLc,hA0⟩:=hL.form
     subst hvm
     clear hLc hA0 hL hE ht)
  | (go_at_call 30;(with_reducible refine (segwakes_any _).mono ?_);rintro e w_z ⟨rfl,hh⟩
     (try replace p:=p.below hh);(try replace q:=q.below hh);(try replace r:=r.below hh);(try replace u:=u.below hh);(try replace XA:=XA.below hh);replace hb:=bend hb hh))
 go_ret;exact ⟨rfl,hb⟩
theorem crosses_x {ax ay bx by_ cx cy dx dy:Rat} (p:PR w s_p A_p n_p c_p B_p m_p d_p t_p E_p i_p e_p F_p j_p f_p ax ay 6) (q:PR w s_q A_q n_q c_q B_q m_q d_q t_q E_q i_q e_q F_q j_q f_q bx by_ 6) (r:PR w s_r A_r n_r c_r B_r m_r d_r t_r E_r i_r e_r F_r j_r f_r cx cy 6) (u:PR w s_u A_u n_u c_u B_u m_u d_u t_u E_u i_u e_u F_u j_u f_u dx dy 6) (h:(((n_p≤6∧m_p≤6)∧i_p≤6∧j_p≤6)∧((n_q≤6∧m_q≤6)∧i_q≤6∧j_q≤6)∧((n_r≤6∧m_r≤6)∧i_r≤6∧j_r≤6)∧((n_u≤6∧m_u≤6)∧i_u≤6∧j_u≤6))) (hu:orientQ ax ay bx by_ cx cy*orientQ ax ay bx by_ dx dy < 0) (hv:orientQ cx cy dx dy ax ay*orientQ cx cy dx dy bx by_ < 0) :
 Calls Tryz.prog 9 #[.agg #[.bool s_p,.slice A_p n_p c_p,.slice B_p m_p d_p,.bool t_p,.slice E_p i_p e_p,.slice F_p j_p f_p,.bool s_q,.slice A_q n_q c_q,.slice B_q m_q d_q,.bool t_q,.slice E_q i_q e_q,.slice F_q j_q f_q,.bool s_r,.slice A_r n_r c_r,.slice B_r m_r d_r,.bool t_r,.slice E_r i_r e_r,.slice F_r j_r f_r,.bool s_u,.slice A_u n_u c_u,.slice B_u m_u d_u,.bool t_u,.slice E_u i_u e_u,.slice F_u j_u f_u]] w fun e w'=>e=.returned (.bool true)∧Below w.heap.size w w':=by
 have HL:Hid (decide (((n_p≤6∧m_p≤6)∧i_p≤6∧j_p≤6)∧((n_q≤6∧m_q≤6)∧i_q≤6∧j_q≤6)∧((n_r≤6∧m_r≤6)∧i_r≤6∧j_r≤6)∧((n_u≤6∧m_u≤6)∧i_u≤6∧j_u≤6))=true):=decide_eq_true h
 clear h
 obtain ⟨⟨mx,my⟩,hT,g1,g2,g3,g4⟩:=told_both (ax:=ax) (ay:=ay) (bx:=bx) (by_:=by_) (cx:=cx) (cy:=cy) (dx:=dx) (dy:=dy) ((sgn_mul_neg _ _).1 (by rw [← orient_cr,← orient_cr];exact hu)) ((sgn_mul_neg _ _).1 (by rw [← orient_cr,← orient_cr];exact hv))
 have HT:=Lib.hid hT
 have G1:Hid (decide (mx=ax∧my=ay)=false):=decide_eq_false g1
 have G2:Hid (decide (mx=bx∧my=by_)=false):=decide_eq_false g2
 have G3:Hid (decide (mx=cx∧my=cy)=false):=decide_eq_false g3
 have G4:Hid (decide (mx=dx∧my=dy)=false):=decide_eq_false g4
 clear hT g1 g2 g3 g4;have eu:=wrap_or ax ay bx by_ cx cy ax ay bx by_ dx dy;have ev:=wrap_or cx cy dx dy ax ay cx cy dx dy bx by_
 obtain ⟨K1,h1⟩:∃ K,orientQ ax ay bx by_ cx cy=K:=⟨_,rfl⟩
 obtain ⟨K2,h2⟩:∃ K,orientQ ax ay bx by_ dx dy=K:=⟨_,rfl⟩
 obtain ⟨K3,h3⟩:∃ K,orientQ cx cy dx dy ax ay=K:=⟨_,rfl⟩
 obtain ⟨K4,h4⟩:∃ K,orientQ cx cy dx dy bx by_=K:=⟨_,rfl⟩
 rw [h1,h2] at eu hu
 rw [h3,h4] at ev hv
 generalize hU:K1*K2=U at hu
 generalize hV:K3*K4=V at hv
 replace eu:IntKind.i64.wrap (K1*K2)=U:=eu.trans hU
 replace ev:IntKind.i64.wrap (K3*K4)=V:=ev.trans hV
 have H1:=Lib.hid h1;have H2:=Lib.hid h2;have H3:=Lib.hid h3;have H4:=Lib.hid h4;clear h1 h2 h3 h4 hU hV
 have u0:decide (0 < U)=false:=decide_eq_false (by omega)
 have u1:decide (U < 0)=true:=decide_eq_true hu
 have v0:decide (0 < V)=false:=decide_eq_false (by omega)
 have v1:decide (V < 0)=true:=decide_eq_true hv
 clear hu hv
 go_enter Tryz.func9,Tryz.ntmps9
 go_upto_region 1 with (fail)
 generalize hW:World.alloc _ _=W
 obtain ⟨hb,XA,hzW⟩:=mkbx32_16 hW;clear hW;replace p:=p.below hb;replace q:=q.below hb;replace r:=r.below hb;replace u:=u.below hb;have ia0:=at4_0 w.heap.size;have ia1:=at4_1 w.heap.size;have ia2:=at4_2 w.heap.size;have ia3:=at4_3 w.heap.size;obtain ⟨xa0,xa1,xa2,xa3,xa4,xa5,xa6,xa7,xa8,xa9,xa10,xa11,xa12,xa13,xa14,xa15,xa16,xa17,xa18,xa19,xa20,xa21,xa22,xa23⟩:=XA.all
 go_wp2_with fail
 generalize hW:World.alloc _ _=W2
 obtain ⟨hh,XL,hzW2⟩:=mkbx33_16 hW;clear hW;(try replace p:=p.below hh);(try replace q:=q.below hh);(try replace r:=r.below hh);(try replace u:=u.below hh);(try replace XA:=XA.below hh);replace hb:=bend hb hh;rw [hzW] at XL;clear hzW2
 go_upto_region 3 with (first
  | (go_at_call 29;(with_reducible refine (fair4 XL true HL.out).mono ?_);rintro e w_z ⟨rfl,hh⟩
     clear XL;(try replace p:=p.below hh);(try replace q:=q.below hh);(try replace r:=r.below hh);(try replace u:=u.below hh);(try replace XA:=XA.below hh);replace hb:=bend hb hh;obtain ⟨xa0,xa1,xa2,xa3,xa4,xa5,xa6,xa7,xa8,xa9,xa10,xa11,xa12,xa13,xa14,xa15,xa16,xa17,xa18,xa19,xa20,xa21,xa22,xa23⟩:=XA.all))
 clear xa0 xa1 xa2 xa3 xa4 xa5 xa6 xa7 xa8 xa9 xa10 xa11 xa12 xa13 xa14 xa15 xa16 xa17 xa18 xa19 xa20 xa21 xa22 xa23
 replace p:=p.below (Below.refl _ _).drew
 replace q:=q.below (Below.refl _ _).drew
 replace r:=r.below (Below.refl _ _).drew
 replace u:=u.below (Below.refl _ _).drew
 replace XA:=XA.below (Below.refl _ _).drew
 replace hb:=hb.drew
 go_region_held3 (fun w'=>w'.cell? ⟨w.heap.size,0,none⟩=some (.bool s_p)∧w'.cell? ⟨w.heap.size,1,none⟩=some (.slice A_p n_p c_p)∧w'.cell? ⟨w.heap.size,2,none⟩=some (.slice B_p m_p d_p)∧w'.cell? ⟨w.heap.size,3,none⟩=some (.bool t_p)∧w'.cell? ⟨w.heap.size,4,none⟩=some (.slice E_p i_p e_p)∧w'.cell? ⟨w.heap.size,5,none⟩=some (.slice F_p j_p f_p)∧w'.cell? ⟨w.heap.size,6,none⟩=some (.bool s_q)∧w'.cell? ⟨w.heap.size,7,none⟩=some (.slice A_q n_q c_q)∧w'.cell? ⟨w.heap.size,8,none⟩=some (.slice B_q m_q d_q)∧w'.cell? ⟨w.heap.size,9,none⟩=some (.bool t_q)∧w'.cell? ⟨w.heap.size,10,none⟩=some (.slice E_q i_q e_q)∧w'.cell? ⟨w.heap.size,11,none⟩=some (.slice F_q j_q f_q)∧w'.cell? ⟨w.heap.size,12,none⟩=some (.bool s_r)∧w'.cell? ⟨w.heap.size,13,none⟩=some (.slice A_r n_r c_r)∧w'.cell? ⟨w.heap.size,14,none⟩=some (.slice B_r m_r d_r)∧w'.cell? ⟨w.heap.size,15,none⟩=some (.bool t_r)∧w'.cell? ⟨w.heap.size,16,none⟩=some (.slice E_r i_r e_r)∧w'.cell? ⟨w.heap.size,17,none⟩=some (.slice F_r j_r f_r)∧w'.cell? ⟨w.heap.size,18,none⟩=some (.bool s_u)∧w'.cell? ⟨w.heap.size,19,none⟩=some (.slice A_u n_u c_u)∧w'.cell? ⟨w.heap.size,20,none⟩=some (.slice B_u m_u d_u)∧w'.cell? ⟨w.heap.size,21,none⟩=some (.bool t_u)∧w'.cell? ⟨w.heap.size,22,none⟩=some (.slice E_u i_u e_u)∧w'.cell? ⟨w.heap.size,23,none⟩=some (.slice F_u j_u f_u))
  (first | with_reducible exact ⟨XA.c0,XA.c1,XA.c2,XA.c3,XA.c4,XA.c5,XA.c6,XA.c7,XA.c8,XA.c9,XA.c10,XA.c11,XA.c12,XA.c13,XA.c14,XA.c15,XA.c16,XA.c17,XA.c18,XA.c19,XA.c20,XA.c21,XA.c22,XA.c23⟩)
  (first
  | (go_at_call 46;(with_reducible refine (porient_p p q r (by decide) (by decide)).mono ?_);rintro e w_z ⟨rfl,hh⟩
     rw [H1.out];(try replace p:=p.below hh);(try replace q:=q.below hh);(try replace r:=r.below hh);(try replace u:=u.below hh);(try replace XA:=XA.below hh);replace hb:=bend hb hh)
  | (go_at_call 46;(with_reducible refine (porient_p p q u (by decide) (by decide)).mono ?_);rintro e w_z ⟨rfl,hh⟩
     rw [H2.out];(try replace p:=p.below hh);(try replace q:=q.below hh);(try replace r:=r.below hh);(try replace u:=u.below hh);(try replace XA:=XA.below hh);replace hb:=bend hb hh))
 go_upto_region 4 with (fail)
 replace p:=p.below (Below.refl _ _).drew
 replace q:=q.below (Below.refl _ _).drew
 replace r:=r.below (Below.refl _ _).drew
 replace u:=u.below (Below.refl _ _).drew
 replace XA:=XA.below (Below.refl _ _).drew
 replace hb:=hb.drew
 go_region_held3 (fun w'=>w'.cell? ⟨w.heap.size,0,none⟩=some (.bool s_p)∧w'.cell? ⟨w.heap.size,1,none⟩=some (.slice A_p n_p c_p)∧w'.cell? ⟨w.heap.size,2,none⟩=some (.slice B_p m_p d_p)∧w'.cell? ⟨w.heap.size,3,none⟩=some (.bool t_p)∧w'.cell? ⟨w.heap.size,4,none⟩=some (.slice E_p i_p e_p)∧w'.cell? ⟨w.heap.size,5,none⟩=some (.slice F_p j_p f_p)∧w'.cell? ⟨w.heap.size,6,none⟩=some (.bool s_q)∧w'.cell? ⟨w.heap.size,7,none⟩=some (.slice A_q n_q c_q)∧w'.cell? ⟨w.heap.size,8,none⟩=some (.slice B_q m_q d_q)∧w'.cell? ⟨w.heap.size,9,none⟩=some (.bool t_q)∧w'.cell? ⟨w.heap.size,10,none⟩=some (.slice E_q i_q e_q)∧w'.cell? ⟨w.heap.size,11,none⟩=some (.slice F_q j_q f_q)∧w'.cell? ⟨w.heap.size,12,none⟩=some (.bool s_r)∧w'.cell? ⟨w.heap.size,13,none⟩=some (.slice A_r n_r c_r)∧w'.cell? ⟨w.heap.size,14,none⟩=some (.slice B_r m_r d_r)∧w'.cell? ⟨w.heap.size,15,none⟩=some (.bool t_r)∧w'.cell? ⟨w.heap.size,16,none⟩=some (.slice E_r i_r e_r)∧w'.cell? ⟨w.heap.size,17,none⟩=some (.slice F_r j_r f_r)∧w'.cell? ⟨w.heap.size,18,none⟩=some (.bool s_u)∧w'.cell? ⟨w.heap.size,19,none⟩=some (.slice A_u n_u c_u)∧w'.cell? ⟨w.heap.size,20,none⟩=some (.slice B_u m_u d_u)∧w'.cell? ⟨w.heap.size,21,none⟩=some (.bool t_u)∧w'.cell? ⟨w.heap.size,22,none⟩=some (.slice E_u i_u e_u)∧w'.cell? ⟨w.heap.size,23,none⟩=some (.slice F_u j_u f_u))
  (first | with_reducible exact ⟨XA.c0,XA.c1,XA.c2,XA.c3,XA.c4,XA.c5,XA.c6,XA.c7,XA.c8,XA.c9,XA.c10,XA.c11,XA.c12,XA.c13,XA.c14,XA.c15,XA.c16,XA.c17,XA.c18,XA.c19,XA.c20,XA.c21,XA.c22,XA.c23⟩)
  (first
  | (go_at_call 46;(with_reducible refine (porient_p r u p (by decide) (by decide)).mono ?_);rintro e w_z ⟨rfl,hh⟩
     rw [H3.out];(try replace p:=p.below hh);(try replace q:=q.below hh);(try replace r:=r.below hh);(try replace u:=u.below hh);(try replace XA:=XA.below hh);replace hb:=bend hb hh)
  | (go_at_call 46;(with_reducible refine (porient_p r u q (by decide) (by decide)).mono ?_);rintro e w_z ⟨rfl,hh⟩
     rw [H4.out];(try replace p:=p.below hh);(try replace q:=q.below hh);(try replace r:=r.below hh);(try replace u:=u.below hh);(try replace XA:=XA.below hh);replace hb:=bend hb hh))
 obtain ⟨xa0,xa1,xa2,xa3,xa4,xa5,xa6,xa7,xa8,xa9,xa10,xa11,xa12,xa13,xa14,xa15,xa16,xa17,xa18,xa19,xa20,xa21,xa22,xa23⟩:=XA.all
 go_upto_region 8 with (first
  | (go_at_call 33;(with_reducible refine (meet_p p q r u (by decide) (by decide)).mono ?_);rintro e w_m ⟨l,ht,v,L,rfl,hL,hE,hh⟩
     (try replace p:=p.below hh);(try replace q:=q.below hh);(try replace r:=r.below hh);(try replace u:=u.below hh);(try replace XA:=XA.below hh);replace hb:=bend hb hh
     obtain rfl:=told_same (fun _ _=>Iff.rfl) ht HT.out
     obtain ⟨x,g_x,c_x,rfl,rfl,hgx,X⟩:=ln_one hL hE
     replace X:=X.more (k1:=126) (Nat.le_refl 126)
     simp only at X
     clear ht hE))
 clear xa0 xa1 xa2 xa3 xa4 xa5 xa6 xa7 xa8 xa9 xa10 xa11 xa12 xa13 xa14 xa15 xa16 xa17 xa18 xa19 xa20 xa21 xa22 xa23
 have ix:=idx0 (g:=g_x) (n:=1) (c:=c_x) (by decide)
 go_wp2_with fail
 refine wp_loop_rounds 5 ?_
 rw [rounds_succ]
 go_upto_region 14 with (fail)
 replace p:=p.below (Below.refl _ _).drew
 replace q:=q.below (Below.refl _ _).drew
 replace r:=r.below (Below.refl _ _).drew
 replace u:=u.below (Below.refl _ _).drew
 replace XA:=XA.below (Below.refl _ _).drew
 replace hL:=hL.below (Below.refl _ _).drew
 replace X:=X.below (Below.refl _ _).drew
 replace hb:=hb.drew
 go_region_held3 (fun w'=>w'.cell? ⟨w.heap.size,0,none⟩=some (.bool s_p)∧w'.cell? ⟨w.heap.size,1,none⟩=some (.slice A_p n_p c_p)∧w'.cell? ⟨w.heap.size,2,none⟩=some (.slice B_p m_p d_p)∧w'.cell? ⟨w.heap.size,3,none⟩=some (.bool t_p)∧w'.cell? ⟨w.heap.size,4,none⟩=some (.slice E_p i_p e_p)∧w'.cell? ⟨w.heap.size,5,none⟩=some (.slice F_p j_p f_p)∧w'.cell? ⟨w.heap.size,6,none⟩=some (.bool s_q)∧w'.cell? ⟨w.heap.size,7,none⟩=some (.slice A_q n_q c_q)∧w'.cell? ⟨w.heap.size,8,none⟩=some (.slice B_q m_q d_q)∧w'.cell? ⟨w.heap.size,9,none⟩=some (.bool t_q)∧w'.cell? ⟨w.heap.size,10,none⟩=some (.slice E_q i_q e_q)∧w'.cell? ⟨w.heap.size,11,none⟩=some (.slice F_q j_q f_q)∧w'.cell? ⟨w.heap.size,12,none⟩=some (.bool s_r)∧w'.cell? ⟨w.heap.size,13,none⟩=some (.slice A_r n_r c_r)∧w'.cell? ⟨w.heap.size,14,none⟩=some (.slice B_r m_r d_r)∧w'.cell? ⟨w.heap.size,15,none⟩=some (.bool t_r)∧w'.cell? ⟨w.heap.size,16,none⟩=some (.slice E_r i_r e_r)∧w'.cell? ⟨w.heap.size,17,none⟩=some (.slice F_r j_r f_r)∧w'.cell? ⟨w.heap.size,18,none⟩=some (.bool s_u)∧w'.cell? ⟨w.heap.size,19,none⟩=some (.slice A_u n_u c_u)∧w'.cell? ⟨w.heap.size,20,none⟩=some (.slice B_u m_u d_u)∧w'.cell? ⟨w.heap.size,21,none⟩=some (.bool t_u)∧w'.cell? ⟨w.heap.size,22,none⟩=some (.slice E_u i_u e_u)∧w'.cell? ⟨w.heap.size,23,none⟩=some (.slice F_u j_u f_u)∧w'.cell? ⟨g_x,0,none⟩=some (.bool x.s)∧w'.cell? ⟨g_x,1,none⟩=some (.slice x.A x.n x.c)∧w'.cell? ⟨g_x,2,none⟩=some (.slice x.B x.m x.d)∧w'.cell? ⟨g_x,3,none⟩=some (.bool x.t)∧w'.cell? ⟨g_x,4,none⟩=some (.slice x.E x.i x.e)∧w'.cell? ⟨g_x,5,none⟩=some (.slice x.F x.j x.f))
  (first | with_reducible exact ⟨XA.c0,XA.c1,XA.c2,XA.c3,XA.c4,XA.c5,XA.c6,XA.c7,XA.c8,XA.c9,XA.c10,XA.c11,XA.c12,XA.c13,XA.c14,XA.c15,XA.c16,XA.c17,XA.c18,XA.c19,XA.c20,XA.c21,XA.c22,XA.c23,(hL.cells0 rfl).1,(hL.cells0 rfl).2.1,(hL.cells0 rfl).2.2.1,(hL.cells0 rfl).2.2.2.1,(hL.cells0 rfl).2.2.2.2.1,(hL.cells0 rfl).2.2.2.2.2⟩)
  (first
  | (go_at_call 43;(with_reducible refine (psame_p X.pr p (by decide) (by decide) (by decide) (by decide) false G1.out).mono ?_);rintro e w_z ⟨rfl,hh⟩
     (try replace p:=p.below hh);(try replace q:=q.below hh);(try replace r:=r.below hh);(try replace u:=u.below hh);(try replace XA:=XA.below hh);(try replace hL:=hL.below hh);(try replace X:=X.below hh);replace hb:=bend hb hh))
 go_wp2_with fail
 rw [rounds_succ]
 go_upto_region 14 with (fail)
 replace p:=p.below (Below.refl _ _).drew
 replace q:=q.below (Below.refl _ _).drew
 replace r:=r.below (Below.refl _ _).drew
 replace u:=u.below (Below.refl _ _).drew
 replace XA:=XA.below (Below.refl _ _).drew
 replace hL:=hL.below (Below.refl _ _).drew
 replace X:=X.below (Below.refl _ _).drew
 replace hb:=hb.drew
 go_region_held3 (fun w'=>w'.cell? ⟨w.heap.size,0,none⟩=some (.bool s_p)∧w'.cell? ⟨w.heap.size,1,none⟩=some (.slice A_p n_p c_p)∧w'.cell? ⟨w.heap.size,2,none⟩=some (.slice B_p m_p d_p)∧w'.cell? ⟨w.heap.size,3,none⟩=some (.bool t_p)∧w'.cell? ⟨w.heap.size,4,none⟩=some (.slice E_p i_p e_p)∧w'.cell? ⟨w.heap.size,5,none⟩=some (.slice F_p j_p f_p)∧w'.cell? ⟨w.heap.size,6,none⟩=some (.bool s_q)∧w'.cell? ⟨w.heap.size,7,none⟩=some (.slice A_q n_q c_q)∧w'.cell? ⟨w.heap.size,8,none⟩=some (.slice B_q m_q d_q)∧w'.cell? ⟨w.heap.size,9,none⟩=some (.bool t_q)∧w'.cell? ⟨w.heap.size,10,none⟩=some (.slice E_q i_q e_q)∧w'.cell? ⟨w.heap.size,11,none⟩=some (.slice F_q j_q f_q)∧w'.cell? ⟨w.heap.size,12,none⟩=some (.bool s_r)∧w'.cell? ⟨w.heap.size,13,none⟩=some (.slice A_r n_r c_r)∧w'.cell? ⟨w.heap.size,14,none⟩=some (.slice B_r m_r d_r)∧w'.cell? ⟨w.heap.size,15,none⟩=some (.bool t_r)∧w'.cell? ⟨w.heap.size,16,none⟩=some (.slice E_r i_r e_r)∧w'.cell? ⟨w.heap.size,17,none⟩=some (.slice F_r j_r f_r)∧w'.cell? ⟨w.heap.size,18,none⟩=some (.bool s_u)∧w'.cell? ⟨w.heap.size,19,none⟩=some (.slice A_u n_u c_u)∧w'.cell? ⟨w.heap.size,20,none⟩=some (.slice B_u m_u d_u)∧w'.cell? ⟨w.heap.size,21,none⟩=some (.bool t_u)∧w'.cell? ⟨w.heap.size,22,none⟩=some (.slice E_u i_u e_u)∧w'.cell? ⟨w.heap.size,23,none⟩=some (.slice F_u j_u f_u)∧w'.cell? ⟨g_x,0,none⟩=some (.bool x.s)∧w'.cell? ⟨g_x,1,none⟩=some (.slice x.A x.n x.c)∧w'.cell? ⟨g_x,2,none⟩=some (.slice x.B x.m x.d)∧w'.cell? ⟨g_x,3,none⟩=some (.bool x.t)∧w'.cell? ⟨g_x,4,none⟩=some (.slice x.E x.i x.e)∧w'.cell? ⟨g_x,5,none⟩=some (.slice x.F x.j x.f))
  (first | with_reducible exact ⟨XA.c0,XA.c1,XA.c2,XA.c3,XA.c4,XA.c5,XA.c6,XA.c7,XA.c8,XA.c9,XA.c10,XA.c11,XA.c12,XA.c13,XA.c14,XA.c15,XA.c16,XA.c17,XA.c18,XA.c19,XA.c20,XA.c21,XA.c22,XA.c23,(hL.cells0 rfl).1,(hL.cells0 rfl).2.1,(hL.cells0 rfl).2.2.1,(hL.cells0 rfl).2.2.2.1,(hL.cells0 rfl).2.2.2.2.1,(hL.cells0 rfl).2.2.2.2.2⟩)
  (first
  | (go_at_call 43;(with_reducible refine (psame_p X.pr q (by decide) (by decide) (by decide) (by decide) false G2.out).mono ?_);rintro e w_z ⟨rfl,hh⟩
     (try replace p:=p.below hh);(try replace q:=q.below hh);(try replace r:=r.below hh);(try replace u:=u.below hh);(try replace XA:=XA.below hh);(try replace hL:=hL.below hh);(try replace X:=X.below hh);replace hb:=bend hb hh))
 go_wp2_with fail
 rw [rounds_succ]
 go_upto_region 14 with (fail)
 replace p:=p.below (Below.refl _ _).drew
 replace q:=q.below (Below.refl _ _).drew
 replace r:=r.below (Below.refl _ _).drew
 replace u:=u.below (Below.refl _ _).drew
 replace XA:=XA.below (Below.refl _ _).drew
 replace hL:=hL.below (Below.refl _ _).drew
 replace X:=X.below (Below.refl _ _).drew
 replace hb:=hb.drew
 go_region_held3 (fun w'=>w'.cell? ⟨w.heap.size,0,none⟩=some (.bool s_p)∧w'.cell? ⟨w.heap.size,1,none⟩=some (.slice A_p n_p c_p)∧w'.cell? ⟨w.heap.size,2,none⟩=some (.slice B_p m_p d_p)∧w'.cell? ⟨w.heap.size,3,none⟩=some (.bool t_p)∧w'.cell? ⟨w.heap.size,4,none⟩=some (.slice E_p i_p e_p)∧w'.cell? ⟨w.heap.size,5,none⟩=some (.slice F_p j_p f_p)∧w'.cell? ⟨w.heap.size,6,none⟩=some (.bool s_q)∧w'.cell? ⟨w.heap.size,7,none⟩=some (.slice A_q n_q c_q)∧w'.cell? ⟨w.heap.size,8,none⟩=some (.slice B_q m_q d_q)∧w'.cell? ⟨w.heap.size,9,none⟩=some (.bool t_q)∧w'.cell? ⟨w.heap.size,10,none⟩=some (.slice E_q i_q e_q)∧w'.cell? ⟨w.heap.size,11,none⟩=some (.slice F_q j_q f_q)∧w'.cell? ⟨w.heap.size,12,none⟩=some (.bool s_r)∧w'.cell? ⟨w.heap.size,13,none⟩=some (.slice A_r n_r c_r)∧w'.cell? ⟨w.heap.size,14,none⟩=some (.slice B_r m_r d_r)∧w'.cell? ⟨w.heap.size,15,none⟩=some (.bool t_r)∧w'.cell? ⟨w.heap.size,16,none⟩=some (.slice E_r i_r e_r)∧w'.cell? ⟨w.heap.size,17,none⟩=some (.slice F_r j_r f_r)∧w'.cell? ⟨w.heap.size,18,none⟩=some (.bool s_u)∧w'.cell? ⟨w.heap.size,19,none⟩=some (.slice A_u n_u c_u)∧w'.cell? ⟨w.heap.size,20,none⟩=some (.slice B_u m_u d_u)∧w'.cell? ⟨w.heap.size,21,none⟩=some (.bool t_u)∧w'.cell? ⟨w.heap.size,22,none⟩=some (.slice E_u i_u e_u)∧w'.cell? ⟨w.heap.size,23,none⟩=some (.slice F_u j_u f_u)∧w'.cell? ⟨g_x,0,none⟩=some (.bool x.s)∧w'.cell? ⟨g_x,1,none⟩=some (.slice x.A x.n x.c)∧w'.cell? ⟨g_x,2,none⟩=some (.slice x.B x.m x.d)∧w'.cell? ⟨g_x,3,none⟩=some (.bool x.t)∧w'.cell? ⟨g_x,4,none⟩=some (.slice x.E x.i x.e)∧w'.cell? ⟨g_x,5,none⟩=some (.slice x.F x.j x.f))
  (first | with_reducible exact ⟨XA.c0,XA.c1,XA.c2,XA.c3,XA.c4,XA.c5,XA.c6,XA.c7,XA.c8,XA.c9,XA.c10,XA.c11,XA.c12,XA.c13,XA.c14,XA.c15,XA.c16,XA.c17,XA.c18,XA.c19,XA.c20,XA.c21,XA.c22,XA.c23,(hL.cells0 rfl).1,(hL.cells0 rfl).2.1,(hL.cells0 rfl).2.2.1,(hL.cells0 rfl).2.2.2.1,(hL.cells0 rfl).2.2.2.2.1,(hL.cells0 rfl).2.2.2.2.2⟩)
  (first
  | (go_at_call 43;(with_reducible refine (psame_p X.pr r (by decide) (by decide) (by decide) (by decide) false G3.out).mono ?_);rintro e w_z ⟨rfl,hh⟩
     (try replace p:=p.below hh);(try replace q:=q.below hh);(try replace r:=r.below hh);(try replace u:=u.below hh);(try replace XA:=XA.below hh);(try replace hL:=hL.below hh);(try replace X:=X.below hh);replace hb:=bend hb hh))
 go_wp2_with fail
 rw [rounds_succ]
 go_upto_region 14 with (fail)
 replace p:=p.below (Below.refl _ _).drew
 replace q:=q.below (Below.refl _ _).drew
 replace r:=r.below (Below.refl _ _).drew
 replace u:=u.below (Below.refl _ _).drew
 replace XA:=XA.below (Below.refl _ _).drew
 replace hL:=hL.below (Below.refl _ _).drew
 replace X:=X.below (Below.refl _ _).drew
 replace hb:=hb.drew
 go_region_held3 (fun w'=>w'.cell? ⟨w.heap.size,0,none⟩=some (.bool s_p)∧w'.cell? ⟨w.heap.size,1,none⟩=some (.slice A_p n_p c_p)∧w'.cell? ⟨w.heap.size,2,none⟩=some (.slice B_p m_p d_p)∧w'.cell? ⟨w.heap.size,3,none⟩=some (.bool t_p)∧w'.cell? ⟨w.heap.size,4,none⟩=some (.slice E_p i_p e_p)∧w'.cell? ⟨w.heap.size,5,none⟩=some (.slice F_p j_p f_p)∧w'.cell? ⟨w.heap.size,6,none⟩=some (.bool s_q)∧w'.cell? ⟨w.heap.size,7,none⟩=some (.slice A_q n_q c_q)∧w'.cell? ⟨w.heap.size,8,none⟩=some (.slice B_q m_q d_q)∧w'.cell? ⟨w.heap.size,9,none⟩=some (.bool t_q)∧w'.cell? ⟨w.heap.size,10,none⟩=some (.slice E_q i_q e_q)∧w'.cell? ⟨w.heap.size,11,none⟩=some (.slice F_q j_q f_q)∧w'.cell? ⟨w.heap.size,12,none⟩=some (.bool s_r)∧w'.cell? ⟨w.heap.size,13,none⟩=some (.slice A_r n_r c_r)∧w'.cell? ⟨w.heap.size,14,none⟩=some (.slice B_r m_r d_r)∧w'.cell? ⟨w.heap.size,15,none⟩=some (.bool t_r)∧w'.cell? ⟨w.heap.size,16,none⟩=some (.slice E_r i_r e_r)∧w'.cell? ⟨w.heap.size,17,none⟩=some (.slice F_r j_r f_r)∧w'.cell? ⟨w.heap.size,18,none⟩=some (.bool s_u)∧w'.cell? ⟨w.heap.size,19,none⟩=some (.slice A_u n_u c_u)∧w'.cell? ⟨w.heap.size,20,none⟩=some (.slice B_u m_u d_u)∧w'.cell? ⟨w.heap.size,21,none⟩=some (.bool t_u)∧w'.cell? ⟨w.heap.size,22,none⟩=some (.slice E_u i_u e_u)∧w'.cell? ⟨w.heap.size,23,none⟩=some (.slice F_u j_u f_u)∧w'.cell? ⟨g_x,0,none⟩=some (.bool x.s)∧w'.cell? ⟨g_x,1,none⟩=some (.slice x.A x.n x.c)∧w'.cell? ⟨g_x,2,none⟩=some (.slice x.B x.m x.d)∧w'.cell? ⟨g_x,3,none⟩=some (.bool x.t)∧w'.cell? ⟨g_x,4,none⟩=some (.slice x.E x.i x.e)∧w'.cell? ⟨g_x,5,none⟩=some (.slice x.F x.j x.f))
  (first | with_reducible exact ⟨XA.c0,XA.c1,XA.c2,XA.c3,XA.c4,XA.c5,XA.c6,XA.c7,XA.c8,XA.c9,XA.c10,XA.c11,XA.c12,XA.c13,XA.c14,XA.c15,XA.c16,XA.c17,XA.c18,XA.c19,XA.c20,XA.c21,XA.c22,XA.c23,(hL.cells0 rfl).1,(hL.cells0 rfl).2.1,(hL.cells0 rfl).2.2.1,(hL.cells0 rfl).2.2.2.1,(hL.cells0 rfl).2.2.2.2.1,(hL.cells0 rfl).2.2.2.2.2⟩)
  (first
  | (go_at_call 43;(with_reducible refine (psame_p X.pr u (by decide) (by decide) (by decide) (by decide) false G4.out).mono ?_);rintro e w_z ⟨rfl,hh⟩
     (try replace p:=p.below hh);(try replace q:=q.below hh);(try replace r:=r.below hh);(try replace u:=u.below hh);(try replace XA:=XA.below hh);(try replace hL:=hL.below hh);(try replace X:=X.below hh);replace hb:=bend hb hh))
 go_wp2_with fail
 rw [rounds_succ]
 go_wp2_with (first
  | (go_at_call 30;(with_reducible refine (segwakes_any _).mono ?_);rintro e w_z ⟨rfl,hh⟩
     (try replace p:=p.below hh);(try replace q:=q.below hh);(try replace r:=r.below hh);(try replace u:=u.below hh);(try replace XA:=XA.below hh);(try replace hL:=hL.below hh);(try replace X:=X.below hh);replace hb:=bend hb hh))
 go_ret;exact ⟨rfl,hb⟩
theorem law_crosses {lap lbp lcp ldp:List Nat} {laq lbq lcq ldq:List Nat} {lar lbr lcr ldr:List Nat} {lau lbu lcu ldu:List Nat} (ap:Rd .u64 w A_p n_p lap) (bp:Rd .u64 w B_p m_p lbp) (up:Rd .u64 w E_p i_p lcp) (vp:Rd .u64 w F_p j_p ldp) (tap:Lim B64 lap) (tbp:Lim B64 lbp) (tcp:Lim B64 lcp) (tdp:Lim B64 ldp) (cap:n_p≤c_p) (cbp:m_p≤d_p) (ccp:i_p≤e_p) (cdp:j_p≤f_p) (aq:Rd .u64 w A_q n_q laq) (bq:Rd .u64 w B_q m_q lbq) (uq:Rd .u64 w E_q i_q lcq) (vq:Rd .u64 w F_q j_q ldq) (taq:Lim B64 laq) (tbq:Lim B64 lbq) (tcq:Lim B64 lcq) (tdq:Lim B64 ldq) (caq:n_q≤c_q) (cbq:m_q≤d_q) (ccq:i_q≤e_q) (cdq:j_q≤f_q) (ar:Rd .u64 w A_r n_r lar) (br:Rd .u64 w B_r m_r lbr) (ur:Rd .u64 w E_r i_r lcr) (vr:Rd .u64 w F_r j_r ldr) (tar:Lim B64 lar) (tbr:Lim B64 lbr) (tcr:Lim B64 lcr) (tdr:Lim B64 ldr) (car:n_r≤c_r) (cbr:m_r≤d_r) (ccr:i_r≤e_r) (cdr:j_r≤f_r) (au:Rd .u64 w A_u n_u lau) (bu:Rd .u64 w B_u m_u lbu) (uu:Rd .u64 w E_u i_u lcu) (vu:Rd .u64 w F_u j_u ldu) (tau:Lim B64 lau) (tbu:Lim B64 lbu) (tcu:Lim B64 lcu) (tdu:Lim B64 ldu) (cau:n_u≤c_u) (cbu:m_u≤d_u) (ccu:i_u≤e_u) (cdu:j_u≤f_u) :
 Calls Tryz.prog 9 #[.agg #[.bool s_p,.slice A_p n_p c_p,.slice B_p m_p d_p,.bool t_p,.slice E_p i_p e_p,.slice F_p j_p f_p,.bool s_q,.slice A_q n_q c_q,.slice B_q m_q d_q,.bool t_q,.slice E_q i_q e_q,.slice F_q j_q f_q,.bool s_r,.slice A_r n_r c_r,.slice B_r m_r d_r,.bool t_r,.slice E_r i_r e_r,.slice F_r j_r f_r,.bool s_u,.slice A_u n_u c_u,.slice B_u m_u d_u,.bool t_u,.slice E_u i_u e_u,.slice F_u j_u f_u]] w fun e w'=>e=.returned (.bool true)∧Below w.heap.size w w':=by
 by_cases h:(((n_p≤6∧m_p≤6)∧i_p≤6∧j_p≤6)∧((n_q≤6∧m_q≤6)∧i_q≤6∧j_q≤6)∧((n_r≤6∧m_r≤6)∧i_r≤6∧j_r≤6)∧((n_u≤6∧m_u≤6)∧i_u≤6∧j_u≤6))
 · have p:PR w s_p A_p n_p c_p B_p m_p d_p t_p E_p i_p e_p F_p j_p f_p (mkRat (iv s_p (val B64 lap)) (den1 (val B64 lbp))) (mkRat (iv t_p (val B64 lcp)) (den1 (val B64 ldp))) 6:=⟨QR.of_rd ap tap cap bp tbp cbp h.1.1.1 h.1.1.2,QR.of_rd up tcp ccp vp tdp cdp h.1.2.1 h.1.2.2⟩
   have q:PR w s_q A_q n_q c_q B_q m_q d_q t_q E_q i_q e_q F_q j_q f_q (mkRat (iv s_q (val B64 laq)) (den1 (val B64 lbq))) (mkRat (iv t_q (val B64 lcq)) (den1 (val B64 ldq))) 6:=⟨QR.of_rd aq taq caq bq tbq cbq h.2.1.1.1 h.2.1.1.2,QR.of_rd uq tcq ccq vq tdq cdq h.2.1.2.1 h.2.1.2.2⟩
   have r:PR w s_r A_r n_r c_r B_r m_r d_r t_r E_r i_r e_r F_r j_r f_r (mkRat (iv s_r (val B64 lar)) (den1 (val B64 lbr))) (mkRat (iv t_r (val B64 lcr)) (den1 (val B64 ldr))) 6:=⟨QR.of_rd ar tar car br tbr cbr h.2.2.1.1.1 h.2.2.1.1.2,QR.of_rd ur tcr ccr vr tdr cdr h.2.2.1.2.1 h.2.2.1.2.2⟩
   have u:PR w s_u A_u n_u c_u B_u m_u d_u t_u E_u i_u e_u F_u j_u f_u (mkRat (iv s_u (val B64 lau)) (den1 (val B64 lbu))) (mkRat (iv t_u (val B64 lcu)) (den1 (val B64 ldu))) 6:=⟨QR.of_rd au tau cau bu tbu cbu h.2.2.2.1.1 h.2.2.2.1.2,QR.of_rd uu tcu ccu vu tdu cdu h.2.2.2.2.1 h.2.2.2.2.2⟩
   generalize mkRat (iv s_p (val B64 lap)) (den1 (val B64 lbp))=ax at p
   generalize mkRat (iv t_p (val B64 lcp)) (den1 (val B64 ldp))=ay at p
   generalize mkRat (iv s_q (val B64 laq)) (den1 (val B64 lbq))=bx at q
   generalize mkRat (iv t_q (val B64 lcq)) (den1 (val B64 ldq))=by_ at q
   generalize mkRat (iv s_r (val B64 lar)) (den1 (val B64 lbr))=cx at r
   generalize mkRat (iv t_r (val B64 lcr)) (den1 (val B64 ldr))=cy at r
   generalize mkRat (iv s_u (val B64 lau)) (den1 (val B64 lbu))=dx at u
   generalize mkRat (iv t_u (val B64 lcu)) (den1 (val B64 ldu))=dy at u
   by_cases hu:0 < orientQ ax ay bx by_ cx cy*orientQ ax ay bx by_ dx dy
   · exact crosses_s1 p q r u h hu
   · by_cases hv:0 < orientQ cx cy dx dy ax ay*orientQ cx cy dx dy bx by_
     · exact crosses_s2 p q r u h hu hv
     · by_cases hu0:orientQ ax ay bx by_ cx cy*orientQ ax ay bx by_ dx dy=0
       · exact crosses_n1 p q r u h hu0 hv
       · by_cases hv0:orientQ cx cy dx dy ax ay*orientQ cx cy dx dy bx by_=0
         · exact crosses_n2 p q r u h (by omega) hv0
         · exact crosses_x p q r u h (by omega) (by omega)
 · exact crosses_l h
end Go.Proofs.YtmgklaklnaihpaaGreat
