/- HalveCuts: part 17. -/
import Derived.Lib.SmallJoins
import Derived.OpenShut
import Derived.Test.YtfpaeophfcoohaaGreatKHalveCuts0
import Derived.Test.YtfpaeophfcoohaaGreatKHalveCuts10
import Derived.Test.YtfpaeophfcoohaaGreatKHalveCuts12
import Derived.Test.YtfpaeophfcoohaaGreatKHalveCuts14
import Derived.Test.YtfpaeophfcoohaaGreatKHalveCuts16
set_option linter.unusedVariables false
set_option maxRecDepth 100000
set_option maxHeartbeats 16000000
variable {w:Go.World}
namespace Go.Proofs.YtfpaeophfcoohaaGreat
section
open Go Go.RowKit
attribute [local go_sem ↓] open_LVH open_STH open_LVJ open_STJ
def CE (w:World) (g o:Nat) (v:Value):Prop:=g < w.heap.size∧w.cell? ⟨g,o,none⟩=some v
theorem CE.below {w w':World} {g o:Nat} {v:Value} (h:CE w g o v) (hb:Below w.heap.size w w'):CE w' g o v:=⟨Nat.lt_of_lt_of_le h.1 hb.size,(hb.cell (p:=⟨g,o,none⟩) h.1).trans h.2⟩
theorem eli {M:List HV} {V:List AH} {n k:Nat} (hv:V.length=n) (e:EachH RH w M V k):EachH RH w M (li n (vfn V)) k:=by rw [li_vfn' hv];exact e
theorem CE.c {g o:Nat} {v:Value} (h:CE w g o v):w.cell? ⟨g,o,none⟩=some v:=h.2
theorem hcts_f {A:Option Addr} {n c:Nat} {dd:Int} {L:List HV} (hL:SV w A (hvs L)) (hn:L.length=n) (hm:n≤maxLen) (hf:¬ ((∀ p ∈ L,p.small 4)∧n≤6)) :
 Calls Tryz.prog 4 #[.slice A n c,.int .i64 dd] w fun e w'=>e=.returned (.bool true)∧Below w.heap.size w w':=by
 have HF:=Lib.hid hf;clear hf
 have hb:Below w.heap.size w w:=Below.refl _ _
 have HN:=Lib.hid hn;clear hn
 go_enter Tryz.func4,Tryz.ntmps4
 go_wp2_with (first
  | (go_at_call 17;(with_reducible refine (fair13_f hL HN.out hm HF.out).mono ?_);rintro e w_z ⟨rfl,hh⟩
     replace hb:=bend hb hh)
  | (go_at_call 18;(with_reducible refine (wakes14_any _).mono ?_);rintro e w_z ⟨rfl,hh⟩
     replace hb:=bend hb hh))
 (try rw [Exit.noGoto_ret])
 go_ret;exact ⟨rfl,hb⟩
theorem hcts_m {A:Option Addr} {n c:Nat} {dd:Int} {L:List HV} (hL:SV w A (hvs L)) (hn:L.length=n) (hm:n≤maxLen) (hf:(∀ p ∈ L,p.small 4)∧n≤6) (h3:3 < dd) (h10:dd≤10) :
 Calls Tryz.prog 4 #[.slice A n c,.int .i64 dd] w fun e w'=>e=.returned (.bool true)∧Below w.heap.size w w':=by
 have HF:=Lib.hid hf;clear hf
 have hb:Below w.heap.size w w:=Below.refl _ _
 have HN:=Lib.hid hn;clear hn
 go_enter Tryz.func4,Tryz.ntmps4
 go_wp2_with (first
  | (go_at_call 17;(with_reducible refine (fair13_t hL HN.out hm HF.out).mono ?_);rintro e w_z ⟨rfl,hh⟩
     replace hb:=bend hb hh)
  | (go_at_call 18;(with_reducible refine (wakes14_any _).mono ?_);rintro e w_z ⟨rfl,hh⟩
     replace hb:=bend hb hh))
 (try rw [Exit.noGoto_ret])
 go_ret;exact ⟨rfl,hb⟩
theorem hcts_gn {A:Option Addr} {n c:Nat} {dd:Int} {L:List HV} {V:List AH} (hL:SV w A (hvs L)) (hn:L.length=n) (hE:EachH HR w L V 4) (hs:(∀ p ∈ L,p.small 4)∧n≤6) (hg:¬ GoodH V) (hd:dd < 0) :
 Calls Tryz.prog 4 #[.slice A n c,.int .i64 dd] w fun e w'=>e=.returned (.bool true)∧Below w.heap.size w w':=by
 have HG:=Lib.hid hg;have hd9:=Lib.hid hd
 have hs1:dd < 0:=hd
 have hs3:¬ (3:Int) < dd:=by omega
 clear hg hd;have HF:=Lib.hid hs
 have hm:n≤maxLen:=by unfold maxLen;omega
 have hn9:n≤1000:=by omega
 have HVn:Hid (V.length=n):=hE.1.symm.trans hn
 clear hs
 have hb:Below w.heap.size w w:=Below.refl _ _
 have HN:=Lib.hid hn;clear hn
 go_enter Tryz.func4,Tryz.ntmps4
 go_wp2_with (first
  | (go_at_call 17;(with_reducible refine (fair13_t hL HN.out hm HF.out).mono ?_);rintro e w_z ⟨rfl,hh⟩
     (try replace hL:=hL.below hh);replace hb:=bend hb hh;replace hE:=EachH.belowR hE hh)
  | (go_at_call 19;(with_reducible refine (rins13 hL hE HN.out hn9 (by decide) (by decide)).mono ?_);rintro e w_i ⟨v1,M1,rfl,l1,e1,hh⟩
     (try replace hL:=hL.below hh);replace hb:=bend hb hh;replace hE:=EachH.belowR hE hh
     obtain ⟨A_x,c_x,rfl,_,_⟩:=l1.form
     have hM1:M1.length=n:=e1.1.trans HVn.out
     rw [hM1] at l1 ⊢
     have LM1:=l1.sv)
  | (go_at_call 20;(with_reducible refine (hCut_bad hL hE HN.out (by decide) (by decide) HG.out).mono ?_);rintro e w_z ⟨rfl,hh⟩
     (try replace hL:=hL.below hh);(try replace l1:=l1.below hh);(try replace LM1:=LM1.below hh);replace hb:=bend hb hh;replace hE:=EachH.belowR hE hh;replace e1:=EachH.belowJ e1 hh)
  | (go_at_call 21;(with_reducible refine (hmany_n hd9.out).mono ?_);rintro e w_z ⟨rfl,hh⟩
     (try replace hL:=hL.below hh);(try replace l1:=l1.below hh);(try replace LM1:=LM1.below hh);replace hb:=bend hb hh;replace hE:=EachH.belowR hE hh;replace e1:=EachH.belowJ e1 hh)
  | (go_at_call 22;(with_reducible refine (rgood13_f LM1 e1 hM1 hn9 HG.out).mono ?_);rintro e w_z ⟨rfl,hh⟩
     (try replace hL:=hL.below hh);(try replace l1:=l1.below hh);(try replace LM1:=LM1.below hh);replace hb:=bend hb hh;replace hE:=EachH.belowR hE hh;replace e1:=EachH.belowJ e1 hh)
  | (go_at_call 18;(with_reducible refine (wakes14_any _).mono ?_);rintro e w_z ⟨rfl,hh⟩
     replace hb:=bend hb hh))
 (try rw [Exit.noGoto_ret])
 go_ret;exact ⟨rfl,hb⟩
theorem hcts_gl {A:Option Addr} {n c:Nat} {dd:Int} {L:List HV} {V:List AH} (hL:SV w A (hvs L)) (hn:L.length=n) (hE:EachH HR w L V 4) (hs:(∀ p ∈ L,p.small 4)∧n≤6) (hg:¬ GoodH V) (hd:10 < dd) :
 Calls Tryz.prog 4 #[.slice A n c,.int .i64 dd] w fun e w'=>e=.returned (.bool true)∧Below w.heap.size w w':=by
 have HG:=Lib.hid hg;have hd9:=Lib.hid hd
 have hs1:¬ dd < 0:=by omega
 have hs3:(3:Int) < dd:=by omega
 have hs4:¬ dd≤10:=by omega
 have hs5:(10:Int) < dd:=hd
 clear hg hd;have HF:=Lib.hid hs
 have hm:n≤maxLen:=by unfold maxLen;omega
 have hn9:n≤1000:=by omega
 have HVn:Hid (V.length=n):=hE.1.symm.trans hn
 clear hs
 have hb:Below w.heap.size w w:=Below.refl _ _
 have HN:=Lib.hid hn;clear hn
 go_enter Tryz.func4,Tryz.ntmps4
 go_wp2_with (first
  | (go_at_call 17;(with_reducible refine (fair13_t hL HN.out hm HF.out).mono ?_);rintro e w_z ⟨rfl,hh⟩
     (try replace hL:=hL.below hh);replace hb:=bend hb hh;replace hE:=EachH.belowR hE hh)
  | (go_at_call 19;(with_reducible refine (rins13 hL hE HN.out hn9 (by decide) (by decide)).mono ?_);rintro e w_i ⟨v1,M1,rfl,l1,e1,hh⟩
     (try replace hL:=hL.below hh);replace hb:=bend hb hh;replace hE:=EachH.belowR hE hh
     obtain ⟨A_x,c_x,rfl,_,_⟩:=l1.form
     have hM1:M1.length=n:=e1.1.trans HVn.out
     rw [hM1] at l1 ⊢
     have LM1:=l1.sv)
  | (go_at_call 20;(with_reducible refine (hCut_bad hL hE HN.out (by decide) (by decide) HG.out).mono ?_);rintro e w_z ⟨rfl,hh⟩
     (try replace hL:=hL.below hh);(try replace l1:=l1.below hh);(try replace LM1:=LM1.below hh);replace hb:=bend hb hh;replace hE:=EachH.belowR hE hh;replace e1:=EachH.belowJ e1 hh)
  | (go_at_call 21;(with_reducible refine (hmany_l hd9.out).mono ?_);rintro e w_z ⟨rfl,hh⟩
     (try replace hL:=hL.below hh);(try replace l1:=l1.below hh);(try replace LM1:=LM1.below hh);replace hb:=bend hb hh;replace hE:=EachH.belowR hE hh;replace e1:=EachH.belowJ e1 hh)
  | (go_at_call 22;(with_reducible refine (rgood13_f LM1 e1 hM1 hn9 HG.out).mono ?_);rintro e w_z ⟨rfl,hh⟩
     (try replace hL:=hL.below hh);(try replace l1:=l1.below hh);(try replace LM1:=LM1.below hh);replace hb:=bend hb hh;replace hE:=EachH.belowR hE hh;replace e1:=EachH.belowJ e1 hh)
  | (go_at_call 18;(with_reducible refine (wakes14_any _).mono ?_);rintro e w_z ⟨rfl,hh⟩
     replace hb:=bend hb hh))
 (try rw [Exit.noGoto_ret])
 go_ret;exact ⟨rfl,hb⟩
theorem hcts_gs {A:Option Addr} {n c:Nat} {dd:Int} {L:List HV} {V:List AH} (hL:SV w A (hvs L)) (hn:L.length=n) (hE:EachH HR w L V 4) (hs:(∀ p ∈ L,p.small 4)∧n≤6) (hg:¬ GoodH V) (hd:0≤dd∧dd≤3) :
 Calls Tryz.prog 4 #[.slice A n c,.int .i64 dd] w fun e w'=>e=.returned (.bool true)∧Below w.heap.size w w':=by
 have HG:=Lib.hid hg;have hd9:=Lib.hid hd
 have hs1:¬ dd < 0:=by omega
 have hs3:¬ (3:Int) < dd:=by omega
 have hs5:¬ (10:Int) < dd:=by omega
 clear hg hd;have HF:=Lib.hid hs
 have hm:n≤maxLen:=by unfold maxLen;omega
 have hn9:n≤1000:=by omega
 have HVn:Hid (V.length=n):=hE.1.symm.trans hn
 clear hs
 have hb:Below w.heap.size w w:=Below.refl _ _
 have HN:=Lib.hid hn;clear hn
 go_enter Tryz.func4,Tryz.ntmps4
 go_wp2_with (first
  | (go_at_call 17;(with_reducible refine (fair13_t hL HN.out hm HF.out).mono ?_);rintro e w_z ⟨rfl,hh⟩
     (try replace hL:=hL.below hh);replace hb:=bend hb hh;replace hE:=EachH.belowR hE hh)
  | (go_at_call 19;(with_reducible refine (rins13 hL hE HN.out hn9 (by decide) (by decide)).mono ?_);rintro e w_i ⟨v1,M1,rfl,l1,e1,hh⟩
     (try replace hL:=hL.below hh);replace hb:=bend hb hh;replace hE:=EachH.belowR hE hh
     obtain ⟨A_x,c_x,rfl,_,_⟩:=l1.form
     have hM1:M1.length=n:=e1.1.trans HVn.out
     rw [hM1] at l1 ⊢
     have LM1:=l1.sv)
  | (go_at_call 20;(with_reducible refine (hCut_bad hL hE HN.out (by decide) (by decide) HG.out).mono ?_);rintro e w_z ⟨rfl,hh⟩
     (try replace hL:=hL.below hh);(try replace l1:=l1.below hh);(try replace LM1:=LM1.below hh);replace hb:=bend hb hh;replace hE:=EachH.belowR hE hh;replace e1:=EachH.belowJ e1 hh)
  | (go_at_call 21;(with_reducible refine (hmany_form hL hE HN.out (by decide) (by decide) (by have:=hd9.out;omega) (by have:=hd9.out;omega) HG.out).mono ?_);rintro e w_z ⟨rfl,hh⟩
     (try replace hL:=hL.below hh);(try replace l1:=l1.below hh);(try replace LM1:=LM1.below hh);replace hb:=bend hb hh;replace hE:=EachH.belowR hE hh;replace e1:=EachH.belowJ e1 hh)
  | (go_at_call 22;(with_reducible refine (rgood13_f LM1 e1 hM1 hn9 HG.out).mono ?_);rintro e w_z ⟨rfl,hh⟩
     (try replace hL:=hL.below hh);(try replace l1:=l1.below hh);(try replace LM1:=LM1.below hh);replace hb:=bend hb hh;replace hE:=EachH.belowR hE hh;replace e1:=EachH.belowJ e1 hh)
  | (go_at_call 18;(with_reducible refine (wakes14_any _).mono ?_);rintro e w_z ⟨rfl,hh⟩
     replace hb:=bend hb hh))
 (try rw [Exit.noGoto_ret])
 go_ret;exact ⟨rfl,hb⟩
theorem hcts_pn {A:Option Addr} {n c:Nat} {dd:Int} {L:List HV} {V:List AH} (hL:SV w A (hvs L)) (hn:L.length=n) (hE:EachH HR w L V 4) (hs:(∀ p ∈ L,p.small 4)∧n≤6) (hg:GoodH V) (hd:dd < 0) :
 Calls Tryz.prog 4 #[.slice A n c,.int .i64 dd] w fun e w'=>e=.returned (.bool true)∧Below w.heap.size w w':=by
 have HG:=Lib.hid hg;have hd9:=Lib.hid hd
 have hs1:dd < 0:=hd
 have hs3:¬ (3:Int) < dd:=by omega
 obtain ⟨K1,hK1⟩:=fits_ex (li n (lf (vfn V)))
 obtain ⟨K2,hK2⟩:=fits_ex (li n (rg n (vfn V)))
 have HK1:=Lib.hid hK1;have HK2:=Lib.hid hK2;clear hg hd hK1 hK2;have HF:=Lib.hid hs
 have hm:n≤maxLen:=by unfold maxLen;omega
 have hn9:n≤1000:=by omega
 have HVn:Hid (V.length=n):=hE.1.symm.trans hn
 clear hs
 have H24:Hid (2≤n∧n≤4):=by show _∧_;have:=HG.out.1;rwa [HVn.out] at this
 have hb:Below w.heap.size w w:=Below.refl _ _
 have HN:=Lib.hid hn;clear hn
 go_enter Tryz.func4,Tryz.ntmps4
 go_upto_region 10 with (first
  | (go_at_call 17;(with_reducible refine (fair13_t hL HN.out hm HF.out).mono ?_);rintro e w_z ⟨rfl,hh⟩
     (try replace hL:=hL.below hh);replace hb:=bend hb hh;replace hE:=EachH.belowR hE hh)
  | (go_at_call 19;(with_reducible refine (rins13 hL hE HN.out hn9 (by decide) (by decide)).mono ?_);rintro e w_i ⟨v1,M1,rfl,l1,e1,hh⟩
     (try replace hL:=hL.below hh);replace hb:=bend hb hh;replace hE:=EachH.belowR hE hh
     obtain ⟨A_x,c_x,rfl,_,_⟩:=l1.form
     have hM1:M1.length=n:=e1.1.trans HVn.out
     rw [hM1] at l1 ⊢
     have LM1:=l1.sv)
  | (go_at_call 20;(with_reducible refine (hCut_ok hL hE HN.out (by decide) (by decide) HG.out).mono ?_);rintro e w_c ⟨AL,AR,LL,LR,rfl,sL,eL,nL,sR,eR,nR,hh⟩
     (try replace hL:=hL.below hh);(try replace l1:=l1.below hh);(try replace LM1:=LM1.below hh);replace hb:=bend hb hh;replace hE:=EachH.belowR hE hh;replace e1:=EachH.belowJ e1 hh)
  | (go_at_call 21;(with_reducible refine (hmany_n hd9.out).mono ?_);rintro e w_z ⟨rfl,hh⟩
     (try replace hL:=hL.below hh);(try replace l1:=l1.below hh);(try replace LM1:=LM1.below hh);(try replace sL:=sL.below hh);(try replace sR:=sR.below hh);replace hb:=bend hb hh;replace hE:=EachH.belowR hE hh;replace e1:=EachH.belowJ e1 hh;replace eL:=EachH.belowG eL hh;replace eR:=EachH.belowG eR hh)
  | (go_at_call 22;(with_reducible refine (rgood13_t LM1 e1 hM1 hn9 HG.out).mono ?_);rintro e w_z ⟨rfl,hh⟩
     (try replace hL:=hL.below hh);(try replace l1:=l1.below hh);(try replace LM1:=LM1.below hh);(try replace sL:=sL.below hh);(try replace sR:=sR.below hh);replace hb:=bend hb hh;replace hE:=EachH.belowR hE hh;replace e1:=EachH.belowJ e1 hh;replace eL:=EachH.belowG eL hh;replace eR:=EachH.belowG eR hh)
  | (go_at_call 23;(with_reducible refine (rcut14 LM1 (eli HVn.out e1) hM1 H24.out.1 H24.out.2 (by decide)).mono ?_);rintro e w_t ⟨tL,tR,TL,TR,rfl,lTL,lTR,eTL,eTR,hh⟩
     (try replace hL:=hL.below hh);(try replace l1:=l1.below hh);(try replace LM1:=LM1.below hh);(try replace sL:=sL.below hh);(try replace sR:=sR.below hh);replace hb:=bend hb hh;replace hE:=EachH.belowR hE hh;replace e1:=EachH.belowJ e1 hh;replace eL:=EachH.belowG eL hh;replace eR:=EachH.belowG eR hh
     obtain ⟨A_l,c_l,rfl,_,_⟩:=lTL.form
     obtain ⟨A_r,c_r,rfl,_,_⟩:=lTR.form
     have nTL:TL.length=n:=by rw [eTL.1,li_length]
     have nTR:TR.length=n:=by rw [eTR.1,li_length]
     rw [nTL] at lTL;rw [nTR] at lTR
     rw [nTL,nTR]
     have sTL:=lTL.sv;have sTR:=lTR.sv;clear lTL lTR))
 have hal:Below w_t.heap.size w_t (w_t.alloc (Obj.cells #[.slice A_l n c_l,.slice A_r n c_r] 68)):=(Below.refl _ _).alloc (Nat.le_refl _) _
 have XT:BT (w_t.alloc (Obj.cells #[.slice A_l n c_l,.slice A_r n c_r] 68)) w_t.heap.size (.slice A_l n c_l) (.slice A_r n c_r):=heap_alloc_new w_t _
 replace hL:=hL.below hal;replace l1:=l1.below hal;replace LM1:=LM1.below hal;replace sL:=sL.below hal;replace sR:=sR.below hal;replace sTL:=sTL.below hal;replace sTR:=sTR.below hal;replace hE:=EachH.belowR hE hal;replace e1:=EachH.belowJ e1 hal;replace eL:=EachH.belowG eL hal;replace eR:=EachH.belowG eR hal;replace eTL:=EachH.belowJ eTL hal;replace eTR:=EachH.belowJ eTR hal;replace hb:=bend hb hal;clear hal
 generalize (w_t.alloc (Obj.cells #[.slice A_l n c_l,.slice A_r n c_r] 68))=W1 at *
 obtain ⟨x0,x1⟩:=XT.all
 go_upto_region 12 with (first
  | (go_at_call 16;(with_reducible refine (routs13 sTL eTL nTL hn9 (by decide) K1 HK1.out).mono ?_);rintro e w_o ⟨v_o,M_o,rfl,l_o,e_o,hh⟩
     (try replace hL:=hL.below hh);(try replace l1:=l1.below hh);(try replace LM1:=LM1.below hh);(try replace sL:=sL.below hh);(try replace sR:=sR.below hh);(try replace sTL:=sTL.below hh);(try replace sTR:=sTR.below hh);(try replace XT:=XT.below hh);replace hb:=bend hb hh;replace hE:=EachH.belowR hE hh;replace e1:=EachH.belowJ e1 hh
     try replace eL:=EachH.belowG eL hh
     replace eR:=EachH.belowG eR hh
     try replace eTL:=EachH.belowJ eTL hh
     try replace eTR:=EachH.belowJ eTR hh
     obtain ⟨x0,x1⟩:=XT.all
     obtain ⟨A_o,c_o,rfl,_,_⟩:=l_o.form
     have s_o:=l_o.sv
     have n_o:M_o.length=n:=by rw [e_o.1,li_length]
     rw [n_o];clear l_o)
  | (go_at_call 15;(with_reducible refine (homs_same sL eL s_o e_o nL hn9 (by decide)).mono ?_);rintro e w_z ⟨rfl,hh⟩
     (try replace hL:=hL.below hh);(try replace l1:=l1.below hh);(try replace LM1:=LM1.below hh);(try replace sL:=sL.below hh);(try replace sR:=sR.below hh);(try replace sTL:=sTL.below hh);(try replace sTR:=sTR.below hh);(try replace XT:=XT.below hh);replace hb:=bend hb hh;replace hE:=EachH.belowR hE hh;replace e1:=EachH.belowJ e1 hh
     try replace eL:=EachH.belowG eL hh
     replace eR:=EachH.belowG eR hh
     try replace eTL:=EachH.belowJ eTL hh
     try replace eTR:=EachH.belowJ eTR hh
     obtain ⟨x0,x1⟩:=XT.all;clear s_o e_o n_o)
  | (go_at_call 16;(with_reducible refine (routs13 sTR eTR nTR hn9 (by decide) K2 HK2.out).mono ?_);rintro e w_q ⟨v_q,M_q,rfl,l_q,e_q,hh⟩
     (try replace hL:=hL.below hh);(try replace l1:=l1.below hh);(try replace LM1:=LM1.below hh);(try replace sL:=sL.below hh);(try replace sR:=sR.below hh);(try replace sTL:=sTL.below hh);(try replace sTR:=sTR.below hh);(try replace XT:=XT.below hh);replace hb:=bend hb hh;replace hE:=EachH.belowR hE hh;replace e1:=EachH.belowJ e1 hh
     try replace eL:=EachH.belowG eL hh
     replace eR:=EachH.belowG eR hh
     try replace eTL:=EachH.belowJ eTL hh
     try replace eTR:=EachH.belowJ eTR hh
     obtain ⟨x0,x1⟩:=XT.all
     obtain ⟨A_q,c_q,rfl,_,_⟩:=l_q.form
     have s_q:=l_q.sv
     have n_q:M_q.length=n:=by rw [e_q.1,li_length]
     rw [n_q];clear l_q)
  | (go_at_call 15;(with_reducible refine (homs_same sR eR s_q e_q nR hn9 (by decide)).mono ?_);rintro e w_z ⟨rfl,hh⟩
     (try replace hL:=hL.below hh);(try replace l1:=l1.below hh);(try replace LM1:=LM1.below hh);(try replace sL:=sL.below hh);(try replace sR:=sR.below hh);(try replace sTL:=sTL.below hh);(try replace sTR:=sTR.below hh);(try replace XT:=XT.below hh);replace hb:=bend hb hh;replace hE:=EachH.belowR hE hh;replace e1:=EachH.belowJ e1 hh
     try replace eL:=EachH.belowG eL hh
     replace eR:=EachH.belowG eR hh
     try replace eTL:=EachH.belowJ eTL hh
     try replace eTR:=EachH.belowJ eTR hh
     obtain ⟨x0,x1⟩:=XT.all;clear s_q e_q n_q))
 clear x0 x1 XT sTL sTR eTL eTR sL eL nL sR eR nR
 go_wp2_with (first
  | (go_at_call 18;(with_reducible refine (wakes14_any _).mono ?_);rintro e w_z ⟨rfl,hh⟩
     replace hb:=bend hb hh))
 (try rw [Exit.noGoto_ret])
 go_ret;exact ⟨rfl,hb⟩
theorem hcts_pl {A:Option Addr} {n c:Nat} {dd:Int} {L:List HV} {V:List AH} (hL:SV w A (hvs L)) (hn:L.length=n) (hE:EachH HR w L V 4) (hs:(∀ p ∈ L,p.small 4)∧n≤6) (hg:GoodH V) (hd:10 < dd) :
 Calls Tryz.prog 4 #[.slice A n c,.int .i64 dd] w fun e w'=>e=.returned (.bool true)∧Below w.heap.size w w':=by
 have HG:=Lib.hid hg;have hd9:=Lib.hid hd
 have hs1:¬ dd < 0:=by omega
 have hs3:(3:Int) < dd:=by omega
 have hs4:¬ dd≤10:=by omega
 have hs5:(10:Int) < dd:=hd
 obtain ⟨K1,hK1⟩:=fits_ex (li n (lf (vfn V)))
 obtain ⟨K2,hK2⟩:=fits_ex (li n (rg n (vfn V)))
 have HK1:=Lib.hid hK1;have HK2:=Lib.hid hK2;clear hg hd hK1 hK2;have HF:=Lib.hid hs
 have hm:n≤maxLen:=by unfold maxLen;omega
 have hn9:n≤1000:=by omega
 have HVn:Hid (V.length=n):=hE.1.symm.trans hn
 clear hs
 have H24:Hid (2≤n∧n≤4):=by show _∧_;have:=HG.out.1;rwa [HVn.out] at this
 have hb:Below w.heap.size w w:=Below.refl _ _
 have HN:=Lib.hid hn;clear hn
 go_enter Tryz.func4,Tryz.ntmps4
 go_upto_region 10 with (first
  | (go_at_call 17;(with_reducible refine (fair13_t hL HN.out hm HF.out).mono ?_);rintro e w_z ⟨rfl,hh⟩
     (try replace hL:=hL.below hh);replace hb:=bend hb hh;replace hE:=EachH.belowR hE hh)
  | (go_at_call 19;(with_reducible refine (rins13 hL hE HN.out hn9 (by decide) (by decide)).mono ?_);rintro e w_i ⟨v1,M1,rfl,l1,e1,hh⟩
     (try replace hL:=hL.below hh);replace hb:=bend hb hh;replace hE:=EachH.belowR hE hh
     obtain ⟨A_x,c_x,rfl,_,_⟩:=l1.form
     have hM1:M1.length=n:=e1.1.trans HVn.out
     rw [hM1] at l1 ⊢
     have LM1:=l1.sv)
  | (go_at_call 20;(with_reducible refine (hCut_ok hL hE HN.out (by decide) (by decide) HG.out).mono ?_);rintro e w_c ⟨AL,AR,LL,LR,rfl,sL,eL,nL,sR,eR,nR,hh⟩
     (try replace hL:=hL.below hh);(try replace l1:=l1.below hh);(try replace LM1:=LM1.below hh);replace hb:=bend hb hh;replace hE:=EachH.belowR hE hh;replace e1:=EachH.belowJ e1 hh)
  | (go_at_call 21;(with_reducible refine (hmany_l hd9.out).mono ?_);rintro e w_z ⟨rfl,hh⟩
     (try replace hL:=hL.below hh);(try replace l1:=l1.below hh);(try replace LM1:=LM1.below hh);(try replace sL:=sL.below hh);(try replace sR:=sR.below hh);replace hb:=bend hb hh;replace hE:=EachH.belowR hE hh;replace e1:=EachH.belowJ e1 hh;replace eL:=EachH.belowG eL hh;replace eR:=EachH.belowG eR hh)
  | (go_at_call 22;(with_reducible refine (rgood13_t LM1 e1 hM1 hn9 HG.out).mono ?_);rintro e w_z ⟨rfl,hh⟩
     (try replace hL:=hL.below hh);(try replace l1:=l1.below hh);(try replace LM1:=LM1.below hh);(try replace sL:=sL.below hh);(try replace sR:=sR.below hh);replace hb:=bend hb hh;replace hE:=EachH.belowR hE hh;replace e1:=EachH.belowJ e1 hh;replace eL:=EachH.belowG eL hh;replace eR:=EachH.belowG eR hh)
  | (go_at_call 23;(with_reducible refine (rcut14 LM1 (eli HVn.out e1) hM1 H24.out.1 H24.out.2 (by decide)).mono ?_);rintro e w_t ⟨tL,tR,TL,TR,rfl,lTL,lTR,eTL,eTR,hh⟩
     (try replace hL:=hL.below hh);(try replace l1:=l1.below hh);(try replace LM1:=LM1.below hh);(try replace sL:=sL.below hh);(try replace sR:=sR.below hh);replace hb:=bend hb hh;replace hE:=EachH.belowR hE hh;replace e1:=EachH.belowJ e1 hh;replace eL:=EachH.belowG eL hh;replace eR:=EachH.belowG eR hh
     obtain ⟨A_l,c_l,rfl,_,_⟩:=lTL.form
     obtain ⟨A_r,c_r,rfl,_,_⟩:=lTR.form
     have nTL:TL.length=n:=by rw [eTL.1,li_length]
     have nTR:TR.length=n:=by rw [eTR.1,li_length]
     rw [nTL] at lTL;rw [nTR] at lTR
     rw [nTL,nTR]
     have sTL:=lTL.sv;have sTR:=lTR.sv;clear lTL lTR))
 have hal:Below w_t.heap.size w_t (w_t.alloc (Obj.cells #[.slice A_l n c_l,.slice A_r n c_r] 68)):=(Below.refl _ _).alloc (Nat.le_refl _) _
 have XT:BT (w_t.alloc (Obj.cells #[.slice A_l n c_l,.slice A_r n c_r] 68)) w_t.heap.size (.slice A_l n c_l) (.slice A_r n c_r):=heap_alloc_new w_t _
 replace hL:=hL.below hal;replace l1:=l1.below hal;replace LM1:=LM1.below hal;replace sL:=sL.below hal;replace sR:=sR.below hal;replace sTL:=sTL.below hal;replace sTR:=sTR.below hal;replace hE:=EachH.belowR hE hal;replace e1:=EachH.belowJ e1 hal;replace eL:=EachH.belowG eL hal;replace eR:=EachH.belowG eR hal;replace eTL:=EachH.belowJ eTL hal;replace eTR:=EachH.belowJ eTR hal;replace hb:=bend hb hal;clear hal
 generalize (w_t.alloc (Obj.cells #[.slice A_l n c_l,.slice A_r n c_r] 68))=W1 at *
 obtain ⟨x0,x1⟩:=XT.all
 go_upto_region 12 with (first
  | (go_at_call 16;(with_reducible refine (routs13 sTL eTL nTL hn9 (by decide) K1 HK1.out).mono ?_);rintro e w_o ⟨v_o,M_o,rfl,l_o,e_o,hh⟩
     (try replace hL:=hL.below hh);(try replace l1:=l1.below hh);(try replace LM1:=LM1.below hh);(try replace sL:=sL.below hh);(try replace sR:=sR.below hh);(try replace sTL:=sTL.below hh);(try replace sTR:=sTR.below hh);(try replace XT:=XT.below hh);replace hb:=bend hb hh;replace hE:=EachH.belowR hE hh;replace e1:=EachH.belowJ e1 hh
     try replace eL:=EachH.belowG eL hh
     replace eR:=EachH.belowG eR hh
     try replace eTL:=EachH.belowJ eTL hh
     try replace eTR:=EachH.belowJ eTR hh
     obtain ⟨x0,x1⟩:=XT.all
     obtain ⟨A_o,c_o,rfl,_,_⟩:=l_o.form
     have s_o:=l_o.sv
     have n_o:M_o.length=n:=by rw [e_o.1,li_length]
     rw [n_o];clear l_o)
  | (go_at_call 15;(with_reducible refine (homs_same sL eL s_o e_o nL hn9 (by decide)).mono ?_);rintro e w_z ⟨rfl,hh⟩
     (try replace hL:=hL.below hh);(try replace l1:=l1.below hh);(try replace LM1:=LM1.below hh);(try replace sL:=sL.below hh);(try replace sR:=sR.below hh);(try replace sTL:=sTL.below hh);(try replace sTR:=sTR.below hh);(try replace XT:=XT.below hh);replace hb:=bend hb hh;replace hE:=EachH.belowR hE hh;replace e1:=EachH.belowJ e1 hh
     try replace eL:=EachH.belowG eL hh
     replace eR:=EachH.belowG eR hh
     try replace eTL:=EachH.belowJ eTL hh
     try replace eTR:=EachH.belowJ eTR hh
     obtain ⟨x0,x1⟩:=XT.all;clear s_o e_o n_o)
  | (go_at_call 16;(with_reducible refine (routs13 sTR eTR nTR hn9 (by decide) K2 HK2.out).mono ?_);rintro e w_q ⟨v_q,M_q,rfl,l_q,e_q,hh⟩
     (try replace hL:=hL.below hh);(try replace l1:=l1.below hh);(try replace LM1:=LM1.below hh);(try replace sL:=sL.below hh);(try replace sR:=sR.below hh);(try replace sTL:=sTL.below hh);(try replace sTR:=sTR.below hh);(try replace XT:=XT.below hh);replace hb:=bend hb hh;replace hE:=EachH.belowR hE hh;replace e1:=EachH.belowJ e1 hh
     try replace eL:=EachH.belowG eL hh
     replace eR:=EachH.belowG eR hh
     try replace eTL:=EachH.belowJ eTL hh
     try replace eTR:=EachH.belowJ eTR hh
     obtain ⟨x0,x1⟩:=XT.all
     obtain ⟨A_q,c_q,rfl,_,_⟩:=l_q.form
     have s_q:=l_q.sv
     have n_q:M_q.length=n:=by rw [e_q.1,li_length]
     rw [n_q];clear l_q)
  | (go_at_call 15;(with_reducible refine (homs_same sR eR s_q e_q nR hn9 (by decide)).mono ?_);rintro e w_z ⟨rfl,hh⟩
     (try replace hL:=hL.below hh);(try replace l1:=l1.below hh);(try replace LM1:=LM1.below hh);(try replace sL:=sL.below hh);(try replace sR:=sR.below hh);(try replace sTL:=sTL.below hh);(try replace sTR:=sTR.below hh);(try replace XT:=XT.below hh);replace hb:=bend hb hh;replace hE:=EachH.belowR hE hh;replace e1:=EachH.belowJ e1 hh
     try replace eL:=EachH.belowG eL hh
     replace eR:=EachH.belowG eR hh
     try replace eTL:=EachH.belowJ eTL hh
     try replace eTR:=EachH.belowJ eTR hh
     obtain ⟨x0,x1⟩:=XT.all;clear s_q e_q n_q))
 clear x0 x1 XT sTL sTR eTL eTR sL eL nL sR eR nR
 go_wp2_with (first
  | (go_at_call 18;(with_reducible refine (wakes14_any _).mono ?_);rintro e w_z ⟨rfl,hh⟩
     replace hb:=bend hb hh))
 (try rw [Exit.noGoto_ret])
 go_ret;exact ⟨rfl,hb⟩
theorem hcts_ps {A:Option Addr} {n c:Nat} {d:Nat} {L:List HV} {V:List AH} (hL:SV w A (hvs L)) (hn:L.length=n) (hE:EachH HR w L V 4) (hs:(∀ p ∈ L,p.small 4)∧n≤6) (hg:GoodH V) (hd:d≤3) :
 Calls Tryz.prog 4 #[.slice A n c,.int .i64 (d:Int)] w fun e w'=>e=.returned (.bool true)∧Below w.heap.size w w':=by
 have HG:=Lib.hid hg;have hd9:=Lib.hid hd
 have hs1:¬ (d:Int) < 0:=by omega
 have hs3:¬ (3:Int) < (d:Int):=by omega
 have hs5:¬ (10:Int) < (d:Int):=by omega
 obtain ⟨N,hN⟩:∃ N,N=2 ^ d:=⟨_,rfl⟩
 have HNd:=Lib.hid hN
 have HN8:Hid (0 < N∧N≤8):=by
  rw [hN]
  rcases (show d=0 ∨ d=1 ∨ d=2 ∨ d=3 by omega) with h | h | h | h <;> rw [h] <;> exact ⟨by decide,by decide⟩
 have HCB:Hid (cb (4+2) d≤8000):=by
  show _≤_
  rcases (show d=0 ∨ d=1 ∨ d=2 ∨ d=3 by omega) with h | h | h | h <;> rw [h] <;> decide
 have HCR:Hid (crb (2*4) d≤100000):=by
  show _≤_
  rcases (show d=0 ∨ d=1 ∨ d=2 ∨ d=3 by omega) with h | h | h | h <;> rw [h] <;> decide
 have HD10:Hid (d≤10):=Nat.le_trans hd (by decide)
 clear hN
 obtain ⟨K1,hK1⟩:=fits_ex (li n (lf (vfn V)))
 obtain ⟨K2,hK2⟩:=fits_ex (li n (rg n (vfn V)))
 have HK1:=Lib.hid hK1;have HK2:=Lib.hid hK2;clear hg hd hK1 hK2;have HF:=Lib.hid hs
 have hm:n≤maxLen:=by unfold maxLen;omega
 have hn9:n≤1000:=by omega
 have HVn:Hid (V.length=n):=hE.1.symm.trans hn
 clear hs
 have H24:Hid (2≤n∧n≤4):=by show _∧_;have:=HG.out.1;rwa [HVn.out] at this
 have hb:Below w.heap.size w w:=Below.refl _ _
 have HN:=Lib.hid hn;clear hn
 go_enter Tryz.func4,Tryz.ntmps4
 go_upto_region 10 with (first
  | (go_at_call 17;(with_reducible refine (fair13_t hL HN.out hm HF.out).mono ?_);rintro e w_z ⟨rfl,hh⟩
     (try replace hL:=hL.below hh);replace hb:=bend hb hh;replace hE:=EachH.belowR hE hh)
  | (go_at_call 19;(with_reducible refine (rins13 hL hE HN.out hn9 (by decide) (by decide)).mono ?_);rintro e w_i ⟨v1,M1,rfl,l1,e1,hh⟩
     (try replace hL:=hL.below hh);replace hb:=bend hb hh;replace hE:=EachH.belowR hE hh
     obtain ⟨A_x,c_x,rfl,_,_⟩:=l1.form
     have hM1:M1.length=n:=e1.1.trans HVn.out
     rw [hM1] at l1 ⊢
     have LM1:=l1.sv)
  | (go_at_call 20;(with_reducible refine (hCut_ok hL hE HN.out (by decide) (by decide) HG.out).mono ?_);rintro e w_c ⟨AL,AR,LL,LR,rfl,sL,eL,nL,sR,eR,nR,hh⟩
     (try replace hL:=hL.below hh);(try replace l1:=l1.below hh);(try replace LM1:=LM1.below hh);replace hb:=bend hb hh;replace hE:=EachH.belowR hE hh;replace e1:=EachH.belowJ e1 hh)
  | (go_at_call 21;(with_reducible refine (hmany_ok (d:=d) hL hE HN.out (by decide) (by decide) HD10.out HG.out HCB.out).mono ?_);rintro e w_m ⟨v_m,b,R,rfl,hb0,lS,hR,hP,hh⟩
     (try replace hL:=hL.below hh);(try replace l1:=l1.below hh);(try replace LM1:=LM1.below hh);(try replace sL:=sL.below hh);(try replace sR:=sR.below hh);replace hb:=bend hb hh;replace hE:=EachH.belowR hE hh;replace e1:=EachH.belowJ e1 hh;replace eL:=EachH.belowG eL hh;replace eR:=EachH.belowG eR hh
     obtain ⟨A_m,c_m,rfl⟩:∃ A c,v_m=.slice A N c:=by
      obtain ⟨A,c,e,_⟩:=lS.form
      exact ⟨A,c,by rw [e,pl_length,← HNd.out]⟩
     have HSm:=Lib.hid lS.sv;have HRm:=Lib.hid hR;have HPm:=Lib.hid hP
     have HWm:Hid (Below w_m.heap.size w_m w_m):=Below.refl _ _
     clear lS hR hP hb0)
  | (go_at_call 22;(with_reducible refine (rgood13_t LM1 e1 hM1 hn9 HG.out).mono ?_);rintro e w_z ⟨rfl,hh⟩
     (try replace hL:=hL.below hh);(try replace l1:=l1.below hh);(try replace LM1:=LM1.below hh);(try replace sL:=sL.below hh);(try replace sR:=sR.below hh);replace hb:=bend hb hh;replace hE:=EachH.belowR hE hh;replace e1:=EachH.belowJ e1 hh;replace eL:=EachH.belowG eL hh;replace eR:=EachH.belowG eR hh
     replace HWm:=Lib.hid (bend HWm.out hh))
  | (go_at_call 23;(with_reducible refine (rcut14 LM1 (eli HVn.out e1) hM1 H24.out.1 H24.out.2 (by decide)).mono ?_);rintro e w_t ⟨tL,tR,TL,TR,rfl,lTL,lTR,eTL,eTR,hh⟩
     (try replace hL:=hL.below hh);(try replace l1:=l1.below hh);(try replace LM1:=LM1.below hh);(try replace sL:=sL.below hh);(try replace sR:=sR.below hh);replace hb:=bend hb hh;replace hE:=EachH.belowR hE hh;replace e1:=EachH.belowJ e1 hh;replace eL:=EachH.belowG eL hh;replace eR:=EachH.belowG eR hh
     replace HWm:=Lib.hid (bend HWm.out hh)
     obtain ⟨A_l,c_l,rfl,_,_⟩:=lTL.form
     obtain ⟨A_r,c_r,rfl,_,_⟩:=lTR.form
     have nTL:TL.length=n:=by rw [eTL.1,li_length]
     have nTR:TR.length=n:=by rw [eTR.1,li_length]
     rw [nTL] at lTL;rw [nTR] at lTR
     rw [nTL,nTR]
     have sTL:=lTL.sv;have sTR:=lTR.sv;clear lTL lTR))
 have hal:Below w_t.heap.size w_t (w_t.alloc (Obj.cells #[.slice A_l n c_l,.slice A_r n c_r] 68)):=(Below.refl _ _).alloc (Nat.le_refl _) _
 have XT:BT (w_t.alloc (Obj.cells #[.slice A_l n c_l,.slice A_r n c_r] 68)) w_t.heap.size (.slice A_l n c_l) (.slice A_r n c_r):=heap_alloc_new w_t _
 replace hL:=hL.below hal;replace l1:=l1.below hal;replace LM1:=LM1.below hal;replace sL:=sL.below hal;replace sR:=sR.below hal;replace sTL:=sTL.below hal;replace sTR:=sTR.below hal;replace hE:=EachH.belowR hE hal;replace e1:=EachH.belowJ e1 hal;replace eL:=EachH.belowG eL hal;replace eR:=EachH.belowG eR hal;replace eTL:=EachH.belowJ eTL hal;replace eTR:=EachH.belowJ eTR hal;replace hb:=bend hb hal
 replace HWm:=Lib.hid (bend HWm.out hal)
 clear hal
 generalize (w_t.alloc (Obj.cells #[.slice A_l n c_l,.slice A_r n c_r] 68))=W1 at *
 obtain ⟨x0,x1⟩:=XT.all
 go_upto_region 12 with (first
  | (go_at_call 16;(with_reducible refine (routs13 sTL eTL nTL hn9 (by decide) K1 HK1.out).mono ?_);rintro e w_o ⟨v_o,M_o,rfl,l_o,e_o,hh⟩
     (try replace hL:=hL.below hh);(try replace l1:=l1.below hh);(try replace LM1:=LM1.below hh);(try replace sL:=sL.below hh);(try replace sR:=sR.below hh);(try replace sTL:=sTL.below hh);(try replace sTR:=sTR.below hh);(try replace XT:=XT.below hh);replace hb:=bend hb hh;replace hE:=EachH.belowR hE hh;replace e1:=EachH.belowJ e1 hh
     try replace eL:=EachH.belowG eL hh
     replace eR:=EachH.belowG eR hh
     try replace eTL:=EachH.belowJ eTL hh
     try replace eTR:=EachH.belowJ eTR hh
     replace HWm:=Lib.hid (bend HWm.out hh)
     obtain ⟨x0,x1⟩:=XT.all
     obtain ⟨A_o,c_o,rfl,_,_⟩:=l_o.form
     have s_o:=l_o.sv
     have n_o:M_o.length=n:=by rw [e_o.1,li_length]
     rw [n_o];clear l_o)
  | (go_at_call 15;(with_reducible refine (homs_same sL eL s_o e_o nL hn9 (by decide)).mono ?_);rintro e w_z ⟨rfl,hh⟩
     (try replace hL:=hL.below hh);(try replace l1:=l1.below hh);(try replace LM1:=LM1.below hh);(try replace sL:=sL.below hh);(try replace sR:=sR.below hh);(try replace sTL:=sTL.below hh);(try replace sTR:=sTR.below hh);(try replace XT:=XT.below hh);replace hb:=bend hb hh;replace hE:=EachH.belowR hE hh;replace e1:=EachH.belowJ e1 hh
     try replace eL:=EachH.belowG eL hh
     replace eR:=EachH.belowG eR hh
     try replace eTL:=EachH.belowJ eTL hh
     try replace eTR:=EachH.belowJ eTR hh
     replace HWm:=Lib.hid (bend HWm.out hh)
     obtain ⟨x0,x1⟩:=XT.all;clear s_o e_o n_o)
  | (go_at_call 16;(with_reducible refine (routs13 sTR eTR nTR hn9 (by decide) K2 HK2.out).mono ?_);rintro e w_q ⟨v_q,M_q,rfl,l_q,e_q,hh⟩
     (try replace hL:=hL.below hh);(try replace l1:=l1.below hh);(try replace LM1:=LM1.below hh);(try replace sL:=sL.below hh);(try replace sR:=sR.below hh);(try replace sTL:=sTL.below hh);(try replace sTR:=sTR.below hh);(try replace XT:=XT.below hh);replace hb:=bend hb hh;replace hE:=EachH.belowR hE hh;replace e1:=EachH.belowJ e1 hh
     try replace eL:=EachH.belowG eL hh
     replace eR:=EachH.belowG eR hh
     try replace eTL:=EachH.belowJ eTL hh
     try replace eTR:=EachH.belowJ eTR hh
     replace HWm:=Lib.hid (bend HWm.out hh)
     obtain ⟨x0,x1⟩:=XT.all
     obtain ⟨A_q,c_q,rfl,_,_⟩:=l_q.form
     have s_q:=l_q.sv
     have n_q:M_q.length=n:=by rw [e_q.1,li_length]
     rw [n_q];clear l_q)
  | (go_at_call 15;(with_reducible refine (homs_same sR eR s_q e_q nR hn9 (by decide)).mono ?_);rintro e w_z ⟨rfl,hh⟩
     (try replace hL:=hL.below hh);(try replace l1:=l1.below hh);(try replace LM1:=LM1.below hh);(try replace sL:=sL.below hh);(try replace sR:=sR.below hh);(try replace sTL:=sTL.below hh);(try replace sTR:=sTR.below hh);(try replace XT:=XT.below hh);replace hb:=bend hb hh;replace hE:=EachH.belowR hE hh;replace e1:=EachH.belowJ e1 hh
     try replace eL:=EachH.belowG eL hh
     replace eR:=EachH.belowG eR hh
     try replace eTL:=EachH.belowJ eTL hh
     try replace eTR:=EachH.belowJ eTR hh
     replace HWm:=Lib.hid (bend HWm.out hh)
     obtain ⟨x0,x1⟩:=XT.all;clear s_q e_q n_q))
 clear x0 x1 XT sTL sTR eTL eTR sL eL nL sR eR nR;clear hL hE
 go_wp2_with (first
  | (go_at_call 22;(with_reducible refine (rgood13_t LM1 e1 hM1 hn9 HG.out).mono ?_);rintro e w_z ⟨rfl,hh⟩
     (try replace l1:=l1.below hh);(try replace LM1:=LM1.below hh);replace hb:=bend hb hh;replace e1:=EachH.belowJ e1 hh
     replace HWm:=Lib.hid (bend HWm.out hh))
  | (go_at_call 24;(with_reducible refine (rmany14 (d:=d) (l1.base_le (Nat.zero_le _)) (eli HVn.out e1) hM1 H24.out.1 H24.out.2 hd9.out (by decide)).mono ?_);rintro e w_r ⟨A_r,c_r,S,rfl,lR,pR,hh⟩
     replace hb:=bend hb hh;rw [← HNd.out] at lR;rw [← HNd.out]
     replace HWm:=Lib.hid (bend HWm.out hh)
     have HSr:=Lib.hid lR.sv;have HPr:=Lib.hid pR;clear lR pR))
 clear l1 LM1 e1
 go_loopg [13] N (fun gk ix wr=>∃ (i:Nat),Hid (gk+i=N)∧ix=.int .i64 (i:Int)∧Below w_r.heap.size w_r wr)
 case atStart=>exact ⟨0,Nat.add_zero _,rfl,Below.refl _ _⟩
 case round =>
  have HB0:=Lib.hid hb;clear hb
  obtain ⟨i,HGK,rfl,hB⟩:=hrel
  by_cases hin:i < N
  · have HIN:=Lib.hid hin
    have hlt:(i:Int) < (N:Int):=by omega
    have hwr:IntKind.i64.wrap ((i:Int)+1)=(i:Int)+1:=IntWalk.i64_in _ (by have:=HN8.out;omega)
    obtain ⟨u,hu⟩:∃ u,(prt n d (vfn V))[i]?=some u:=⟨_,List.getElem?_eq_getElem (by rw [prt_length,← HNd.out];exact hin)⟩
    obtain ⟨s,hs⟩:∃ s,S[i]?=some s:=⟨_,List.getElem?_eq_getElem (by rw [HPr.out.1,prt_length,← HNd.out];exact hin)⟩
    obtain ⟨hsn,MM,a0,e0,l0⟩:=HPr.out.2 i s u hs hu
    obtain ⟨g0,o0,i0,q0,c0⟩:=(HSr.out.below hB).slj hs
    have hbm:=bend HWm.out hB
    obtain ⟨g1,o1,i1,q1,c1⟩:=(HSm.out.below hbm).sl (pl_get b n d 0 i (by rw [← HNd.out];exact hin))
    obtain ⟨Lx,svx,eax,lnx⟩:=((HPm.out i u hu).below hbm).view (HRm.out.below hbm)
    rw [show (0+n*i)*9=n*i*9 by omega] at c1
    generalize (some ⟨b,n*i*9,none⟩:Option Addr)=AE at c1 svx
    have hixa:∀ w',(Instr.indexAt 63 (.slice A_m N c_m) (.int .i64 (i:Int))).run Tryz.prog w'=.ok (.pointer (some ⟨g1,o1,none⟩)) w':=fun w'=>i1 N c_m w' hin
    have hixb:∀ w',(Instr.indexAt 70 (.slice A_r N c_r) (.int .i64 (i:Int))).run Tryz.prog w'=.ok (.pointer (some ⟨g0,o0,none⟩)) w':=fun w'=>i0 N c_r w' hin
    obtain ⟨sA,sn,sc⟩:=s
    have HSN:Hid (sn=n):=hsn
    have CA:CE wr g1 o1 (.slice AE n n):=⟨q1,c1⟩
    have CB:CE wr g0 o0 (.slice sA n sc):=⟨q0,by rw [← HSN.out];exact c0⟩
    have sv2:SV wr sA (hvs MM):=(LnH.sv (n:=sn) (c:=sc) a0).below hB
    have ea2:EachH RH wr MM (li n u) (crb (2*4) d):=e0.belowJ hB
    obtain ⟨K3,hK3⟩:=fits_ex (li n u)
    have HK3:=Lib.hid hK3;clear hu hs hsn a0 e0 i0 q0 c0 i1 q1 c1 hbm hin hK3
    go_upto_region 22 with (fail)
    replace CA:=CA.below (Below.refl _ _).drew
    replace CB:=CB.below (Below.refl _ _).drew
    replace svx:=svx.below (Below.refl _ _).drew
    replace sv2:=sv2.below (Below.refl _ _).drew
    replace eax:=EachH.belowG eax (Below.refl _ _).drew
    replace ea2:=EachH.belowJ ea2 (Below.refl _ _).drew
    replace hB:=hB.drew
    refine wp_region_held_drew (S:=(fun w'=>w'.cell? ⟨g1,o1,none⟩=some (.slice AE n n)∧w'.cell? ⟨g0,o0,none⟩=some (.slice sA n sc))) (by kernel_rfl) (by with_reducible exact ⟨CA.c,CB.c⟩) (fun hHeld=>?_)
    refine wpAnyH_take (i:=0) (oi:=⟨some 124,.move (.tmp 9),63, "law.go:58",#[],none⟩) (v:=?_) rfl (by kernel_rfl) (by kernel_rfl) (by kernel_rfl) (fun _ _ _ h=>h) (Or.inl ⟨by rfl,?_⟩) hHeld ?_
    rotate_left
    · (intro w hSw;(try dsimp only at hSw);go_simp;try with_reducible rfl)
    simp only [Act.put,List.setIfInBounds_toArray,List.set_cons_zero,List.set_cons_succ]
    refine wpAnyH_take (i:=1) (oi:=⟨some 125,.move (.tmp 13),3, "law.go:58",#[],none⟩) (v:=?_) rfl (by kernel_rfl) (by kernel_rfl) (by kernel_rfl) (fun _ _ _ h=>h) (Or.inl ⟨by rfl,?_⟩) hHeld ?_
    rotate_left
    · (intro w hSw;(try dsimp only at hSw);go_simp;try with_reducible rfl)
    simp only [Act.put,List.setIfInBounds_toArray,List.set_cons_zero,List.set_cons_succ]
    refine wpAnyH_take (i:=2) (oi:=⟨some 126,.indexAddr 63 (.tmp 124) (.tmp 125),0, "law.go:58",#[⟨0,.data⟩,⟨1,.data⟩],none⟩) (v:=?_) rfl (by kernel_rfl) (by kernel_rfl) (by kernel_rfl) (fun _ _ _ h=>h) (Or.inl ⟨by rfl,?_⟩) hHeld ?_
    rotate_left
    · (intro w hSw;(try dsimp only at hSw);go_simp;try with_reducible rfl)
    simp only [Act.put,List.setIfInBounds_toArray,List.set_cons_zero,List.set_cons_succ]
    refine wpAnyH_take (i:=3) (oi:=⟨some 127,.load 37 (.tmp 126),37, "law.go:58",#[⟨2,.data⟩],none⟩) (v:=?_) rfl (by kernel_rfl) (by kernel_rfl) (by kernel_rfl) (fun _ _ _ h=>h) (Or.inl ⟨by rfl,?_⟩) hHeld ?_
    rotate_left
    · (intro w hSw;(try dsimp only at hSw);go_simp;try with_reducible rfl)
    simp only [Act.put,List.setIfInBounds_toArray,List.set_cons_zero,List.set_cons_succ]
    refine wpAnyH_take (i:=4) (oi:=⟨some 128,.move (.tmp 12),70, "law.go:58",#[],none⟩) (v:=?_) rfl (by kernel_rfl) (by kernel_rfl) (by kernel_rfl) (fun _ _ _ h=>h) (Or.inl ⟨by rfl,?_⟩) hHeld ?_
    rotate_left
    · (intro w hSw;(try dsimp only at hSw);go_simp;try with_reducible rfl)
    simp only [Act.put,List.setIfInBounds_toArray,List.set_cons_zero,List.set_cons_succ]
    refine wpAnyH_take (i:=5) (oi:=⟨some 129,.move (.tmp 13),3, "law.go:58",#[],none⟩) (v:=?_) rfl (by kernel_rfl) (by kernel_rfl) (by kernel_rfl) (fun _ _ _ h=>h) (Or.inl ⟨by rfl,?_⟩) hHeld ?_
    rotate_left
    · (intro w hSw;(try dsimp only at hSw);go_simp;try with_reducible rfl)
    simp only [Act.put,List.setIfInBounds_toArray,List.set_cons_zero,List.set_cons_succ]
    refine wpAnyH_take (i:=6) (oi:=⟨some 130,.indexAddr 70 (.tmp 128) (.tmp 129),0, "law.go:58",#[⟨4,.data⟩,⟨5,.data⟩],none⟩) (v:=?_) rfl (by kernel_rfl) (by kernel_rfl) (by kernel_rfl) (fun _ _ _ h=>h) (Or.inl ⟨by rfl,?_⟩) hHeld ?_
    rotate_left
    · (intro w hSw;(try dsimp only at hSw);go_simp;try with_reducible rfl)
    simp only [Act.put,List.setIfInBounds_toArray,List.set_cons_zero,List.set_cons_succ]
    refine wpAnyH_take (i:=7) (oi:=⟨some 131,.load 41 (.tmp 130),41, "law.go:58",#[⟨6,.data⟩],none⟩) (v:=?_) rfl (by kernel_rfl) (by kernel_rfl) (by kernel_rfl) (fun _ _ _ h=>h) (Or.inl ⟨by rfl,?_⟩) hHeld ?_
    rotate_left
    · (intro w hSw;(try dsimp only at hSw);go_simp;try with_reducible rfl)
    simp only [Act.put,List.setIfInBounds_toArray,List.set_cons_zero,List.set_cons_succ]
    refine wpAnyH_ready (rs:=[8]) (by kernel_rfl) (by simp) ?_
    refine AllReadyH.cons (o:=⟨some 132,.call ⟨.value (.func 16),#[.tmp 131],#[41]⟩,37, "law.go:58",#[⟨7,.data⟩],none⟩) rfl (fun K1 hK1=>?_) AllReadyH.nil
    go_simp
    first
    | (go_at_call 16;(with_reducible refine (routs13 sv2 ea2 l0 hn9 HCR.out K3 HK3.out).mono ?_);rintro e w_o ⟨v_o,M_o,rfl,l_o,e_o,hh⟩
       replace CA:=CA.below hh;replace CB:=CB.below hh;replace svx:=svx.below hh;replace sv2:=sv2.below hh;replace eax:=EachH.belowG eax hh;replace ea2:=EachH.belowJ ea2 hh;replace hB:=bend hB hh
       obtain ⟨A_o,c_o,rfl,_,_⟩:=l_o.form
       have s_o:=l_o.sv
       have n_o:M_o.length=n:=by rw [e_o.1,li_length]
       rw [n_o];clear l_o)
    refine hK1.out _ _ (by with_reducible exact ⟨CA.c,CB.c⟩) (fun hHeld=>?_)
    clear hK1 K1
    refine wpAnyH_ready (rs:=[9]) (by kernel_rfl) (by simp) ?_
    refine AllReadyH.cons (o:=⟨some 133,.call ⟨.value (.func 15),#[.tmp 127,.tmp 132],#[37,37]⟩,4, "law.go:58",#[⟨3,.data⟩,⟨8,.data⟩,⟨8,.chain⟩],none⟩) rfl (fun K1 hK1=>?_) AllReadyH.nil
    go_simp
    first
    | (go_at_call 15;(with_reducible refine (homs_same svx eax s_o e_o lnx hn9 (by have:=HCB.out;omega)).mono ?_);rintro e w_z ⟨rfl,hh⟩
       replace CA:=CA.below hh;replace CB:=CB.below hh;replace svx:=svx.below hh;replace sv2:=sv2.below hh;replace eax:=EachH.belowG eax hh;replace ea2:=EachH.belowJ ea2 hh;replace hB:=bend hB hh;clear s_o e_o n_o)
    refine hK1.out _ _ (by with_reducible exact ⟨CA.c,CB.c⟩) (fun hHeld=>?_)
    clear hK1 K1
    refine wpAnyH_take (i:=10) (oi:=⟨some 134,.unOp UnOp.not 4 (.tmp 133),4, "law.go:58",#[⟨9,.data⟩],none⟩) (v:=?_) rfl (by kernel_rfl) (by kernel_rfl) (by kernel_rfl) (fun _ _ _ h=>h) (Or.inl ⟨by rfl,?_⟩) hHeld ?_
    rotate_left
    · (intro w hSw;(try dsimp only at hSw);go_simp;try with_reducible rfl)
    simp only [Act.put,List.setIfInBounds_toArray,List.set_cons_zero,List.set_cons_succ]
    refine wpAnyH_done (by kernel_rfl) ?_ _
    clear hHeld CA CB svx sv2 eax ea2 hixa hixb
    go_wp2_with fail
    go_roundg (gk - 1)
    case measure=>have:=HGK.out;have:=HIN.out;omega
    case rel=>exact ⟨i+1,by have:=HGK.out;have:=HIN.out;show _=_;omega,by go_num,hB⟩
  · have hlt:¬ (i:Int) < (N:Int):=by omega
    have hb:=bend HB0.out hB;clear hin hB
    go_wp2_with (first
     | (go_at_call 18;(with_reducible refine (wakes14_any _).mono ?_);rintro e w_z ⟨rfl,hh⟩
        replace hb:=bend hb hh))
    (try rw [Exit.noGoto_ret])
    go_ret;exact ⟨rfl,hb⟩
end
section
open Go Go.ChangeShapes Go.WideShapes Go.ChangeAt Go.RowKit
theorem open_rat3 {H:Type} {enc:TypeId × Value→H} {base fuel:Nat} {held:Bool} {x0 x1 x2:Value} {y:DataW H × List MemPlace}
 (h:DataW.trod enc Tryz.prog w base (fun _=>true) held fuel 26 [x0,x1,x2]=some y) :
 ∃ (q:QV) (zs ys:List Int),x0=.bool q.s∧x1=.slice q.A q.n q.c∧x2=.slice q.B q.m q.d∧IsRow64 w q.A q.n q.c zs∧IsRow64 w q.B q.m q.d ys:=by
 have e0:Tryz.prog.cellsOf 24=2:=by kernel_rfl
 have e1:Tryz.prog.cellsOf 22=1:=by kernel_rfl
 have e2:Tryz.prog.cellsOf 4=1:=by kernel_rfl
 obtain ⟨z0,z1,m,hx2,_,h2,h3⟩:=trod_struct2 Tryz.underlying26 h
 simp [e0] at h2
 simp [e1] at h3
 obtain ⟨u0,u1,k,hx4,_,h6,h7⟩:=trod_struct2 Tryz.underlying24 h2
 simp [e2] at h6
 simp [e1] at h7
 obtain ⟨b,hb,_⟩:=DataW.trod_bool Tryz.underlying4 h6
 cases hb
 obtain ⟨A1,n1,c1,zs1,rfl,r1⟩:∃ A n c zs,x1=.slice A n c∧IsRow64 w A n c zs:=by
  rcases open_ints Tryz.underlying22 Tryz.underlying140 (by kernel_rfl) h7 with ⟨hcs,_⟩ | ⟨x,l,c,zs,hcs,_,hl,hm,hz,_,hcell,hwz⟩
  · exact ⟨none,0,0,[],by cases hcs;rfl,.inl ⟨rfl,rfl,rfl,rfl⟩⟩
  · exact ⟨some x,l,c,zs,by cases hcs;rfl,.inr ⟨x,rfl,hl,hm,by simpa using hz,hcell,hwz⟩⟩
 obtain ⟨A2,n2,c2,zs2,rfl,r2⟩:∃ A n c zs,x2=.slice A n c∧IsRow64 w A n c zs:=by
  rcases open_ints Tryz.underlying22 Tryz.underlying140 (by kernel_rfl) h3 with ⟨hcs,_⟩ | ⟨x,l,c,zs,hcs,_,hl,hm,hz,_,hcell,hwz⟩
  · exact ⟨none,0,0,[],by cases hcs;rfl,.inl ⟨rfl,rfl,rfl,rfl⟩⟩
  · exact ⟨some x,l,c,zs,by cases hcs;rfl,.inr ⟨x,rfl,hl,hm,by simpa using hz,hcell,hwz⟩⟩
 exact ⟨⟨_,A1,n1,c1,A2,n2,c2⟩,zs1,zs2,rfl,rfl,rfl,r1,r2⟩
end
section
open Go Go.ChangeShapes Go.WideShapes Go.ChangeAt Go.RowKit
def QV.Raw (w:World) (q:QV):Prop:=(∃ zs,IsRow64 w q.A q.n q.c zs)∧∃ zs,IsRow64 w q.B q.m q.d zs
def HV.Raw (w:World) (p:HV):Prop:=p.x.Raw w∧p.y.Raw w∧p.w.Raw w
theorem open_hom9 {H:Type} {enc:TypeId × Value→H} {base fuel:Nat} {held:Bool} {x0 x1 x2 x3 x4 x5 x6 x7 x8:Value} {y:DataW H × List MemPlace}
 (h:DataW.trod enc Tryz.prog w base (fun _=>true) held fuel 79 [x0,x1,x2,x3,x4,x5,x6,x7,x8]=some y) :
 ∃ p:HV,x0=.bool p.x.s∧x1=.slice p.x.A p.x.n p.x.c∧x2=.slice p.x.B p.x.m p.x.d∧x3=.bool p.y.s∧x4=.slice p.y.A p.y.n p.y.c∧x5=.slice p.y.B p.y.m p.y.d∧x6=.bool p.w.s∧x7=.slice p.w.A p.w.n p.w.c∧x8=.slice p.w.B p.w.m p.w.d∧p.Raw w:=by
 have e3:Tryz.prog.cellsOf 26=3:=by kernel_rfl
 obtain ⟨xs,n,_,_,_,hlen,hi⟩:=DataW.trod_struct Tryz.underlying79 h
 match xs,hlen with
 | [y0,y1,y2],_ =>
   have h0:=hi 0 _ rfl
   simp [e3] at h0
   have h1:=hi 1 _ rfl
   simp [e3] at h1
   have h2:=hi 2 _ rfl
   simp [e3] at h2
   obtain ⟨q0,z0,s0,rfl,rfl,rfl,r0,t0⟩:=open_rat3 h0
   obtain ⟨q1,z1,s1,rfl,rfl,rfl,r1,t1⟩:=open_rat3 h1
   obtain ⟨q2,z2,s2,rfl,rfl,rfl,r2,t2⟩:=open_rat3 h2
   exact ⟨⟨q0,q1,q2⟩,rfl,rfl,rfl,rfl,rfl,rfl,rfl,rfl,rfl,⟨⟨z0,r0⟩,⟨s0,t0⟩⟩,⟨⟨z1,r1⟩,⟨s1,t1⟩⟩,⟨z2,r2⟩,⟨s2,t2⟩⟩
theorem open_zhoms {H:Type} {enc:TypeId × Value→H} {base:Nat} {held:Bool} {r:Reach} {b0:Nat} {v:Value} {d:DataW H} {p:List MemPlace}
 (hv:Value.okWide Tryz.prog w r b0 37 v) (h:DataW.Trod enc Tryz.prog w base (fun _=>true) held 37 v d p) :
 ∃ (A:Option Addr) (n c:Nat) (L:List HV),v=.slice A n c∧SV w A (hvs L)∧L.length=n∧n≤c∧n≤maxLen∧∀ q ∈ L,q.Raw w:=by
 obtain ⟨A,n,c,rfl⟩:=okWide_slice Tryz.underlying37 hv
 have e9:Tryz.prog.cellsOf 79=9:=by kernel_rfl
 obtain ⟨fuel,hf⟩:=h
 rcases DataW.trod_slice Tryz.underlying37 hf with ⟨h0,_⟩ | ⟨a,len,cap,elems,rest,m,_,h0,_,hb,hl,hm,hlen,hel,_,_⟩
 · simp [Value.cells] at h0
   obtain ⟨rfl,rfl,rfl⟩:=h0
   exact ⟨none,0,0,[],rfl,SV.nil _ _,rfl,Nat.le_refl _,Nat.zero_le _,fun q hq=>by cases hq⟩
 · simp [Value.cells] at h0
   obtain ⟨rfl,rfl,rfl⟩:=h0
   rw [e9] at hel
   have each:∀ i,i < n→∃ q:HV,(∀ j u,q.cells[j]?=some u→w.cell? ((a.add (i*9)).add j)=some u)∧q.Raw w:=by
    intro i hi
    have h1:=hel i hi
    rw [List.getElem?_eq_getElem (by rw [hlen];exact hi)] at h1
    obtain ⟨cs,hc1,hc2⟩:=Option.bind_eq_some_iff.1 h1
    unfold World.cells? at hc1
    split at hc1
    · have hcl:=mapM_some_length hc1
      have hcg:=fun k (hk:k < 9)=>mapM_some_get hc1 k k (by simp [hk])
      rw [List.length_range] at hcl
      match cs,hcl with
      | [x0,x1,x2,x3,x4,x5,x6,x7,x8],_ =>
        obtain ⟨p,rfl,rfl,rfl,rfl,rfl,rfl,rfl,rfl,rfl,r1⟩:=open_hom9 hc2
        refine ⟨p,fun j u hu=>?_,r1⟩
        have hj:j < 9:=(List.getElem?_eq_some_iff.1 hu).1
        have:=hcg j hj
        rw [this];exact hu
    · cases hc1
   obtain ⟨L,hL,hq⟩:∃ L:List HV,L.length=n∧∀ i q,L[i]?=some q→(∀ j u,q.cells[j]?=some u→w.cell? ((a.add (i*9)).add j)=some u)∧q.Raw w:=by
    have:∀ m,m≤n→∃ L:List HV,L.length=m∧∀ i q,L[i]?=some q→(∀ j u,q.cells[j]?=some u→w.cell? ((a.add (i*9)).add j)=some u)∧q.Raw w:=by
     intro m
     induction m with
     | zero=>intro _;exact ⟨[],rfl,fun i q h=>by cases h⟩
     | succ m ih =>
       intro hm
       obtain ⟨L,h1,h2⟩:=ih (by omega)
       obtain ⟨q,h3⟩:=each m (by omega)
       refine ⟨L ++ [q],by rw [List.length_append,h1];rfl,fun i x hx=>?_⟩
       rcases Nat.lt_or_ge i L.length with k | k
       · rw [List.getElem?_append_left k] at hx;exact h2 i x hx
       · rw [List.getElem?_append_right k] at hx
         have:i - L.length=0:=by
          have:=(List.getElem?_eq_some_iff.1 hx).1
          simp at this;omega
         rw [this] at hx
         cases hx
         rw [show i=m by omega];exact h3
    exact this n (Nat.le_refl _)
   refine ⟨some a,n,c,L,rfl,fun hn=>?_,hL,hl,by omega,fun q hq2=>?_⟩
   · have hn0:0 < n:=by rw [show (hvs L).length=L.length*9 from rows_length hvc_len L,hL] at hn;omega
     obtain ⟨b,o,spot⟩:=a
     have hx:=(hq 0 _ (List.getElem?_eq_getElem (by rw [hL];exact hn0))).1 0 _ rfl
     have hspot:spot=none:=by simpa [Addr.add] using World.cell?_spot hx
     subst hspot
     refine ⟨b,o,rfl,?_,fun j u hu=>?_⟩
     · rw [add_at,add_at] at hx
       exact World.block_lt_of_cell? w _ hx
     · have hj:=(List.getElem?_eq_some_iff.1 hu).1
       rw [show (hvs L).length=L.length*9 from rows_length hvc_len L,hL] at hj
       obtain ⟨i,k,hk,rfl⟩:∃ i k,k < 9∧j=i*9+k:=⟨j / 9,j % 9,Nat.mod_lt _ (by decide),by omega⟩
       have hi:i < L.length:=by omega
       have hg:=List.getElem?_eq_getElem hi
       have:=(hq i _ hg).1 k u (by rw [← rows_get hvc_len hg hk];exact hu)
       rw [add_at,add_at] at this
       rwa [← Nat.add_assoc]
   · obtain ⟨i,hi⟩:=List.getElem?_of_mem hq2
     exact (hq i q hi).2
theorem raw_qr {q:QV} {M:Nat} (h:q.Raw w) (hs:q.small M):∃ v,QR w q.s q.A q.n q.c q.B q.m q.d v M:=by
 obtain ⟨⟨_,ra⟩,⟨_,ta⟩⟩:=h
 obtain ⟨l1,a1,b1,c1,_⟩:=ra.rd
 obtain ⟨l2,a2,b2,c2,_⟩:=ta.rd
 exact ⟨_,QR.of_rd a1 b1 c1 a2 b2 c2 hs.1 hs.2⟩
theorem raw_hr {p:HV} {M:Nat} (h:p.Raw w) (hs:p.small M):∃ u,HR w p u M:=by
 obtain ⟨x,hx⟩:=raw_qr h.1 hs.1
 obtain ⟨y,hy⟩:=raw_qr h.2.1 hs.2.1
 obtain ⟨z,hz⟩:=raw_qr h.2.2 hs.2.2
 exact ⟨⟨x,y,z⟩,hx,hy,hz⟩
theorem raw_eachH {M:Nat}:∀ {L:List HV},(∀ p ∈ L,p.Raw w)→(∀ p ∈ L,p.small M)→∃ l,EachH HR w L l M
 | [],_,_=>⟨[],EachH.nil⟩
 | p :: L,h,hs=>by
   obtain ⟨u,hu⟩:=raw_hr (h p List.mem_cons_self) (hs p List.mem_cons_self)
   obtain ⟨l,hl⟩:=raw_eachH (L:=L) (fun q hq=>h q (List.mem_cons_of_mem _ hq)) (fun q hq=>hs q (List.mem_cons_of_mem _ hq))
   refine ⟨u :: l,by rw [List.length_cons,List.length_cons,hl.1],fun i q v h1 h2=>?_⟩
   match i,h1,h2 with
   | 0,h1,h2=>cases h1;cases h2;exact hu
   | i+1,h1,h2=>exact hl.2 i q v h1 h2
end
section
open Go Go.RowKit
theorem law_hcts {A:Option Addr} {n c:Nat} {dd:Int} {L:List HV} (hL:SV w A (hvs L)) (hn:L.length=n) (hm:n≤maxLen) (hz:∀ p ∈ L,p.Raw w) :
 Calls Tryz.prog 4 #[.slice A n c,.int .i64 dd] w fun e w'=>e=.returned (.bool true)∧Below w.heap.size w w':=by
 by_cases hs:(∀ p ∈ L,p.small 4)∧n≤6
 · obtain ⟨V,hE⟩:=raw_eachH hz hs.1
   by_cases h3:3 < dd∧dd≤10
   · exact hcts_m hL hn (by unfold maxLen;omega) hs h3.1 h3.2
   · by_cases h0:dd < 0
     · by_cases hg:GoodH V
       · exact hcts_pn hL hn hE hs hg h0
       · exact hcts_gn hL hn hE hs hg h0
     · by_cases h10:10 < dd
       · by_cases hg:GoodH V
         · exact hcts_pl hL hn hE hs hg h10
         · exact hcts_gl hL hn hE hs hg h10
       · by_cases hg:GoodH V
         · obtain ⟨d,rfl⟩:∃ d:Nat,dd=(d:Int):=⟨dd.toNat,by omega⟩
           exact hcts_ps hL hn hE hs hg (by omega)
         · exact hcts_gs hL hn hE hs hg (by omega)
 · exact hcts_f hL hn hm hs
end
end Go.Proofs.YtfpaeophfcoohaaGreat
