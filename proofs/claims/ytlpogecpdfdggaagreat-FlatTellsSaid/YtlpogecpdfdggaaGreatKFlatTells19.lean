/- FlatTells: part 19. -/
import Derived.OpenShut
import Derived.Test.YtlpogecpdfdggaaGreatKFlatTells0
import Derived.Test.YtlpogecpdfdggaaGreatKFlatTells13
import Derived.Test.YtlpogecpdfdggaaGreatKFlatTells14
import Derived.Test.YtlpogecpdfdggaaGreatKFlatTells16
import Derived.Test.YtlpogecpdfdggaaGreatKFlatTells17
import Derived.Test.YtlpogecpdfdggaaGreatKFlatTells18
set_option linter.unusedVariables false
set_option maxRecDepth 100000
set_option maxHeartbeats 16000000
variable {w:Go.World}
namespace Go.Proofs.YtlpogecpdfdggaaGreat
section
open Go Go.RowKit
attribute [local go_sem ↓] open_LVH open_STH open_LVJ open_STJ
abbrev fwV:List AH:=(quadH [(Rat.divInt 0 1,Rat.divInt 0 1),(Rat.divInt 1 1,Rat.divInt 2 1),(Rat.divInt 2 1,Rat.divInt 0 1)])
theorem fw_good:GoodH fwV:=by
 refine ⟨by decide,fun u hu=>?_⟩
 simp only [fwV,quadH,List.map_cons,List.map_nil,List.mem_cons,List.not_mem_nil,or_false] at hu
 rcases hu with rfl | rfl | rfl <;> decide
theorem fw_gap:gapQ fwV=4:=by decide +kernel
theorem fw_txt:(⟨(qtxt (gapQ fwV)).toArray⟩:ByteArray)=⟨#[52]⟩:=by
 rw [fw_gap,qtxt_i (a:=4) (by decide +kernel) (by decide +kernel) (txt_one (d:=4) (by decide) (by decide) rfl)];rfl
theorem QG.fitQ {s:Bool} {A B:Option Addr} {n c m d K k:Nat} {v:Rat} (h:QG w s A n c B m d v K) (h1:v.num.natAbs < B64 ^ k) (h2:v.den < B64 ^ k):QG w s A n c B m d v k:=by
 obtain ⟨⟨a1,a2,a3,_⟩,⟨b1,b2,_⟩⟩:=h
 refine ⟨⟨a1,a2,a3,?_⟩,⟨b1,b2,?_⟩⟩
 · rw [← a2.1];exact length_limbs_le B64_two h1
 · rw [← b1.1];exact length_limbs_le B64_two h2
theorem fw_num:(gapQ fwV).num.natAbs < B64 ^ 1:=by rw [fw_gap];decide +kernel
theorem fw_den:(gapQ fwV).den < B64 ^ 1:=by rw [fw_gap];decide +kernel
theorem fw_is2:true=true ↔ GoodH fwV∧0≤Rat.divInt 2 1∧gapQ fwV≤Rat.divInt 2 1*Rat.divInt 2 1:=⟨fun _=>⟨fw_good,by decide +kernel,by rw [fw_gap];decide +kernel⟩,fun _=>rfl⟩
theorem fw_is1:false=true ↔ GoodH fwV∧0≤Rat.divInt 1 1∧gapQ fwV≤Rat.divInt 1 1*Rat.divInt 1 1:=⟨fun e=>(by cases e),fun e=>absurd e.2.2 (by rw [fw_gap];decide +kernel)⟩
theorem wakes15_any (w:World):Calls Tryz.prog 8 #[] w fun e w'=>e=.returned (.bool true)∧Below w.heap.size w w':=by
 have hb:Below w.heap.size w w:=Below.refl _ _
 go_enter Tryz.func8,Tryz.ntmps8
 go_upto_region 4 with (first
  | (go_at_call 25;(with_reducible refine (lawP 0 0 (by decide) (by decide) (by decide) (by decide) _).mono ?_);rintro e w_p ⟨s_p,A_p,n_p,c_p,B_p,m_p,d_p,t_p,E_p,i_p,e_p,F_p,j_p,f_p,rfl,p,hh⟩
     replace hb:=bend hb hh)
  | (go_at_call 25;(with_reducible refine (lawP 1 2 (by decide) (by decide) (by decide) (by decide) _).mono ?_);rintro e w_q ⟨s_q,A_q,n_q,c_q,B_q,m_q,d_q,t_q,E_q,i_q,e_q,F_q,j_q,f_q,rfl,q,hh⟩
     (try replace p:=p.below hh);replace hb:=bend hb hh)
  | (go_at_call 25;(with_reducible refine (lawP 2 0 (by decide) (by decide) (by decide) (by decide) _).mono ?_);rintro e w_r ⟨s_r,A_r,n_r,c_r,B_r,m_r,d_r,t_r,E_r,i_r,e_r,F_r,j_r,f_r,rfl,r,hh⟩
     (try replace p:=p.below hh);(try replace q:=q.below hh);replace hb:=bend hb hh)
  | (go_at_call 26;(with_reducible refine (cquad p q r (by decide)).mono ?_);rintro e w_u ⟨v1,M1,rfl,l1,e1,hh⟩
     replace hb:=bend hb hh
     obtain ⟨A_x,c_x,rfl,hc3,_⟩:=l1.form
     have hM1:M1.length=3:=e1.1
     rw [hM1] at l1 hc3 ⊢
     have LM1:=l1.sv;have E1:=e1.hr;clear p q r e1)
  | (go_at_call 10;(with_reducible refine (fgap_ok (n:=3) LM1 E1 hM1 hc3 (by decide) (by decide) fw_good).mono ?_);rintro e w_g ⟨s_g,A_g,n_g,c_g,B_g,m_g,d_g,rfl,g,hh⟩
     (try replace LM1:=LM1.below hh);replace hb:=bend hb hh;replace E1:=EachH.belowR E1 hh))
 have XG:=B3.new' w_g (Value.bool s_g) (Value.slice A_g n_g c_g) (Value.slice B_g m_g d_g) w_g.heap.size rfl
 have hh:Below w_g.heap.size w_g (w_g.alloc (Obj.cells #[Value.bool s_g,Value.slice A_g n_g c_g,Value.slice B_g m_g d_g] 27)):=(Below.refl _ _).alloc (Nat.le_refl _) _
 generalize (w_g.alloc (Obj.cells #[Value.bool s_g,Value.slice A_g n_g c_g,Value.slice B_g m_g d_g] 27))=W2 at *
 replace LM1:=LM1.below hh;replace E1:=EachH.belowR E1 hh;replace g:=g.below hh;replace hb:=bend hb hh;clear l1 hh;obtain ⟨xg0,xg1,xg2⟩:=XG.all
 go_wp2_with (first
  | (go_at_call 27;(with_reducible refine (rtext_q (QG.fitQ g fw_num fw_den).qr (by decide) (by decide)).mono ?_);rintro e w_z ⟨rfl,hh⟩
     rw [fw_txt];(try replace LM1:=LM1.below hh);replace hb:=bend hb hh;replace E1:=EachH.belowR E1 hh;clear g)
  | (go_at_call 18;(with_reducible refine (rof_q 2 1 (by decide) (by decide) (by decide) (by decide) (by decide) _).mono ?_);rintro e w_t2 ⟨s_t2,A_t2,n_t2,c_t2,B_t2,m_t2,d_t2,rfl,t2,hh⟩
     (try replace LM1:=LM1.below hh);replace hb:=bend hb hh;replace E1:=EachH.belowR E1 hh)
  | (go_at_call 18;(with_reducible refine (rof_q 1 1 (by decide) (by decide) (by decide) (by decide) (by decide) _).mono ?_);rintro e w_t1 ⟨s_t1,A_t1,n_t1,c_t1,B_t1,m_t1,d_t1,rfl,t1,hh⟩
     (try replace LM1:=LM1.below hh);(try replace t2:=t2.below hh);replace hb:=bend hb hh;replace E1:=EachH.belowR E1 hh)
  | (go_at_call 11;(with_reducible refine (fis_any (n:=3) LM1 E1 hM1 t2.qr (by decide) (by decide) (by decide) (by decide) hc3 true fw_is2).mono ?_);rintro e w_z ⟨rfl,hh⟩
     (try replace LM1:=LM1.below hh);(try replace t2:=t2.below hh);(try replace t1:=t1.below hh);replace hb:=bend hb hh;replace E1:=EachH.belowR E1 hh)
  | (go_at_call 11;(with_reducible refine (fis_any (n:=3) LM1 E1 hM1 t1.qr (by decide) (by decide) (by decide) (by decide) hc3 false fw_is1).mono ?_);rintro e w_z ⟨rfl,hh⟩
     (try replace LM1:=LM1.below hh);(try replace t2:=t2.below hh);(try replace t1:=t1.below hh);replace hb:=bend hb hh;replace E1:=EachH.belowR E1 hh))
 (try rw [Exit.noGoto_ret])
 go_ret;exact ⟨rfl,hb⟩
end
section
open Go Go.RowKit
attribute [local go_sem ↓] open_LVH open_STH open_LVJ open_STJ
theorem ftl_f {A:Option Addr} {n c:Nat} {s:Bool} {A1 A2:Option Addr} {n1 c1 n2 c2:Nat} {L:List HV} (hL:SV w A (hvs L)) (hn:L.length=n) (hm:n≤maxLen) (hf:¬ ((∀ p ∈ L,p.small 4)∧n≤6)) :
 Calls Tryz.prog 3 #[.slice A n c,.agg #[.bool s,.slice A1 n1 c1,.slice A2 n2 c2]] w fun e w'=>e=.returned (.bool true)∧Below w.heap.size w w':=by
 have HF:=Lib.hid hf;clear hf;have HN:=Lib.hid hn;clear hn
 go_enter Tryz.func3,Tryz.ntmps3
 go_upto_region 1 with (fail)
 generalize hW:World.alloc _ _=W
 obtain ⟨hb,XT,hzW⟩:=mkbx13_8 hW;clear hW;replace hL:=hL.below hb;obtain ⟨xt0,xt1,xt2⟩:=XT.all
 go_wp2_with (first
  | (go_at_call 6;(with_reducible refine (fair13_f hL HN.out hm HF.out).mono ?_);rintro e w_z ⟨rfl,hh⟩
     (try replace hL:=hL.below hh);replace hb:=bend hb hh)
  | (go_at_call 8;(with_reducible refine (wakes15_any _).mono ?_);rintro e w_z ⟨rfl,hh⟩
     replace hb:=bend hb hh))
 (try rw [Exit.noGoto_ret])
 go_ret;exact ⟨rfl,hb⟩
theorem ftl_s {A:Option Addr} {n c:Nat} {s:Bool} {A1 A2:Option Addr} {n1 c1 n2 c2:Nat} {L:List HV} (hL:SV w A (hvs L)) (hn:L.length=n) (hm:n≤maxLen) (hs:(∀ p ∈ L,p.small 4)∧n≤6) (hq:¬ (n1≤4∧n2≤4)) :
 Calls Tryz.prog 3 #[.slice A n c,.agg #[.bool s,.slice A1 n1 c1,.slice A2 n2 c2]] w fun e w'=>e=.returned (.bool true)∧Below w.heap.size w w':=by
 have HF:=Lib.hid hs
 have HQ4:Hid (decide (n1≤4∧n2≤4)=false):=decide_eq_false hq
 clear hs hq
 have H4:Hid ((4:Int)=((4:Nat):Int)):=rfl
 have HN:=Lib.hid hn;clear hn
 go_enter Tryz.func3,Tryz.ntmps3
 go_upto_region 1 with (fail)
 generalize hW:World.alloc _ _=W
 obtain ⟨hb,XT,hzW⟩:=mkbx13_8 hW;clear hW;replace hL:=hL.below hb;obtain ⟨xt0,xt1,xt2⟩:=XT.all
 go_wp2_with (first
  | (go_at_call 6;(with_reducible refine (fair13_t hL HN.out hm HF.out).mono ?_);rintro e w_z ⟨rfl,hh⟩
     (try replace hL:=hL.below hh);(try replace XT:=XT.below hh);replace hb:=bend hb hh;obtain ⟨xt0,xt1,xt2⟩:=XT.all)
  | (go_at_call 7;(with_reducible refine (smallI 4 H4.out (s:=s) (A:=A1) (n:=n1) (c:=c1) (A':=A2) (n':=n2) (c':=c2) _ false HQ4.out).mono ?_);rintro e w_z ⟨rfl,hh⟩
     (try replace hL:=hL.below hh);replace hb:=bend hb hh)
  | (go_at_call 8;(with_reducible refine (wakes15_any _).mono ?_);rintro e w_z ⟨rfl,hh⟩
     replace hb:=bend hb hh))
 (try rw [Exit.noGoto_ret])
 go_ret;exact ⟨rfl,hb⟩
theorem ftl_bad {A:Option Addr} {n c:Nat} {s:Bool} {A1 A2:Option Addr} {n1 c1 n2 c2:Nat} {vt:Rat} {L:List HV} {V:List AH} (hL:SV w A (hvs L)) (hn:L.length=n) (hE:EachH HR w L V 4) (hs:(∀ p ∈ L,p.small 4)∧n≤6) (t:QR w s A1 n1 c1 A2 n2 c2 vt 4) (hq:n1≤4∧n2≤4) (hnc:n≤c) (hg:¬ GoodH V) :
 Calls Tryz.prog 3 #[.slice A n c,.agg #[.bool s,.slice A1 n1 c1,.slice A2 n2 c2]] w fun e w'=>e=.returned (.bool true)∧Below w.heap.size w w':=by
 have HG:=Lib.hid hg;clear hg;have HF:=Lib.hid hs
 have HQ4:Hid (decide (n1≤4∧n2≤4)=true):=decide_eq_true hq
 have hm:n≤maxLen:=by unfold maxLen;omega
 have hn9:n≤1000:=by omega
 have HVn:Hid (V.length=n):=hE.1.symm.trans hn
 clear hs hq
 have H4:Hid ((4:Int)=((4:Nat):Int)):=rfl
 have HN:=Lib.hid hn;clear hn
 go_enter Tryz.func3,Tryz.ntmps3
 go_upto_region 1 with (fail)
 generalize hW:World.alloc _ _=W
 obtain ⟨hb,XT,hzW⟩:=mkbx13_8 hW;clear hW;replace hL:=hL.below hb;replace t:=t.below hb;replace hE:=EachH.belowR hE hb;obtain ⟨xt0,xt1,xt2⟩:=XT.all
 go_upto_region 4 with (first
  | (go_at_call 6;(with_reducible refine (fair13_t hL HN.out hm HF.out).mono ?_);rintro e w_z ⟨rfl,hh⟩
     (try replace hL:=hL.below hh);(try replace t:=t.below hh);(try replace XT:=XT.below hh);replace hb:=bend hb hh;replace hE:=EachH.belowR hE hh;obtain ⟨xt0,xt1,xt2⟩:=XT.all)
  | (go_at_call 7;(with_reducible refine (smallI 4 H4.out (s:=s) (A:=A1) (n:=n1) (c:=c1) (A':=A2) (n':=n2) (c':=c2) _ true HQ4.out).mono ?_);rintro e w_z ⟨rfl,hh⟩
     (try replace hL:=hL.below hh);(try replace t:=t.below hh);(try replace XT:=XT.below hh);replace hb:=bend hb hh;replace hE:=EachH.belowR hE hh)
  | (go_at_call 9;(with_reducible refine (rins13 hL hE HN.out hn9 (by decide) (by decide)).mono ?_);rintro e w_i ⟨v1,M1,rfl,l1,e1,hh⟩
     (try replace hL:=hL.below hh);(try replace t:=t.below hh);(try replace XT:=XT.below hh);replace hb:=bend hb hh;replace hE:=EachH.belowR hE hh
     obtain ⟨A_x,c_x,rfl,_,_⟩:=l1.form
     have hM1:M1.length=n:=e1.1.trans HVn.out
     rw [hM1] at l1 ⊢
     have LM1:=l1.sv))
 clear xt0 xt1 xt2 l1
 go_upto_region 5 with (first
  | (go_at_call 10;(with_reducible refine (fgap_bad hL hE HN.out (by decide) (by decide) HG.out).mono ?_);rintro e w_g ⟨rfl,hh⟩
     (try replace hL:=hL.below hh);(try replace t:=t.below hh);(try replace XT:=XT.below hh);(try replace LM1:=LM1.below hh);replace hb:=bend hb hh;replace hE:=EachH.belowR hE hh;replace e1:=EachH.belowJ e1 hh))
 have XG:=B3.new' w_g (Value.bool false) (Value.slice none 0 0) (Value.slice none 0 0) w_g.heap.size rfl
 have hh:Below w_g.heap.size w_g (w_g.alloc (Obj.cells #[Value.bool false,Value.slice none 0 0,Value.slice none 0 0] 27)):=(Below.refl _ _).alloc (Nat.le_refl _) _
 generalize (w_g.alloc (Obj.cells #[Value.bool false,Value.slice none 0 0,Value.slice none 0 0] 27))=W2 at *
 replace hL:=hL.below hh;replace t:=t.below hh;replace XT:=XT.below hh;replace LM1:=LM1.below hh;replace hE:=EachH.belowR hE hh;replace e1:=EachH.belowJ e1 hh;replace hb:=bend hb hh;clear hh
 generalize w_g.heap.size=gG at *
 replace hL:=hL.below (Below.refl _ _).drew
 replace t:=t.below (Below.refl _ _).drew
 replace XT:=XT.below (Below.refl _ _).drew
 replace LM1:=LM1.below (Below.refl _ _).drew
 replace XG:=XG.below (Below.refl _ _).drew
 replace hb:=hb.drew
 replace hE:=EachH.belowR hE (Below.refl _ _).drew
 replace e1:=EachH.belowJ e1 (Below.refl _ _).drew
 go_region_held3 (fun w'=>w'.cell? ⟨w.heap.size,0,none⟩=some (.bool s)∧w'.cell? ⟨w.heap.size,1,none⟩=some (.slice A1 n1 c1)∧w'.cell? ⟨w.heap.size,2,none⟩=some (.slice A2 n2 c2))
  (first | with_reducible exact ⟨XT.c0,XT.c1,XT.c2⟩)
  (first
  | (go_at_call 11;(with_reducible refine (fis_any hL hE HN.out t (by decide) (by decide) (by decide) (by decide) hnc false ⟨fun e=>(by cases e),fun e=>absurd e.1 HG.out⟩).mono ?_);rintro e w_z ⟨rfl,hh⟩
     (try replace hL:=hL.below hh);(try replace t:=t.below hh);(try replace XT:=XT.below hh);(try replace LM1:=LM1.below hh);(try replace XG:=XG.below hh);replace hb:=bend hb hh;replace hE:=EachH.belowR hE hh;replace e1:=EachH.belowJ e1 hh)
  | (go_at_call 13;(with_reducible refine (rin3 t (by decide) (by decide)).mono ?_);rintro e w_u ⟨s_u,A_u,n_u,c_u,B_u,m_u,d_u,rfl,u,hh⟩
     (try replace hL:=hL.below hh);(try replace t:=t.below hh);(try replace XT:=XT.below hh);(try replace LM1:=LM1.below hh);(try replace XG:=XG.below hh);replace hb:=bend hb hh;replace hE:=EachH.belowR hE hh;replace e1:=EachH.belowJ e1 hh)
  | (go_at_call 12;(with_reducible refine (ris_any LM1 e1 hM1 u (by decide) (by decide) hn9 false ⟨fun e=>(by cases e),fun e=>absurd e.1 HG.out⟩).mono ?_);rintro e w_z ⟨rfl,hh⟩
     (try replace hL:=hL.below hh);(try replace t:=t.below hh);(try replace XT:=XT.below hh);(try replace LM1:=LM1.below hh);(try replace XG:=XG.below hh);replace hb:=bend hb hh;replace hE:=EachH.belowR hE hh;replace e1:=EachH.belowJ e1 hh;clear u))
 go_wp2_with (first
  | (go_at_call 14;(with_reducible refine (rgood13_f LM1 e1 hM1 hn9 HG.out).mono ?_);rintro e w_z ⟨rfl,hh⟩
     (try replace hL:=hL.below hh);(try replace t:=t.below hh);(try replace XT:=XT.below hh);(try replace LM1:=LM1.below hh);(try replace XG:=XG.below hh);replace hb:=bend hb hh;replace hE:=EachH.belowR hE hh;replace e1:=EachH.belowJ e1 hh)
  | (go_at_call 8;(with_reducible refine (wakes15_any _).mono ?_);rintro e w_z ⟨rfl,hh⟩
     replace hb:=bend hb hh))
 (try rw [Exit.noGoto_ret])
 go_ret;exact ⟨rfl,hb⟩
theorem ftl_yes {A:Option Addr} {n c:Nat} {s:Bool} {A1 A2:Option Addr} {n1 c1 n2 c2:Nat} {vt:Rat} {L:List HV} {V:List AH} (hL:SV w A (hvs L)) (hn:L.length=n) (hE:EachH HR w L V 4) (hs:(∀ p ∈ L,p.small 4)∧n≤6) (t:QR w s A1 n1 c1 A2 n2 c2 vt 4) (hq:n1≤4∧n2≤4) (hnc:n≤c) (hg:GoodH V) (hr:0≤vt∧gapQ V≤vt*vt) :
 Calls Tryz.prog 3 #[.slice A n c,.agg #[.bool s,.slice A1 n1 c1,.slice A2 n2 c2]] w fun e w'=>e=.returned (.bool true)∧Below w.heap.size w w':=by
 have HG:=Lib.hid hg;have HR:=Lib.hid hr;clear hr;clear hg;have HF:=Lib.hid hs
 have HQ4:Hid (decide (n1≤4∧n2≤4)=true):=decide_eq_true hq
 have hm:n≤maxLen:=by unfold maxLen;omega
 have hn9:n≤1000:=by omega
 have HVn:Hid (V.length=n):=hE.1.symm.trans hn
 clear hs hq
 have H4:Hid ((4:Int)=((4:Nat):Int)):=rfl
 have HN:=Lib.hid hn;clear hn
 go_enter Tryz.func3,Tryz.ntmps3
 go_upto_region 1 with (fail)
 generalize hW:World.alloc _ _=W
 obtain ⟨hb,XT,hzW⟩:=mkbx13_8 hW;clear hW;replace hL:=hL.below hb;replace t:=t.below hb;replace hE:=EachH.belowR hE hb;obtain ⟨xt0,xt1,xt2⟩:=XT.all
 go_upto_region 4 with (first
  | (go_at_call 6;(with_reducible refine (fair13_t hL HN.out hm HF.out).mono ?_);rintro e w_z ⟨rfl,hh⟩
     (try replace hL:=hL.below hh);(try replace t:=t.below hh);(try replace XT:=XT.below hh);replace hb:=bend hb hh;replace hE:=EachH.belowR hE hh;obtain ⟨xt0,xt1,xt2⟩:=XT.all)
  | (go_at_call 7;(with_reducible refine (smallI 4 H4.out (s:=s) (A:=A1) (n:=n1) (c:=c1) (A':=A2) (n':=n2) (c':=c2) _ true HQ4.out).mono ?_);rintro e w_z ⟨rfl,hh⟩
     (try replace hL:=hL.below hh);(try replace t:=t.below hh);(try replace XT:=XT.below hh);replace hb:=bend hb hh;replace hE:=EachH.belowR hE hh)
  | (go_at_call 9;(with_reducible refine (rins13 hL hE HN.out hn9 (by decide) (by decide)).mono ?_);rintro e w_i ⟨v1,M1,rfl,l1,e1,hh⟩
     (try replace hL:=hL.below hh);(try replace t:=t.below hh);(try replace XT:=XT.below hh);replace hb:=bend hb hh;replace hE:=EachH.belowR hE hh
     obtain ⟨A_x,c_x,rfl,_,_⟩:=l1.form
     have hM1:M1.length=n:=e1.1.trans HVn.out
     rw [hM1] at l1 ⊢
     have LM1:=l1.sv))
 clear xt0 xt1 xt2 l1
 go_upto_region 5 with (first
  | (go_at_call 10;(with_reducible refine (fgap_ok hL hE HN.out hnc (by decide) (by decide) HG.out).mono ?_);rintro e w_g ⟨s_g,A_g,n_g,c_g,B_g,m_g,d_g,rfl,g,hh⟩
     (try replace hL:=hL.below hh);(try replace t:=t.below hh);(try replace XT:=XT.below hh);(try replace LM1:=LM1.below hh);replace hb:=bend hb hh;replace hE:=EachH.belowR hE hh;replace e1:=EachH.belowJ e1 hh))
 have XG:=B3.new' w_g (Value.bool s_g) (Value.slice A_g n_g c_g) (Value.slice B_g m_g d_g) w_g.heap.size rfl
 have hh:Below w_g.heap.size w_g (w_g.alloc (Obj.cells #[Value.bool s_g,Value.slice A_g n_g c_g,Value.slice B_g m_g d_g] 27)):=(Below.refl _ _).alloc (Nat.le_refl _) _
 generalize (w_g.alloc (Obj.cells #[Value.bool s_g,Value.slice A_g n_g c_g,Value.slice B_g m_g d_g] 27))=W2 at *
 replace hL:=hL.below hh;replace t:=t.below hh;replace XT:=XT.below hh;replace LM1:=LM1.below hh;replace g:=g.below hh;replace hE:=EachH.belowR hE hh;replace e1:=EachH.belowJ e1 hh;replace hb:=bend hb hh;clear hh
 generalize w_g.heap.size=gG at *
 replace hL:=hL.below (Below.refl _ _).drew
 replace t:=t.below (Below.refl _ _).drew
 replace XT:=XT.below (Below.refl _ _).drew
 replace LM1:=LM1.below (Below.refl _ _).drew
 replace XG:=XG.below (Below.refl _ _).drew
 replace g:=g.below (Below.refl _ _).drew
 replace hb:=hb.drew
 replace hE:=EachH.belowR hE (Below.refl _ _).drew
 replace e1:=EachH.belowJ e1 (Below.refl _ _).drew
 go_region_held3 (fun w'=>w'.cell? ⟨w.heap.size,0,none⟩=some (.bool s)∧w'.cell? ⟨w.heap.size,1,none⟩=some (.slice A1 n1 c1)∧w'.cell? ⟨w.heap.size,2,none⟩=some (.slice A2 n2 c2))
  (first | with_reducible exact ⟨XT.c0,XT.c1,XT.c2⟩)
  (first
  | (go_at_call 11;(with_reducible refine (fis_any hL hE HN.out t (by decide) (by decide) (by decide) (by decide) hnc true ⟨fun _=>⟨HG.out,HR.out.1,HR.out.2⟩,fun _=>rfl⟩).mono ?_);rintro e w_z ⟨rfl,hh⟩
     (try replace hL:=hL.below hh);(try replace t:=t.below hh);(try replace XT:=XT.below hh);(try replace LM1:=LM1.below hh);(try replace XG:=XG.below hh);(try replace g:=g.below hh);replace hb:=bend hb hh;replace hE:=EachH.belowR hE hh;replace e1:=EachH.belowJ e1 hh)
  | (go_at_call 13;(with_reducible refine (rin3 t (by decide) (by decide)).mono ?_);rintro e w_u ⟨s_u,A_u,n_u,c_u,B_u,m_u,d_u,rfl,u,hh⟩
     (try replace hL:=hL.below hh);(try replace t:=t.below hh);(try replace XT:=XT.below hh);(try replace LM1:=LM1.below hh);(try replace XG:=XG.below hh);(try replace g:=g.below hh);replace hb:=bend hb hh;replace hE:=EachH.belowR hE hh;replace e1:=EachH.belowJ e1 hh)
  | (go_at_call 12;(with_reducible refine (ris_any LM1 e1 hM1 u (by decide) (by decide) hn9 true ⟨fun _=>⟨HG.out,HR.out.1,HR.out.2⟩,fun _=>rfl⟩).mono ?_);rintro e w_z ⟨rfl,hh⟩
     (try replace hL:=hL.below hh);(try replace t:=t.below hh);(try replace XT:=XT.below hh);(try replace LM1:=LM1.below hh);(try replace XG:=XG.below hh);(try replace g:=g.below hh);replace hb:=bend hb hh;replace hE:=EachH.belowR hE hh;replace e1:=EachH.belowJ e1 hh;clear u))
 go_upto_region 9 with (first
  | (go_at_call 14;(with_reducible refine (rgood13_t LM1 e1 hM1 hn9 HG.out).mono ?_);rintro e w_z ⟨rfl,hh⟩
     (try replace hL:=hL.below hh);(try replace t:=t.below hh);(try replace XT:=XT.below hh);(try replace LM1:=LM1.below hh);(try replace XG:=XG.below hh);(try replace g:=g.below hh);replace hb:=bend hb hh;replace hE:=EachH.belowR hE hh;replace e1:=EachH.belowJ e1 hh))
 replace hL:=hL.below (Below.refl _ _).drew
 replace t:=t.below (Below.refl _ _).drew
 replace XT:=XT.below (Below.refl _ _).drew
 replace LM1:=LM1.below (Below.refl _ _).drew
 replace XG:=XG.below (Below.refl _ _).drew
 replace g:=g.below (Below.refl _ _).drew
 replace hb:=hb.drew
 replace hE:=EachH.belowR hE (Below.refl _ _).drew
 replace e1:=EachH.belowJ e1 (Below.refl _ _).drew
 go_region_held3 (fun w'=>w'.cell? ⟨gG,0,none⟩=some (.bool s_g)∧w'.cell? ⟨gG,1,none⟩=some (.slice A_g n_g c_g)∧w'.cell? ⟨gG,2,none⟩=some (.slice B_g m_g d_g))
  (first | with_reducible exact ⟨XG.c0,XG.c1,XG.c2⟩)
  (first
  | (go_at_call 16;(with_reducible refine (rgap15 LM1 e1 hM1 (by decide) HG.out).mono ?_);rintro e w_r ⟨s_r,A_r,n_r,c_r,B_r,m_r,d_r,rfl,r,hh⟩
     (try replace hL:=hL.below hh);(try replace t:=t.below hh);(try replace XT:=XT.below hh);(try replace LM1:=LM1.below hh);(try replace XG:=XG.below hh);(try replace g:=g.below hh);replace hb:=bend hb hh;replace hE:=EachH.belowR hE hh;replace e1:=EachH.belowJ e1 hh)
  | (go_at_call 15;(with_reducible refine (same3 g r rfl (by decide) (by decide)).mono ?_);rintro e w_z ⟨rfl,hh⟩
     (try replace XG:=XG.below hh);replace hb:=bend hb hh)
  | (go_at_call 8;(with_reducible refine (wakes15_any _).mono ?_);rintro e w_z ⟨rfl,hh⟩
     (try replace XG:=XG.below hh);replace hb:=bend hb hh))
 go_wp2_with fail
 (try rw [Exit.noGoto_ret])
 go_ret;exact ⟨rfl,hb⟩
theorem ftl_no {A:Option Addr} {n c:Nat} {s:Bool} {A1 A2:Option Addr} {n1 c1 n2 c2:Nat} {vt:Rat} {L:List HV} {V:List AH} (hL:SV w A (hvs L)) (hn:L.length=n) (hE:EachH HR w L V 4) (hs:(∀ p ∈ L,p.small 4)∧n≤6) (t:QR w s A1 n1 c1 A2 n2 c2 vt 4) (hq:n1≤4∧n2≤4) (hnc:n≤c) (hg:GoodH V) (hr:¬ (0≤vt∧gapQ V≤vt*vt)) :
 Calls Tryz.prog 3 #[.slice A n c,.agg #[.bool s,.slice A1 n1 c1,.slice A2 n2 c2]] w fun e w'=>e=.returned (.bool true)∧Below w.heap.size w w':=by
 have HG:=Lib.hid hg;have HR:=Lib.hid hr;clear hr;clear hg;have HF:=Lib.hid hs
 have HQ4:Hid (decide (n1≤4∧n2≤4)=true):=decide_eq_true hq
 have hm:n≤maxLen:=by unfold maxLen;omega
 have hn9:n≤1000:=by omega
 have HVn:Hid (V.length=n):=hE.1.symm.trans hn
 clear hs hq
 have H4:Hid ((4:Int)=((4:Nat):Int)):=rfl
 have HN:=Lib.hid hn;clear hn
 go_enter Tryz.func3,Tryz.ntmps3
 go_upto_region 1 with (fail)
 generalize hW:World.alloc _ _=W
 obtain ⟨hb,XT,hzW⟩:=mkbx13_8 hW;clear hW;replace hL:=hL.below hb;replace t:=t.below hb;replace hE:=EachH.belowR hE hb;obtain ⟨xt0,xt1,xt2⟩:=XT.all
 go_upto_region 4 with (first
  | (go_at_call 6;(with_reducible refine (fair13_t hL HN.out hm HF.out).mono ?_);rintro e w_z ⟨rfl,hh⟩
     (try replace hL:=hL.below hh);(try replace t:=t.below hh);(try replace XT:=XT.below hh);replace hb:=bend hb hh;replace hE:=EachH.belowR hE hh;obtain ⟨xt0,xt1,xt2⟩:=XT.all)
  | (go_at_call 7;(with_reducible refine (smallI 4 H4.out (s:=s) (A:=A1) (n:=n1) (c:=c1) (A':=A2) (n':=n2) (c':=c2) _ true HQ4.out).mono ?_);rintro e w_z ⟨rfl,hh⟩
     (try replace hL:=hL.below hh);(try replace t:=t.below hh);(try replace XT:=XT.below hh);replace hb:=bend hb hh;replace hE:=EachH.belowR hE hh)
  | (go_at_call 9;(with_reducible refine (rins13 hL hE HN.out hn9 (by decide) (by decide)).mono ?_);rintro e w_i ⟨v1,M1,rfl,l1,e1,hh⟩
     (try replace hL:=hL.below hh);(try replace t:=t.below hh);(try replace XT:=XT.below hh);replace hb:=bend hb hh;replace hE:=EachH.belowR hE hh
     obtain ⟨A_x,c_x,rfl,_,_⟩:=l1.form
     have hM1:M1.length=n:=e1.1.trans HVn.out
     rw [hM1] at l1 ⊢
     have LM1:=l1.sv))
 clear xt0 xt1 xt2 l1
 go_upto_region 5 with (first
  | (go_at_call 10;(with_reducible refine (fgap_ok hL hE HN.out hnc (by decide) (by decide) HG.out).mono ?_);rintro e w_g ⟨s_g,A_g,n_g,c_g,B_g,m_g,d_g,rfl,g,hh⟩
     (try replace hL:=hL.below hh);(try replace t:=t.below hh);(try replace XT:=XT.below hh);(try replace LM1:=LM1.below hh);replace hb:=bend hb hh;replace hE:=EachH.belowR hE hh;replace e1:=EachH.belowJ e1 hh))
 have XG:=B3.new' w_g (Value.bool s_g) (Value.slice A_g n_g c_g) (Value.slice B_g m_g d_g) w_g.heap.size rfl
 have hh:Below w_g.heap.size w_g (w_g.alloc (Obj.cells #[Value.bool s_g,Value.slice A_g n_g c_g,Value.slice B_g m_g d_g] 27)):=(Below.refl _ _).alloc (Nat.le_refl _) _
 generalize (w_g.alloc (Obj.cells #[Value.bool s_g,Value.slice A_g n_g c_g,Value.slice B_g m_g d_g] 27))=W2 at *
 replace hL:=hL.below hh;replace t:=t.below hh;replace XT:=XT.below hh;replace LM1:=LM1.below hh;replace g:=g.below hh;replace hE:=EachH.belowR hE hh;replace e1:=EachH.belowJ e1 hh;replace hb:=bend hb hh;clear hh
 generalize w_g.heap.size=gG at *
 replace hL:=hL.below (Below.refl _ _).drew
 replace t:=t.below (Below.refl _ _).drew
 replace XT:=XT.below (Below.refl _ _).drew
 replace LM1:=LM1.below (Below.refl _ _).drew
 replace XG:=XG.below (Below.refl _ _).drew
 replace g:=g.below (Below.refl _ _).drew
 replace hb:=hb.drew
 replace hE:=EachH.belowR hE (Below.refl _ _).drew
 replace e1:=EachH.belowJ e1 (Below.refl _ _).drew
 go_region_held3 (fun w'=>w'.cell? ⟨w.heap.size,0,none⟩=some (.bool s)∧w'.cell? ⟨w.heap.size,1,none⟩=some (.slice A1 n1 c1)∧w'.cell? ⟨w.heap.size,2,none⟩=some (.slice A2 n2 c2))
  (first | with_reducible exact ⟨XT.c0,XT.c1,XT.c2⟩)
  (first
  | (go_at_call 11;(with_reducible refine (fis_any hL hE HN.out t (by decide) (by decide) (by decide) (by decide) hnc false ⟨fun e=>(by cases e),fun e=>absurd e.2 HR.out⟩).mono ?_);rintro e w_z ⟨rfl,hh⟩
     (try replace hL:=hL.below hh);(try replace t:=t.below hh);(try replace XT:=XT.below hh);(try replace LM1:=LM1.below hh);(try replace XG:=XG.below hh);(try replace g:=g.below hh);replace hb:=bend hb hh;replace hE:=EachH.belowR hE hh;replace e1:=EachH.belowJ e1 hh)
  | (go_at_call 13;(with_reducible refine (rin3 t (by decide) (by decide)).mono ?_);rintro e w_u ⟨s_u,A_u,n_u,c_u,B_u,m_u,d_u,rfl,u,hh⟩
     (try replace hL:=hL.below hh);(try replace t:=t.below hh);(try replace XT:=XT.below hh);(try replace LM1:=LM1.below hh);(try replace XG:=XG.below hh);(try replace g:=g.below hh);replace hb:=bend hb hh;replace hE:=EachH.belowR hE hh;replace e1:=EachH.belowJ e1 hh)
  | (go_at_call 12;(with_reducible refine (ris_any LM1 e1 hM1 u (by decide) (by decide) hn9 false ⟨fun e=>(by cases e),fun e=>absurd e.2 HR.out⟩).mono ?_);rintro e w_z ⟨rfl,hh⟩
     (try replace hL:=hL.below hh);(try replace t:=t.below hh);(try replace XT:=XT.below hh);(try replace LM1:=LM1.below hh);(try replace XG:=XG.below hh);(try replace g:=g.below hh);replace hb:=bend hb hh;replace hE:=EachH.belowR hE hh;replace e1:=EachH.belowJ e1 hh;clear u))
 go_upto_region 9 with (first
  | (go_at_call 14;(with_reducible refine (rgood13_t LM1 e1 hM1 hn9 HG.out).mono ?_);rintro e w_z ⟨rfl,hh⟩
     (try replace hL:=hL.below hh);(try replace t:=t.below hh);(try replace XT:=XT.below hh);(try replace LM1:=LM1.below hh);(try replace XG:=XG.below hh);(try replace g:=g.below hh);replace hb:=bend hb hh;replace hE:=EachH.belowR hE hh;replace e1:=EachH.belowJ e1 hh))
 replace hL:=hL.below (Below.refl _ _).drew
 replace t:=t.below (Below.refl _ _).drew
 replace XT:=XT.below (Below.refl _ _).drew
 replace LM1:=LM1.below (Below.refl _ _).drew
 replace XG:=XG.below (Below.refl _ _).drew
 replace g:=g.below (Below.refl _ _).drew
 replace hb:=hb.drew
 replace hE:=EachH.belowR hE (Below.refl _ _).drew
 replace e1:=EachH.belowJ e1 (Below.refl _ _).drew
 go_region_held3 (fun w'=>w'.cell? ⟨gG,0,none⟩=some (.bool s_g)∧w'.cell? ⟨gG,1,none⟩=some (.slice A_g n_g c_g)∧w'.cell? ⟨gG,2,none⟩=some (.slice B_g m_g d_g))
  (first | with_reducible exact ⟨XG.c0,XG.c1,XG.c2⟩)
  (first
  | (go_at_call 16;(with_reducible refine (rgap15 LM1 e1 hM1 (by decide) HG.out).mono ?_);rintro e w_r ⟨s_r,A_r,n_r,c_r,B_r,m_r,d_r,rfl,r,hh⟩
     (try replace hL:=hL.below hh);(try replace t:=t.below hh);(try replace XT:=XT.below hh);(try replace LM1:=LM1.below hh);(try replace XG:=XG.below hh);(try replace g:=g.below hh);replace hb:=bend hb hh;replace hE:=EachH.belowR hE hh;replace e1:=EachH.belowJ e1 hh)
  | (go_at_call 15;(with_reducible refine (same3 g r rfl (by decide) (by decide)).mono ?_);rintro e w_z ⟨rfl,hh⟩
     (try replace XG:=XG.below hh);replace hb:=bend hb hh)
  | (go_at_call 8;(with_reducible refine (wakes15_any _).mono ?_);rintro e w_z ⟨rfl,hh⟩
     (try replace XG:=XG.below hh);replace hb:=bend hb hh))
 go_wp2_with fail
 (try rw [Exit.noGoto_ret])
 go_ret;exact ⟨rfl,hb⟩
end
section
open Go Go.ChangeShapes Go.WideShapes Go.ChangeAt Go.RowKit
theorem open_rat3 {H:Type} {enc:TypeId × Value→H} {base fuel:Nat} {held:Bool} {x0 x1 x2:Value} {y:DataW H × List MemPlace}
 (h:DataW.trod enc Tryz.prog w base (fun _=>true) held fuel 27 [x0,x1,x2]=some y) :
 ∃ (q:QV) (zs ys:List Int),x0=.bool q.s∧x1=.slice q.A q.n q.c∧x2=.slice q.B q.m q.d∧IsRow64 w q.A q.n q.c zs∧IsRow64 w q.B q.m q.d ys:=by
 have e0:Tryz.prog.cellsOf 25=2:=by kernel_rfl
 have e1:Tryz.prog.cellsOf 23=1:=by kernel_rfl
 have e2:Tryz.prog.cellsOf 4=1:=by kernel_rfl
 obtain ⟨z0,z1,m,hx2,_,h2,h3⟩:=trod_struct2 Tryz.underlying27 h
 simp [e0] at h2
 simp [e1] at h3
 obtain ⟨u0,u1,k,hx4,_,h6,h7⟩:=trod_struct2 Tryz.underlying25 h2
 simp [e2] at h6
 simp [e1] at h7
 obtain ⟨b,hb,_⟩:=DataW.trod_bool Tryz.underlying4 h6
 cases hb
 obtain ⟨A1,n1,c1,zs1,rfl,r1⟩:∃ A n c zs,x1=.slice A n c∧IsRow64 w A n c zs:=by
  rcases open_ints Tryz.underlying23 Tryz.underlying74 (by kernel_rfl) h7 with ⟨hcs,_⟩ | ⟨x,l,c,zs,hcs,_,hl,hm,hz,_,hcell,hwz⟩
  · exact ⟨none,0,0,[],by cases hcs;rfl,.inl ⟨rfl,rfl,rfl,rfl⟩⟩
  · exact ⟨some x,l,c,zs,by cases hcs;rfl,.inr ⟨x,rfl,hl,hm,by simpa using hz,hcell,hwz⟩⟩
 obtain ⟨A2,n2,c2,zs2,rfl,r2⟩:∃ A n c zs,x2=.slice A n c∧IsRow64 w A n c zs:=by
  rcases open_ints Tryz.underlying23 Tryz.underlying74 (by kernel_rfl) h3 with ⟨hcs,_⟩ | ⟨x,l,c,zs,hcs,_,hl,hm,hz,_,hcell,hwz⟩
  · exact ⟨none,0,0,[],by cases hcs;rfl,.inl ⟨rfl,rfl,rfl,rfl⟩⟩
  · exact ⟨some x,l,c,zs,by cases hcs;rfl,.inr ⟨x,rfl,hl,hm,by simpa using hz,hcell,hwz⟩⟩
 exact ⟨⟨_,A1,n1,c1,A2,n2,c2⟩,zs1,zs2,rfl,rfl,rfl,r1,r2⟩
end
section
open Go Go.ChangeShapes Go.WideShapes Go.ChangeAt Go.RowKit
def QV.Raw (w:World) (q:QV):Prop:=(∃ zs,IsRow64 w q.A q.n q.c zs)∧∃ zs,IsRow64 w q.B q.m q.d zs
def HV.Raw (w:World) (p:HV):Prop:=p.x.Raw w∧p.y.Raw w∧p.w.Raw w
theorem open_hom9 {H:Type} {enc:TypeId × Value→H} {base fuel:Nat} {held:Bool} {x0 x1 x2 x3 x4 x5 x6 x7 x8:Value} {y:DataW H × List MemPlace}
 (h:DataW.trod enc Tryz.prog w base (fun _=>true) held fuel 55 [x0,x1,x2,x3,x4,x5,x6,x7,x8]=some y) :
 ∃ p:HV,x0=.bool p.x.s∧x1=.slice p.x.A p.x.n p.x.c∧x2=.slice p.x.B p.x.m p.x.d∧x3=.bool p.y.s∧x4=.slice p.y.A p.y.n p.y.c∧x5=.slice p.y.B p.y.m p.y.d∧x6=.bool p.w.s∧x7=.slice p.w.A p.w.n p.w.c∧x8=.slice p.w.B p.w.m p.w.d∧p.Raw w:=by
 have e3:Tryz.prog.cellsOf 27=3:=by kernel_rfl
 obtain ⟨xs,n,_,_,_,hlen,hi⟩:=DataW.trod_struct Tryz.underlying55 h
 match xs,hlen with
 | [y0,y1,y2],_ =>
   have h0:=hi 0 _ rfl
   simp [e3] at h0
   have h1:=hi 1 _ rfl
   simp [e3] at h1
   have h2:=hi 2 _ rfl
   simp [e3] at h2
   obtain ⟨q0,z0,s0,rfl,rfl,rfl,r0,t0⟩:=open_rat3 h0
   obtain ⟨q1,z1,s1,rfl,rfl,rfl,r1,t1⟩:=open_rat3 h1
   obtain ⟨q2,z2,s2,rfl,rfl,rfl,r2,t2⟩:=open_rat3 h2
   exact ⟨⟨q0,q1,q2⟩,rfl,rfl,rfl,rfl,rfl,rfl,rfl,rfl,rfl,⟨⟨z0,r0⟩,⟨s0,t0⟩⟩,⟨⟨z1,r1⟩,⟨s1,t1⟩⟩,⟨z2,r2⟩,⟨s2,t2⟩⟩
theorem open_zhoms {H:Type} {enc:TypeId × Value→H} {base:Nat} {held:Bool} {r:Reach} {b0:Nat} {v:Value} {d:DataW H} {p:List MemPlace}
 (hv:Value.okWide Tryz.prog w r b0 22 v) (h:DataW.Trod enc Tryz.prog w base (fun _=>true) held 22 v d p) :
 ∃ (A:Option Addr) (n c:Nat) (L:List HV),v=.slice A n c∧SV w A (hvs L)∧L.length=n∧n≤c∧n≤maxLen∧∀ q ∈ L,q.Raw w:=by
 obtain ⟨A,n,c,rfl⟩:=okWide_slice Tryz.underlying22 hv
 have e9:Tryz.prog.cellsOf 55=9:=by kernel_rfl
 obtain ⟨fuel,hf⟩:=h
 rcases DataW.trod_slice Tryz.underlying22 hf with ⟨h0,_⟩ | ⟨a,len,cap,elems,rest,m,_,h0,_,hb,hl,hm,hlen,hel,_,_⟩
 · simp [Value.cells] at h0
   obtain ⟨rfl,rfl,rfl⟩:=h0
   exact ⟨none,0,0,[],rfl,SV.nil _ _,rfl,Nat.le_refl _,Nat.zero_le _,fun q hq=>by cases hq⟩
 · simp [Value.cells] at h0
   obtain ⟨rfl,rfl,rfl⟩:=h0
   rw [e9] at hel
   have each:∀ i,i < n→∃ q:HV,(∀ j u,q.cells[j]?=some u→w.cell? ((a.add (i*9)).add j)=some u)∧q.Raw w:=by
    intro i hi
    have h1:=hel i hi
    rw [List.getElem?_eq_getElem (by rw [hlen];exact hi)] at h1
    obtain ⟨cs,hc1,hc2⟩:=Option.bind_eq_some_iff.1 h1
    unfold World.cells? at hc1
    split at hc1
    · have hcl:=mapM_some_length hc1
      have hcg:=fun k (hk:k < 9)=>mapM_some_get hc1 k k (by simp [hk])
      rw [List.length_range] at hcl
      match cs,hcl with
      | [x0,x1,x2,x3,x4,x5,x6,x7,x8],_ =>
        obtain ⟨p,rfl,rfl,rfl,rfl,rfl,rfl,rfl,rfl,rfl,r1⟩:=open_hom9 hc2
        refine ⟨p,fun j u hu=>?_,r1⟩
        have hj:j < 9:=(List.getElem?_eq_some_iff.1 hu).1
        have:=hcg j hj
        rw [this];exact hu
    · cases hc1
   obtain ⟨L,hL,hq⟩:∃ L:List HV,L.length=n∧∀ i q,L[i]?=some q→(∀ j u,q.cells[j]?=some u→w.cell? ((a.add (i*9)).add j)=some u)∧q.Raw w:=by
    have:∀ m,m≤n→∃ L:List HV,L.length=m∧∀ i q,L[i]?=some q→(∀ j u,q.cells[j]?=some u→w.cell? ((a.add (i*9)).add j)=some u)∧q.Raw w:=by
     intro m
     induction m with
     | zero=>intro _;exact ⟨[],rfl,fun i q h=>by cases h⟩
     | succ m ih =>
       intro hm
       obtain ⟨L,h1,h2⟩:=ih (by omega)
       obtain ⟨q,h3⟩:=each m (by omega)
       refine ⟨L ++ [q],by rw [List.length_append,h1];rfl,fun i x hx=>?_⟩
       rcases Nat.lt_or_ge i L.length with k | k
       · rw [List.getElem?_append_left k] at hx;exact h2 i x hx
       · rw [List.getElem?_append_right k] at hx
         have:i - L.length=0:=by
          have:=(List.getElem?_eq_some_iff.1 hx).1
          simp at this;omega
         rw [this] at hx
         cases hx
         rw [show i=m by omega];exact h3
    exact this n (Nat.le_refl _)
   refine ⟨some a,n,c,L,rfl,fun hn=>?_,hL,hl,by omega,fun q hq2=>?_⟩
   · have hn0:0 < n:=by rw [show (hvs L).length=L.length*9 from rows_length hvc_len L,hL] at hn;omega
     obtain ⟨b,o,spot⟩:=a
     have hx:=(hq 0 _ (List.getElem?_eq_getElem (by rw [hL];exact hn0))).1 0 _ rfl
     have hspot:spot=none:=by simpa [Addr.add] using World.cell?_spot hx
     subst hspot
     refine ⟨b,o,rfl,?_,fun j u hu=>?_⟩
     · rw [add_at,add_at] at hx
       exact World.block_lt_of_cell? w _ hx
     · have hj:=(List.getElem?_eq_some_iff.1 hu).1
       rw [show (hvs L).length=L.length*9 from rows_length hvc_len L,hL] at hj
       obtain ⟨i,k,hk,rfl⟩:∃ i k,k < 9∧j=i*9+k:=⟨j / 9,j % 9,Nat.mod_lt _ (by decide),by omega⟩
       have hi:i < L.length:=by omega
       have hg:=List.getElem?_eq_getElem hi
       have:=(hq i _ hg).1 k u (by rw [← rows_get hvc_len hg hk];exact hu)
       rw [add_at,add_at] at this
       rwa [← Nat.add_assoc]
   · obtain ⟨i,hi⟩:=List.getElem?_of_mem hq2
     exact (hq i q hi).2
theorem raw_qr {q:QV} {M:Nat} (h:q.Raw w) (hs:q.small M):∃ v,QR w q.s q.A q.n q.c q.B q.m q.d v M:=by
 obtain ⟨⟨_,ra⟩,⟨_,ta⟩⟩:=h
 obtain ⟨l1,a1,b1,c1,_⟩:=ra.rd
 obtain ⟨l2,a2,b2,c2,_⟩:=ta.rd
 exact ⟨_,QR.of_rd a1 b1 c1 a2 b2 c2 hs.1 hs.2⟩
theorem raw_hr {p:HV} {M:Nat} (h:p.Raw w) (hs:p.small M):∃ u,HR w p u M:=by
 obtain ⟨x,hx⟩:=raw_qr h.1 hs.1
 obtain ⟨y,hy⟩:=raw_qr h.2.1 hs.2.1
 obtain ⟨z,hz⟩:=raw_qr h.2.2 hs.2.2
 exact ⟨⟨x,y,z⟩,hx,hy,hz⟩
theorem raw_eachH {M:Nat}:∀ {L:List HV},(∀ p ∈ L,p.Raw w)→(∀ p ∈ L,p.small M)→∃ l,EachH HR w L l M
 | [],_,_=>⟨[],EachH.nil⟩
 | p :: L,h,hs=>by
   obtain ⟨u,hu⟩:=raw_hr (h p List.mem_cons_self) (hs p List.mem_cons_self)
   obtain ⟨l,hl⟩:=raw_eachH (L:=L) (fun q hq=>h q (List.mem_cons_of_mem _ hq)) (fun q hq=>hs q (List.mem_cons_of_mem _ hq))
   refine ⟨u :: l,by rw [List.length_cons,List.length_cons,hl.1],fun i q v h1 h2=>?_⟩
   match i,h1,h2 with
   | 0,h1,h2=>cases h1;cases h2;exact hu
   | i+1,h1,h2=>exact hl.2 i q v h1 h2
end
section
open Go Go.RowKit
theorem law_ftl {A:Option Addr} {n c:Nat} {s:Bool} {A1 A2:Option Addr} {n1 c1 n2 c2:Nat} {L:List HV} (hL:SV w A (hvs L)) (hn:L.length=n) (hnc:n≤c) (hm:n≤maxLen) (hz:∀ p ∈ L,p.Raw w) {l1 l2:List Nat} (r1:Rd .u64 w A1 n1 l1) (r2:Rd .u64 w A2 n2 l2) (t1:Lim B64 l1) (t2:Lim B64 l2) (e1:n1≤c1) (e2:n2≤c2) :
 Calls Tryz.prog 3 #[.slice A n c,.agg #[.bool s,.slice A1 n1 c1,.slice A2 n2 c2]] w fun e w'=>e=.returned (.bool true)∧Below w.heap.size w w':=by
 by_cases hs:(∀ p ∈ L,p.small 4)∧n≤6
 · by_cases hq:n1≤4∧n2≤4
   · obtain ⟨V,hE⟩:=raw_eachH hz hs.1
     obtain ⟨vt,t⟩:∃ vt,QR w s A1 n1 c1 A2 n2 c2 vt 4:=⟨_,QR.of_rd r1 t1 e1 r2 t2 e2 hq.1 hq.2⟩
     by_cases hg:GoodH V
     · by_cases hr:0≤vt∧gapQ V≤vt*vt
       · exact ftl_yes hL hn hE hs t hq hnc hg hr
       · exact ftl_no hL hn hE hs t hq hnc hg hr
     · exact ftl_bad hL hn hE hs t hq hnc hg
   · exact ftl_s hL hn hm hs hq
 · exact ftl_f hL hn hm hs
end
end Go.Proofs.YtlpogecpdfdggaaGreat
