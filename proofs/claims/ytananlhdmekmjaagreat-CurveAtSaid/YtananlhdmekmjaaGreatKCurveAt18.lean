/- CurveAt: part 18. -/
import Derived.OpenShut
import Derived.Test.YtananlhdmekmjaaGreatKCurveAt0
import Derived.Test.YtananlhdmekmjaaGreatKCurveAt12
import Derived.Test.YtananlhdmekmjaaGreatKCurveAt15
import Derived.Test.YtananlhdmekmjaaGreatKCurveAt16
import Derived.Test.YtananlhdmekmjaaGreatKCurveAt17
set_option linter.unusedVariables false
set_option maxRecDepth 100000
set_option maxHeartbeats 16000000
variable {w:Go.World}
namespace Go.Proofs.YtananlhdmekmjaaGreat
section
open Go Go.RowKit
attribute [local go_sem ↓] open_LVH open_STH open_LVJ open_STJ
def VLJ (V:List AH) (n k:Nat) (x:Value) (w:World):Prop:=∃ M,LnH 75 0 w x M∧EachH RH w M V k∧M.length=n
theorem stays_lj (V:List AH) (n k:Nat) (L:List BoxOp) (hL:∀ p ∈ L,p.T ≠ 75):StaysIn L (VLJ V n k):=by
 refine ⟨fun x w w' ⟨M,h1,h2,h3⟩ hb=>⟨M,h1.below hb,EachH.belowJ h2 hb,h3⟩,fun p hp x w w' g cs ⟨M,h1,h2,h3⟩ hB ho=>⟨M,h1.kept fun g2 hg=>?_,⟨h2.1,fun i q u e1 e2=>(h2.2 i q u e1 e2).box hB ho⟩,h3⟩⟩
 obtain ⟨c2,hc⟩:=h1.free g2 hg
 exact ho.block g2 hc.lt (BoxAt.ne hc hB (.inl (hL p hp).symm))
abbrev L_cat3:List Nat:=[22,23,24,25,6,5]
def o0_cat3:Oper:=⟨some 22,.move (.tmp 0),37, "law.go:65",#[],none⟩
def o1_cat3:Oper:=⟨some 23,.call ⟨.value (.func 19),#[.tmp 22],#[37]⟩,41, "law.go:65",#[⟨0,.data⟩],none⟩
def o2_cat3:Oper:=⟨some 24,.load 26 (.tmp 3),26, "law.go:65",#[],none⟩
def o3_cat3:Oper:=⟨some 25,.call ⟨.value (.func 20),#[.tmp 24],#[26]⟩,49, "law.go:65",#[⟨2,.data⟩,⟨1,.chain⟩],none⟩
def o4_cat3:Oper:=⟨some 6,.alloc 49,0, "law.go:65",#[],none⟩
def o5_cat3:Oper:=⟨some 5,.assign (.tmp 23),41, "law.go:65",#[⟨1,.data⟩,⟨3,.chain⟩,⟨0,.phase⟩,⟨1,.phase⟩,⟨2,.textOnly .lateStores⟩,⟨3,.textOnly .lateStoresUnsure⟩,⟨4,.phase⟩],none⟩
def o6_cat3:Oper:=⟨none,.store 49 (.tmp 6) (.tmp 25),0, "law.go:65",#[⟨4,.data⟩,⟨3,.data⟩,⟨5,.chain⟩,⟨0,.phase⟩,⟨1,.phase⟩,⟨2,.phase⟩,⟨3,.phase⟩,⟨4,.phase⟩,⟨5,.phase⟩],none⟩
theorem rc_gesso_gessoref13_Ins {e:Operand→Value} {x0:Operand} {d:Option Tmp} {y:Nat} {pos:String} {af:Array Edge} {u0:Value} (h0:e x0=u0) (hf:e (.func 19)=.func (.func 19) #[] #[]) :
 (execOp e ⟨d,.call ⟨.value (.func 19),#[x0],#[37]⟩,y,pos,af,none⟩).run Tryz.prog w=.ok (.enter 19 #[u0]) w:=by
 go_simp
def F_cat3 (A:Option Addr) (n:Nat) (c:Nat) (s:Bool) (A1:Option Addr) (A2:Option Addr) (n1:Nat) (c1:Nat) (n2:Nat) (c2:Nat) (VV:List AH) (vt:Rat) (sl:Nat):Value→World→Prop :=
 match sl with
 | 22=>fun x _=>x=Value.slice A n c
 | 23=>VLJ (VV) (n) (2*4)
 | 24=>fun x _=>x=Value.agg #[.bool s,.slice A1 n1 c1,.slice A2 n2 c2]
 | 25=>VRQ (vt) (2*2)
 | 5=>VLJ (VV) (n) (2*4)
 | _=>fun _ _=>True
def B0_cat3 (vt:Rat):BoxOp :=
 ⟨4,6,6,49,#[.bool false,.slice none 0 0,.slice none 0 0],fun cs w=>∃ s A n c B m d,cs=#[.bool s,.slice A n c,.slice B m d]∧RQ w s A n c B m d (vt) (2*2)⟩
theorem cat3_region {id:Nat} {ac:Act} {Q:Exit→Act→World→Prop} {A:Option Addr} {n c:Nat} {s:Bool} {A1 A2:Option Addr} {n1 c1 n2 c2:Nat} {L:List HV} {VV:List AH} {vt:Rat} {gt:Nat}
 (hsz:25 < ac.tmps.size) (e3:ac.eval (.tmp 3)=Value.pointer (some ⟨gt,0,none⟩)) (e0:ac.eval (.tmp 0)=Value.slice A n c) (XT:B3 w gt (.bool s) (.slice A1 n1 c1) (.slice A2 n2 c2)) (tq:QR w s A1 n1 c1 A2 n2 c2 vt 2) (hL:SV w A (hvs L)) (hE:EachH HR w L VV 4) (hn:L.length=n) (hn9:n≤1000) (hVn:VV.length=n)
 (hend:∀ (V:Nat→Value) (w':World) (g0:Nat) (s0:Bool) (A0:Option Addr) (n0:Nat) (c0:Nat) (B0:Option Addr) (m0:Nat) (d0:Nat),RQ w' s0 A0 n0 c0 B0 m0 d0 (vt) (2*2)→B3R w' g0 (.bool s0) (.slice A0 n0 c0) (.slice B0 m0 d0)→w.heap.size≤g0→V 6=.pointer (some ⟨g0,0,none⟩)→(VLJ (VV) (n) (2*4)) (V 5) w'→Below w.heap.size w w'→Q .normal (putAll ac [22,23,24,25,6,5] V) w') :
 (Code.region id #[o0_cat3,o1_cat3,o2_cat3,o3_cat3,o4_cat3,o5_cat3,o6_cat3] true).wp Tryz.prog Q ac w:=by
 have hnd:L_cat3.Nodup:=by decide
 have G:∀ (sv:Nat→Value) (t:Nat),t ∈ L_cat3→t≤25→(putAll ac L_cat3 sv).eval (.tmp t)=sv t:=fun sv t ht h=>eval_putAll_mem (t:=t) L_cat3 ac hnd ht (Nat.lt_of_le_of_lt h hsz)
 have E3:∀ sv:Nat→Value,(putAll ac L_cat3 sv).eval (.tmp 3)=Value.pointer (some ⟨gt,0,none⟩):=fun sv=>(eval_putAll_not (v:=sv) L_cat3 ac (show 3 ∉ _ by decide)).trans e3
 have E0:∀ sv:Nat→Value,(putAll ac L_cat3 sv).eval (.tmp 0)=Value.slice A n c:=fun sv=>(eval_putAll_not (v:=sv) L_cat3 ac (show 0 ∉ _ by decide)).trans e0
 have NE:∀ t:Nat,(t ≠ 6)→∀ p ∈ [B0_cat3 vt],t ≠ p.tA:=by
  intro t ht p hp
  simp only [List.mem_cons,List.not_mem_nil,or_false] at hp
  rcases hp with rfl
  · exact ht
 refine wp_region_flowsT L_cat3 [B0_cat3 vt] (F_cat3 A n c s A1 A2 n1 c1 n2 c2 VV vt) (by kernel_rfl) (by kernel_rfl) rfl hnd ?_ ?_ ?_ ?_ ?_ ?_ ?_ ?_
 · intro p hp
   simp only [List.mem_cons,List.not_mem_nil,or_false] at hp
   rcases hp with rfl
   · refine ⟨⟨o4_cat3,rfl,rfl,rfl,fun e w'=>run_alloc3⟩,⟨o6_cat3,rfl,rfl,rfl,⟨4,.data⟩,by simp [o6_cat3],rfl,rfl⟩,free3 _ _ _ _ _ _ _,?_,?_⟩
     · rintro cs w1 w2 ⟨s_,A_,n_,c_,B_,m_,d_,rfl,h⟩ hb;exact ⟨s_,A_,n_,c_,B_,m_,d_,rfl,h.below hb⟩
     · rintro T cs w1 w2 g c0 ⟨s_,A_,n_,c_,B_,m_,d_,rfl,h⟩ hB ho;exact ⟨s_,A_,n_,c_,B_,m_,d_,rfl,h.box hB ho⟩
 · intro p hp q hq h
   simp only [List.mem_cons,List.not_mem_nil,or_false] at hp hq
   rcases hp with rfl <;> rcases hq with rfl
   · rfl
 · intro p hp q hq h
   simp only [List.mem_cons,List.not_mem_nil,or_false] at hp hq
   rcases hp with rfl <;> rcases hq with rfl
   · rfl
 · intro i o h1 h2
   match i,h1 with
   | 0,h1=>cases h1;cases h2
   | 1,h1=>cases h1;cases h2
   | 2,h1=>cases h1;cases h2
   | 3,h1=>cases h1;cases h2
   | 4,h1=>cases h1;cases h2
   | 5,h1=>cases h1;cases h2
   | 6,h1=>exact ⟨B0_cat3 vt,List.Mem.head _,rfl⟩
   | i+7,h1=>cases h1
 · intro t
   unfold F_cat3
   split <;> first | exact (stays_eq _).inn _ | exact (stays_q _ _).inn _ | exact (stays_z _ _).inn _ | exact (stays_r _ _).inn _ | exact (stays_rq _ _).inn _ | exact (stays_pg _ _ _).inn _ | exact (stays_true).inn _ | exact stays_lj _ _ _ _ (by intro p hp;simp only [List.mem_cons,List.not_mem_nil,or_false] at hp;rcases hp with rfl;show 49 ≠ 75;decide)
 · intro i o t sv w' ho hia hd J0 hf
   have XT:=XT.below J0;have tq:=tq.below J0
   match i,ho with
   | 0,ho =>
     obtain rfl:o0_cat3=o:=Option.some.inj ho
     cases hd
     refine wpOp_plain' (o:=o0_cat3) rfl rfl ?_
     unfold Oper.wp o0_cat3
     rw [run_move (E0 sv),Oper.upon_value]
     exact ⟨_,rfl,Below.refl _ _,rfl⟩
   | 1,ho =>
     obtain rfl:o1_cat3=o:=Option.some.inj ho
     cases hd
     have f22:sv 22=Value.slice A n c:=hf ⟨0,.data⟩ (by simp [o1_cat3]) rfl _ 22 rfl rfl (NE _ (by decide))
     refine wpOp_plain' (o:=o1_cat3) rfl rfl ?_
     unfold Oper.wp o1_cat3
     rw [rc_gesso_gessoref13_Ins ((G sv 22 (by decide) (by decide)).trans f22) rfl,Oper.upon_enter]
     refine (rins13 (SV.below hL J0) (EachH.belowR hE J0) hn hn9 (by decide) (by decide)).mono ?_
     rintro e w1 ⟨v1,M1,rfl,l1,e1,hh⟩
     exact ⟨_,rfl,hh,M1,l1.base_le (Nat.zero_le _),e1,e1.1.trans hVn⟩
   | 2,ho =>
     obtain rfl:o2_cat3=o:=Option.some.inj ho
     cases hd
     refine wpOp_plain' (o:=o2_cat3) rfl rfl ?_
     unfold Oper.wp o2_cat3
     rw [run_loadQ (E3 sv) XT.c0 XT.c1 XT.c2,Oper.upon_value]
     exact ⟨_,rfl,Below.refl _ _,rfl⟩
   | 3,ho =>
     obtain rfl:o3_cat3=o:=Option.some.inj ho
     cases hd
     have f24:sv 24=Value.agg #[.bool s,.slice A1 n1 c1,.slice A2 n2 c2]:=hf ⟨2,.data⟩ (by simp [o3_cat3]) rfl _ 24 rfl rfl (NE _ (by decide))
     refine wpOp_plain' (o:=o3_cat3) rfl rfl ?_
     unfold Oper.wp o3_cat3
     rw [rc_gesso_gessoref03_In ((G sv 24 (by decide) (by decide)).trans f24) rfl,Oper.upon_enter]
     refine (rin3 tq (by decide) (by decide)).mono ?_
     rintro e w1 ⟨s_,A_,n_,c_,B_,m_,d_,rfl,hq,hh⟩
     exact ⟨_,rfl,hh,s_,A_,n_,c_,B_,m_,d_,rfl,hq⟩
   | 4,ho=>cases ho;cases hd;exact absurd rfl (hia (B0_cat3 vt) (List.Mem.head _))
   | 5,ho =>
     obtain rfl:o5_cat3=o:=Option.some.inj ho
     cases hd
     have f:=hf ⟨1,.data⟩ (by simp [o5_cat3]) rfl _ 23 rfl rfl (NE _ (by decide))
     refine wpOp_plain' (o:=o5_cat3) rfl rfl ?_
     unfold Oper.wp o5_cat3
     rw [run_assign (G sv 23 (by decide) (by decide)),Oper.upon_value]
     exact ⟨_,rfl,Below.refl _ _,f⟩
   | 6,ho=>cases ho;cases hd
   | i+7,ho=>cases ho
 · intro p hp os sv w' g hos J0 p1 p3 hf
   simp only [List.mem_cons,List.not_mem_nil,or_false] at hp
   rcases hp with rfl
   · obtain rfl:o6_cat3=os:=Option.some.inj hos
     have h1:VRQ (vt) (2*2) (sv 25) w':=hf ⟨3,.data⟩ (by simp [o6_cat3]) rfl _ 25 rfl rfl (NE _ (by decide))
     rw [← G sv 25 (by decide) (by decide)] at h1
     refine store_rq (V:=vt) (k:=2*2) (ac:=putAll ac L_cat3 sv) (z:=.tmp 25) ?_ ?_ ?_
     · exact (G sv 6 (by decide) (by decide)).trans p1
     · exact h1
     · exact p3
 · intro sv w' J0 hF hB hap
   obtain ⟨g0,cs0,p0,r0,b0,⟨s0,A0,n0,c0,B0,m0,d0,rfl,h0⟩⟩:=hB (B0_cat3 vt) (List.Mem.head _)
   have p0':sv 6=.pointer (some ⟨g0,0,none⟩):=p0
   exact hend sv w' g0 _ _ _ _ _ _ _ h0 b0.at_ r0 p0'  (hF 5 _ 5 rfl rfl (NE _ (by decide))) J0
theorem sgn_zero {v:Rat} (h:sgnQ v=0):v=0:=by
 unfold sgnQ at h
 split at h
 · cases h
 · split at h
   · assumption
   · cases h
theorem at_f {A:Option Addr} {n c:Nat} {s:Bool} {A1 A2:Option Addr} {n1 c1 n2 c2:Nat} {L:List HV} (hL:SV w A (hvs L)) (hn:L.length=n) (hm:n≤maxLen) (hf:¬ ((∀ p ∈ L,p.small 4)∧n≤6)) :
 Calls Tryz.prog 4 #[.slice A n c,.agg #[.bool s,.slice A1 n1 c1,.slice A2 n2 c2]] w fun e w'=>e=.returned (.bool true)∧Below w.heap.size w w':=by
 have HF:=Lib.hid hf;have HN:=Lib.hid hn;clear hf hn
 go_enter Tryz.func4,Tryz.ntmps4
 go_upto_region 1 with (fail)
 generalize hW:World.alloc _ _=W
 obtain ⟨hb,XT,hzW⟩:=mkbx12_8 hW;clear hW;replace hL:=hL.below hb
 go_wp2_with (first
  | (go_at_call 17;(with_reducible refine (fair13_f hL HN.out hm HF.out).mono ?_);rintro e w_z ⟨rfl,hh⟩
     replace hb:=bend hb hh)
  | (go_at_call 10;(with_reducible refine (wakes13_any _).mono ?_);rintro e w_z ⟨rfl,hh⟩
     replace hb:=bend hb hh))
 (try rw [Exit.noGoto_ret])
 go_ret;exact ⟨rfl,hb⟩
theorem at_m {A:Option Addr} {n c:Nat} {s:Bool} {A1 A2:Option Addr} {n1 c1 n2 c2:Nat} {L:List HV} (hL:SV w A (hvs L)) (hn:L.length=n) (hm:n≤maxLen) (hf:(∀ p ∈ L,p.small 4)∧n≤6) (hs:¬ (n1≤2∧n2≤2)) :
 Calls Tryz.prog 4 #[.slice A n c,.agg #[.bool s,.slice A1 n1 c1,.slice A2 n2 c2]] w fun e w'=>e=.returned (.bool true)∧Below w.heap.size w w':=by
 have HF:=Lib.hid hf;have HN:=Lib.hid hn
 have HS:Hid (decide (n1≤2∧n2≤2)=false):=decide_eq_false hs
 have H2:Hid ((2:Int)=((2:Nat):Int)):=rfl
 clear hf hn hs
 go_enter Tryz.func4,Tryz.ntmps4
 go_upto_region 1 with (fail)
 generalize hW:World.alloc _ _=W
 obtain ⟨hb,XT,hzW⟩:=mkbx12_8 hW;clear hW;replace hL:=hL.below hb;obtain ⟨xt0,xt1,xt2⟩:=XT.all
 go_wp2_with (first
  | (go_at_call 17;(with_reducible refine (fair13_t hL HN.out hm HF.out).mono ?_);rintro e w_z ⟨rfl,hh⟩
     (try replace hL:=hL.below hh);(try replace XT:=XT.below hh);replace hb:=bend hb hh;obtain ⟨xt0,xt1,xt2⟩:=XT.all)
  | (go_at_call 18;(with_reducible refine (smallI 2 H2.out (s:=s) (A:=A1) (n:=n1) (c:=c1) (A':=A2) (n':=n2) (c':=c2) _ false HS.out).mono ?_);rintro e w_z ⟨rfl,hh⟩
     (try replace XT:=XT.below hh);replace hb:=bend hb hh)
  | (go_at_call 10;(with_reducible refine (wakes13_any _).mono ?_);rintro e w_z ⟨rfl,hh⟩
     replace hb:=bend hb hh))
 (try rw [Exit.noGoto_ret])
 go_ret;exact ⟨rfl,hb⟩
theorem at_p {A:Option Addr} {n c:Nat} {s:Bool} {A1 A2:Option Addr} {n1 c1 n2 c2:Nat} {L:List HV} {V:List AH} {vt:Rat} (hL:SV w A (hvs L)) (hn:L.length=n) (hE:EachH HR w L V 4) (hm:n≤maxLen) (hf:(∀ p ∈ L,p.small 4)∧n≤6) (q:QR w s A1 n1 c1 A2 n2 c2 vt 2) (hs:n1≤2∧n2≤2) :
 Calls Tryz.prog 4 #[.slice A n c,.agg #[.bool s,.slice A1 n1 c1,.slice A2 n2 c2]] w fun e w'=>e=.returned (.bool true)∧Below w.heap.size w w':=by
 have HF:=Lib.hid hf;have HN:=Lib.hid hn
 have HS:Hid (decide (n1≤2∧n2≤2)=true):=decide_eq_true hs
 have H2:Hid ((2:Int)=((2:Nat):Int)):=rfl
 have HN9:Hid (n≤1000):=by show _≤_;omega
 have HVn:Hid (V.length=n):=hE.1.symm.trans hn
 clear hf hn hs
 go_enter Tryz.func4,Tryz.ntmps4
 go_upto_region 1 with (fail)
 generalize hW:World.alloc _ _=W
 obtain ⟨hb,XT,hzW⟩:=mkbx12_8 hW;clear hW;replace hL:=hL.below hb;replace q:=q.below hb;replace hE:=EachH.belowR hE hb;obtain ⟨xt0,xt1,xt2⟩:=XT.all
 go_upto_region 3 with (first
  | (go_at_call 17;(with_reducible refine (fair13_t hL HN.out hm HF.out).mono ?_);rintro e w_z ⟨rfl,hh⟩
     (try replace hL:=hL.below hh);(try replace q:=q.below hh);(try replace XT:=XT.below hh);replace hb:=bend hb hh;replace hE:=EachH.belowR hE hh;obtain ⟨xt0,xt1,xt2⟩:=XT.all)
  | (go_at_call 18;(with_reducible refine (smallI 2 H2.out (s:=s) (A:=A1) (n:=n1) (c:=c1) (A':=A2) (n':=n2) (c':=c2) _ true HS.out).mono ?_);rintro e w_z ⟨rfl,hh⟩
     (try replace hL:=hL.below hh);(try replace q:=q.below hh);(try replace XT:=XT.below hh);replace hb:=bend hb hh;replace hE:=EachH.belowR hE hh;clear xt0 xt1 xt2))
 refine cat3_region (by simp) rfl rfl XT q hL hE HN.out HN9.out HVn.out ?_
 intro V1 w_3 g_k s_k A_k n_k c_k B_k m_k d_k tk XK hg_k hvk h5 hh
 obtain ⟨M,lM,e1,hMn⟩:=h5
 obtain ⟨A_x,c_x,hv5,_,_⟩:=lM.form
 rw [hMn] at hv5;rw [hv5] at lM;have LM:=lM.sv
 simp only [putAll,Act.put,List.setIfInBounds_toArray,List.set_cons_zero,List.set_cons_succ,hvk,hv5]
 have HMn:=Lib.hid hMn;clear hvk hv5 lM hMn;replace hL:=hL.below hh;replace hE:=EachH.belowR hE hh;replace q:=q.below hh;replace XT:=XT.below hh;replace hb:=bend hb hh;clear hh hg_k hzW;obtain ⟨xt0,xt1,xt2⟩:=XT.all
 by_cases hg:GoodH V
 rotate_left
 focus
  have HR:Hid (false=true ↔ GoodH V):=⟨fun e=>by (cases e),fun e=>absurd e hg⟩
  have HG:=Lib.hid hg;clear hg
  go_upto_region 5 with (first
   | (go_at_call 21;(with_reducible refine (cat_f hL hE HN.out q (by decide) (by decide) (by decide) (by decide) HR.out).mono ?_);rintro e w_a ⟨rfl,hh⟩
      (try replace hL:=hL.below hh);(try replace q:=q.below hh);(try replace XT:=XT.below hh);(try replace XK:=XK.below hh);(try replace LM:=LM.below hh);(try replace tk:=tk.below hh);replace hb:=bend hb hh;replace hE:=EachH.belowR hE hh;replace e1:=EachH.belowJ e1 hh;clear xt0 xt1 xt2))
  have XP:=B6.new' w_a (Value.bool false) (Value.slice none 0 0) (Value.slice none 0 0) (Value.bool false) (Value.slice none 0 0) (Value.slice none 0 0) w_a.heap.size rfl
  have hh:Below w_a.heap.size w_a (w_a.alloc (Obj.cells #[Value.bool false,Value.slice none 0 0,Value.slice none 0 0,Value.bool false,Value.slice none 0 0,Value.slice none 0 0] 28)):=(Below.refl w_a.heap.size w_a).alloc (Nat.le_refl _) _
  generalize (w_a.alloc (Obj.cells #[Value.bool false,Value.slice none 0 0,Value.slice none 0 0,Value.bool false,Value.slice none 0 0,Value.slice none 0 0] 28))=W2 at *
  replace hL:=hL.below hh;replace q:=q.below hh;replace XT:=XT.below hh;replace XK:=XK.below hh;replace LM:=LM.below hh;replace tk:=tk.below hh;replace hE:=EachH.belowR hE hh;replace e1:=EachH.belowJ e1 hh;replace hb:=bend hb hh;clear hh
  go_upto_region 14 with (first
   | (go_at_call 22;(with_reducible refine (rgood13_f LM e1 HMn.out HN9.out HG.out).mono ?_);rintro e w_z ⟨rfl,hh⟩
      (try replace hL:=hL.below hh);(try replace q:=q.below hh);(try replace XT:=XT.below hh);(try replace XK:=XK.below hh);(try replace LM:=LM.below hh);(try replace tk:=tk.below hh);(try replace XP:=XP.below hh);replace hb:=bend hb hh;replace hE:=EachH.belowR hE hh;replace e1:=EachH.belowJ e1 hh))
  clear tk q XT XK XP
  generalize w_z=W9 at *
 rotate_left
 by_cases ht:vt < 0
 focus
  have HR:Hid (true=true ↔ GoodH V):=⟨fun _=>hg,fun _=>rfl⟩
  have HG:=Lib.hid hg;have HT:=Lib.hid ht
  have HSg:Hid (sgnQ vt=-1):=by show _=_;unfold sgnQ;rw [if_pos ht]
  clear hg ht
  go_upto_region 5 with (first
   | (go_at_call 21;(with_reducible refine (cat_n hL hE HN.out q (by decide) (by decide) (by decide) (by decide) HR.out HT.out).mono ?_);rintro e w_a ⟨rfl,hh⟩
      (try replace hL:=hL.below hh);(try replace q:=q.below hh);(try replace XT:=XT.below hh);(try replace XK:=XK.below hh);(try replace LM:=LM.below hh);(try replace tk:=tk.below hh);replace hb:=bend hb hh;replace hE:=EachH.belowR hE hh;replace e1:=EachH.belowJ e1 hh;clear xt0 xt1 xt2))
  have XP:=B6.new' w_a (Value.bool false) (Value.slice none 0 0) (Value.slice none 0 0) (Value.bool false) (Value.slice none 0 0) (Value.slice none 0 0) w_a.heap.size rfl
  have hh:Below w_a.heap.size w_a (w_a.alloc (Obj.cells #[Value.bool false,Value.slice none 0 0,Value.slice none 0 0,Value.bool false,Value.slice none 0 0,Value.slice none 0 0] 28)):=(Below.refl w_a.heap.size w_a).alloc (Nat.le_refl _) _
  generalize (w_a.alloc (Obj.cells #[Value.bool false,Value.slice none 0 0,Value.slice none 0 0,Value.bool false,Value.slice none 0 0,Value.slice none 0 0] 28))=W2 at *
  replace hL:=hL.below hh;replace q:=q.below hh;replace XT:=XT.below hh;replace XK:=XK.below hh;replace LM:=LM.below hh;replace tk:=tk.below hh;replace hE:=EachH.belowR hE hh;replace e1:=EachH.belowJ e1 hh;replace hb:=bend hb hh;clear hh
  go_upto_region 11 with (first
   | (go_at_call 22;(with_reducible refine (rgood13_t LM e1 HMn.out HN9.out HG.out).mono ?_);rintro e w_z ⟨rfl,hh⟩
      (try replace hL:=hL.below hh);(try replace q:=q.below hh);(try replace XT:=XT.below hh);(try replace XK:=XK.below hh);(try replace LM:=LM.below hh);(try replace tk:=tk.below hh);(try replace XP:=XP.below hh);replace hb:=bend hb hh;replace hE:=EachH.belowR hE hh;replace e1:=EachH.belowJ e1 hh))
  replace hL:=hL.below (Below.refl _ _).drew
  replace q:=q.below (Below.refl _ _).drew
  replace XT:=XT.below (Below.refl _ _).drew
  replace XK:=XK.below (Below.refl _ _).drew
  replace LM:=LM.below (Below.refl _ _).drew
  replace tk:=tk.below (Below.refl _ _).drew
  replace XP:=XP.below (Below.refl _ _).drew
  replace hE:=EachH.belowR hE (Below.refl _ _).drew
  replace e1:=EachH.belowJ e1 (Below.refl _ _).drew
  replace hb:=hb.drew
  refine wp_region_held_drew (S:=(fun w'=>w'.cell? ⟨g_k,0,none⟩=some (.bool s_k)∧w'.cell? ⟨g_k,1,none⟩=some (.slice A_k n_k c_k)∧w'.cell? ⟨g_k,2,none⟩=some (.slice B_k m_k d_k))) (by kernel_rfl) (by with_reducible exact ⟨XK.c0,XK.c1,XK.c2⟩) (fun hHeld=>?_)
  refine wpAnyH_take (i:=0) (oi:=⟨some 50,.load 49 (.tmp 6),49, "law.go:73",#[],none⟩) (v:=?_) rfl (by kernel_rfl) (by kernel_rfl) (by kernel_rfl) (fun _ _ _ h=>h) (Or.inl ⟨by rfl,?_⟩) hHeld ?_
  rotate_left
  · (intro w hSw;(try dsimp only at hSw);go_simp;try with_reducible rfl)
  simp only [Act.put,List.setIfInBounds_toArray,List.set_cons_zero,List.set_cons_succ]
  refine wpAnyH_ready (rs:=[1]) (by kernel_rfl) (by simp) ?_
  refine AllReadyH.cons (o:=⟨some 51,.call ⟨.value (.func 23),#[.tmp 50],#[49]⟩,3, "law.go:73",#[⟨0,.data⟩],none⟩) rfl (fun K1 hK1=>?_) AllReadyH.nil
  go_simp
  first
  | (go_at_call 23;(with_reducible refine (rsign3 tk).mono ?_);rintro e w_s ⟨rfl,hh⟩;rw [HSg.out]
     (try replace hL:=hL.below hh);(try replace q:=q.below hh);(try replace XT:=XT.below hh);(try replace XK:=XK.below hh);(try replace LM:=LM.below hh);(try replace tk:=tk.below hh);(try replace XP:=XP.below hh);replace hb:=bend hb hh;replace hE:=EachH.belowR hE hh;replace e1:=EachH.belowJ e1 hh)
  refine hK1.out _ _ (by with_reducible exact ⟨XK.c0,XK.c1,XK.c2⟩) (fun hHeld=>?_)
  clear hK1 K1
  refine wpAnyH_take (i:=2) (oi:=⟨some 52,.binOp BinOp.lss 3 (.tmp 51) (.const (Value.int IntKind.i64 0)) 3,4, "law.go:73",#[⟨1,.data⟩],none⟩) (v:=?_) rfl (by kernel_rfl) (by kernel_rfl) (by kernel_rfl) (fun _ _ _ h=>h) (Or.inl ⟨by rfl,?_⟩) hHeld ?_
  rotate_left
  · (intro w hSw;(try dsimp only at hSw);go_simp;try with_reducible rfl)
  simp only [Act.put,List.setIfInBounds_toArray,List.set_cons_zero,List.set_cons_succ]
  refine wpAnyH_take (i:=3) (oi:=⟨some 53,.move (.tmp 52),4, "law.go:73",#[⟨2,.data⟩,⟨1,.chain⟩],none⟩) (v:=?_) rfl (by kernel_rfl) (by kernel_rfl) (by kernel_rfl) (fun _ _ _ h=>h) (Or.inl ⟨by rfl,?_⟩) hHeld ?_
  rotate_left
  · (intro w hSw;(try dsimp only at hSw);go_simp;try with_reducible rfl)
  simp only [Act.put,List.setIfInBounds_toArray,List.set_cons_zero,List.set_cons_succ]
  refine wpAnyH_take (i:=4) (oi:=⟨some 54,.load 49 (.tmp 6),49, "law.go:73",#[⟨3,.guard⟩],some (3,false)⟩) (v:=undef) rfl (by kernel_rfl) (by kernel_rfl) (by kernel_rfl) (fun _ _ _ h=>h) (Or.inr ⟨by rfl,rfl⟩) hHeld ?_
  simp only [Act.put,List.setIfInBounds_toArray,List.set_cons_zero,List.set_cons_succ]
  refine wpAnyH_take (i:=5) (oi:=⟨some 55,.call ⟨.value (.func 25),#[.const (Value.int IntKind.i64 1),.const (Value.int IntKind.i64 1)],#[2,2]⟩,49, "law.go:73",#[⟨3,.chain⟩,⟨3,.guard⟩],some (3,false)⟩) (v:=undef) rfl (by kernel_rfl) (by kernel_rfl) (by kernel_rfl) (fun _ _ _ h=>h) (Or.inr ⟨by rfl,rfl⟩) hHeld ?_
  simp only [Act.put,List.setIfInBounds_toArray,List.set_cons_zero,List.set_cons_succ]
  refine wpAnyH_take (i:=6) (oi:=⟨some 56,.call ⟨.value (.func 24),#[.tmp 54,.tmp 55],#[49,49]⟩,3, "law.go:73",#[⟨4,.data⟩,⟨5,.data⟩,⟨5,.chain⟩,⟨3,.guard⟩],some (3,false)⟩) (v:=undef) rfl (by kernel_rfl) (by kernel_rfl) (by kernel_rfl) (fun _ _ _ h=>h) (Or.inr ⟨by rfl,rfl⟩) hHeld ?_
  simp only [Act.put,List.setIfInBounds_toArray,List.set_cons_zero,List.set_cons_succ]
  refine wpAnyH_take (i:=7) (oi:=⟨some 57,.binOp BinOp.gtr 3 (.tmp 56) (.const (Value.int IntKind.i64 0)) 3,4, "law.go:73",#[⟨6,.data⟩,⟨3,.guard⟩],some (3,false)⟩) (v:=undef) rfl (by kernel_rfl) (by kernel_rfl) (by kernel_rfl) (fun _ _ _ h=>h) (Or.inr ⟨by rfl,rfl⟩) hHeld ?_
  simp only [Act.put,List.setIfInBounds_toArray,List.set_cons_zero,List.set_cons_succ]
  refine wpAnyH_take (i:=8) (oi:=⟨some 58,.pick (.tmp 53) (.const (Value.bool true)) (.tmp 57),4, "law.go:73",#[⟨3,.data⟩,⟨7,.data⟩],none⟩) (v:=?_) rfl (by kernel_rfl) (by kernel_rfl) (by kernel_rfl) (fun _ _ _ h=>h) (Or.inl ⟨by rfl,?_⟩) hHeld ?_
  rotate_left
  · (intro w hSw;(try dsimp only at hSw);go_simp;try with_reducible rfl)
  simp only [Act.put,List.setIfInBounds_toArray,List.set_cons_zero,List.set_cons_succ]
  refine wpAnyH_take (i:=9) (oi:=⟨some 49,.assign (.tmp 58),4, "law.go:73",#[⟨8,.data⟩,⟨6,.chain⟩],none⟩) (v:=?_) rfl (by kernel_rfl) (by kernel_rfl) (by kernel_rfl) (fun _ _ _ h=>h) (Or.inl ⟨by rfl,?_⟩) hHeld ?_
  rotate_left
  · (intro w hSw;(try dsimp only at hSw);go_simp;try with_reducible rfl)
  simp only [Act.put,List.setIfInBounds_toArray,List.set_cons_zero,List.set_cons_succ]
  refine wpAnyH_done (by kernel_rfl) ?_ _
  go_upto_region 14 with fail
  clear tk q XT XK XP
  generalize w_s=W9 at *
 rotate_left
 by_cases hu:1 < vt
 focus
  have HR:Hid (true=true ↔ GoodH V):=⟨fun _=>hg,fun _=>rfl⟩
  have HG:=Lib.hid hg
  have HT:Hid (sgnQ vt=1):=sgn_p (by grind)
  have HSg:=HT;have HU:=Lib.hid hu
  have HCm:Hid (cmpQ vt (Rat.divInt 1 1)=1):=by show _=_;rw [one_q];exact cmp_gt hu
  clear hg ht hu
  go_upto_region 5 with (first
   | (go_at_call 21;(with_reducible refine (cat_g1 hL hE HN.out q (by decide) (by decide) (by decide) (by decide) HR.out HT.out HU.out).mono ?_);rintro e w_a ⟨rfl,hh⟩
      (try replace hL:=hL.below hh);(try replace q:=q.below hh);(try replace XT:=XT.below hh);(try replace XK:=XK.below hh);(try replace LM:=LM.below hh);(try replace tk:=tk.below hh);replace hb:=bend hb hh;replace hE:=EachH.belowR hE hh;replace e1:=EachH.belowJ e1 hh;clear xt0 xt1 xt2))
  have XP:=B6.new' w_a (Value.bool false) (Value.slice none 0 0) (Value.slice none 0 0) (Value.bool false) (Value.slice none 0 0) (Value.slice none 0 0) w_a.heap.size rfl
  have hh:Below w_a.heap.size w_a (w_a.alloc (Obj.cells #[Value.bool false,Value.slice none 0 0,Value.slice none 0 0,Value.bool false,Value.slice none 0 0,Value.slice none 0 0] 28)):=(Below.refl w_a.heap.size w_a).alloc (Nat.le_refl _) _
  generalize (w_a.alloc (Obj.cells #[Value.bool false,Value.slice none 0 0,Value.slice none 0 0,Value.bool false,Value.slice none 0 0,Value.slice none 0 0] 28))=W2 at *
  replace hL:=hL.below hh;replace q:=q.below hh;replace XT:=XT.below hh;replace XK:=XK.below hh;replace LM:=LM.below hh;replace tk:=tk.below hh;replace hE:=EachH.belowR hE hh;replace e1:=EachH.belowJ e1 hh;replace hb:=bend hb hh;clear hh
  go_upto_region 11 with (first
   | (go_at_call 22;(with_reducible refine (rgood13_t LM e1 HMn.out HN9.out HG.out).mono ?_);rintro e w_z ⟨rfl,hh⟩
      (try replace hL:=hL.below hh);(try replace q:=q.below hh);(try replace XT:=XT.below hh);(try replace XK:=XK.below hh);(try replace LM:=LM.below hh);(try replace tk:=tk.below hh);(try replace XP:=XP.below hh);replace hb:=bend hb hh;replace hE:=EachH.belowR hE hh;replace e1:=EachH.belowJ e1 hh))
  replace hL:=hL.below (Below.refl _ _).drew
  replace q:=q.below (Below.refl _ _).drew
  replace XT:=XT.below (Below.refl _ _).drew
  replace XK:=XK.below (Below.refl _ _).drew
  replace LM:=LM.below (Below.refl _ _).drew
  replace tk:=tk.below (Below.refl _ _).drew
  replace XP:=XP.below (Below.refl _ _).drew
  replace hE:=EachH.belowR hE (Below.refl _ _).drew
  replace e1:=EachH.belowJ e1 (Below.refl _ _).drew
  replace hb:=hb.drew
  refine wp_region_held_drew (S:=(fun w'=>w'.cell? ⟨g_k,0,none⟩=some (.bool s_k)∧w'.cell? ⟨g_k,1,none⟩=some (.slice A_k n_k c_k)∧w'.cell? ⟨g_k,2,none⟩=some (.slice B_k m_k d_k))) (by kernel_rfl) (by with_reducible exact ⟨XK.c0,XK.c1,XK.c2⟩) (fun hHeld=>?_)
  refine wpAnyH_take (i:=0) (oi:=⟨some 50,.load 49 (.tmp 6),49, "law.go:73",#[],none⟩) (v:=?_) rfl (by kernel_rfl) (by kernel_rfl) (by kernel_rfl) (fun _ _ _ h=>h) (Or.inl ⟨by rfl,?_⟩) hHeld ?_
  rotate_left
  · (intro w hSw;(try dsimp only at hSw);go_simp;try with_reducible rfl)
  simp only [Act.put,List.setIfInBounds_toArray,List.set_cons_zero,List.set_cons_succ]
  refine wpAnyH_ready (rs:=[1]) (by kernel_rfl) (by simp) ?_
  refine AllReadyH.cons (o:=⟨some 51,.call ⟨.value (.func 23),#[.tmp 50],#[49]⟩,3, "law.go:73",#[⟨0,.data⟩],none⟩) rfl (fun K1 hK1=>?_) AllReadyH.nil
  go_simp
  first
  | (go_at_call 23;(with_reducible refine (rsign3 tk).mono ?_);rintro e w_s ⟨rfl,hh⟩;rw [HSg.out]
     (try replace hL:=hL.below hh);(try replace q:=q.below hh);(try replace XT:=XT.below hh);(try replace XK:=XK.below hh);(try replace LM:=LM.below hh);(try replace tk:=tk.below hh);(try replace XP:=XP.below hh);replace hb:=bend hb hh;replace hE:=EachH.belowR hE hh;replace e1:=EachH.belowJ e1 hh)
  refine hK1.out _ _ (by with_reducible exact ⟨XK.c0,XK.c1,XK.c2⟩) (fun hHeld=>?_)
  clear hK1 K1
  refine wpAnyH_take (i:=2) (oi:=⟨some 52,.binOp BinOp.lss 3 (.tmp 51) (.const (Value.int IntKind.i64 0)) 3,4, "law.go:73",#[⟨1,.data⟩],none⟩) (v:=?_) rfl (by kernel_rfl) (by kernel_rfl) (by kernel_rfl) (fun _ _ _ h=>h) (Or.inl ⟨by rfl,?_⟩) hHeld ?_
  rotate_left
  · (intro w hSw;(try dsimp only at hSw);go_simp;try with_reducible rfl)
  simp only [Act.put,List.setIfInBounds_toArray,List.set_cons_zero,List.set_cons_succ]
  refine wpAnyH_take (i:=3) (oi:=⟨some 53,.move (.tmp 52),4, "law.go:73",#[⟨2,.data⟩,⟨1,.chain⟩],none⟩) (v:=?_) rfl (by kernel_rfl) (by kernel_rfl) (by kernel_rfl) (fun _ _ _ h=>h) (Or.inl ⟨by rfl,?_⟩) hHeld ?_
  rotate_left
  · (intro w hSw;(try dsimp only at hSw);go_simp;try with_reducible rfl)
  simp only [Act.put,List.setIfInBounds_toArray,List.set_cons_zero,List.set_cons_succ]
  refine wpAnyH_take (i:=4) (oi:=⟨some 54,.load 49 (.tmp 6),49, "law.go:73",#[⟨3,.guard⟩],some (3,false)⟩) (v:=?_) rfl (by kernel_rfl) (by kernel_rfl) (by kernel_rfl) (fun _ _ _ h=>h) (Or.inl ⟨by rfl,?_⟩) hHeld ?_
  rotate_left
  · (intro w hSw;(try dsimp only at hSw);go_simp;try with_reducible rfl)
  simp only [Act.put,List.setIfInBounds_toArray,List.set_cons_zero,List.set_cons_succ]
  refine wpAnyH_ready (rs:=[5]) (by kernel_rfl) (by simp) ?_
  refine AllReadyH.cons (o:=⟨some 55,.call ⟨.value (.func 25),#[.const (Value.int IntKind.i64 1),.const (Value.int IntKind.i64 1)],#[2,2]⟩,49, "law.go:73",#[⟨3,.chain⟩,⟨3,.guard⟩],some (3,false)⟩) rfl (fun K1 hK1=>?_) AllReadyH.nil
  go_simp
  first
  | (go_at_call 25;(with_reducible refine (rof3 1 1 (by decide) (by decide) (by decide) (by decide) (by decide) _).mono ?_);rintro e w_o ⟨s_o,A_o,n_o,c_o,B_o,m_o,d_o,rfl,o,hh⟩
     (try replace hL:=hL.below hh);(try replace q:=q.below hh);(try replace XT:=XT.below hh);(try replace XK:=XK.below hh);(try replace LM:=LM.below hh);(try replace tk:=tk.below hh);(try replace XP:=XP.below hh);replace hb:=bend hb hh;replace hE:=EachH.belowR hE hh;replace e1:=EachH.belowJ e1 hh)
  refine hK1.out _ _ (by with_reducible exact ⟨XK.c0,XK.c1,XK.c2⟩) (fun hHeld=>?_)
  clear hK1 K1
  refine wpAnyH_ready (rs:=[6]) (by kernel_rfl) (by simp) ?_
  refine AllReadyH.cons (o:=⟨some 56,.call ⟨.value (.func 24),#[.tmp 54,.tmp 55],#[49,49]⟩,3, "law.go:73",#[⟨4,.data⟩,⟨5,.data⟩,⟨5,.chain⟩,⟨3,.guard⟩],some (3,false)⟩) rfl (fun K1 hK1=>?_) AllReadyH.nil
  go_simp
  first
  | (go_at_call 24;(with_reducible refine (rcmp3 tk o (by decide) (by decide)).mono ?_);rintro e w_c ⟨rfl,hh⟩;rw [HCm.out]
     (try replace hL:=hL.below hh);(try replace q:=q.below hh);(try replace XT:=XT.below hh);(try replace XK:=XK.below hh);(try replace LM:=LM.below hh);(try replace tk:=tk.below hh);(try replace XP:=XP.below hh);replace hb:=bend hb hh;replace hE:=EachH.belowR hE hh;replace e1:=EachH.belowJ e1 hh)
  refine hK1.out _ _ (by with_reducible exact ⟨XK.c0,XK.c1,XK.c2⟩) (fun hHeld=>?_)
  clear hK1 K1
  refine wpAnyH_take (i:=7) (oi:=⟨some 57,.binOp BinOp.gtr 3 (.tmp 56) (.const (Value.int IntKind.i64 0)) 3,4, "law.go:73",#[⟨6,.data⟩,⟨3,.guard⟩],some (3,false)⟩) (v:=?_) rfl (by kernel_rfl) (by kernel_rfl) (by kernel_rfl) (fun _ _ _ h=>h) (Or.inl ⟨by rfl,?_⟩) hHeld ?_
  rotate_left
  · (intro w hSw;(try dsimp only at hSw);go_simp;try with_reducible rfl)
  simp only [Act.put,List.setIfInBounds_toArray,List.set_cons_zero,List.set_cons_succ]
  refine wpAnyH_take (i:=8) (oi:=⟨some 58,.pick (.tmp 53) (.const (Value.bool true)) (.tmp 57),4, "law.go:73",#[⟨3,.data⟩,⟨7,.data⟩],none⟩) (v:=?_) rfl (by kernel_rfl) (by kernel_rfl) (by kernel_rfl) (fun _ _ _ h=>h) (Or.inl ⟨by rfl,?_⟩) hHeld ?_
  rotate_left
  · (intro w hSw;(try dsimp only at hSw);go_simp;try with_reducible rfl)
  simp only [Act.put,List.setIfInBounds_toArray,List.set_cons_zero,List.set_cons_succ]
  refine wpAnyH_take (i:=9) (oi:=⟨some 49,.assign (.tmp 58),4, "law.go:73",#[⟨8,.data⟩,⟨6,.chain⟩],none⟩) (v:=?_) rfl (by kernel_rfl) (by kernel_rfl) (by kernel_rfl) (fun _ _ _ h=>h) (Or.inl ⟨by rfl,?_⟩) hHeld ?_
  rotate_left
  · (intro w hSw;(try dsimp only at hSw);go_simp;try with_reducible rfl)
  simp only [Act.put,List.setIfInBounds_toArray,List.set_cons_zero,List.set_cons_succ]
  refine wpAnyH_done (by kernel_rfl) ?_ _
  go_upto_region 14 with fail
  clear tk q XT XK XP
  generalize w_c=W9 at *
 rotate_left
 focus
  have HR:Hid (true=true ↔ GoodH V):=⟨fun _=>hg,fun _=>rfl⟩
  have HG:=Lib.hid hg
  have HT:Hid (0≤vt∧vt≤1):=⟨Rat.not_lt.1 ht,Rat.not_lt.1 hu⟩
  obtain ⟨Sg,hSg,hSn⟩:∃ Sg,sgnQ vt=Sg∧¬ Sg < 0:=⟨_,rfl,by rcases cvsgn_nn (Rat.not_lt.1 ht) with e | e <;> rw [e] <;> decide⟩
  have HSg:=Lib.hid hSg
  have HSd:Hid (decide (Sg < 0)=false):=decide_eq_false hSn
  obtain ⟨Cm,hCm,hCn⟩:∃ Cm,cmpQ vt (Rat.divInt 1 1)=Cm∧¬ 0 < Cm:=⟨_,rfl,by rw [one_q];have:=cmp_le (Rat.not_lt.1 hu);omega⟩
  have HCm:=Lib.hid hCm
  have HCd:Hid (decide (0 < Cm)=false):=decide_eq_false hCn
  clear hSg hCm hSn hCn hg ht hu
  go_upto_region 5 with (first
   | (go_at_call 21;(with_reducible refine (cat_any hL hE HN.out q (by decide) (by decide) (by decide) (by decide) HG.out HT.out (by decide) (B:=400)).mono ?_);rintro e w_a ⟨s_a,A_a,n_a,c_a,B_a,m_a,d_a,t_a,E_a,i_a,e_a,F_a,j_a,f_a,rfl,a,hh⟩
      (try replace hL:=hL.below hh);(try replace q:=q.below hh);(try replace XT:=XT.below hh);(try replace XK:=XK.below hh);(try replace LM:=LM.below hh);(try replace tk:=tk.below hh);replace hb:=bend hb hh;replace hE:=EachH.belowR hE hh;replace e1:=EachH.belowJ e1 hh;clear xt0 xt1 xt2))
  have XP:=B6.new' w_a (Value.bool s_a) (Value.slice A_a n_a c_a) (Value.slice B_a m_a d_a) (Value.bool t_a) (Value.slice E_a i_a e_a) (Value.slice F_a j_a f_a) w_a.heap.size rfl
  have hh:Below w_a.heap.size w_a (w_a.alloc (Obj.cells #[Value.bool s_a,Value.slice A_a n_a c_a,Value.slice B_a m_a d_a,Value.bool t_a,Value.slice E_a i_a e_a,Value.slice F_a j_a f_a] 28)):=(Below.refl w_a.heap.size w_a).alloc (Nat.le_refl _) _
  generalize (w_a.alloc (Obj.cells #[Value.bool s_a,Value.slice A_a n_a c_a,Value.slice B_a m_a d_a,Value.bool t_a,Value.slice E_a i_a e_a,Value.slice F_a j_a f_a] 28))=W2 at *
  replace hL:=hL.below hh;replace q:=q.below hh;replace XT:=XT.below hh;replace XK:=XK.below hh;replace LM:=LM.below hh;replace tk:=tk.below hh;replace a:=a.below hh;replace hE:=EachH.belowR hE hh;replace e1:=EachH.belowJ e1 hh;replace hb:=bend hb hh;clear hh
  go_upto_region 11 with (first
   | (go_at_call 22;(with_reducible refine (rgood13_t LM e1 HMn.out HN9.out HG.out).mono ?_);rintro e w_z ⟨rfl,hh⟩
      (try replace hL:=hL.below hh);(try replace q:=q.below hh);(try replace XT:=XT.below hh);(try replace XK:=XK.below hh);(try replace LM:=LM.below hh);(try replace tk:=tk.below hh);(try replace a:=a.below hh);(try replace XP:=XP.below hh);replace hb:=bend hb hh;replace hE:=EachH.belowR hE hh;replace e1:=EachH.belowJ e1 hh))
  replace hL:=hL.below (Below.refl _ _).drew
  replace q:=q.below (Below.refl _ _).drew
  replace XT:=XT.below (Below.refl _ _).drew
  replace XK:=XK.below (Below.refl _ _).drew
  replace LM:=LM.below (Below.refl _ _).drew
  replace tk:=tk.below (Below.refl _ _).drew
  replace a:=a.below (Below.refl _ _).drew
  replace XP:=XP.below (Below.refl _ _).drew
  replace hE:=EachH.belowR hE (Below.refl _ _).drew
  replace e1:=EachH.belowJ e1 (Below.refl _ _).drew
  replace hb:=hb.drew
  refine wp_region_held_drew (S:=(fun w'=>w'.cell? ⟨g_k,0,none⟩=some (.bool s_k)∧w'.cell? ⟨g_k,1,none⟩=some (.slice A_k n_k c_k)∧w'.cell? ⟨g_k,2,none⟩=some (.slice B_k m_k d_k))) (by kernel_rfl) (by with_reducible exact ⟨XK.c0,XK.c1,XK.c2⟩) (fun hHeld=>?_)
  refine wpAnyH_take (i:=0) (oi:=⟨some 50,.load 49 (.tmp 6),49, "law.go:73",#[],none⟩) (v:=?_) rfl (by kernel_rfl) (by kernel_rfl) (by kernel_rfl) (fun _ _ _ h=>h) (Or.inl ⟨by rfl,?_⟩) hHeld ?_
  rotate_left
  · (intro w hSw;(try dsimp only at hSw);go_simp;try with_reducible rfl)
  simp only [Act.put,List.setIfInBounds_toArray,List.set_cons_zero,List.set_cons_succ]
  refine wpAnyH_ready (rs:=[1]) (by kernel_rfl) (by simp) ?_
  refine AllReadyH.cons (o:=⟨some 51,.call ⟨.value (.func 23),#[.tmp 50],#[49]⟩,3, "law.go:73",#[⟨0,.data⟩],none⟩) rfl (fun K1 hK1=>?_) AllReadyH.nil
  go_simp
  first
  | (go_at_call 23;(with_reducible refine (rsign3 tk).mono ?_);rintro e w_s ⟨rfl,hh⟩;rw [HSg.out]
     (try replace hL:=hL.below hh);(try replace q:=q.below hh);(try replace XT:=XT.below hh);(try replace XK:=XK.below hh);(try replace LM:=LM.below hh);(try replace tk:=tk.below hh);(try replace a:=a.below hh);(try replace XP:=XP.below hh);replace hb:=bend hb hh;replace hE:=EachH.belowR hE hh;replace e1:=EachH.belowJ e1 hh)
  refine hK1.out _ _ (by with_reducible exact ⟨XK.c0,XK.c1,XK.c2⟩) (fun hHeld=>?_)
  clear hK1 K1
  refine wpAnyH_take (i:=2) (oi:=⟨some 52,.binOp BinOp.lss 3 (.tmp 51) (.const (Value.int IntKind.i64 0)) 3,4, "law.go:73",#[⟨1,.data⟩],none⟩) (v:=?_) rfl (by kernel_rfl) (by kernel_rfl) (by kernel_rfl) (fun _ _ _ h=>h) (Or.inl ⟨by rfl,?_⟩) hHeld ?_
  rotate_left
  · (intro w hSw;(try dsimp only at hSw);go_simp;try with_reducible rfl)
  simp only [Act.put,List.setIfInBounds_toArray,List.set_cons_zero,List.set_cons_succ]
  rw [HSd.out]
  refine wpAnyH_take (i:=3) (oi:=⟨some 53,.move (.tmp 52),4, "law.go:73",#[⟨2,.data⟩,⟨1,.chain⟩],none⟩) (v:=?_) rfl (by kernel_rfl) (by kernel_rfl) (by kernel_rfl) (fun _ _ _ h=>h) (Or.inl ⟨by rfl,?_⟩) hHeld ?_
  rotate_left
  · (intro w hSw;(try dsimp only at hSw);go_simp;try with_reducible rfl)
  simp only [Act.put,List.setIfInBounds_toArray,List.set_cons_zero,List.set_cons_succ]
  refine wpAnyH_take (i:=4) (oi:=⟨some 54,.load 49 (.tmp 6),49, "law.go:73",#[⟨3,.guard⟩],some (3,false)⟩) (v:=?_) rfl (by kernel_rfl) (by kernel_rfl) (by kernel_rfl) (fun _ _ _ h=>h) (Or.inl ⟨by rfl,?_⟩) hHeld ?_
  rotate_left
  · (intro w hSw;(try dsimp only at hSw);go_simp;try with_reducible rfl)
  simp only [Act.put,List.setIfInBounds_toArray,List.set_cons_zero,List.set_cons_succ]
  refine wpAnyH_ready (rs:=[5]) (by kernel_rfl) (by simp) ?_
  refine AllReadyH.cons (o:=⟨some 55,.call ⟨.value (.func 25),#[.const (Value.int IntKind.i64 1),.const (Value.int IntKind.i64 1)],#[2,2]⟩,49, "law.go:73",#[⟨3,.chain⟩,⟨3,.guard⟩],some (3,false)⟩) rfl (fun K1 hK1=>?_) AllReadyH.nil
  go_simp
  first
  | (go_at_call 25;(with_reducible refine (rof3 1 1 (by decide) (by decide) (by decide) (by decide) (by decide) _).mono ?_);rintro e w_o ⟨s_o,A_o,n_o,c_o,B_o,m_o,d_o,rfl,o,hh⟩
     (try replace hL:=hL.below hh);(try replace q:=q.below hh);(try replace XT:=XT.below hh);(try replace XK:=XK.below hh);(try replace LM:=LM.below hh);(try replace tk:=tk.below hh);(try replace a:=a.below hh);(try replace XP:=XP.below hh);replace hb:=bend hb hh;replace hE:=EachH.belowR hE hh;replace e1:=EachH.belowJ e1 hh)
  refine hK1.out _ _ (by with_reducible exact ⟨XK.c0,XK.c1,XK.c2⟩) (fun hHeld=>?_)
  clear hK1 K1
  refine wpAnyH_ready (rs:=[6]) (by kernel_rfl) (by simp) ?_
  refine AllReadyH.cons (o:=⟨some 56,.call ⟨.value (.func 24),#[.tmp 54,.tmp 55],#[49,49]⟩,3, "law.go:73",#[⟨4,.data⟩,⟨5,.data⟩,⟨5,.chain⟩,⟨3,.guard⟩],some (3,false)⟩) rfl (fun K1 hK1=>?_) AllReadyH.nil
  go_simp
  first
  | (go_at_call 24;(with_reducible refine (rcmp3 tk o (by decide) (by decide)).mono ?_);rintro e w_c ⟨rfl,hh⟩;rw [HCm.out]
     (try replace hL:=hL.below hh);(try replace q:=q.below hh);(try replace XT:=XT.below hh);(try replace XK:=XK.below hh);(try replace LM:=LM.below hh);(try replace tk:=tk.below hh);(try replace a:=a.below hh);(try replace XP:=XP.below hh);replace hb:=bend hb hh;replace hE:=EachH.belowR hE hh;replace e1:=EachH.belowJ e1 hh)
  refine hK1.out _ _ (by with_reducible exact ⟨XK.c0,XK.c1,XK.c2⟩) (fun hHeld=>?_)
  clear hK1 K1
  refine wpAnyH_take (i:=7) (oi:=⟨some 57,.binOp BinOp.gtr 3 (.tmp 56) (.const (Value.int IntKind.i64 0)) 3,4, "law.go:73",#[⟨6,.data⟩,⟨3,.guard⟩],some (3,false)⟩) (v:=?_) rfl (by kernel_rfl) (by kernel_rfl) (by kernel_rfl) (fun _ _ _ h=>h) (Or.inl ⟨by rfl,?_⟩) hHeld ?_
  rotate_left
  · (intro w hSw;(try dsimp only at hSw);go_simp;try with_reducible rfl)
  simp only [Act.put,List.setIfInBounds_toArray,List.set_cons_zero,List.set_cons_succ]
  rw [HCd.out]
  refine wpAnyH_take (i:=8) (oi:=⟨some 58,.pick (.tmp 53) (.const (Value.bool true)) (.tmp 57),4, "law.go:73",#[⟨3,.data⟩,⟨7,.data⟩],none⟩) (v:=?_) rfl (by kernel_rfl) (by kernel_rfl) (by kernel_rfl) (fun _ _ _ h=>h) (Or.inl ⟨by rfl,?_⟩) hHeld ?_
  rotate_left
  · (intro w hSw;(try dsimp only at hSw);go_simp;try with_reducible rfl)
  simp only [Act.put,List.setIfInBounds_toArray,List.set_cons_zero,List.set_cons_succ]
  refine wpAnyH_take (i:=9) (oi:=⟨some 49,.assign (.tmp 58),4, "law.go:73",#[⟨8,.data⟩,⟨6,.chain⟩],none⟩) (v:=?_) rfl (by kernel_rfl) (by kernel_rfl) (by kernel_rfl) (fun _ _ _ h=>h) (Or.inl ⟨by rfl,?_⟩) hHeld ?_
  rotate_left
  · (intro w hSw;(try dsimp only at hSw);go_simp;try with_reducible rfl)
  simp only [Act.put,List.setIfInBounds_toArray,List.set_cons_zero,List.set_cons_succ]
  refine wpAnyH_done (by kernel_rfl) ?_ _
  go_upto_region 6 with fail
  replace hL:=hL.below (Below.refl _ _).drew
  replace q:=q.below (Below.refl _ _).drew
  replace XT:=XT.below (Below.refl _ _).drew
  replace XK:=XK.below (Below.refl _ _).drew
  replace LM:=LM.below (Below.refl _ _).drew
  replace tk:=tk.below (Below.refl _ _).drew
  replace a:=a.below (Below.refl _ _).drew
  replace XP:=XP.below (Below.refl _ _).drew
  replace hE:=EachH.belowR hE (Below.refl _ _).drew
  replace e1:=EachH.belowJ e1 (Below.refl _ _).drew
  replace hb:=hb.drew
  refine wp_region_held_drew (S:=(fun w'=>w'.cell? ⟨g_k,0,none⟩=some (.bool s_k)∧w'.cell? ⟨g_k,1,none⟩=some (.slice A_k n_k c_k)∧w'.cell? ⟨g_k,2,none⟩=some (.slice B_k m_k d_k)∧w'.cell? ⟨w_a.heap.size,0,none⟩=some (.bool s_a)∧w'.cell? ⟨w_a.heap.size,1,none⟩=some (.slice A_a n_a c_a)∧w'.cell? ⟨w_a.heap.size,2,none⟩=some (.slice B_a m_a d_a)∧w'.cell? ⟨w_a.heap.size,3,none⟩=some (.bool t_a)∧w'.cell? ⟨w_a.heap.size,4,none⟩=some (.slice E_a i_a e_a)∧w'.cell? ⟨w_a.heap.size,5,none⟩=some (.slice F_a j_a f_a))) (by kernel_rfl) (by with_reducible exact ⟨XK.c0,XK.c1,XK.c2,XP.c0,XP.c1,XP.c2,XP.c3,XP.c4,XP.c5⟩) (fun hHeld=>?_)
  refine wpAnyH_take (i:=0) (oi:=⟨some 34,.move (.tmp 8),38, "law.go:78",#[],none⟩) (v:=?_) rfl (by kernel_rfl) (by kernel_rfl) (by kernel_rfl) (fun _ _ _ h=>h) (Or.inl ⟨by rfl,?_⟩) hHeld ?_
  rotate_left
  · (intro w hSw;(try dsimp only at hSw);go_simp;try with_reducible rfl)
  simp only [Act.put,List.setIfInBounds_toArray,List.set_cons_zero,List.set_cons_succ]
  refine wpAnyH_take (i:=1) (oi:=⟨some 35,.binOp BinOp.neq 38 (.tmp 34) (.const (Value.int IntKind.i64 0)) 38,4, "law.go:78",#[⟨0,.data⟩],none⟩) (v:=?_) rfl (by kernel_rfl) (by kernel_rfl) (by kernel_rfl) (fun _ _ _ h=>h) (Or.inl ⟨by rfl,?_⟩) hHeld ?_
  rotate_left
  · (intro w hSw;(try dsimp only at hSw);go_simp;try with_reducible rfl)
  simp only [Act.put,List.setIfInBounds_toArray,List.set_cons_zero,List.set_cons_succ]
  refine wpAnyH_take (i:=2) (oi:=⟨some 36,.move (.tmp 35),4, "law.go:78",#[⟨1,.data⟩],none⟩) (v:=?_) rfl (by kernel_rfl) (by kernel_rfl) (by kernel_rfl) (fun _ _ _ h=>h) (Or.inl ⟨by rfl,?_⟩) hHeld ?_
  rotate_left
  · (intro w hSw;(try dsimp only at hSw);go_simp;try with_reducible rfl)
  simp only [Act.put,List.setIfInBounds_toArray,List.set_cons_zero,List.set_cons_succ]
  refine wpAnyH_take (i:=3) (oi:=⟨some 37,.load 28 (.tmp 7),28, "law.go:78",#[⟨2,.guard⟩],some (2,false)⟩) (v:=?_) rfl (by kernel_rfl) (by kernel_rfl) (by kernel_rfl) (fun _ _ _ h=>h) (Or.inl ⟨by rfl,?_⟩) hHeld ?_
  rotate_left
  · (intro w hSw;(try dsimp only at hSw);go_simp;try with_reducible rfl)
  simp only [Act.put,List.setIfInBounds_toArray,List.set_cons_zero,List.set_cons_succ]
  refine wpAnyH_take (i:=4) (oi:=⟨some 38,.move (.tmp 5),41, "law.go:78",#[⟨2,.guard⟩],some (2,false)⟩) (v:=?_) rfl (by kernel_rfl) (by kernel_rfl) (by kernel_rfl) (fun _ _ _ h=>h) (Or.inl ⟨by rfl,?_⟩) hHeld ?_
  rotate_left
  · (intro w hSw;(try dsimp only at hSw);go_simp;try with_reducible rfl)
  simp only [Act.put,List.setIfInBounds_toArray,List.set_cons_zero,List.set_cons_succ]
  refine wpAnyH_take (i:=5) (oi:=⟨some 39,.load 49 (.tmp 6),49, "law.go:78",#[⟨2,.guard⟩],some (2,false)⟩) (v:=?_) rfl (by kernel_rfl) (by kernel_rfl) (by kernel_rfl) (fun _ _ _ h=>h) (Or.inl ⟨by rfl,?_⟩) hHeld ?_
  rotate_left
  · (intro w hSw;(try dsimp only at hSw);go_simp;try with_reducible rfl)
  simp only [Act.put,List.setIfInBounds_toArray,List.set_cons_zero,List.set_cons_succ]
  refine wpAnyH_ready (rs:=[6]) (by kernel_rfl) (by simp) ?_
  refine AllReadyH.cons (o:=⟨some 40,.call ⟨.value (.func 27),#[.tmp 38,.tmp 39],#[41,49]⟩,51, "law.go:78",#[⟨4,.data⟩,⟨5,.data⟩,⟨2,.chain⟩,⟨2,.guard⟩],some (2,false)⟩) rfl (fun K1 hK1=>?_) AllReadyH.nil
  go_simp
  first
  | (go_at_call 27;(with_reducible refine (rat13 LM e1 HMn.out (tk.more (by decide)) (by decide) HG.out HT.out).mono ?_);rintro e w_r ⟨s_r,A_r,n_r,c_r,B_r,m_r,d_r,t_r,E_r,i_r,e_r,F_r,j_r,f_r,rfl,r,hh⟩
     (try replace hL:=hL.below hh);(try replace q:=q.below hh);(try replace XT:=XT.below hh);(try replace XK:=XK.below hh);(try replace LM:=LM.below hh);(try replace tk:=tk.below hh);(try replace a:=a.below hh);(try replace XP:=XP.below hh);replace hb:=bend hb hh;replace hE:=EachH.belowR hE hh;replace e1:=EachH.belowJ e1 hh)
  refine hK1.out _ _ (by with_reducible exact ⟨XK.c0,XK.c1,XK.c2,XP.c0,XP.c1,XP.c2,XP.c3,XP.c4,XP.c5⟩) (fun hHeld=>?_)
  clear hK1 K1
  refine wpAnyH_ready (rs:=[7]) (by kernel_rfl) (by simp) ?_
  refine AllReadyH.cons (o:=⟨some 41,.call ⟨.value (.func 26),#[.tmp 37,.tmp 40],#[28,51]⟩,4, "law.go:78",#[⟨3,.data⟩,⟨6,.data⟩,⟨6,.chain⟩,⟨2,.guard⟩],some (2,false)⟩) rfl (fun K1 hK1=>?_) AllReadyH.nil
  go_simp
  first
  | (go_at_call 26;(with_reducible refine (lsame6 a r rfl rfl (by decide) (by decide)).mono ?_);rintro e w_s ⟨rfl,hh⟩
     (try replace hL:=hL.below hh);(try replace q:=q.below hh);(try replace XT:=XT.below hh);(try replace XK:=XK.below hh);(try replace LM:=LM.below hh);(try replace tk:=tk.below hh);(try replace XP:=XP.below hh);replace hb:=bend hb hh;replace hE:=EachH.belowR hE hh;replace e1:=EachH.belowJ e1 hh)
  refine hK1.out _ _ (by with_reducible exact ⟨XK.c0,XK.c1,XK.c2,XP.c0,XP.c1,XP.c2,XP.c3,XP.c4,XP.c5⟩) (fun hHeld=>?_)
  clear hK1 K1
  refine wpAnyH_take (i:=8) (oi:=⟨some 42,.unOp UnOp.not 4 (.tmp 41),4, "law.go:78",#[⟨7,.data⟩,⟨2,.guard⟩],some (2,false)⟩) (v:=?_) rfl (by kernel_rfl) (by kernel_rfl) (by kernel_rfl) (fun _ _ _ h=>h) (Or.inl ⟨by rfl,?_⟩) hHeld ?_
  rotate_left
  · (intro w hSw;(try dsimp only at hSw);go_simp;try with_reducible rfl)
  simp only [Act.put,List.setIfInBounds_toArray,List.set_cons_zero,List.set_cons_succ]
  refine wpAnyH_take (i:=9) (oi:=⟨some 43,.pick (.tmp 36) (.const (Value.bool true)) (.tmp 42),4, "law.go:78",#[⟨2,.data⟩,⟨8,.data⟩],none⟩) (v:=?_) rfl (by kernel_rfl) (by kernel_rfl) (by kernel_rfl) (fun _ _ _ h=>h) (Or.inl ⟨by rfl,?_⟩) hHeld ?_
  rotate_left
  · (intro w hSw;(try dsimp only at hSw);go_simp;try with_reducible rfl)
  simp only [Act.put,List.setIfInBounds_toArray,List.set_cons_zero,List.set_cons_succ]
  refine wpAnyH_done (by kernel_rfl) ?_ _
  go_upto_region 14 with fail
  clear tk q XT XK a XP
  generalize w_s=W9 at *
 all_goals
  have HL9:=Lib.hid hL;have E9:=Lib.hid hE;have HLJ:=Lib.hid LM;have EJ9:=Lib.hid e1;have HB9:=Lib.hid hb;clear hL hE LM e1 hb
  go_wp2_with fail
  go_loopg [10] n (fun gk ix wr=>∃ (m:Nat),Hid (gk+m=n)∧ix=.int .i64 (m:Int)∧Below W9.heap.size W9 wr)
  case atStart=>exact ⟨0,Nat.add_zero _,rfl,Below.refl _ _⟩
  case round =>
   obtain ⟨m,HG9,rfl,hB⟩:=hrel
   by_cases hmn:m < n
   · obtain ⟨P,u,hP1,hu1,p⟩:=(EachH.belowR E9.out hB).at_ (i:=m) (by rw [HN.out];exact hmn)
     obtain ⟨P',u',hP2,hu2,r⟩:=(EachH.belowJ EJ9.out hB).at_ (i:=m) (by rw [HMn.out];exact hmn)
     obtain rfl:u=u':=by rw [hu1] at hu2;exact Option.some.inj hu2
     obtain ⟨g1,o1,hix1,EP0,_⟩:=(HL9.out.below hB).ht hP1
     obtain ⟨g2,o2,hix2,EJ,_⟩:=(HLJ.out.below hB).jt hP2
     have hixa:∀ w',(Instr.indexAt 37 (.slice A n c) (.int .i64 (m:Int))).run Tryz.prog w'=.ok (.pointer (some ⟨g1,o1,none⟩)) w':=fun w'=>hix1 n c w' hmn
     have hixb:∀ w',(Instr.indexAt 41 (.slice A_x n c_x) (.int .i64 (m:Int))).run Tryz.prog w'=.ok (.pointer (some ⟨g2,o2,none⟩)) w':=fun w'=>hix2 n c_x w' hmn
     have hlt:(m:Int) < (n:Int):=by omega
     have hwr:IntKind.i64.wrap ((m:Int)+1)=(m:Int)+1:=IntWalk.i64_in _ (by have:=HN9.out;omega)
     have HMN:=Lib.hid hmn;have epl:=EP0.ldH;clear hP1 hP2 hu1 hu2 hix1 hix2 hmn EP0
     by_cases hw:u.w=0
     · have HW:=Lib.hid hw
       have HT:Hid (sgnQ u.w=0):=by show _=_;rw [hw];decide +kernel
       clear hw
       go_upto_region 18 with (first
        | (go_at_call 28;(with_reducible refine (cpoint_z p (by decide) (by decide) HW.out).mono ?_);rintro e w_q ⟨rfl,hh⟩
           (try replace r:=r.below hh);(try replace EJ:=EJ.below hh);replace hB:=bend hB hh;clear p epl))
       have hh:Below w_q.heap.size w_q (w_q.alloc (Obj.cells #[Value.bool false,Value.slice none 0 0,Value.slice none 0 0,Value.bool false,Value.slice none 0 0,Value.slice none 0 0] 28)):=(Below.refl _ _).alloc (Nat.le_refl _) _
       replace r:=r.below hh;replace EJ:=EJ.below hh;replace hB:=bend hB hh;clear hh
       generalize (w_q.alloc (Obj.cells #[Value.bool false,Value.slice none 0 0,Value.slice none 0 0,Value.bool false,Value.slice none 0 0,Value.slice none 0 0] 28))=Wn at *
       have ej6:=EJ.c6;have ej7:=EJ.c7;have ej8:=EJ.c8
       go_wp2_with (first
        | (go_at_call 23;(with_reducible refine (rsign3 r.qw).mono ?_);rintro e w_z ⟨rfl,hh⟩;rw [HT.out]
           (try replace r:=r.below hh);(try replace EJ:=EJ.below hh);replace hB:=bend hB hh;clear ej6 ej7 ej8))
       go_roundg (gk - 1)
       case measure=>have:=HG9.out;have:=HMN.out;omega
       case rel=>exact ⟨m+1,by have:=HG9.out;have:=HMN.out;show _=_;omega,by go_num,hB⟩
     · have HW:=Lib.hid hw
       obtain ⟨T,hT,hT0⟩:∃ T,sgnQ u.w=T∧¬ T=0:=⟨_,rfl,fun e=>HW.out (sgn_zero e)⟩
       have HT:=Lib.hid hT
       have hT1:(T == 0)=false:=beq_eq_false_iff_ne.2 hT0
       clear hw hT
       go_upto_region 18 with (first
        | (go_at_call 28;(with_reducible refine (cpoint_p p (by decide) (by decide) HW.out).mono ?_);rintro e w_q ⟨s_q,A_q,n_q,c_q,B_q,m_q,d_q,t_q,E_q,i_q,e_q,F_q,j_q,f_q,rfl,q,hh⟩
           (try replace r:=r.below hh);(try replace EJ:=EJ.below hh);replace hB:=bend hB hh;clear p epl))
       have hh:Below w_q.heap.size w_q (w_q.alloc (Obj.cells #[Value.bool s_q,Value.slice A_q n_q c_q,Value.slice B_q m_q d_q,Value.bool t_q,Value.slice E_q i_q e_q,Value.slice F_q j_q f_q] 28)):=(Below.refl _ _).alloc (Nat.le_refl _) _
       have XQ:=B6.new' w_q (Value.bool s_q) (Value.slice A_q n_q c_q) (Value.slice B_q m_q d_q) (Value.bool t_q) (Value.slice E_q i_q e_q) (Value.slice F_q j_q f_q) w_q.heap.size rfl
       replace q:=q.below hh;replace r:=r.below hh;replace EJ:=EJ.below hh;replace hB:=bend hB hh;clear hh
       generalize (w_q.alloc (Obj.cells #[Value.bool s_q,Value.slice A_q n_q c_q,Value.slice B_q m_q d_q,Value.bool t_q,Value.slice E_q i_q e_q,Value.slice F_q j_q f_q] 28))=Wn at *
       have ej6:=EJ.c6;have ej7:=EJ.c7;have ej8:=EJ.c8
       go_upto_region 21 with (first
        | (go_at_call 23;(with_reducible refine (rsign3 r.qw).mono ?_);rintro e w_z ⟨rfl,hh⟩;rw [HT.out]
           (try replace r:=r.below hh);(try replace EJ:=EJ.below hh);(try replace q:=q.below hh);(try replace XQ:=XQ.below hh);replace hB:=bend hB hh;clear ej6 ej7 ej8))
       replace r:=r.below (Below.refl _ _).drew
       replace EJ:=EJ.below (Below.refl _ _).drew
       replace q:=q.below (Below.refl _ _).drew
       replace XQ:=XQ.below (Below.refl _ _).drew
       replace hB:=hB.drew
       have HPX:Hid (u.px=u.x / u.w):=by have:=HW.out;show _=_;unfold AH.px;grind
       have HPY:Hid (u.py=u.y / u.w):=by have:=HW.out;show _=_;unfold AH.py;grind
       refine wp_region_held_drew (S:=(fun w'=>w'.cell? ⟨w_q.heap.size,0,none⟩=some (.bool s_q)∧w'.cell? ⟨w_q.heap.size,1,none⟩=some (.slice A_q n_q c_q)∧w'.cell? ⟨w_q.heap.size,2,none⟩=some (.slice B_q m_q d_q)∧w'.cell? ⟨w_q.heap.size,3,none⟩=some (.bool t_q)∧w'.cell? ⟨w_q.heap.size,4,none⟩=some (.slice E_q i_q e_q)∧w'.cell? ⟨w_q.heap.size,5,none⟩=some (.slice F_q j_q f_q)∧(LVJ ⟨g2,o2,none⟩).run Tryz.prog w'=.ok (.agg #[.bool P'.x.s,.slice P'.x.A P'.x.n P'.x.c,.slice P'.x.B P'.x.m P'.x.d,.bool P'.y.s,.slice P'.y.A P'.y.n P'.y.c,.slice P'.y.B P'.y.m P'.y.d,.bool P'.w.s,.slice P'.w.A P'.w.n P'.w.c,.slice P'.w.B P'.w.m P'.w.d]) w')) (by kernel_rfl) (by with_reducible exact ⟨XQ.c0,XQ.c1,XQ.c2,XQ.c3,XQ.c4,XQ.c5,EJ.ldJ⟩) (fun hHeld=>?_)
       refine wpAnyH_take (i:=0) (oi:=⟨some 84,.move (.tmp 12),38, "law.go:88",#[],none⟩) (v:=?_) rfl (by kernel_rfl) (by kernel_rfl) (by kernel_rfl) (fun _ _ _ h=>h) (Or.inl ⟨by rfl,?_⟩) hHeld ?_
       rotate_left
       · (intro w hSw;(try dsimp only at hSw);go_simp;try with_reducible rfl)
       simp only [Act.put,List.setIfInBounds_toArray,List.set_cons_zero,List.set_cons_succ]
       refine wpAnyH_take (i:=1) (oi:=⟨some 85,.binOp BinOp.neq 38 (.tmp 84) (.const (Value.int IntKind.i64 0)) 38,4, "law.go:88",#[⟨0,.data⟩],none⟩) (v:=?_) rfl (by kernel_rfl) (by kernel_rfl) (by kernel_rfl) (fun _ _ _ h=>h) (Or.inl ⟨by rfl,?_⟩) hHeld ?_
       rotate_left
       · (intro w hSw;(try dsimp only at hSw);go_simp;try with_reducible rfl)
       simp only [Act.put,List.setIfInBounds_toArray,List.set_cons_zero,List.set_cons_succ]
       refine wpAnyH_take (i:=2) (oi:=⟨some 86,.move (.tmp 85),4, "law.go:88",#[⟨1,.data⟩],none⟩) (v:=?_) rfl (by kernel_rfl) (by kernel_rfl) (by kernel_rfl) (fun _ _ _ h=>h) (Or.inl ⟨by rfl,?_⟩) hHeld ?_
       rotate_left
       · (intro w hSw;(try dsimp only at hSw);go_simp;try with_reducible rfl)
       simp only [Act.put,List.setIfInBounds_toArray,List.set_cons_zero,List.set_cons_succ]
       refine wpAnyH_take (i:=3) (oi:=⟨some 87,.load 28 (.tmp 11),28, "law.go:88",#[⟨2,.guard⟩],some (2,false)⟩) (v:=?_) rfl (by kernel_rfl) (by kernel_rfl) (by kernel_rfl) (fun _ _ _ h=>h) (Or.inl ⟨by rfl,?_⟩) hHeld ?_
       rotate_left
       · (intro w hSw;(try dsimp only at hSw);go_simp;try with_reducible rfl)
       simp only [Act.put,List.setIfInBounds_toArray,List.set_cons_zero,List.set_cons_succ]
       refine wpAnyH_take (i:=4) (oi:=⟨some 88,.move (.tmp 5),41, "law.go:88",#[⟨2,.guard⟩],some (2,false)⟩) (v:=?_) rfl (by kernel_rfl) (by kernel_rfl) (by kernel_rfl) (fun _ _ _ h=>h) (Or.inl ⟨by rfl,?_⟩) hHeld ?_
       rotate_left
       · (intro w hSw;(try dsimp only at hSw);go_simp;try with_reducible rfl)
       simp only [Act.put,List.setIfInBounds_toArray,List.set_cons_zero,List.set_cons_succ]
       refine wpAnyH_take (i:=5) (oi:=⟨some 89,.move (.tmp 10),3, "law.go:88",#[⟨2,.guard⟩],some (2,false)⟩) (v:=?_) rfl (by kernel_rfl) (by kernel_rfl) (by kernel_rfl) (fun _ _ _ h=>h) (Or.inl ⟨by rfl,?_⟩) hHeld ?_
       rotate_left
       · (intro w hSw;(try dsimp only at hSw);go_simp;try with_reducible rfl)
       simp only [Act.put,List.setIfInBounds_toArray,List.set_cons_zero,List.set_cons_succ]
       refine wpAnyH_take (i:=6) (oi:=⟨some 90,.indexAddr 41 (.tmp 88) (.tmp 89),0, "law.go:88",#[⟨4,.data⟩,⟨5,.data⟩,⟨2,.guard⟩],some (2,false)⟩) (v:=?_) rfl (by kernel_rfl) (by kernel_rfl) (by kernel_rfl) (fun _ _ _ h=>h) (Or.inl ⟨by rfl,?_⟩) hHeld ?_
       rotate_left
       · (intro w hSw;(try dsimp only at hSw);go_simp;try with_reducible rfl)
       simp only [Act.put,List.setIfInBounds_toArray,List.set_cons_zero,List.set_cons_succ]
       refine wpAnyH_take (i:=7) (oi:=⟨some 91,.load 75 (.tmp 90),75, "law.go:88",#[⟨6,.data⟩,⟨2,.guard⟩],some (2,false)⟩) (v:=?_) rfl (by kernel_rfl) (by kernel_rfl) (by kernel_rfl) (fun _ _ _ h=>h) (Or.inl ⟨by rfl,?_⟩) hHeld ?_
       rotate_left
       · (intro w hSw;(try dsimp only at hSw);go_simp;try with_reducible rfl)
       simp only [Act.put,List.setIfInBounds_toArray,List.set_cons_zero,List.set_cons_succ]
       refine wpAnyH_ready (rs:=[8]) (by kernel_rfl) (by simp) ?_
       refine AllReadyH.cons (o:=⟨some 92,.call ⟨.value (.func 29),#[.tmp 91],#[75]⟩,51, "law.go:88",#[⟨7,.data⟩,⟨2,.chain⟩,⟨2,.guard⟩],some (2,false)⟩) rfl (fun K1 hK1=>?_) AllReadyH.nil
       go_simp
       first
       | (go_at_call 29;(with_reducible refine (rpoint13 r (by decide) HW.out).mono ?_);rintro e w_v ⟨s_v,A_v,n_v,c_v,B_v,m_v,d_v,t_v,E_v,i_v,e_v,F_v,j_v,f_v,rfl,v,hh⟩
          (try replace q:=q.below hh);(try replace XQ:=XQ.below hh);(try replace EJ:=EJ.below hh);replace hB:=bend hB hh)
       refine hK1.out _ _ (by with_reducible exact ⟨XQ.c0,XQ.c1,XQ.c2,XQ.c3,XQ.c4,XQ.c5,EJ.ldJ⟩) (fun hHeld=>?_)
       clear hK1 K1
       refine wpAnyH_ready (rs:=[9]) (by kernel_rfl) (by simp) ?_
       refine AllReadyH.cons (o:=⟨some 93,.call ⟨.value (.func 26),#[.tmp 87,.tmp 92],#[28,51]⟩,4, "law.go:88",#[⟨3,.data⟩,⟨8,.data⟩,⟨8,.chain⟩,⟨2,.guard⟩],some (2,false)⟩) rfl (fun K1 hK1=>?_) AllReadyH.nil
       go_simp
       first
       | (go_at_call 26;(with_reducible refine (lsame6 q v HPX.out HPY.out (by decide) (by decide)).mono ?_);rintro e w_s ⟨rfl,hh⟩
          (try replace XQ:=XQ.below hh);(try replace EJ:=EJ.below hh);replace hB:=bend hB hh)
       refine hK1.out _ _ (by with_reducible exact ⟨XQ.c0,XQ.c1,XQ.c2,XQ.c3,XQ.c4,XQ.c5,EJ.ldJ⟩) (fun hHeld=>?_)
       clear hK1 K1
       refine wpAnyH_take (i:=10) (oi:=⟨some 94,.unOp UnOp.not 4 (.tmp 93),4, "law.go:88",#[⟨9,.data⟩,⟨2,.guard⟩],some (2,false)⟩) (v:=?_) rfl (by kernel_rfl) (by kernel_rfl) (by kernel_rfl) (fun _ _ _ h=>h) (Or.inl ⟨by rfl,?_⟩) hHeld ?_
       rotate_left
       · (intro w hSw;(try dsimp only at hSw);go_simp;try with_reducible rfl)
       simp only [Act.put,List.setIfInBounds_toArray,List.set_cons_zero,List.set_cons_succ]
       refine wpAnyH_take (i:=11) (oi:=⟨some 95,.pick (.tmp 86) (.const (Value.bool true)) (.tmp 94),4, "law.go:88",#[⟨2,.data⟩,⟨10,.data⟩],none⟩) (v:=?_) rfl (by kernel_rfl) (by kernel_rfl) (by kernel_rfl) (fun _ _ _ h=>h) (Or.inl ⟨by rfl,?_⟩) hHeld ?_
       rotate_left
       · (intro w hSw;(try dsimp only at hSw);go_simp;try with_reducible rfl)
       simp only [Act.put,List.setIfInBounds_toArray,List.set_cons_zero,List.set_cons_succ]
       refine wpAnyH_done (by kernel_rfl) ?_ _
       go_wp2_with fail
       go_roundg (gk - 1)
       case measure=>have:=HG9.out;have:=HMN.out;omega
       case rel=>exact ⟨m+1,by have:=HG9.out;have:=HMN.out;show _=_;omega,by go_num,hB⟩
   · have hlt:¬ (m:Int) < (n:Int):=by omega
     clear hmn;have hL:=HL9.out.below hB;have hE:=EachH.belowR E9.out hB;have hb:=bend HB9.out hB
     go_wp2_with (first
      | (go_at_call 30;(with_reducible refine (cgood_any hL hE HN.out (by decide) (by decide) true ⟨fun _=>HG.out,fun _=>rfl⟩).mono ?_);rintro e w_z ⟨rfl,hh⟩
         replace hb:=bend hb hh;clear hL hE)
      | (go_at_call 30;(with_reducible refine (cgood_any hL hE HN.out (by decide) (by decide) false ⟨fun e=>by (cases e),fun e=>absurd e HG.out⟩).mono ?_);rintro e w_z ⟨rfl,hh⟩
         replace hb:=bend hb hh;clear hL hE)
      | (go_at_call 10;(with_reducible refine (wakes13_any _).mono ?_);rintro e w_k ⟨rfl,hh⟩
         replace hb:=bend hb hh))
     (try rw [Exit.noGoto_ret])
     go_ret;exact ⟨rfl,hb⟩
end
section
open Go Go.ChangeShapes Go.WideShapes Go.ChangeAt Go.RowKit
theorem open_rat3 {H:Type} {enc:TypeId × Value→H} {base fuel:Nat} {held:Bool} {x0 x1 x2:Value} {y:DataW H × List MemPlace}
 (h:DataW.trod enc Tryz.prog w base (fun _=>true) held fuel 26 [x0,x1,x2]=some y) :
 ∃ (q:QV) (zs ys:List Int),x0=.bool q.s∧x1=.slice q.A q.n q.c∧x2=.slice q.B q.m q.d∧IsRow64 w q.A q.n q.c zs∧IsRow64 w q.B q.m q.d ys:=by
 have e0:Tryz.prog.cellsOf 24=2:=by kernel_rfl
 have e1:Tryz.prog.cellsOf 22=1:=by kernel_rfl
 have e2:Tryz.prog.cellsOf 4=1:=by kernel_rfl
 obtain ⟨z0,z1,m,hx2,_,h2,h3⟩:=trod_struct2 Tryz.underlying26 h
 simp [e0] at h2
 simp [e1] at h3
 obtain ⟨u0,u1,k,hx4,_,h6,h7⟩:=trod_struct2 Tryz.underlying24 h2
 simp [e2] at h6
 simp [e1] at h7
 obtain ⟨b,hb,_⟩:=DataW.trod_bool Tryz.underlying4 h6
 cases hb
 obtain ⟨A1,n1,c1,zs1,rfl,r1⟩:∃ A n c zs,x1=.slice A n c∧IsRow64 w A n c zs:=by
  rcases open_ints Tryz.underlying22 Tryz.underlying101 (by kernel_rfl) h7 with ⟨hcs,_⟩ | ⟨x,l,c,zs,hcs,_,hl,hm,hz,_,hcell,hwz⟩
  · exact ⟨none,0,0,[],by cases hcs;rfl,.inl ⟨rfl,rfl,rfl,rfl⟩⟩
  · exact ⟨some x,l,c,zs,by cases hcs;rfl,.inr ⟨x,rfl,hl,hm,by simpa using hz,hcell,hwz⟩⟩
 obtain ⟨A2,n2,c2,zs2,rfl,r2⟩:∃ A n c zs,x2=.slice A n c∧IsRow64 w A n c zs:=by
  rcases open_ints Tryz.underlying22 Tryz.underlying101 (by kernel_rfl) h3 with ⟨hcs,_⟩ | ⟨x,l,c,zs,hcs,_,hl,hm,hz,_,hcell,hwz⟩
  · exact ⟨none,0,0,[],by cases hcs;rfl,.inl ⟨rfl,rfl,rfl,rfl⟩⟩
  · exact ⟨some x,l,c,zs,by cases hcs;rfl,.inr ⟨x,rfl,hl,hm,by simpa using hz,hcell,hwz⟩⟩
 exact ⟨⟨_,A1,n1,c1,A2,n2,c2⟩,zs1,zs2,rfl,rfl,rfl,r1,r2⟩
def MRows (w:World) (m:MV):Prop:=(∃ zs,IsRow64 w m.a.A m.a.n m.a.c zs)∧(∃ zs,IsRow64 w m.a.B m.a.m m.a.d zs)∧(∃ zs,IsRow64 w m.b.A m.b.n m.b.c zs)∧(∃ zs,IsRow64 w m.b.B m.b.m m.b.d zs)∧(∃ zs,IsRow64 w m.c.A m.c.n m.c.c zs)∧(∃ zs,IsRow64 w m.c.B m.c.m m.c.d zs)∧(∃ zs,IsRow64 w m.d.A m.d.n m.d.c zs)∧(∃ zs,IsRow64 w m.d.B m.d.m m.d.d zs)∧(∃ zs,IsRow64 w m.e.A m.e.n m.e.c zs)∧(∃ zs,IsRow64 w m.e.B m.e.m m.e.d zs)∧(∃ zs,IsRow64 w m.f.A m.f.n m.f.c zs)∧(∃ zs,IsRow64 w m.f.B m.f.m m.f.d zs)
theorem MRows.mr {m:MV} (h:MRows w m):∃ v:AM,((((m.a.n≤6∧m.a.m≤6)∧m.b.n≤6∧m.b.m≤6)∧(((m.c.n≤6∧m.c.m≤6)∧m.d.n≤6∧m.d.m≤6))∧(((m.e.n≤6∧m.e.m≤6)∧m.f.n≤6∧m.f.m≤6)))→MR w m v 6 6):=by
 obtain ⟨⟨_,ra⟩,⟨_,ta⟩,⟨_,rb⟩,⟨_,tb⟩,⟨_,rc⟩,⟨_,tc⟩,⟨_,rd⟩,⟨_,td⟩,⟨_,re⟩,⟨_,te⟩,⟨_,rf⟩,⟨_,tf⟩⟩:=h
 obtain ⟨lia,pa,sa,ea,_⟩:=ra.rd
 obtain ⟨lja,qa,ua,ga,_⟩:=ta.rd
 obtain ⟨lib,pb,sb,eb,_⟩:=rb.rd
 obtain ⟨ljb,qb,ub,gb,_⟩:=tb.rd
 obtain ⟨lic,pc,sc,ec,_⟩:=rc.rd
 obtain ⟨ljc,qc,uc,gc,_⟩:=tc.rd
 obtain ⟨lid,pd,sd,ed,_⟩:=rd.rd
 obtain ⟨ljd,qd,ud,gd,_⟩:=td.rd
 obtain ⟨lie,pe,se,ee,_⟩:=re.rd
 obtain ⟨lje,qe,ue,ge,_⟩:=te.rd
 obtain ⟨lif,pf,sf,ef,_⟩:=rf.rd
 obtain ⟨ljf,qf,uf,gf,_⟩:=tf.rd
 exact ⟨⟨_,_,_,_,_,_⟩,fun k=>⟨⟨QR.of_rd pa sa ea qa ua ga k.1.1.1 k.1.1.2,QR.of_rd pb sb eb qb ub gb k.1.2.1 k.1.2.2⟩,⟨QR.of_rd pc sc ec qc uc gc k.2.1.1.1 k.2.1.1.2,QR.of_rd pd sd ed qd ud gd k.2.1.2.1 k.2.1.2.2⟩,⟨QR.of_rd pe se ee qe ue ge k.2.2.1.1 k.2.2.1.2,QR.of_rd pf sf ef qf uf gf k.2.2.2.1 k.2.2.2.2⟩⟩⟩
end
section
open Go Go.ChangeShapes Go.WideShapes Go.ChangeAt Go.RowKit
def QV.Raw (w:World) (q:QV):Prop:=(∃ zs,IsRow64 w q.A q.n q.c zs)∧∃ zs,IsRow64 w q.B q.m q.d zs
def HV.Raw (w:World) (p:HV):Prop:=p.x.Raw w∧p.y.Raw w∧p.w.Raw w
theorem open_hom9 {H:Type} {enc:TypeId × Value→H} {base fuel:Nat} {held:Bool} {x0 x1 x2 x3 x4 x5 x6 x7 x8:Value} {y:DataW H × List MemPlace}
 (h:DataW.trod enc Tryz.prog w base (fun _=>true) held fuel 73 [x0,x1,x2,x3,x4,x5,x6,x7,x8]=some y) :
 ∃ p:HV,x0=.bool p.x.s∧x1=.slice p.x.A p.x.n p.x.c∧x2=.slice p.x.B p.x.m p.x.d∧x3=.bool p.y.s∧x4=.slice p.y.A p.y.n p.y.c∧x5=.slice p.y.B p.y.m p.y.d∧x6=.bool p.w.s∧x7=.slice p.w.A p.w.n p.w.c∧x8=.slice p.w.B p.w.m p.w.d∧p.Raw w:=by
 have e3:Tryz.prog.cellsOf 26=3:=by kernel_rfl
 obtain ⟨xs,n,_,_,_,hlen,hi⟩:=DataW.trod_struct Tryz.underlying73 h
 match xs,hlen with
 | [y0,y1,y2],_ =>
   have h0:=hi 0 _ rfl
   simp [e3] at h0
   have h1:=hi 1 _ rfl
   simp [e3] at h1
   have h2:=hi 2 _ rfl
   simp [e3] at h2
   obtain ⟨q0,z0,s0,rfl,rfl,rfl,r0,t0⟩:=open_rat3 h0
   obtain ⟨q1,z1,s1,rfl,rfl,rfl,r1,t1⟩:=open_rat3 h1
   obtain ⟨q2,z2,s2,rfl,rfl,rfl,r2,t2⟩:=open_rat3 h2
   exact ⟨⟨q0,q1,q2⟩,rfl,rfl,rfl,rfl,rfl,rfl,rfl,rfl,rfl,⟨⟨z0,r0⟩,⟨s0,t0⟩⟩,⟨⟨z1,r1⟩,⟨s1,t1⟩⟩,⟨z2,r2⟩,⟨s2,t2⟩⟩
theorem open_zhoms {H:Type} {enc:TypeId × Value→H} {base:Nat} {held:Bool} {r:Reach} {b0:Nat} {v:Value} {d:DataW H} {p:List MemPlace}
 (hv:Value.okWide Tryz.prog w r b0 37 v) (h:DataW.Trod enc Tryz.prog w base (fun _=>true) held 37 v d p) :
 ∃ (A:Option Addr) (n c:Nat) (L:List HV),v=.slice A n c∧SV w A (hvs L)∧L.length=n∧n≤c∧n≤maxLen∧∀ q ∈ L,q.Raw w:=by
 obtain ⟨A,n,c,rfl⟩:=okWide_slice Tryz.underlying37 hv
 have e9:Tryz.prog.cellsOf 73=9:=by kernel_rfl
 obtain ⟨fuel,hf⟩:=h
 rcases DataW.trod_slice Tryz.underlying37 hf with ⟨h0,_⟩ | ⟨a,len,cap,elems,rest,m,_,h0,_,hb,hl,hm,hlen,hel,_,_⟩
 · simp [Value.cells] at h0
   obtain ⟨rfl,rfl,rfl⟩:=h0
   exact ⟨none,0,0,[],rfl,SV.nil _ _,rfl,Nat.le_refl _,Nat.zero_le _,fun q hq=>by cases hq⟩
 · simp [Value.cells] at h0
   obtain ⟨rfl,rfl,rfl⟩:=h0
   rw [e9] at hel
   have each:∀ i,i < n→∃ q:HV,(∀ j u,q.cells[j]?=some u→w.cell? ((a.add (i*9)).add j)=some u)∧q.Raw w:=by
    intro i hi
    have h1:=hel i hi
    rw [List.getElem?_eq_getElem (by rw [hlen];exact hi)] at h1
    obtain ⟨cs,hc1,hc2⟩:=Option.bind_eq_some_iff.1 h1
    unfold World.cells? at hc1
    split at hc1
    · have hcl:=mapM_some_length hc1
      have hcg:=fun k (hk:k < 9)=>mapM_some_get hc1 k k (by simp [hk])
      rw [List.length_range] at hcl
      match cs,hcl with
      | [x0,x1,x2,x3,x4,x5,x6,x7,x8],_ =>
        obtain ⟨p,rfl,rfl,rfl,rfl,rfl,rfl,rfl,rfl,rfl,r1⟩:=open_hom9 hc2
        refine ⟨p,fun j u hu=>?_,r1⟩
        have hj:j < 9:=(List.getElem?_eq_some_iff.1 hu).1
        have:=hcg j hj
        rw [this];exact hu
    · cases hc1
   obtain ⟨L,hL,hq⟩:∃ L:List HV,L.length=n∧∀ i q,L[i]?=some q→(∀ j u,q.cells[j]?=some u→w.cell? ((a.add (i*9)).add j)=some u)∧q.Raw w:=by
    have:∀ m,m≤n→∃ L:List HV,L.length=m∧∀ i q,L[i]?=some q→(∀ j u,q.cells[j]?=some u→w.cell? ((a.add (i*9)).add j)=some u)∧q.Raw w:=by
     intro m
     induction m with
     | zero=>intro _;exact ⟨[],rfl,fun i q h=>by cases h⟩
     | succ m ih =>
       intro hm
       obtain ⟨L,h1,h2⟩:=ih (by omega)
       obtain ⟨q,h3⟩:=each m (by omega)
       refine ⟨L ++ [q],by rw [List.length_append,h1];rfl,fun i x hx=>?_⟩
       rcases Nat.lt_or_ge i L.length with k | k
       · rw [List.getElem?_append_left k] at hx;exact h2 i x hx
       · rw [List.getElem?_append_right k] at hx
         have:i - L.length=0:=by
          have:=(List.getElem?_eq_some_iff.1 hx).1
          simp at this;omega
         rw [this] at hx
         cases hx
         rw [show i=m by omega];exact h3
    exact this n (Nat.le_refl _)
   refine ⟨some a,n,c,L,rfl,fun hn=>?_,hL,hl,by omega,fun q hq2=>?_⟩
   · have hn0:0 < n:=by rw [show (hvs L).length=L.length*9 from rows_length hvc_len L,hL] at hn;omega
     obtain ⟨b,o,spot⟩:=a
     have hx:=(hq 0 _ (List.getElem?_eq_getElem (by rw [hL];exact hn0))).1 0 _ rfl
     have hspot:spot=none:=by simpa [Addr.add] using World.cell?_spot hx
     subst hspot
     refine ⟨b,o,rfl,?_,fun j u hu=>?_⟩
     · rw [add_at,add_at] at hx
       exact World.block_lt_of_cell? w _ hx
     · have hj:=(List.getElem?_eq_some_iff.1 hu).1
       rw [show (hvs L).length=L.length*9 from rows_length hvc_len L,hL] at hj
       obtain ⟨i,k,hk,rfl⟩:∃ i k,k < 9∧j=i*9+k:=⟨j / 9,j % 9,Nat.mod_lt _ (by decide),by omega⟩
       have hi:i < L.length:=by omega
       have hg:=List.getElem?_eq_getElem hi
       have:=(hq i _ hg).1 k u (by rw [← rows_get hvc_len hg hk];exact hu)
       rw [add_at,add_at] at this
       rwa [← Nat.add_assoc]
   · obtain ⟨i,hi⟩:=List.getElem?_of_mem hq2
     exact (hq i q hi).2
theorem raw_qr {q:QV} {M:Nat} (h:q.Raw w) (hs:q.small M):∃ v,QR w q.s q.A q.n q.c q.B q.m q.d v M:=by
 obtain ⟨⟨_,ra⟩,⟨_,ta⟩⟩:=h
 obtain ⟨l1,a1,b1,c1,_⟩:=ra.rd
 obtain ⟨l2,a2,b2,c2,_⟩:=ta.rd
 exact ⟨_,QR.of_rd a1 b1 c1 a2 b2 c2 hs.1 hs.2⟩
theorem raw_hr {p:HV} {M:Nat} (h:p.Raw w) (hs:p.small M):∃ u,HR w p u M:=by
 obtain ⟨x,hx⟩:=raw_qr h.1 hs.1
 obtain ⟨y,hy⟩:=raw_qr h.2.1 hs.2.1
 obtain ⟨z,hz⟩:=raw_qr h.2.2 hs.2.2
 exact ⟨⟨x,y,z⟩,hx,hy,hz⟩
theorem raw_eachH {M:Nat}:∀ {L:List HV},(∀ p ∈ L,p.Raw w)→(∀ p ∈ L,p.small M)→∃ l,EachH HR w L l M
 | [],_,_=>⟨[],EachH.nil⟩
 | p :: L,h,hs=>by
   obtain ⟨u,hu⟩:=raw_hr (h p List.mem_cons_self) (hs p List.mem_cons_self)
   obtain ⟨l,hl⟩:=raw_eachH (L:=L) (fun q hq=>h q (List.mem_cons_of_mem _ hq)) (fun q hq=>hs q (List.mem_cons_of_mem _ hq))
   refine ⟨u :: l,by rw [List.length_cons,List.length_cons,hl.1],fun i q v h1 h2=>?_⟩
   match i,h1,h2 with
   | 0,h1,h2=>cases h1;cases h2;exact hu
   | i+1,h1,h2=>exact hl.2 i q v h1 h2
end
section
open Go Go.RowKit
theorem law_at13 {A:Option Addr} {n c:Nat} {s:Bool} {A1 A2:Option Addr} {n1 c1 n2 c2:Nat} {L:List HV} {l1 l2:List Nat} (hL:SV w A (hvs L)) (hn:L.length=n) (hm:n≤maxLen) (hz:∀ p ∈ L,p.Raw w) (r1:Rd .u64 w A1 n1 l1) (r2:Rd .u64 w A2 n2 l2) (t1:Lim B64 l1) (t2:Lim B64 l2) (e1:n1≤c1) (e2:n2≤c2) :
 Calls Tryz.prog 4 #[.slice A n c,.agg #[.bool s,.slice A1 n1 c1,.slice A2 n2 c2]] w fun e w'=>e=.returned (.bool true)∧Below w.heap.size w w':=by
 by_cases hf:(∀ p ∈ L,p.small 4)∧n≤6
 · by_cases hs:n1≤2∧n2≤2
   · obtain ⟨V,hE⟩:=raw_eachH hz hf.1
     exact at_p hL hn hE hm hf (QR.of_rd r1 t1 e1 r2 t2 e2 hs.1 hs.2) hs
   · exact at_m hL hn hm hf hs
 · exact at_f hL hn hm hf
end
end Go.Proofs.YtananlhdmekmjaaGreat
