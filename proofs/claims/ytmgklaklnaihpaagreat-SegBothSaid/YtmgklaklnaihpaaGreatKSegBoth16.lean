/- SegBoth: part 16. -/
import Derived.Test.YtmgklaklnaihpaaGreatKSegBoth15
set_option linter.unusedVariables false
set_option maxRecDepth 100000
set_option maxHeartbeats 16000000
variable {w:Go.World}
variable {s_p t_p:Bool} {A_p B_p E_p F_p:Option Go.Addr} {n_p c_p m_p d_p i_p e_p j_p f_p:Nat}
variable {s_q t_q:Bool} {A_q B_q E_q F_q:Option Go.Addr} {n_q c_q m_q d_q i_q e_q j_q f_q:Nat}
variable {s_r t_r:Bool} {A_r B_r E_r F_r:Option Go.Addr} {n_r c_r m_r d_r i_r e_r j_r f_r:Nat}
variable {s_u t_u:Bool} {A_u B_u E_u F_u:Option Go.Addr} {n_u c_u m_u d_u i_u e_u j_u f_u:Nat}
namespace Go.Proofs.YtmgklaklnaihpaaGreat
open Go Go.RowKit
theorem told_ex (ax ay bx by_ cx cy dx dy:Rat):∃ l,Told ax ay bx by_ cx cy dx dy l:=by
 by_cases hz:(bx - ax)*(dy - cy) - (by_ - ay)*(dx - cx)=0
 · by_cases hf:farQ ax ay dx dy < farQ ax ay cx cy
   · exact ⟨_,told_by (fun x y=>(both_swap x y).symm) (told_ends (by rw [show (bx - ax)*(cy - dy) - (by_ - ay)*(cx - dx)=-((bx - ax)*(dy - cy) - (by_ - ay)*(dx - cx)) by grind,hz];rfl) (Rat.le_of_lt hf))⟩
   · exact ⟨_,told_ends hz (Rat.not_lt.1 hf)⟩
 · have ef:=div_mul_self (x:=(cx - ax)*(dy - cy) - (cy - ay)*(dx - cx)) hz
   have eg:=div_mul_self (x:=(cx - ax)*(by_ - ay) - (cy - ay)*(bx - ax)) hz
   generalize ((cx - ax)*(dy - cy) - (cy - ay)*(dx - cx)) / ((bx - ax)*(dy - cy) - (by_ - ay)*(dx - cx))=f at ef
   generalize ((cx - ax)*(by_ - ay) - (cy - ay)*(bx - ax)) / ((bx - ax)*(dy - cy) - (by_ - ay)*(dx - cx))=g at eg
   by_cases h:(0≤f∧f≤1)∧(0≤g∧g≤1)
   · exact ⟨_,told_cross hz ef eg h⟩
   · exact ⟨_,told_none hz ef eg h⟩
theorem Each.more {L:List PV} {l:List (Rat × Rat)} {k k2:Nat} (h:Each PV.PG w L l k) (hk:k≤k2):Each PV.PG w L l k2:=⟨h.1,fun i p u hp hu=>PG.more (h.2 i p u hp hu) hk⟩
theorem run_ia4_0 {e1:Operand→Value} {x1:Operand} {d1:Option Tmp} {y1 g:Nat} {pos:String} {af:Array Edge} (h:e1 x1=.pointer (some ⟨g,0,none⟩)) (hc:e1 (.const (Value.int IntKind.i64 0))=.int .i64 0) :
 (execOp e1 ⟨d1,.indexAddr 57 x1 (.const (Value.int IntKind.i64 0)),y1,pos,af,none⟩).run Tryz.prog w=.ok (.value (.pointer (some ⟨g,0,none⟩))) w:=by
 have h1:=at4_0 g w
 go_simp
theorem run_loadB0 {e1:Operand→Value} {x1:Operand} {d1:Option Tmp} {y1 g:Nat} {pos:String} {af:Array Edge} {v0 v1 v2 v3 v4 v5 v6 v7 v8 v9 v10 v11 v12 v13 v14 v15 v16 v17 v18 v19 v20 v21 v22 v23:Value} (h:e1 x1=.pointer (some ⟨g,0,none⟩)) (Z:BA4 w g v0 v1 v2 v3 v4 v5 v6 v7 v8 v9 v10 v11 v12 v13 v14 v15 v16 v17 v18 v19 v20 v21 v22 v23) :
 (execOp e1 ⟨d1,.load 56 x1,y1,pos,af,none⟩).run Tryz.prog w=.ok (.value (.agg #[v0,v1,v2,v3,v4,v5])) w:=by
 obtain ⟨c0,c1,c2,c3,c4,c5⟩:=Z.all
 go_simp
theorem run_ia4_1 {e1:Operand→Value} {x1:Operand} {d1:Option Tmp} {y1 g:Nat} {pos:String} {af:Array Edge} (h:e1 x1=.pointer (some ⟨g,0,none⟩)) (hc:e1 (.const (Value.int IntKind.i64 1))=.int .i64 1) :
 (execOp e1 ⟨d1,.indexAddr 57 x1 (.const (Value.int IntKind.i64 1)),y1,pos,af,none⟩).run Tryz.prog w=.ok (.value (.pointer (some ⟨g,6,none⟩))) w:=by
 have h1:=at4_1 g w
 go_simp
theorem run_loadB1 {e1:Operand→Value} {x1:Operand} {d1:Option Tmp} {y1 g:Nat} {pos:String} {af:Array Edge} {v0 v1 v2 v3 v4 v5 v6 v7 v8 v9 v10 v11 v12 v13 v14 v15 v16 v17 v18 v19 v20 v21 v22 v23:Value} (h:e1 x1=.pointer (some ⟨g,6,none⟩)) (Z:BA4 w g v0 v1 v2 v3 v4 v5 v6 v7 v8 v9 v10 v11 v12 v13 v14 v15 v16 v17 v18 v19 v20 v21 v22 v23) :
 (execOp e1 ⟨d1,.load 56 x1,y1,pos,af,none⟩).run Tryz.prog w=.ok (.value (.agg #[v6,v7,v8,v9,v10,v11])) w:=by
 have c0:=Z.c6;have c1:=Z.c7;have c2:=Z.c8;have c3:=Z.c9;have c4:=Z.c10;have c5:=Z.c11
 go_simp
abbrev L_both13:List Nat:=[116,117,118,119,120,121,122,123,7]
def o0_both13:Oper:=⟨some 116,.indexAddr 57 (.tmp 2) (.const (Value.int IntKind.i64 0)),0, "law.go:67",#[],none⟩
def o1_both13:Oper:=⟨some 117,.load 56 (.tmp 116),56, "law.go:67",#[⟨0,.data⟩],none⟩
def o2_both13:Oper:=⟨some 118,.indexAddr 57 (.tmp 2) (.const (Value.int IntKind.i64 1)),0, "law.go:67",#[],none⟩
def o3_both13:Oper:=⟨some 119,.load 56 (.tmp 118),56, "law.go:67",#[⟨2,.data⟩],none⟩
def o4_both13:Oper:=⟨some 120,.move (.tmp 1),5, "law.go:67",#[],none⟩
def o5_both13:Oper:=⟨some 121,.convert 5 2 (.tmp 120),2, "law.go:67",#[⟨4,.data⟩],none⟩
def o6_both13:Oper:=⟨some 122,.call ⟨.value (.func 23),#[.tmp 121,.const (Value.int IntKind.i64 255)],#[2,2]⟩,26, "law.go:67",#[⟨5,.data⟩],none⟩
def o7_both13:Oper:=⟨some 123,.call ⟨.value (.func 44),#[.tmp 117,.tmp 119,.tmp 122],#[56,56,26]⟩,56, "law.go:67",#[⟨1,.data⟩,⟨3,.data⟩,⟨6,.data⟩,⟨6,.chain⟩],none⟩
def o8_both13:Oper:=⟨some 7,.alloc 56,0, "law.go:67",#[],none⟩
def o9_both13:Oper:=⟨none,.store 56 (.tmp 7) (.tmp 123),0, "law.go:67",#[⟨8,.data⟩,⟨7,.data⟩,⟨7,.chain⟩,⟨0,.phase⟩,⟨1,.phase⟩,⟨2,.phase⟩,⟨3,.phase⟩,⟨4,.phase⟩,⟨5,.phase⟩,⟨6,.phase⟩,⟨7,.phase⟩,⟨8,.phase⟩],none⟩
def F_both13 (s_p:Bool) (t_p:Bool) (A_p:Option Addr) (B_p:Option Addr) (E_p:Option Addr) (F_p:Option Addr) (n_p:Nat) (c_p:Nat) (m_p:Nat) (d_p:Nat) (i_p:Nat) (e_p:Nat) (j_p:Nat) (f_p:Nat) (s_q:Bool) (t_q:Bool) (A_q:Option Addr) (B_q:Option Addr) (E_q:Option Addr) (F_q:Option Addr) (n_q:Nat) (c_q:Nat) (m_q:Nat) (d_q:Nat) (i_q:Nat) (e_q:Nat) (j_q:Nat) (f_q:Nat) (ax:Rat) (ay:Rat) (bx:Rat) (by_:Rat) (tv:Nat) (gl:Nat) (sl:Nat):Value→World→Prop :=
 match sl with
 | 116=>fun x _=>x=Value.pointer (some ⟨gl,0,none⟩)
 | 117=>fun x _=>x=Value.agg #[.bool s_p,.slice A_p n_p c_p,.slice B_p m_p d_p,.bool t_p,.slice E_p i_p e_p,.slice F_p j_p f_p]
 | 118=>fun x _=>x=Value.pointer (some ⟨gl,6,none⟩)
 | 119=>fun x _=>x=Value.agg #[.bool s_q,.slice A_q n_q c_q,.slice B_q m_q d_q,.bool t_q,.slice E_q i_q e_q,.slice F_q j_q f_q]
 | 120=>fun x _=>x=Value.int .u8 (tv:Int)
 | 121=>fun x _=>x=Value.int .i64 (tv:Int)
 | 122=>VQ ((Rat.divInt (tv:Int) 255)) (1)
 | 123=>VPG ((ax+(bx - ax)*(Rat.divInt (tv:Int) 255))) ((ay+(by_ - ay)*(Rat.divInt (tv:Int) 255))) (6+(6+6+1+1)+1)
 | _=>fun _ _=>True
def B0_both13 (ax:Rat) (ay:Rat) (bx:Rat) (by_:Rat) (tv:Nat):BoxOp :=
 ⟨8,9,7,56,#[.bool false,.slice none 0 0,.slice none 0 0,.bool false,.slice none 0 0,.slice none 0 0],fun cs w=>∃ s A n c B m d t E i e F j f,cs=#[.bool s,.slice A n c,.slice B m d,.bool t,.slice E i e,.slice F j f]∧PG w s A n c B m d t E i e F j f ((ax+(bx - ax)*(Rat.divInt (tv:Int) 255))) ((ay+(by_ - ay)*(Rat.divInt (tv:Int) 255))) (6+(6+6+1+1)+1)⟩
theorem both13_region {id:Nat} {ac:Act} {Q:Exit→Act→World→Prop} {ax ay bx by_:Rat} {tv gl:Nat}
 (hsz:123 < ac.tmps.size) (e2:ac.eval (.tmp 2)=Value.pointer (some ⟨gl,0,none⟩)) (e1:ac.eval (.tmp 1)=Value.int .u8 (tv:Int)) (XL:BA4 w gl (.bool s_p) (.slice A_p n_p c_p) (.slice B_p m_p d_p) (.bool t_p) (.slice E_p i_p e_p) (.slice F_p j_p f_p) (.bool s_q) (.slice A_q n_q c_q) (.slice B_q m_q d_q) (.bool t_q) (.slice E_q i_q e_q) (.slice F_q j_q f_q) (.bool s_r) (.slice A_r n_r c_r) (.slice B_r m_r d_r) (.bool t_r) (.slice E_r i_r e_r) (.slice F_r j_r f_r) (.bool s_u) (.slice A_u n_u c_u) (.slice B_u m_u d_u) (.bool t_u) (.slice E_u i_u e_u) (.slice F_u j_u f_u)) (p:PR w s_p A_p n_p c_p B_p m_p d_p t_p E_p i_p e_p F_p j_p f_p ax ay 6) (q:PR w s_q A_q n_q c_q B_q m_q d_q t_q E_q i_q e_q F_q j_q f_q bx by_ 6) (HT:(tv:Int)≤255)
 (hend:∀ (V:Nat→Value) (w':World) (g0:Nat) (s0:Bool) (A0:Option Addr) (n0:Nat) (c0:Nat) (B0:Option Addr) (m0:Nat) (d0:Nat) (t0:Bool) (E0:Option Addr) (i0:Nat) (e0:Nat) (F0:Option Addr) (j0:Nat) (f0:Nat),PG w' s0 A0 n0 c0 B0 m0 d0 t0 E0 i0 e0 F0 j0 f0 ((ax+(bx - ax)*(Rat.divInt (tv:Int) 255))) ((ay+(by_ - ay)*(Rat.divInt (tv:Int) 255))) (6+(6+6+1+1)+1)→B6 w' g0 (.bool s0) (.slice A0 n0 c0) (.slice B0 m0 d0) (.bool t0) (.slice E0 i0 e0) (.slice F0 j0 f0)→w.heap.size≤g0→V 7=.pointer (some ⟨g0,0,none⟩)→Below w.heap.size w w'→Q .normal (putAll ac [116,117,118,119,120,121,122,123,7] V) w') :
 (Code.region id #[o0_both13,o1_both13,o2_both13,o3_both13,o4_both13,o5_both13,o6_both13,o7_both13,o8_both13,o9_both13] true).wp Tryz.prog Q ac w:=by
 have hnd:L_both13.Nodup:=by decide
 have G:∀ (sv:Nat→Value) (t:Nat),t ∈ L_both13→t≤123→(putAll ac L_both13 sv).eval (.tmp t)=sv t:=fun sv t ht h=>eval_putAll_mem (t:=t) L_both13 ac hnd ht (Nat.lt_of_le_of_lt h hsz)
 have E2:∀ sv:Nat→Value,(putAll ac L_both13 sv).eval (.tmp 2)=Value.pointer (some ⟨gl,0,none⟩):=fun sv=>(eval_putAll_not (v:=sv) L_both13 ac (show 2 ∉ _ by decide)).trans e2
 have E1:∀ sv:Nat→Value,(putAll ac L_both13 sv).eval (.tmp 1)=Value.int .u8 (tv:Int):=fun sv=>(eval_putAll_not (v:=sv) L_both13 ac (show 1 ∉ _ by decide)).trans e1
 have NE:∀ t:Nat,(t ≠ 7)→∀ p ∈ [B0_both13 ax ay bx by_ tv],t ≠ p.tA:=by
  intro t ht p hp
  simp only [List.mem_cons,List.not_mem_nil,or_false] at hp
  rcases hp with rfl
  · exact ht
 refine wp_region_flows L_both13 [B0_both13 ax ay bx by_ tv] (F_both13 s_p t_p A_p B_p E_p F_p n_p c_p m_p d_p i_p e_p j_p f_p s_q t_q A_q B_q E_q F_q n_q c_q m_q d_q i_q e_q j_q f_q ax ay bx by_ tv gl) (by kernel_rfl) (by kernel_rfl) rfl hnd ?_ ?_ ?_ ?_ ?_ ?_ ?_ ?_
 · intro p hp
   simp only [List.mem_cons,List.not_mem_nil,or_false] at hp
   rcases hp with rfl
   · refine ⟨⟨o8_both13,rfl,rfl,rfl,fun e w'=>run_alloc6⟩,⟨o9_both13,rfl,rfl,rfl,⟨8,.data⟩,by simp [o9_both13],rfl,rfl⟩,free6 _ _ _ _ _ _ _ _ _ _ _ _ _ _,?_,?_⟩
     · rintro cs w1 w2 ⟨s_,A_,n_,c_,B_,m_,d_,t_,E_,i_,e_,F_,j_,f_,rfl,h⟩ hb;exact ⟨s_,A_,n_,c_,B_,m_,d_,t_,E_,i_,e_,F_,j_,f_,rfl,h.below hb⟩
     · rintro T cs w1 w2 g c0 ⟨s_,A_,n_,c_,B_,m_,d_,t_,E_,i_,e_,F_,j_,f_,rfl,h⟩ hB ho;exact ⟨s_,A_,n_,c_,B_,m_,d_,t_,E_,i_,e_,F_,j_,f_,rfl,h.box hB ho⟩
 · intro p hp q hq h
   simp only [List.mem_cons,List.not_mem_nil,or_false] at hp hq
   rcases hp with rfl <;> rcases hq with rfl
   · rfl
 · intro p hp q hq h
   simp only [List.mem_cons,List.not_mem_nil,or_false] at hp hq
   rcases hp with rfl <;> rcases hq with rfl
   · rfl
 · intro i o h1 h2
   match i,h1 with
   | 0,h1=>cases h1;cases h2
   | 1,h1=>cases h1;cases h2
   | 2,h1=>cases h1;cases h2
   | 3,h1=>cases h1;cases h2
   | 4,h1=>cases h1;cases h2
   | 5,h1=>cases h1;cases h2
   | 6,h1=>cases h1;cases h2
   | 7,h1=>cases h1;cases h2
   | 8,h1=>cases h1;cases h2
   | 9,h1=>exact ⟨B0_both13 ax ay bx by_ tv,List.Mem.head _,rfl⟩
   | i+10,h1=>cases h1
 · intro t
   unfold F_both13
   split <;> first | exact stays_eq _ | exact stays_q _ _ | exact stays_z _ _ | exact stays_r _ _ | exact stays_rq _ _ | exact stays_pg _ _ _ | exact stays_true
 · intro i o t sv w' ho hia hd J0 hf
   have p:=p.below J0;have q:=q.below J0;have XL:=XL.below J0
   match i,ho with
   | 0,ho =>
     obtain rfl:o0_both13=o:=Option.some.inj ho
     cases hd
     refine wpOp_plain' (o:=o0_both13) rfl rfl ?_
     unfold Oper.wp o0_both13
     rw [run_ia4_0 (E2 sv) rfl,Oper.upon_value]
     exact ⟨_,rfl,Below.refl _ _,rfl⟩
   | 1,ho =>
     obtain rfl:o1_both13=o:=Option.some.inj ho
     cases hd
     have f116:sv 116=Value.pointer (some ⟨gl,0,none⟩):=hf ⟨0,.data⟩ (by simp [o1_both13]) rfl _ 116 rfl rfl (NE _ (by decide))
     refine wpOp_plain' (o:=o1_both13) rfl rfl ?_
     unfold Oper.wp o1_both13
     rw [run_loadB0 ((G sv 116 (by decide) (by decide)).trans f116) XL,Oper.upon_value]
     exact ⟨_,rfl,Below.refl _ _,rfl⟩
   | 2,ho =>
     obtain rfl:o2_both13=o:=Option.some.inj ho
     cases hd
     refine wpOp_plain' (o:=o2_both13) rfl rfl ?_
     unfold Oper.wp o2_both13
     rw [run_ia4_1 (E2 sv) rfl,Oper.upon_value]
     exact ⟨_,rfl,Below.refl _ _,rfl⟩
   | 3,ho =>
     obtain rfl:o3_both13=o:=Option.some.inj ho
     cases hd
     have f118:sv 118=Value.pointer (some ⟨gl,6,none⟩):=hf ⟨2,.data⟩ (by simp [o3_both13]) rfl _ 118 rfl rfl (NE _ (by decide))
     refine wpOp_plain' (o:=o3_both13) rfl rfl ?_
     unfold Oper.wp o3_both13
     rw [run_loadB1 ((G sv 118 (by decide) (by decide)).trans f118) XL,Oper.upon_value]
     exact ⟨_,rfl,Below.refl _ _,rfl⟩
   | 4,ho =>
     obtain rfl:o4_both13=o:=Option.some.inj ho
     cases hd
     refine wpOp_plain' (o:=o4_both13) rfl rfl ?_
     unfold Oper.wp o4_both13
     rw [run_move (E1 sv),Oper.upon_value]
     exact ⟨_,rfl,Below.refl _ _,rfl⟩
   | 5,ho =>
     obtain rfl:o5_both13=o:=Option.some.inj ho
     cases hd
     have f120:sv 120=Value.int .u8 (tv:Int):=hf ⟨4,.data⟩ (by simp [o5_both13]) rfl _ 120 rfl rfl (NE _ (by decide))
     refine wpOp_plain' (o:=o5_both13) rfl rfl ?_
     unfold Oper.wp o5_both13
     rw [run_conv8 HT ((G sv 120 (by decide) (by decide)).trans f120),Oper.upon_value]
     exact ⟨_,rfl,Below.refl _ _,rfl⟩
   | 6,ho =>
     obtain rfl:o6_both13=o:=Option.some.inj ho
     cases hd
     have f121:sv 121=Value.int .i64 (tv:Int):=hf ⟨5,.data⟩ (by simp [o6_both13]) rfl _ 121 rfl rfl (NE _ (by decide))
     refine wpOp_plain' (o:=o6_both13) rfl rfl ?_
     unfold Oper.wp o6_both13
     rw [rc_gesso_rat_Of ((G sv 121 (by decide) (by decide)).trans f121) (show (putAll ac L_both13 sv).eval (.const (Value.int IntKind.i64 255))=(Value.int IntKind.i64 255) from rfl) rfl,Oper.upon_enter]
     refine (rof_q (tv:Int) 255 (by omega) (by omega) (by decide) (by decide) (by decide) _).mono ?_
     rintro e w1 ⟨s_,A_,n_,c_,B_,m_,d_,rfl,hq,hh⟩
     exact ⟨_,rfl,hh,s_,A_,n_,c_,B_,m_,d_,rfl,hq⟩
   | 7,ho =>
     obtain rfl:o7_both13=o:=Option.some.inj ho
     cases hd
     have f117:sv 117=Value.agg #[.bool s_p,.slice A_p n_p c_p,.slice B_p m_p d_p,.bool t_p,.slice E_p i_p e_p,.slice F_p j_p f_p]:=hf ⟨1,.data⟩ (by simp [o7_both13]) rfl _ 117 rfl rfl (NE _ (by decide))
     have f119:sv 119=Value.agg #[.bool s_q,.slice A_q n_q c_q,.slice B_q m_q d_q,.bool t_q,.slice E_q i_q e_q,.slice F_q j_q f_q]:=hf ⟨3,.data⟩ (by simp [o7_both13]) rfl _ 119 rfl rfl (NE _ (by decide))
     have h122:VQ ((Rat.divInt (tv:Int) 255)) (1) (sv 122) w':=hf ⟨6,.data⟩ (by simp [o7_both13]) rfl _ 122 rfl rfl (NE _ (by decide))
     obtain ⟨s122_,A122_,n122_,c122_,B122_,m122_,d122_,f122,q122⟩:=h122
     refine wpOp_plain' (o:=o7_both13) rfl rfl ?_
     unfold Oper.wp o7_both13
     rw [rc_gesso_pt_Mix ((G sv 117 (by decide) (by decide)).trans f117) ((G sv 119 (by decide) (by decide)).trans f119) ((G sv 122 (by decide) (by decide)).trans f122) rfl,Oper.upon_enter]
     refine (pmix_p p q q122.qr (by decide) (by decide) (by decide) (by decide) (by decide) (by decide)).mono ?_
     rintro e w1 ⟨s_,A_,n_,c_,B_,m_,d_,t_,E_,i_,e_,F_,j_,f_,rfl,hq,hh⟩
     exact ⟨_,rfl,hh,s_,A_,n_,c_,B_,m_,d_,t_,E_,i_,e_,F_,j_,f_,rfl,hq⟩
   | 8,ho=>cases ho;cases hd;exact absurd rfl (hia (B0_both13 ax ay bx by_ tv) (List.Mem.head _))
   | 9,ho=>cases ho;cases hd
   | i+10,ho=>cases ho
 · intro p hp os sv w' g hos J0 p1 p3 hf
   simp only [List.mem_cons,List.not_mem_nil,or_false] at hp
   rcases hp with rfl
   · obtain rfl:o9_both13=os:=Option.some.inj hos
     have h1:VPG ((ax+(bx - ax)*(Rat.divInt (tv:Int) 255))) ((ay+(by_ - ay)*(Rat.divInt (tv:Int) 255))) (6+(6+6+1+1)+1) (sv 123) w':=hf ⟨7,.data⟩ (by simp [o9_both13]) rfl _ 123 rfl rfl (NE _ (by decide))
     rw [← G sv 123 (by decide) (by decide)] at h1
     refine store_pg (x:=(ax+(bx - ax)*(Rat.divInt (tv:Int) 255))) (y:=(ay+(by_ - ay)*(Rat.divInt (tv:Int) 255))) (k:=6+(6+6+1+1)+1) (ac:=putAll ac L_both13 sv) (z:=.tmp 123) ?_ ?_ ?_
     · exact (G sv 7 (by decide) (by decide)).trans p1
     · exact h1
     · exact p3
 · intro sv w' J0 hF hB hap
   obtain ⟨g0,cs0,p0,r0,b0,⟨s0,A0,n0,c0,B0,m0,d0,t0,E0,i0,e0,F0,j0,f0,rfl,h0⟩⟩:=hB (B0_both13 ax ay bx by_ tv) (List.Mem.head _)
   have p0':sv 7=.pointer (some ⟨g0,0,none⟩):=p0
   exact hend sv w' g0 _ _ _ _ _ _ _ _ _ _ _ _ _ _ h0 b0.at_ r0 p0'  J0
theorem mkbx32_16 {w W:World} {x0 x1 x2 x3 x4 x5 x6 x7 x8 x9 x10 x11 x12 x13 x14 x15 x16 x17 x18 x19 x20 x21 x22 x23:Value} (h:(w.alloc (Obj.cells #[x0,x1,x2,x3,x4,x5,x6,x7,x8,x9,x10,x11,x12,x13,x14,x15,x16,x17,x18,x19,x20,x21,x22,x23] 57))=W):Below w.heap.size w W∧BA4 W (w.heap.size) x0 x1 x2 x3 x4 x5 x6 x7 x8 x9 x10 x11 x12 x13 x14 x15 x16 x17 x18 x19 x20 x21 x22 x23∧W.heap.size=w.heap.size+1:=by subst h;exact ⟨by exact ((Below.refl _ _).alloc (Nat.le_refl _) _),by exact BA4.new' _ _ _ _ _ _ _ _ _ _ _ _ _ _ _ _ _ _ _ _ _ _ _ _ _ _ rfl,by simp⟩
theorem mkbx33_16 {w W:World} {x0 x1 x2 x3 x4 x5 x6 x7 x8 x9 x10 x11 x12 x13 x14 x15 x16 x17 x18 x19 x20 x21 x22 x23:Value} (h:(w.alloc (Obj.cells #[x0,x1,x2,x3,x4,x5,x6,x7,x8,x9,x10,x11,x12,x13,x14,x15,x16,x17,x18,x19,x20,x21,x22,x23] 56))=W):Below w.heap.size w W∧BL4 W (w.heap.size) x0 x1 x2 x3 x4 x5 x6 x7 x8 x9 x10 x11 x12 x13 x14 x15 x16 x17 x18 x19 x20 x21 x22 x23∧W.heap.size=w.heap.size+1:=by subst h;exact ⟨by exact ((Below.refl _ _).alloc (Nat.le_refl _) _),by exact BL4.new' _ _ _ _ _ _ _ _ _ _ _ _ _ _ _ _ _ _ _ _ _ _ _ _ _ _ rfl,by simp⟩
theorem both_l (t:Nat) (h:¬ (((n_p≤6∧m_p≤6)∧i_p≤6∧j_p≤6)∧((n_q≤6∧m_q≤6)∧i_q≤6∧j_q≤6)∧((n_r≤6∧m_r≤6)∧i_r≤6∧j_r≤6)∧((n_u≤6∧m_u≤6)∧i_u≤6∧j_u≤6))) :
 Calls Tryz.prog 7 #[.agg #[.bool s_p,.slice A_p n_p c_p,.slice B_p m_p d_p,.bool t_p,.slice E_p i_p e_p,.slice F_p j_p f_p,.bool s_q,.slice A_q n_q c_q,.slice B_q m_q d_q,.bool t_q,.slice E_q i_q e_q,.slice F_q j_q f_q,.bool s_r,.slice A_r n_r c_r,.slice B_r m_r d_r,.bool t_r,.slice E_r i_r e_r,.slice F_r j_r f_r,.bool s_u,.slice A_u n_u c_u,.slice B_u m_u d_u,.bool t_u,.slice E_u i_u e_u,.slice F_u j_u f_u],.int .u8 (t:Int)] w fun e w'=>e=.returned (.bool true)∧Below w.heap.size w w':=by
 have HL:Hid (decide (((n_p≤6∧m_p≤6)∧i_p≤6∧j_p≤6)∧((n_q≤6∧m_q≤6)∧i_q≤6∧j_q≤6)∧((n_r≤6∧m_r≤6)∧i_r≤6∧j_r≤6)∧((n_u≤6∧m_u≤6)∧i_u≤6∧j_u≤6))=false):=decide_eq_false h
 clear h
 go_enter Tryz.func7,Tryz.ntmps7
 go_upto_region 1 with (fail)
 generalize hW:World.alloc _ _=W
 obtain ⟨hb,XA,hzW⟩:=mkbx32_16 hW;clear hW;have ia0:=at4_0 w.heap.size;have ia1:=at4_1 w.heap.size;have ia2:=at4_2 w.heap.size;have ia3:=at4_3 w.heap.size;obtain ⟨xa0,xa1,xa2,xa3,xa4,xa5,xa6,xa7,xa8,xa9,xa10,xa11,xa12,xa13,xa14,xa15,xa16,xa17,xa18,xa19,xa20,xa21,xa22,xa23⟩:=XA.all
 go_wp2_with fail
 generalize hW:World.alloc _ _=W2
 obtain ⟨hh,XL,hzW2⟩:=mkbx33_16 hW;clear hW;(try replace XA:=XA.below hh);replace hb:=bend hb hh;rw [hzW] at XL;clear hzW2
 go_wp2_with (first
  | (go_at_call 29;(with_reducible refine (fair4 XL false HL.out).mono ?_);rintro e w_z ⟨rfl,hh⟩
     clear XL;(try replace XA:=XA.below hh);replace hb:=bend hb hh;obtain ⟨xa0,xa1,xa2,xa3,xa4,xa5,xa6,xa7,xa8,xa9,xa10,xa11,xa12,xa13,xa14,xa15,xa16,xa17,xa18,xa19,xa20,xa21,xa22,xa23⟩:=XA.all)
  | (go_at_call 30;(with_reducible refine (segwakes_any _).mono ?_);rintro e w_z ⟨rfl,hh⟩
     replace hb:=bend hb hh))
 go_ret;exact ⟨rfl,hb⟩
theorem both_e (t:Nat) {ax ay bx by_ cx cy dx dy:Rat} (p:PR w s_p A_p n_p c_p B_p m_p d_p t_p E_p i_p e_p F_p j_p f_p ax ay 6) (q:PR w s_q A_q n_q c_q B_q m_q d_q t_q E_q i_q e_q F_q j_q f_q bx by_ 6) (r:PR w s_r A_r n_r c_r B_r m_r d_r t_r E_r i_r e_r F_r j_r f_r cx cy 6) (u:PR w s_u A_u n_u c_u B_u m_u d_u t_u E_u i_u e_u F_u j_u f_u dx dy 6)  (h:(((n_p≤6∧m_p≤6)∧i_p≤6∧j_p≤6)∧((n_q≤6∧m_q≤6)∧i_q≤6∧j_q≤6)∧((n_r≤6∧m_r≤6)∧i_r≤6∧j_r≤6)∧((n_u≤6∧m_u≤6)∧i_u≤6∧j_u≤6))) (ht:t≤255) (hT:Told ax ay bx by_ cx cy dx dy []) (hon:¬ onS (ax+(bx - ax)*(Rat.divInt (t:Int) 255)) (ay+(by_ - ay)*(Rat.divInt (t:Int) 255)) cx cy dx dy) :
 Calls Tryz.prog 7 #[.agg #[.bool s_p,.slice A_p n_p c_p,.slice B_p m_p d_p,.bool t_p,.slice E_p i_p e_p,.slice F_p j_p f_p,.bool s_q,.slice A_q n_q c_q,.slice B_q m_q d_q,.bool t_q,.slice E_q i_q e_q,.slice F_q j_q f_q,.bool s_r,.slice A_r n_r c_r,.slice B_r m_r d_r,.bool t_r,.slice E_r i_r e_r,.slice F_r j_r f_r,.bool s_u,.slice A_u n_u c_u,.slice B_u m_u d_u,.bool t_u,.slice E_u i_u e_u,.slice F_u j_u f_u],.int .u8 (t:Int)] w fun e w'=>e=.returned (.bool true)∧Below w.heap.size w w':=by
 have HL:Hid (decide (((n_p≤6∧m_p≤6)∧i_p≤6∧j_p≤6)∧((n_q≤6∧m_q≤6)∧i_q≤6∧j_q≤6)∧((n_r≤6∧m_r≤6)∧i_r≤6∧j_r≤6)∧((n_u≤6∧m_u≤6)∧i_u≤6∧j_u≤6))=true):=decide_eq_true h
 have hti:(t:Int)≤255:=by omega
 have hr:=tq_range ht
 have hO:onS (ax+(bx - ax)*(Rat.divInt (t:Int) 255)) (ay+(by_ - ay)*(Rat.divInt (t:Int) 255)) ax ay bx by_:=⟨_,hr.1,hr.2,rfl,rfl⟩
 have HC:Hid (¬ onS (ax+(bx - ax)*(Rat.divInt (t:Int) 255)) (ay+(by_ - ay)*(Rat.divInt (t:Int) 255)) cx cy dx dy):=hon
 have HLN:Hid (([]:List (Rat × Rat)).length≤1000000):=Nat.le_of_ble_eq_true rfl
 have HT:=Lib.hid hT;clear h hr ht hO hon hT
 go_enter Tryz.func7,Tryz.ntmps7
 go_upto_region 1 with (fail)
 generalize hW:World.alloc _ _=W
 obtain ⟨hb,XA,hzW⟩:=mkbx32_16 hW;clear hW;replace p:=p.below hb;replace q:=q.below hb;replace r:=r.below hb;replace u:=u.below hb;have ia0:=at4_0 w.heap.size;have ia1:=at4_1 w.heap.size;have ia2:=at4_2 w.heap.size;have ia3:=at4_3 w.heap.size;obtain ⟨xa0,xa1,xa2,xa3,xa4,xa5,xa6,xa7,xa8,xa9,xa10,xa11,xa12,xa13,xa14,xa15,xa16,xa17,xa18,xa19,xa20,xa21,xa22,xa23⟩:=XA.all
 go_wp2_with fail
 generalize hW:World.alloc _ _=W2
 obtain ⟨hh,XL,hzW2⟩:=mkbx33_16 hW;clear hW;(try replace p:=p.below hh);(try replace q:=q.below hh);(try replace r:=r.below hh);(try replace u:=u.below hh);(try replace XA:=XA.below hh);replace hb:=bend hb hh;rw [hzW] at XL;clear hzW2
 go_upto_region 3 with (first
  | (go_at_call 29;(with_reducible refine (fair4 XL true HL.out).mono ?_);rintro e w_z ⟨rfl,hh⟩
     clear XL;(try replace p:=p.below hh);(try replace q:=q.below hh);(try replace r:=r.below hh);(try replace u:=u.below hh);(try replace XA:=XA.below hh);replace hb:=bend hb hh;obtain ⟨xa0,xa1,xa2,xa3,xa4,xa5,xa6,xa7,xa8,xa9,xa10,xa11,xa12,xa13,xa14,xa15,xa16,xa17,xa18,xa19,xa20,xa21,xa22,xa23⟩:=XA.all))
 go_wp2_with (first
  | (go_at_call 33;(with_reducible refine (meet_p p q r u (by decide) (by decide)).mono ?_);rintro e w_m ⟨l,ht,v,L,rfl,hL,hE,hh⟩
     (try replace p:=p.below hh);(try replace q:=q.below hh);(try replace r:=r.below hh);(try replace u:=u.below hh);(try replace XA:=XA.below hh);replace hb:=bend hb hh
     obtain rfl:=told_same (fun _ _=>Iff.rfl) ht HT.out
     obtain ⟨A_m,c_m,rfl,rfl⟩:=ln_nil hL hE
     replace hE:=Each.more hE (k2:=126) (Nat.le_of_ble_eq_true rfl)
     clear ht))
 clear xa0 xa1 xa2 xa3 xa4 xa5 xa6 xa7 xa8 xa9 xa10 xa11 xa12 xa13 xa14 xa15 xa16 xa17 xa18 xa19 xa20 xa21 xa22 xa23
 refine wp_loop_rounds 1 ?_
 rw [rounds_succ]
 go_upto_region 9 with (fail)
 replace p:=p.below (Below.refl _ _).drew
 replace q:=q.below (Below.refl _ _).drew
 replace r:=r.below (Below.refl _ _).drew
 replace u:=u.below (Below.refl _ _).drew
 replace XA:=XA.below (Below.refl _ _).drew
 replace hL:=hL.below (Below.refl _ _).drew
 replace hE:=hE.below (Below.refl _ _).drew
 replace hb:=hb.drew
 refine wp_region_held_drew (S:=(fun w'=>w'.cell? ⟨w.heap.size,0,none⟩=some (.bool s_p)∧w'.cell? ⟨w.heap.size,1,none⟩=some (.slice A_p n_p c_p)∧w'.cell? ⟨w.heap.size,2,none⟩=some (.slice B_p m_p d_p)∧w'.cell? ⟨w.heap.size,3,none⟩=some (.bool t_p)∧w'.cell? ⟨w.heap.size,4,none⟩=some (.slice E_p i_p e_p)∧w'.cell? ⟨w.heap.size,5,none⟩=some (.slice F_p j_p f_p)∧w'.cell? ⟨w.heap.size,6,none⟩=some (.bool s_q)∧w'.cell? ⟨w.heap.size,7,none⟩=some (.slice A_q n_q c_q)∧w'.cell? ⟨w.heap.size,8,none⟩=some (.slice B_q m_q d_q)∧w'.cell? ⟨w.heap.size,9,none⟩=some (.bool t_q)∧w'.cell? ⟨w.heap.size,10,none⟩=some (.slice E_q i_q e_q)∧w'.cell? ⟨w.heap.size,11,none⟩=some (.slice F_q j_q f_q)∧w'.cell? ⟨w.heap.size,12,none⟩=some (.bool s_r)∧w'.cell? ⟨w.heap.size,13,none⟩=some (.slice A_r n_r c_r)∧w'.cell? ⟨w.heap.size,14,none⟩=some (.slice B_r m_r d_r)∧w'.cell? ⟨w.heap.size,15,none⟩=some (.bool t_r)∧w'.cell? ⟨w.heap.size,16,none⟩=some (.slice E_r i_r e_r)∧w'.cell? ⟨w.heap.size,17,none⟩=some (.slice F_r j_r f_r)∧w'.cell? ⟨w.heap.size,18,none⟩=some (.bool s_u)∧w'.cell? ⟨w.heap.size,19,none⟩=some (.slice A_u n_u c_u)∧w'.cell? ⟨w.heap.size,20,none⟩=some (.slice B_u m_u d_u)∧w'.cell? ⟨w.heap.size,21,none⟩=some (.bool t_u)∧w'.cell? ⟨w.heap.size,22,none⟩=some (.slice E_u i_u e_u)∧w'.cell? ⟨w.heap.size,23,none⟩=some (.slice F_u j_u f_u))) (by kernel_rfl) ⟨XA.c0,XA.c1,XA.c2,XA.c3,XA.c4,XA.c5,XA.c6,XA.c7,XA.c8,XA.c9,XA.c10,XA.c11,XA.c12,XA.c13,XA.c14,XA.c15,XA.c16,XA.c17,XA.c18,XA.c19,XA.c20,XA.c21,XA.c22,XA.c23⟩ (fun hHeld=>?_)
 refine wpAnyH_take (i:=0) (oi:=⟨some 57,.move (.tmp 5),64, "law.go:61",#[],none⟩) (v:=?_) rfl (by kernel_rfl) (by kernel_rfl) (by kernel_rfl) (fun _ _ _ h=>h) (Or.inl ⟨by rfl,?_⟩) hHeld ?_
 rotate_left
 · (intro w hSw;(try dsimp only at hSw);go_simp;try with_reducible rfl)
 simp only [Act.put,List.setIfInBounds_toArray,List.set_cons_zero,List.set_cons_succ]
 refine wpAnyH_take (i:=1) (oi:=⟨some 58,.call ⟨.builtin Builtin.len,#[.tmp 57],#[64]⟩,3, "law.go:61",#[⟨0,.data⟩],none⟩) (v:=?_) rfl (by kernel_rfl) (by kernel_rfl) (by kernel_rfl) (fun _ _ _ h=>h) (Or.inl ⟨by rfl,?_⟩) hHeld ?_
 rotate_left
 · (intro w hSw;(try dsimp only at hSw);go_simp;try with_reducible rfl)
 simp only [Act.put,List.setIfInBounds_toArray,List.set_cons_zero,List.set_cons_succ]
 refine wpAnyH_take (i:=2) (oi:=⟨some 59,.binOp BinOp.gtr 3 (.tmp 58) (.const (Value.int IntKind.i64 2)) 3,4, "law.go:61",#[⟨1,.data⟩],none⟩) (v:=?_) rfl (by kernel_rfl) (by kernel_rfl) (by kernel_rfl) (fun _ _ _ h=>h) (Or.inl ⟨by rfl,?_⟩) hHeld ?_
 rotate_left
 · (intro w hSw;(try dsimp only at hSw);go_simp;try with_reducible rfl)
 simp only [Act.put,List.setIfInBounds_toArray,List.set_cons_zero,List.set_cons_succ]
 refine wpAnyH_take (i:=3) (oi:=⟨some 60,.move (.tmp 59),4, "law.go:61",#[⟨2,.data⟩],none⟩) (v:=?_) rfl (by kernel_rfl) (by kernel_rfl) (by kernel_rfl) (fun _ _ _ h=>h) (Or.inl ⟨by rfl,?_⟩) hHeld ?_
 rotate_left
 · (intro w hSw;(try dsimp only at hSw);go_simp;try with_reducible rfl)
 simp only [Act.put,List.setIfInBounds_toArray,List.set_cons_zero,List.set_cons_succ]
 refine wpAnyH_take (i:=4) (oi:=⟨some 61,.move (.tmp 5),64, "law.go:61",#[⟨3,.guard⟩],some (3,false)⟩) (v:=?_) rfl (by kernel_rfl) (by kernel_rfl) (by kernel_rfl) (fun _ _ _ h=>h) (Or.inl ⟨by rfl,?_⟩) hHeld ?_
 rotate_left
 · (intro w hSw;(try dsimp only at hSw);go_simp;try with_reducible rfl)
 simp only [Act.put,List.setIfInBounds_toArray,List.set_cons_zero,List.set_cons_succ]
 refine wpAnyH_take (i:=5) (oi:=⟨some 62,.call ⟨.builtin Builtin.len,#[.tmp 61],#[64]⟩,3, "law.go:61",#[⟨4,.data⟩,⟨3,.guard⟩],some (3,false)⟩) (v:=?_) rfl (by kernel_rfl) (by kernel_rfl) (by kernel_rfl) (fun _ _ _ h=>h) (Or.inl ⟨by rfl,?_⟩) hHeld ?_
 rotate_left
 · (intro w hSw;(try dsimp only at hSw);go_simp;try with_reducible rfl)
 simp only [Act.put,List.setIfInBounds_toArray,List.set_cons_zero,List.set_cons_succ]
 refine wpAnyH_take (i:=6) (oi:=⟨some 63,.binOp BinOp.eql 3 (.tmp 62) (.const (Value.int IntKind.i64 2)) 3,4, "law.go:61",#[⟨5,.data⟩,⟨3,.guard⟩],some (3,false)⟩) (v:=?_) rfl (by kernel_rfl) (by kernel_rfl) (by kernel_rfl) (fun _ _ _ h=>h) (Or.inl ⟨by rfl,?_⟩) hHeld ?_
 rotate_left
 · (intro w hSw;(try dsimp only at hSw);go_simp;try with_reducible rfl)
 simp only [Act.put,List.setIfInBounds_toArray,List.set_cons_zero,List.set_cons_succ]
 refine wpAnyH_take (i:=7) (oi:=⟨some 64,.move (.tmp 63),4, "law.go:61",#[⟨6,.data⟩,⟨3,.chain⟩,⟨3,.guard⟩],some (3,false)⟩) (v:=?_) rfl (by kernel_rfl) (by kernel_rfl) (by kernel_rfl) (fun _ _ _ h=>h) (Or.inl ⟨by rfl,?_⟩) hHeld ?_
 rotate_left
 · (intro w hSw;(try dsimp only at hSw);go_simp;try with_reducible rfl)
 simp only [Act.put,List.setIfInBounds_toArray,List.set_cons_zero,List.set_cons_succ]
 refine wpAnyH_take (i:=8) (oi:=⟨some 65,.move (.tmp 5),64, "law.go:61",#[⟨7,.guard⟩],some (7,true)⟩) (v:=undef) rfl (by kernel_rfl) (by kernel_rfl) (by kernel_rfl) (fun _ _ _ h=>h) (Or.inr ⟨by rfl,rfl⟩) hHeld ?_
 simp only [Act.put,List.setIfInBounds_toArray,List.set_cons_zero,List.set_cons_succ]
 refine wpAnyH_take (i:=9) (oi:=⟨some 66,.indexAddr 64 (.tmp 65) (.const (Value.int IntKind.i64 0)),0, "law.go:61",#[⟨8,.data⟩,⟨7,.guard⟩],some (7,true)⟩) (v:=undef) rfl (by kernel_rfl) (by kernel_rfl) (by kernel_rfl) (fun _ _ _ h=>h) (Or.inr ⟨by rfl,rfl⟩) hHeld ?_
 simp only [Act.put,List.setIfInBounds_toArray,List.set_cons_zero,List.set_cons_succ]
 refine wpAnyH_take (i:=10) (oi:=⟨some 67,.load 56 (.tmp 66),56, "law.go:61",#[⟨9,.data⟩,⟨7,.guard⟩],some (7,true)⟩) (v:=undef) rfl (by kernel_rfl) (by kernel_rfl) (by kernel_rfl) (fun _ _ _ h=>h) (Or.inr ⟨by rfl,rfl⟩) hHeld ?_
 simp only [Act.put,List.setIfInBounds_toArray,List.set_cons_zero,List.set_cons_succ]
 refine wpAnyH_take (i:=11) (oi:=⟨some 68,.move (.tmp 5),64, "law.go:61",#[⟨7,.guard⟩],some (7,true)⟩) (v:=undef) rfl (by kernel_rfl) (by kernel_rfl) (by kernel_rfl) (fun _ _ _ h=>h) (Or.inr ⟨by rfl,rfl⟩) hHeld ?_
 simp only [Act.put,List.setIfInBounds_toArray,List.set_cons_zero,List.set_cons_succ]
 refine wpAnyH_take (i:=12) (oi:=⟨some 69,.indexAddr 64 (.tmp 68) (.const (Value.int IntKind.i64 1)),0, "law.go:61",#[⟨11,.data⟩,⟨7,.guard⟩],some (7,true)⟩) (v:=undef) rfl (by kernel_rfl) (by kernel_rfl) (by kernel_rfl) (fun _ _ _ h=>h) (Or.inr ⟨by rfl,rfl⟩) hHeld ?_
 simp only [Act.put,List.setIfInBounds_toArray,List.set_cons_zero,List.set_cons_succ]
 refine wpAnyH_take (i:=13) (oi:=⟨some 70,.load 56 (.tmp 69),56, "law.go:61",#[⟨12,.data⟩,⟨7,.guard⟩],some (7,true)⟩) (v:=undef) rfl (by kernel_rfl) (by kernel_rfl) (by kernel_rfl) (fun _ _ _ h=>h) (Or.inr ⟨by rfl,rfl⟩) hHeld ?_
 simp only [Act.put,List.setIfInBounds_toArray,List.set_cons_zero,List.set_cons_succ]
 refine wpAnyH_take (i:=14) (oi:=⟨some 71,.call ⟨.value (.func 43),#[.tmp 67,.tmp 70],#[56,56]⟩,4, "law.go:61",#[⟨10,.data⟩,⟨13,.data⟩,⟨7,.chain⟩,⟨7,.guard⟩],some (7,true)⟩) (v:=undef) rfl (by kernel_rfl) (by kernel_rfl) (by kernel_rfl) (fun _ _ _ h=>h) (Or.inr ⟨by rfl,rfl⟩) hHeld ?_
 simp only [Act.put,List.setIfInBounds_toArray,List.set_cons_zero,List.set_cons_succ]
 refine wpAnyH_take (i:=15) (oi:=⟨some 72,.pick (.tmp 64) (.tmp 71) (.const (Value.bool false)),4, "law.go:61",#[⟨7,.data⟩,⟨14,.data⟩,⟨3,.guard⟩],some (3,false)⟩) (v:=?_) rfl (by kernel_rfl) (by kernel_rfl) (by kernel_rfl) (fun _ _ _ h=>h) (Or.inl ⟨by rfl,?_⟩) hHeld ?_
 rotate_left
 · (intro w hSw;(try dsimp only at hSw);go_simp;try with_reducible rfl)
 simp only [Act.put,List.setIfInBounds_toArray,List.set_cons_zero,List.set_cons_succ]
 refine wpAnyH_take (i:=16) (oi:=⟨some 73,.pick (.tmp 60) (.const (Value.bool true)) (.tmp 72),4, "law.go:61",#[⟨3,.data⟩,⟨15,.data⟩],none⟩) (v:=?_) rfl (by kernel_rfl) (by kernel_rfl) (by kernel_rfl) (fun _ _ _ h=>h) (Or.inl ⟨by rfl,?_⟩) hHeld ?_
 rotate_left
 · (intro w hSw;(try dsimp only at hSw);go_simp;try with_reducible rfl)
 simp only [Act.put,List.setIfInBounds_toArray,List.set_cons_zero,List.set_cons_succ]
 refine wpAnyH_done (by kernel_rfl) ?_ _
 clear hHeld;obtain ⟨xa0,xa1,xa2,xa3,xa4,xa5,xa6,xa7,xa8,xa9,xa10,xa11,xa12,xa13,xa14,xa15,xa16,xa17,xa18,xa19,xa20,xa21,xa22,xa23⟩:=XA.all
 go_upto_region 13 with (first
  | (go_at_call 33;(with_reducible refine (meet_p p q u r (by decide) (by decide)).mono ?_);rintro e w_m2 ⟨l,ht,v2,L2,rfl,hL2,hE2,hh⟩
     (try replace p:=p.below hh);(try replace q:=q.below hh);(try replace r:=r.below hh);(try replace u:=u.below hh);(try replace XA:=XA.below hh);(try replace hL:=hL.below hh);(try replace hE:=hE.below hh);replace hb:=bend hb hh;obtain ⟨xa0,xa1,xa2,xa3,xa4,xa5,xa6,xa7,xa8,xa9,xa10,xa11,xa12,xa13,xa14,xa15,xa16,xa17,xa18,xa19,xa20,xa21,xa22,xa23⟩:=XA.all
     obtain rfl:=told_same (fun a b=>(both_swap a b).symm) ht HT.out
     clear ht)
  | (go_at_call 33;(with_reducible refine (meet_p r u p q (by decide) (by decide)).mono ?_);rintro e w_m3 ⟨l,ht,v3,L3,rfl,hL3,hE3,hh⟩
     (try replace p:=p.below hh);(try replace q:=q.below hh);(try replace r:=r.below hh);(try replace u:=u.below hh);(try replace XA:=XA.below hh);(try replace hL:=hL.below hh);(try replace hE:=hE.below hh);replace hb:=bend hb hh;obtain ⟨xa0,xa1,xa2,xa3,xa4,xa5,xa6,xa7,xa8,xa9,xa10,xa11,xa12,xa13,xa14,xa15,xa16,xa17,xa18,xa19,xa20,xa21,xa22,xa23⟩:=XA.all
     obtain ⟨A_3,c_3,rfl,_,_⟩:=hL3.form
     have e3:L3.length=0:=hE3.1.trans (told_len (fun a b=>(both_over a b).symm) ht HT.out)
     clear ht hL3 hE3)
  | (go_at_call 33;(with_reducible refine (meet_p q p r u (by decide) (by decide)).mono ?_);rintro e w_m4 ⟨l,ht,v4,L4,rfl,hL4,hE4,hh⟩
     (try replace p:=p.below hh);(try replace q:=q.below hh);(try replace r:=r.below hh);(try replace u:=u.below hh);(try replace XA:=XA.below hh);(try replace hL:=hL.below hh);(try replace hE:=hE.below hh);replace hb:=bend hb hh;obtain ⟨xa0,xa1,xa2,xa3,xa4,xa5,xa6,xa7,xa8,xa9,xa10,xa11,xa12,xa13,xa14,xa15,xa16,xa17,xa18,xa19,xa20,xa21,xa22,xa23⟩:=XA.all
     obtain ⟨A_4,c_4,rfl,_,_⟩:=hL4.form
     have e4:L4.length=0:=hE4.1.trans (told_len (fun a b=>(both_turn a b).symm) ht HT.out)
     clear ht hL4 hE4)
  | (go_at_call 32;(with_reducible refine (lines_same hL hL2 hE hE2 (by decide) HLN.out).mono ?_);rintro e w_z ⟨rfl,hh⟩
     (try replace p:=p.below hh);(try replace q:=q.below hh);(try replace r:=r.below hh);(try replace u:=u.below hh);(try replace XA:=XA.below hh);(try replace hL:=hL.below hh);(try replace hE:=hE.below hh);replace hb:=bend hb hh;obtain ⟨xa0,xa1,xa2,xa3,xa4,xa5,xa6,xa7,xa8,xa9,xa10,xa11,xa12,xa13,xa14,xa15,xa16,xa17,xa18,xa19,xa20,xa21,xa22,xa23⟩:=XA.all;clear hL2 hE2))
 clear xa0 xa1 xa2 xa3 xa4 xa5 xa6 xa7 xa8 xa9 xa10 xa11 xa12 xa13 xa14 xa15 xa16 xa17 xa18 xa19 xa20 xa21 xa22 xa23;clear hE
 refine both13_region (by simp) rfl rfl XA p q hti ?_
 intro V w_o g_o s_o A_o n_o c_o B_o m_o d_o t_o E_o i_o e_o F_o j_o f_o o XO hg_o hvo hh
 simp only [putAll,Act.put,List.setIfInBounds_toArray,List.set_cons_zero,List.set_cons_succ,hvo]
 clear hvo;replace p:=p.below hh;replace q:=q.below hh;replace r:=r.below hh;replace u:=u.below hh;replace XA:=XA.below hh;replace hL:=hL.below hh;replace hb:=bend hb hh;obtain ⟨xa0,xa1,xa2,xa3,xa4,xa5,xa6,xa7,xa8,xa9,xa10,xa11,xa12,xa13,xa14,xa15,xa16,xa17,xa18,xa19,xa20,xa21,xa22,xa23⟩:=XA.all;obtain ⟨xo0,xo1,xo2,xo3,xo4,xo5⟩:=XO.all
 go_wp2_with (first
  | (go_at_call 36;(with_reducible refine (onw_no o.pr r u (by decide) (by decide) (by decide) HC.out).mono ?_);rintro e w_z ⟨rfl,hh⟩
     (try replace p:=p.below hh);(try replace q:=q.below hh);(try replace r:=r.below hh);(try replace u:=u.below hh);(try replace XA:=XA.below hh);(try replace hL:=hL.below hh);(try replace o:=o.below hh);(try replace XO:=XO.below hh);replace hb:=bend hb hh;obtain ⟨xa0,xa1,xa2,xa3,xa4,xa5,xa6,xa7,xa8,xa9,xa10,xa11,xa12,xa13,xa14,xa15,xa16,xa17,xa18,xa19,xa20,xa21,xa22,xa23⟩:=XA.all;obtain ⟨xo0,xo1,xo2,xo3,xo4,xo5⟩:=XO.all)
  | (go_at_call 30;(with_reducible refine (segwakes_any _).mono ?_);rintro e w_z ⟨rfl,hh⟩
     (try replace p:=p.below hh);(try replace q:=q.below hh);(try replace r:=r.below hh);(try replace u:=u.below hh);(try replace XA:=XA.below hh);(try replace hL:=hL.below hh);(try replace o:=o.below hh);(try replace XO:=XO.below hh);replace hb:=bend hb hh))
 go_ret;exact ⟨rfl,hb⟩
theorem both_o1 (t:Nat) {ax ay bx by_ cx cy dx dy:Rat} (p:PR w s_p A_p n_p c_p B_p m_p d_p t_p E_p i_p e_p F_p j_p f_p ax ay 6) (q:PR w s_q A_q n_q c_q B_q m_q d_q t_q E_q i_q e_q F_q j_q f_q bx by_ 6) (r:PR w s_r A_r n_r c_r B_r m_r d_r t_r E_r i_r e_r F_r j_r f_r cx cy 6) (u:PR w s_u A_u n_u c_u B_u m_u d_u t_u E_u i_u e_u F_u j_u f_u dx dy 6) {mx my:Rat} (h:(((n_p≤6∧m_p≤6)∧i_p≤6∧j_p≤6)∧((n_q≤6∧m_q≤6)∧i_q≤6∧j_q≤6)∧((n_r≤6∧m_r≤6)∧i_r≤6∧j_r≤6)∧((n_u≤6∧m_u≤6)∧i_u≤6∧j_u≤6))) (ht:t≤255) (hT:Told ax ay bx by_ cx cy dx dy [(mx,my)]) (hon:¬ onS (ax+(bx - ax)*(Rat.divInt (t:Int) 255)) (ay+(by_ - ay)*(Rat.divInt (t:Int) 255)) cx cy dx dy) :
 Calls Tryz.prog 7 #[.agg #[.bool s_p,.slice A_p n_p c_p,.slice B_p m_p d_p,.bool t_p,.slice E_p i_p e_p,.slice F_p j_p f_p,.bool s_q,.slice A_q n_q c_q,.slice B_q m_q d_q,.bool t_q,.slice E_q i_q e_q,.slice F_q j_q f_q,.bool s_r,.slice A_r n_r c_r,.slice B_r m_r d_r,.bool t_r,.slice E_r i_r e_r,.slice F_r j_r f_r,.bool s_u,.slice A_u n_u c_u,.slice B_u m_u d_u,.bool t_u,.slice E_u i_u e_u,.slice F_u j_u f_u],.int .u8 (t:Int)] w fun e w'=>e=.returned (.bool true)∧Below w.heap.size w w':=by
 have HL:Hid (decide (((n_p≤6∧m_p≤6)∧i_p≤6∧j_p≤6)∧((n_q≤6∧m_q≤6)∧i_q≤6∧j_q≤6)∧((n_r≤6∧m_r≤6)∧i_r≤6∧j_r≤6)∧((n_u≤6∧m_u≤6)∧i_u≤6∧j_u≤6))=true):=decide_eq_true h
 have hti:(t:Int)≤255:=by omega
 have hr:=tq_range ht
 have hO:onS (ax+(bx - ax)*(Rat.divInt (t:Int) 255)) (ay+(by_ - ay)*(Rat.divInt (t:Int) 255)) ax ay bx by_:=⟨_,hr.1,hr.2,rfl,rfl⟩
 have HC:Hid (¬ onS (ax+(bx - ax)*(Rat.divInt (t:Int) 255)) (ay+(by_ - ay)*(Rat.divInt (t:Int) 255)) cx cy dx dy):=hon
 have M0a:Hid (onS mx my ax ay bx by_):=(told_mem hT (p:=(mx,my)) (by simp)).1
 have M0b:Hid (onS mx my cx cy dx dy):=(told_mem hT (p:=(mx,my)) (by simp)).2
 have HLN:Hid (([(mx,my)]:List (Rat × Rat)).length≤1000000):=Nat.le_of_ble_eq_true rfl
 have HT:=Lib.hid hT;clear h hr ht hO hon hT
 go_enter Tryz.func7,Tryz.ntmps7
 go_upto_region 1 with (fail)
 generalize hW:World.alloc _ _=W
 obtain ⟨hb,XA,hzW⟩:=mkbx32_16 hW;clear hW;replace p:=p.below hb;replace q:=q.below hb;replace r:=r.below hb;replace u:=u.below hb;have ia0:=at4_0 w.heap.size;have ia1:=at4_1 w.heap.size;have ia2:=at4_2 w.heap.size;have ia3:=at4_3 w.heap.size;obtain ⟨xa0,xa1,xa2,xa3,xa4,xa5,xa6,xa7,xa8,xa9,xa10,xa11,xa12,xa13,xa14,xa15,xa16,xa17,xa18,xa19,xa20,xa21,xa22,xa23⟩:=XA.all
 go_wp2_with fail
 generalize hW:World.alloc _ _=W2
 obtain ⟨hh,XL,hzW2⟩:=mkbx33_16 hW;clear hW;(try replace p:=p.below hh);(try replace q:=q.below hh);(try replace r:=r.below hh);(try replace u:=u.below hh);(try replace XA:=XA.below hh);replace hb:=bend hb hh;rw [hzW] at XL;clear hzW2
 go_upto_region 3 with (first
  | (go_at_call 29;(with_reducible refine (fair4 XL true HL.out).mono ?_);rintro e w_z ⟨rfl,hh⟩
     clear XL;(try replace p:=p.below hh);(try replace q:=q.below hh);(try replace r:=r.below hh);(try replace u:=u.below hh);(try replace XA:=XA.below hh);replace hb:=bend hb hh;obtain ⟨xa0,xa1,xa2,xa3,xa4,xa5,xa6,xa7,xa8,xa9,xa10,xa11,xa12,xa13,xa14,xa15,xa16,xa17,xa18,xa19,xa20,xa21,xa22,xa23⟩:=XA.all))
 go_wp2_with (first
  | (go_at_call 33;(with_reducible refine (meet_p p q r u (by decide) (by decide)).mono ?_);rintro e w_m ⟨l,ht,v,L,rfl,hL,hE,hh⟩
     (try replace p:=p.below hh);(try replace q:=q.below hh);(try replace r:=r.below hh);(try replace u:=u.below hh);(try replace XA:=XA.below hh);replace hb:=bend hb hh
     obtain rfl:=told_same (fun _ _=>Iff.rfl) ht HT.out
     obtain ⟨x,g_x,c_x,rfl,rfl,hgx,X⟩:=ln_one hL hE
     replace X:=X.more (k1:=126) (Nat.le_refl 126)
     simp only at X
     replace hE:=Each.more hE (k2:=126) (Nat.le_of_ble_eq_true rfl)
     clear ht))
 clear xa0 xa1 xa2 xa3 xa4 xa5 xa6 xa7 xa8 xa9 xa10 xa11 xa12 xa13 xa14 xa15 xa16 xa17 xa18 xa19 xa20 xa21 xa22 xa23
 have ix:=idx0 (g:=g_x) (n:=1) (c:=c_x) (by decide)
 refine wp_loop_rounds 2 ?_
 rw [rounds_succ]
 go_upto_region 7 with (fail)
 replace p:=p.below (Below.refl _ _).drew
 replace q:=q.below (Below.refl _ _).drew
 replace r:=r.below (Below.refl _ _).drew
 replace u:=u.below (Below.refl _ _).drew
 replace XA:=XA.below (Below.refl _ _).drew
 replace hL:=hL.below (Below.refl _ _).drew
 replace hE:=hE.below (Below.refl _ _).drew
 replace X:=X.below (Below.refl _ _).drew
 replace hb:=hb.drew
 go_region_held3 (fun w'=>w'.cell? ⟨w.heap.size,0,none⟩=some (.bool s_p)∧w'.cell? ⟨w.heap.size,1,none⟩=some (.slice A_p n_p c_p)∧w'.cell? ⟨w.heap.size,2,none⟩=some (.slice B_p m_p d_p)∧w'.cell? ⟨w.heap.size,3,none⟩=some (.bool t_p)∧w'.cell? ⟨w.heap.size,4,none⟩=some (.slice E_p i_p e_p)∧w'.cell? ⟨w.heap.size,5,none⟩=some (.slice F_p j_p f_p)∧w'.cell? ⟨w.heap.size,6,none⟩=some (.bool s_q)∧w'.cell? ⟨w.heap.size,7,none⟩=some (.slice A_q n_q c_q)∧w'.cell? ⟨w.heap.size,8,none⟩=some (.slice B_q m_q d_q)∧w'.cell? ⟨w.heap.size,9,none⟩=some (.bool t_q)∧w'.cell? ⟨w.heap.size,10,none⟩=some (.slice E_q i_q e_q)∧w'.cell? ⟨w.heap.size,11,none⟩=some (.slice F_q j_q f_q)∧w'.cell? ⟨w.heap.size,12,none⟩=some (.bool s_r)∧w'.cell? ⟨w.heap.size,13,none⟩=some (.slice A_r n_r c_r)∧w'.cell? ⟨w.heap.size,14,none⟩=some (.slice B_r m_r d_r)∧w'.cell? ⟨w.heap.size,15,none⟩=some (.bool t_r)∧w'.cell? ⟨w.heap.size,16,none⟩=some (.slice E_r i_r e_r)∧w'.cell? ⟨w.heap.size,17,none⟩=some (.slice F_r j_r f_r)∧w'.cell? ⟨w.heap.size,18,none⟩=some (.bool s_u)∧w'.cell? ⟨w.heap.size,19,none⟩=some (.slice A_u n_u c_u)∧w'.cell? ⟨w.heap.size,20,none⟩=some (.slice B_u m_u d_u)∧w'.cell? ⟨w.heap.size,21,none⟩=some (.bool t_u)∧w'.cell? ⟨w.heap.size,22,none⟩=some (.slice E_u i_u e_u)∧w'.cell? ⟨w.heap.size,23,none⟩=some (.slice F_u j_u f_u)∧w'.cell? ⟨g_x,0,none⟩=some (.bool x.s)∧w'.cell? ⟨g_x,1,none⟩=some (.slice x.A x.n x.c)∧w'.cell? ⟨g_x,2,none⟩=some (.slice x.B x.m x.d)∧w'.cell? ⟨g_x,3,none⟩=some (.bool x.t)∧w'.cell? ⟨g_x,4,none⟩=some (.slice x.E x.i x.e)∧w'.cell? ⟨g_x,5,none⟩=some (.slice x.F x.j x.f))
  (first | with_reducible exact ⟨XA.c0,XA.c1,XA.c2,XA.c3,XA.c4,XA.c5,XA.c6,XA.c7,XA.c8,XA.c9,XA.c10,XA.c11,XA.c12,XA.c13,XA.c14,XA.c15,XA.c16,XA.c17,XA.c18,XA.c19,XA.c20,XA.c21,XA.c22,XA.c23,(hL.cells0 rfl).1,(hL.cells0 rfl).2.1,(hL.cells0 rfl).2.2.1,(hL.cells0 rfl).2.2.2.1,(hL.cells0 rfl).2.2.2.2.1,(hL.cells0 rfl).2.2.2.2.2⟩)
  (first
  | (go_at_call 36;(with_reducible refine (onw_yes X.pr p q (by decide) (by decide) (by decide) M0a.out).mono ?_);rintro e w_z ⟨rfl,hh⟩
     (try replace p:=p.below hh);(try replace q:=q.below hh);(try replace r:=r.below hh);(try replace u:=u.below hh);(try replace XA:=XA.below hh);(try replace hL:=hL.below hh);(try replace hE:=hE.below hh);(try replace X:=X.below hh);replace hb:=bend hb hh)
  | (go_at_call 36;(with_reducible refine (onw_yes X.pr r u (by decide) (by decide) (by decide) M0b.out).mono ?_);rintro e w_z ⟨rfl,hh⟩
     (try replace p:=p.below hh);(try replace q:=q.below hh);(try replace r:=r.below hh);(try replace u:=u.below hh);(try replace XA:=XA.below hh);(try replace hL:=hL.below hh);(try replace hE:=hE.below hh);(try replace X:=X.below hh);replace hb:=bend hb hh))
 go_wp2_with fail
 rw [rounds_succ]
 go_upto_region 9 with (fail)
 replace p:=p.below (Below.refl _ _).drew
 replace q:=q.below (Below.refl _ _).drew
 replace r:=r.below (Below.refl _ _).drew
 replace u:=u.below (Below.refl _ _).drew
 replace XA:=XA.below (Below.refl _ _).drew
 replace hL:=hL.below (Below.refl _ _).drew
 replace hE:=hE.below (Below.refl _ _).drew
 replace X:=X.below (Below.refl _ _).drew
 replace hb:=hb.drew
 refine wp_region_held_drew (S:=(fun w'=>w'.cell? ⟨w.heap.size,0,none⟩=some (.bool s_p)∧w'.cell? ⟨w.heap.size,1,none⟩=some (.slice A_p n_p c_p)∧w'.cell? ⟨w.heap.size,2,none⟩=some (.slice B_p m_p d_p)∧w'.cell? ⟨w.heap.size,3,none⟩=some (.bool t_p)∧w'.cell? ⟨w.heap.size,4,none⟩=some (.slice E_p i_p e_p)∧w'.cell? ⟨w.heap.size,5,none⟩=some (.slice F_p j_p f_p)∧w'.cell? ⟨w.heap.size,6,none⟩=some (.bool s_q)∧w'.cell? ⟨w.heap.size,7,none⟩=some (.slice A_q n_q c_q)∧w'.cell? ⟨w.heap.size,8,none⟩=some (.slice B_q m_q d_q)∧w'.cell? ⟨w.heap.size,9,none⟩=some (.bool t_q)∧w'.cell? ⟨w.heap.size,10,none⟩=some (.slice E_q i_q e_q)∧w'.cell? ⟨w.heap.size,11,none⟩=some (.slice F_q j_q f_q)∧w'.cell? ⟨w.heap.size,12,none⟩=some (.bool s_r)∧w'.cell? ⟨w.heap.size,13,none⟩=some (.slice A_r n_r c_r)∧w'.cell? ⟨w.heap.size,14,none⟩=some (.slice B_r m_r d_r)∧w'.cell? ⟨w.heap.size,15,none⟩=some (.bool t_r)∧w'.cell? ⟨w.heap.size,16,none⟩=some (.slice E_r i_r e_r)∧w'.cell? ⟨w.heap.size,17,none⟩=some (.slice F_r j_r f_r)∧w'.cell? ⟨w.heap.size,18,none⟩=some (.bool s_u)∧w'.cell? ⟨w.heap.size,19,none⟩=some (.slice A_u n_u c_u)∧w'.cell? ⟨w.heap.size,20,none⟩=some (.slice B_u m_u d_u)∧w'.cell? ⟨w.heap.size,21,none⟩=some (.bool t_u)∧w'.cell? ⟨w.heap.size,22,none⟩=some (.slice E_u i_u e_u)∧w'.cell? ⟨w.heap.size,23,none⟩=some (.slice F_u j_u f_u)∧w'.cell? ⟨g_x,0,none⟩=some (.bool x.s)∧w'.cell? ⟨g_x,1,none⟩=some (.slice x.A x.n x.c)∧w'.cell? ⟨g_x,2,none⟩=some (.slice x.B x.m x.d)∧w'.cell? ⟨g_x,3,none⟩=some (.bool x.t)∧w'.cell? ⟨g_x,4,none⟩=some (.slice x.E x.i x.e)∧w'.cell? ⟨g_x,5,none⟩=some (.slice x.F x.j x.f))) (by kernel_rfl) ⟨XA.c0,XA.c1,XA.c2,XA.c3,XA.c4,XA.c5,XA.c6,XA.c7,XA.c8,XA.c9,XA.c10,XA.c11,XA.c12,XA.c13,XA.c14,XA.c15,XA.c16,XA.c17,XA.c18,XA.c19,XA.c20,XA.c21,XA.c22,XA.c23,(hL.cells0 rfl).1,(hL.cells0 rfl).2.1,(hL.cells0 rfl).2.2.1,(hL.cells0 rfl).2.2.2.1,(hL.cells0 rfl).2.2.2.2.1,(hL.cells0 rfl).2.2.2.2.2⟩ (fun hHeld=>?_)
 refine wpAnyH_take (i:=0) (oi:=⟨some 57,.move (.tmp 5),64, "law.go:61",#[],none⟩) (v:=?_) rfl (by kernel_rfl) (by kernel_rfl) (by kernel_rfl) (fun _ _ _ h=>h) (Or.inl ⟨by rfl,?_⟩) hHeld ?_
 rotate_left
 · (intro w hSw;(try dsimp only at hSw);go_simp;try with_reducible rfl)
 simp only [Act.put,List.setIfInBounds_toArray,List.set_cons_zero,List.set_cons_succ]
 refine wpAnyH_take (i:=1) (oi:=⟨some 58,.call ⟨.builtin Builtin.len,#[.tmp 57],#[64]⟩,3, "law.go:61",#[⟨0,.data⟩],none⟩) (v:=?_) rfl (by kernel_rfl) (by kernel_rfl) (by kernel_rfl) (fun _ _ _ h=>h) (Or.inl ⟨by rfl,?_⟩) hHeld ?_
 rotate_left
 · (intro w hSw;(try dsimp only at hSw);go_simp;try with_reducible rfl)
 simp only [Act.put,List.setIfInBounds_toArray,List.set_cons_zero,List.set_cons_succ]
 refine wpAnyH_take (i:=2) (oi:=⟨some 59,.binOp BinOp.gtr 3 (.tmp 58) (.const (Value.int IntKind.i64 2)) 3,4, "law.go:61",#[⟨1,.data⟩],none⟩) (v:=?_) rfl (by kernel_rfl) (by kernel_rfl) (by kernel_rfl) (fun _ _ _ h=>h) (Or.inl ⟨by rfl,?_⟩) hHeld ?_
 rotate_left
 · (intro w hSw;(try dsimp only at hSw);go_simp;try with_reducible rfl)
 simp only [Act.put,List.setIfInBounds_toArray,List.set_cons_zero,List.set_cons_succ]
 refine wpAnyH_take (i:=3) (oi:=⟨some 60,.move (.tmp 59),4, "law.go:61",#[⟨2,.data⟩],none⟩) (v:=?_) rfl (by kernel_rfl) (by kernel_rfl) (by kernel_rfl) (fun _ _ _ h=>h) (Or.inl ⟨by rfl,?_⟩) hHeld ?_
 rotate_left
 · (intro w hSw;(try dsimp only at hSw);go_simp;try with_reducible rfl)
 simp only [Act.put,List.setIfInBounds_toArray,List.set_cons_zero,List.set_cons_succ]
 refine wpAnyH_take (i:=4) (oi:=⟨some 61,.move (.tmp 5),64, "law.go:61",#[⟨3,.guard⟩],some (3,false)⟩) (v:=?_) rfl (by kernel_rfl) (by kernel_rfl) (by kernel_rfl) (fun _ _ _ h=>h) (Or.inl ⟨by rfl,?_⟩) hHeld ?_
 rotate_left
 · (intro w hSw;(try dsimp only at hSw);go_simp;try with_reducible rfl)
 simp only [Act.put,List.setIfInBounds_toArray,List.set_cons_zero,List.set_cons_succ]
 refine wpAnyH_take (i:=5) (oi:=⟨some 62,.call ⟨.builtin Builtin.len,#[.tmp 61],#[64]⟩,3, "law.go:61",#[⟨4,.data⟩,⟨3,.guard⟩],some (3,false)⟩) (v:=?_) rfl (by kernel_rfl) (by kernel_rfl) (by kernel_rfl) (fun _ _ _ h=>h) (Or.inl ⟨by rfl,?_⟩) hHeld ?_
 rotate_left
 · (intro w hSw;(try dsimp only at hSw);go_simp;try with_reducible rfl)
 simp only [Act.put,List.setIfInBounds_toArray,List.set_cons_zero,List.set_cons_succ]
 refine wpAnyH_take (i:=6) (oi:=⟨some 63,.binOp BinOp.eql 3 (.tmp 62) (.const (Value.int IntKind.i64 2)) 3,4, "law.go:61",#[⟨5,.data⟩,⟨3,.guard⟩],some (3,false)⟩) (v:=?_) rfl (by kernel_rfl) (by kernel_rfl) (by kernel_rfl) (fun _ _ _ h=>h) (Or.inl ⟨by rfl,?_⟩) hHeld ?_
 rotate_left
 · (intro w hSw;(try dsimp only at hSw);go_simp;try with_reducible rfl)
 simp only [Act.put,List.setIfInBounds_toArray,List.set_cons_zero,List.set_cons_succ]
 refine wpAnyH_take (i:=7) (oi:=⟨some 64,.move (.tmp 63),4, "law.go:61",#[⟨6,.data⟩,⟨3,.chain⟩,⟨3,.guard⟩],some (3,false)⟩) (v:=?_) rfl (by kernel_rfl) (by kernel_rfl) (by kernel_rfl) (fun _ _ _ h=>h) (Or.inl ⟨by rfl,?_⟩) hHeld ?_
 rotate_left
 · (intro w hSw;(try dsimp only at hSw);go_simp;try with_reducible rfl)
 simp only [Act.put,List.setIfInBounds_toArray,List.set_cons_zero,List.set_cons_succ]
 refine wpAnyH_take (i:=8) (oi:=⟨some 65,.move (.tmp 5),64, "law.go:61",#[⟨7,.guard⟩],some (7,true)⟩) (v:=undef) rfl (by kernel_rfl) (by kernel_rfl) (by kernel_rfl) (fun _ _ _ h=>h) (Or.inr ⟨by rfl,rfl⟩) hHeld ?_
 simp only [Act.put,List.setIfInBounds_toArray,List.set_cons_zero,List.set_cons_succ]
 refine wpAnyH_take (i:=9) (oi:=⟨some 66,.indexAddr 64 (.tmp 65) (.const (Value.int IntKind.i64 0)),0, "law.go:61",#[⟨8,.data⟩,⟨7,.guard⟩],some (7,true)⟩) (v:=undef) rfl (by kernel_rfl) (by kernel_rfl) (by kernel_rfl) (fun _ _ _ h=>h) (Or.inr ⟨by rfl,rfl⟩) hHeld ?_
 simp only [Act.put,List.setIfInBounds_toArray,List.set_cons_zero,List.set_cons_succ]
 refine wpAnyH_take (i:=10) (oi:=⟨some 67,.load 56 (.tmp 66),56, "law.go:61",#[⟨9,.data⟩,⟨7,.guard⟩],some (7,true)⟩) (v:=undef) rfl (by kernel_rfl) (by kernel_rfl) (by kernel_rfl) (fun _ _ _ h=>h) (Or.inr ⟨by rfl,rfl⟩) hHeld ?_
 simp only [Act.put,List.setIfInBounds_toArray,List.set_cons_zero,List.set_cons_succ]
 refine wpAnyH_take (i:=11) (oi:=⟨some 68,.move (.tmp 5),64, "law.go:61",#[⟨7,.guard⟩],some (7,true)⟩) (v:=undef) rfl (by kernel_rfl) (by kernel_rfl) (by kernel_rfl) (fun _ _ _ h=>h) (Or.inr ⟨by rfl,rfl⟩) hHeld ?_
 simp only [Act.put,List.setIfInBounds_toArray,List.set_cons_zero,List.set_cons_succ]
 refine wpAnyH_take (i:=12) (oi:=⟨some 69,.indexAddr 64 (.tmp 68) (.const (Value.int IntKind.i64 1)),0, "law.go:61",#[⟨11,.data⟩,⟨7,.guard⟩],some (7,true)⟩) (v:=undef) rfl (by kernel_rfl) (by kernel_rfl) (by kernel_rfl) (fun _ _ _ h=>h) (Or.inr ⟨by rfl,rfl⟩) hHeld ?_
 simp only [Act.put,List.setIfInBounds_toArray,List.set_cons_zero,List.set_cons_succ]
 refine wpAnyH_take (i:=13) (oi:=⟨some 70,.load 56 (.tmp 69),56, "law.go:61",#[⟨12,.data⟩,⟨7,.guard⟩],some (7,true)⟩) (v:=undef) rfl (by kernel_rfl) (by kernel_rfl) (by kernel_rfl) (fun _ _ _ h=>h) (Or.inr ⟨by rfl,rfl⟩) hHeld ?_
 simp only [Act.put,List.setIfInBounds_toArray,List.set_cons_zero,List.set_cons_succ]
 refine wpAnyH_take (i:=14) (oi:=⟨some 71,.call ⟨.value (.func 43),#[.tmp 67,.tmp 70],#[56,56]⟩,4, "law.go:61",#[⟨10,.data⟩,⟨13,.data⟩,⟨7,.chain⟩,⟨7,.guard⟩],some (7,true)⟩) (v:=undef) rfl (by kernel_rfl) (by kernel_rfl) (by kernel_rfl) (fun _ _ _ h=>h) (Or.inr ⟨by rfl,rfl⟩) hHeld ?_
 simp only [Act.put,List.setIfInBounds_toArray,List.set_cons_zero,List.set_cons_succ]
 refine wpAnyH_take (i:=15) (oi:=⟨some 72,.pick (.tmp 64) (.tmp 71) (.const (Value.bool false)),4, "law.go:61",#[⟨7,.data⟩,⟨14,.data⟩,⟨3,.guard⟩],some (3,false)⟩) (v:=?_) rfl (by kernel_rfl) (by kernel_rfl) (by kernel_rfl) (fun _ _ _ h=>h) (Or.inl ⟨by rfl,?_⟩) hHeld ?_
 rotate_left
 · (intro w hSw;(try dsimp only at hSw);go_simp;try with_reducible rfl)
 simp only [Act.put,List.setIfInBounds_toArray,List.set_cons_zero,List.set_cons_succ]
 refine wpAnyH_take (i:=16) (oi:=⟨some 73,.pick (.tmp 60) (.const (Value.bool true)) (.tmp 72),4, "law.go:61",#[⟨3,.data⟩,⟨15,.data⟩],none⟩) (v:=?_) rfl (by kernel_rfl) (by kernel_rfl) (by kernel_rfl) (fun _ _ _ h=>h) (Or.inl ⟨by rfl,?_⟩) hHeld ?_
 rotate_left
 · (intro w hSw;(try dsimp only at hSw);go_simp;try with_reducible rfl)
 simp only [Act.put,List.setIfInBounds_toArray,List.set_cons_zero,List.set_cons_succ]
 refine wpAnyH_done (by kernel_rfl) ?_ _
 clear hHeld;obtain ⟨xa0,xa1,xa2,xa3,xa4,xa5,xa6,xa7,xa8,xa9,xa10,xa11,xa12,xa13,xa14,xa15,xa16,xa17,xa18,xa19,xa20,xa21,xa22,xa23⟩:=XA.all
 go_upto_region 13 with (first
  | (go_at_call 33;(with_reducible refine (meet_p p q u r (by decide) (by decide)).mono ?_);rintro e w_m2 ⟨l,ht,v2,L2,rfl,hL2,hE2,hh⟩
     (try replace p:=p.below hh);(try replace q:=q.below hh);(try replace r:=r.below hh);(try replace u:=u.below hh);(try replace XA:=XA.below hh);(try replace hL:=hL.below hh);(try replace hE:=hE.below hh);(try replace X:=X.below hh);replace hb:=bend hb hh;obtain ⟨xa0,xa1,xa2,xa3,xa4,xa5,xa6,xa7,xa8,xa9,xa10,xa11,xa12,xa13,xa14,xa15,xa16,xa17,xa18,xa19,xa20,xa21,xa22,xa23⟩:=XA.all
     obtain rfl:=told_same (fun a b=>(both_swap a b).symm) ht HT.out
     clear ht)
  | (go_at_call 33;(with_reducible refine (meet_p r u p q (by decide) (by decide)).mono ?_);rintro e w_m3 ⟨l,ht,v3,L3,rfl,hL3,hE3,hh⟩
     (try replace p:=p.below hh);(try replace q:=q.below hh);(try replace r:=r.below hh);(try replace u:=u.below hh);(try replace XA:=XA.below hh);(try replace hL:=hL.below hh);(try replace hE:=hE.below hh);(try replace X:=X.below hh);replace hb:=bend hb hh;obtain ⟨xa0,xa1,xa2,xa3,xa4,xa5,xa6,xa7,xa8,xa9,xa10,xa11,xa12,xa13,xa14,xa15,xa16,xa17,xa18,xa19,xa20,xa21,xa22,xa23⟩:=XA.all
     obtain ⟨A_3,c_3,rfl,_,_⟩:=hL3.form
     have e3:L3.length=1:=hE3.1.trans (told_len (fun a b=>(both_over a b).symm) ht HT.out)
     clear ht hL3 hE3)
  | (go_at_call 33;(with_reducible refine (meet_p q p r u (by decide) (by decide)).mono ?_);rintro e w_m4 ⟨l,ht,v4,L4,rfl,hL4,hE4,hh⟩
     (try replace p:=p.below hh);(try replace q:=q.below hh);(try replace r:=r.below hh);(try replace u:=u.below hh);(try replace XA:=XA.below hh);(try replace hL:=hL.below hh);(try replace hE:=hE.below hh);(try replace X:=X.below hh);replace hb:=bend hb hh;obtain ⟨xa0,xa1,xa2,xa3,xa4,xa5,xa6,xa7,xa8,xa9,xa10,xa11,xa12,xa13,xa14,xa15,xa16,xa17,xa18,xa19,xa20,xa21,xa22,xa23⟩:=XA.all
     obtain ⟨A_4,c_4,rfl,_,_⟩:=hL4.form
     have e4:L4.length=1:=hE4.1.trans (told_len (fun a b=>(both_turn a b).symm) ht HT.out)
     clear ht hL4 hE4)
  | (go_at_call 32;(with_reducible refine (lines_same hL hL2 hE hE2 (by decide) HLN.out).mono ?_);rintro e w_z ⟨rfl,hh⟩
     (try replace p:=p.below hh);(try replace q:=q.below hh);(try replace r:=r.below hh);(try replace u:=u.below hh);(try replace XA:=XA.below hh);(try replace hL:=hL.below hh);(try replace hE:=hE.below hh);(try replace X:=X.below hh);replace hb:=bend hb hh;obtain ⟨xa0,xa1,xa2,xa3,xa4,xa5,xa6,xa7,xa8,xa9,xa10,xa11,xa12,xa13,xa14,xa15,xa16,xa17,xa18,xa19,xa20,xa21,xa22,xa23⟩:=XA.all;clear hL2 hE2))
 clear xa0 xa1 xa2 xa3 xa4 xa5 xa6 xa7 xa8 xa9 xa10 xa11 xa12 xa13 xa14 xa15 xa16 xa17 xa18 xa19 xa20 xa21 xa22 xa23;clear hE
 refine both13_region (by simp) rfl rfl XA p q hti ?_
 intro V w_o g_o s_o A_o n_o c_o B_o m_o d_o t_o E_o i_o e_o F_o j_o f_o o XO hg_o hvo hh
 simp only [putAll,Act.put,List.setIfInBounds_toArray,List.set_cons_zero,List.set_cons_succ,hvo]
 clear hvo;replace p:=p.below hh;replace q:=q.below hh;replace r:=r.below hh;replace u:=u.below hh;replace XA:=XA.below hh;replace hL:=hL.below hh;replace X:=X.below hh;replace hb:=bend hb hh;obtain ⟨xa0,xa1,xa2,xa3,xa4,xa5,xa6,xa7,xa8,xa9,xa10,xa11,xa12,xa13,xa14,xa15,xa16,xa17,xa18,xa19,xa20,xa21,xa22,xa23⟩:=XA.all;obtain ⟨xo0,xo1,xo2,xo3,xo4,xo5⟩:=XO.all
 go_wp2_with (first
  | (go_at_call 36;(with_reducible refine (onw_no o.pr r u (by decide) (by decide) (by decide) HC.out).mono ?_);rintro e w_z ⟨rfl,hh⟩
     (try replace p:=p.below hh);(try replace q:=q.below hh);(try replace r:=r.below hh);(try replace u:=u.below hh);(try replace XA:=XA.below hh);(try replace hL:=hL.below hh);(try replace X:=X.below hh);(try replace o:=o.below hh);(try replace XO:=XO.below hh);replace hb:=bend hb hh;obtain ⟨xa0,xa1,xa2,xa3,xa4,xa5,xa6,xa7,xa8,xa9,xa10,xa11,xa12,xa13,xa14,xa15,xa16,xa17,xa18,xa19,xa20,xa21,xa22,xa23⟩:=XA.all;obtain ⟨xo0,xo1,xo2,xo3,xo4,xo5⟩:=XO.all)
  | (go_at_call 30;(with_reducible refine (segwakes_any _).mono ?_);rintro e w_z ⟨rfl,hh⟩
     (try replace p:=p.below hh);(try replace q:=q.below hh);(try replace r:=r.below hh);(try replace u:=u.below hh);(try replace XA:=XA.below hh);(try replace hL:=hL.below hh);(try replace X:=X.below hh);(try replace o:=o.below hh);(try replace XO:=XO.below hh);replace hb:=bend hb hh))
 go_ret;exact ⟨rfl,hb⟩
theorem both_o2 (t:Nat) {ax ay bx by_ cx cy dx dy:Rat} (p:PR w s_p A_p n_p c_p B_p m_p d_p t_p E_p i_p e_p F_p j_p f_p ax ay 6) (q:PR w s_q A_q n_q c_q B_q m_q d_q t_q E_q i_q e_q F_q j_q f_q bx by_ 6) (r:PR w s_r A_r n_r c_r B_r m_r d_r t_r E_r i_r e_r F_r j_r f_r cx cy 6) (u:PR w s_u A_u n_u c_u B_u m_u d_u t_u E_u i_u e_u F_u j_u f_u dx dy 6) {mx my:Rat} (h:(((n_p≤6∧m_p≤6)∧i_p≤6∧j_p≤6)∧((n_q≤6∧m_q≤6)∧i_q≤6∧j_q≤6)∧((n_r≤6∧m_r≤6)∧i_r≤6∧j_r≤6)∧((n_u≤6∧m_u≤6)∧i_u≤6∧j_u≤6))) (ht:t≤255) (hT:Told ax ay bx by_ cx cy dx dy [(mx,my)]) (hon:onS (ax+(bx - ax)*(Rat.divInt (t:Int) 255)) (ay+(by_ - ay)*(Rat.divInt (t:Int) 255)) cx cy dx dy) :
 Calls Tryz.prog 7 #[.agg #[.bool s_p,.slice A_p n_p c_p,.slice B_p m_p d_p,.bool t_p,.slice E_p i_p e_p,.slice F_p j_p f_p,.bool s_q,.slice A_q n_q c_q,.slice B_q m_q d_q,.bool t_q,.slice E_q i_q e_q,.slice F_q j_q f_q,.bool s_r,.slice A_r n_r c_r,.slice B_r m_r d_r,.bool t_r,.slice E_r i_r e_r,.slice F_r j_r f_r,.bool s_u,.slice A_u n_u c_u,.slice B_u m_u d_u,.bool t_u,.slice E_u i_u e_u,.slice F_u j_u f_u],.int .u8 (t:Int)] w fun e w'=>e=.returned (.bool true)∧Below w.heap.size w w':=by
 have HL:Hid (decide (((n_p≤6∧m_p≤6)∧i_p≤6∧j_p≤6)∧((n_q≤6∧m_q≤6)∧i_q≤6∧j_q≤6)∧((n_r≤6∧m_r≤6)∧i_r≤6∧j_r≤6)∧((n_u≤6∧m_u≤6)∧i_u≤6∧j_u≤6))=true):=decide_eq_true h
 have hti:(t:Int)≤255:=by omega
 have hr:=tq_range ht
 have hO:onS (ax+(bx - ax)*(Rat.divInt (t:Int) 255)) (ay+(by_ - ay)*(Rat.divInt (t:Int) 255)) ax ay bx by_:=⟨_,hr.1,hr.2,rfl,rfl⟩
 have HC:Hid (onS (ax+(bx - ax)*(Rat.divInt (t:Int) 255)) (ay+(by_ - ay)*(Rat.divInt (t:Int) 255)) cx cy dx dy):=hon
 have M0a:Hid (onS mx my ax ay bx by_):=(told_mem hT (p:=(mx,my)) (by simp)).1
 have M0b:Hid (onS mx my cx cy dx dy):=(told_mem hT (p:=(mx,my)) (by simp)).2
 have HS:Hid (decide ((ax+(bx - ax)*(Rat.divInt (t:Int) 255))=mx∧(ay+(by_ - ay)*(Rat.divInt (t:Int) 255))=my)=true):=decide_eq_true ((hT _ _).1 ⟨hO,hon⟩)
 have HLN:Hid (([(mx,my)]:List (Rat × Rat)).length≤1000000):=Nat.le_of_ble_eq_true rfl
 have HT:=Lib.hid hT;clear h hr ht hO hon hT
 go_enter Tryz.func7,Tryz.ntmps7
 go_upto_region 1 with (fail)
 generalize hW:World.alloc _ _=W
 obtain ⟨hb,XA,hzW⟩:=mkbx32_16 hW;clear hW;replace p:=p.below hb;replace q:=q.below hb;replace r:=r.below hb;replace u:=u.below hb;have ia0:=at4_0 w.heap.size;have ia1:=at4_1 w.heap.size;have ia2:=at4_2 w.heap.size;have ia3:=at4_3 w.heap.size;obtain ⟨xa0,xa1,xa2,xa3,xa4,xa5,xa6,xa7,xa8,xa9,xa10,xa11,xa12,xa13,xa14,xa15,xa16,xa17,xa18,xa19,xa20,xa21,xa22,xa23⟩:=XA.all
 go_wp2_with fail
 generalize hW:World.alloc _ _=W2
 obtain ⟨hh,XL,hzW2⟩:=mkbx33_16 hW;clear hW;(try replace p:=p.below hh);(try replace q:=q.below hh);(try replace r:=r.below hh);(try replace u:=u.below hh);(try replace XA:=XA.below hh);replace hb:=bend hb hh;rw [hzW] at XL;clear hzW2
 go_upto_region 3 with (first
  | (go_at_call 29;(with_reducible refine (fair4 XL true HL.out).mono ?_);rintro e w_z ⟨rfl,hh⟩
     clear XL;(try replace p:=p.below hh);(try replace q:=q.below hh);(try replace r:=r.below hh);(try replace u:=u.below hh);(try replace XA:=XA.below hh);replace hb:=bend hb hh;obtain ⟨xa0,xa1,xa2,xa3,xa4,xa5,xa6,xa7,xa8,xa9,xa10,xa11,xa12,xa13,xa14,xa15,xa16,xa17,xa18,xa19,xa20,xa21,xa22,xa23⟩:=XA.all))
 go_wp2_with (first
  | (go_at_call 33;(with_reducible refine (meet_p p q r u (by decide) (by decide)).mono ?_);rintro e w_m ⟨l,ht,v,L,rfl,hL,hE,hh⟩
     (try replace p:=p.below hh);(try replace q:=q.below hh);(try replace r:=r.below hh);(try replace u:=u.below hh);(try replace XA:=XA.below hh);replace hb:=bend hb hh
     obtain rfl:=told_same (fun _ _=>Iff.rfl) ht HT.out
     obtain ⟨x,g_x,c_x,rfl,rfl,hgx,X⟩:=ln_one hL hE
     replace X:=X.more (k1:=126) (Nat.le_refl 126)
     simp only at X
     replace hE:=Each.more hE (k2:=126) (Nat.le_of_ble_eq_true rfl)
     clear ht))
 clear xa0 xa1 xa2 xa3 xa4 xa5 xa6 xa7 xa8 xa9 xa10 xa11 xa12 xa13 xa14 xa15 xa16 xa17 xa18 xa19 xa20 xa21 xa22 xa23
 have ix:=idx0 (g:=g_x) (n:=1) (c:=c_x) (by decide)
 refine wp_loop_rounds 2 ?_
 rw [rounds_succ]
 go_upto_region 7 with (fail)
 replace p:=p.below (Below.refl _ _).drew
 replace q:=q.below (Below.refl _ _).drew
 replace r:=r.below (Below.refl _ _).drew
 replace u:=u.below (Below.refl _ _).drew
 replace XA:=XA.below (Below.refl _ _).drew
 replace hL:=hL.below (Below.refl _ _).drew
 replace hE:=hE.below (Below.refl _ _).drew
 replace X:=X.below (Below.refl _ _).drew
 replace hb:=hb.drew
 go_region_held3 (fun w'=>w'.cell? ⟨w.heap.size,0,none⟩=some (.bool s_p)∧w'.cell? ⟨w.heap.size,1,none⟩=some (.slice A_p n_p c_p)∧w'.cell? ⟨w.heap.size,2,none⟩=some (.slice B_p m_p d_p)∧w'.cell? ⟨w.heap.size,3,none⟩=some (.bool t_p)∧w'.cell? ⟨w.heap.size,4,none⟩=some (.slice E_p i_p e_p)∧w'.cell? ⟨w.heap.size,5,none⟩=some (.slice F_p j_p f_p)∧w'.cell? ⟨w.heap.size,6,none⟩=some (.bool s_q)∧w'.cell? ⟨w.heap.size,7,none⟩=some (.slice A_q n_q c_q)∧w'.cell? ⟨w.heap.size,8,none⟩=some (.slice B_q m_q d_q)∧w'.cell? ⟨w.heap.size,9,none⟩=some (.bool t_q)∧w'.cell? ⟨w.heap.size,10,none⟩=some (.slice E_q i_q e_q)∧w'.cell? ⟨w.heap.size,11,none⟩=some (.slice F_q j_q f_q)∧w'.cell? ⟨w.heap.size,12,none⟩=some (.bool s_r)∧w'.cell? ⟨w.heap.size,13,none⟩=some (.slice A_r n_r c_r)∧w'.cell? ⟨w.heap.size,14,none⟩=some (.slice B_r m_r d_r)∧w'.cell? ⟨w.heap.size,15,none⟩=some (.bool t_r)∧w'.cell? ⟨w.heap.size,16,none⟩=some (.slice E_r i_r e_r)∧w'.cell? ⟨w.heap.size,17,none⟩=some (.slice F_r j_r f_r)∧w'.cell? ⟨w.heap.size,18,none⟩=some (.bool s_u)∧w'.cell? ⟨w.heap.size,19,none⟩=some (.slice A_u n_u c_u)∧w'.cell? ⟨w.heap.size,20,none⟩=some (.slice B_u m_u d_u)∧w'.cell? ⟨w.heap.size,21,none⟩=some (.bool t_u)∧w'.cell? ⟨w.heap.size,22,none⟩=some (.slice E_u i_u e_u)∧w'.cell? ⟨w.heap.size,23,none⟩=some (.slice F_u j_u f_u)∧w'.cell? ⟨g_x,0,none⟩=some (.bool x.s)∧w'.cell? ⟨g_x,1,none⟩=some (.slice x.A x.n x.c)∧w'.cell? ⟨g_x,2,none⟩=some (.slice x.B x.m x.d)∧w'.cell? ⟨g_x,3,none⟩=some (.bool x.t)∧w'.cell? ⟨g_x,4,none⟩=some (.slice x.E x.i x.e)∧w'.cell? ⟨g_x,5,none⟩=some (.slice x.F x.j x.f))
  (first | with_reducible exact ⟨XA.c0,XA.c1,XA.c2,XA.c3,XA.c4,XA.c5,XA.c6,XA.c7,XA.c8,XA.c9,XA.c10,XA.c11,XA.c12,XA.c13,XA.c14,XA.c15,XA.c16,XA.c17,XA.c18,XA.c19,XA.c20,XA.c21,XA.c22,XA.c23,(hL.cells0 rfl).1,(hL.cells0 rfl).2.1,(hL.cells0 rfl).2.2.1,(hL.cells0 rfl).2.2.2.1,(hL.cells0 rfl).2.2.2.2.1,(hL.cells0 rfl).2.2.2.2.2⟩)
  (first
  | (go_at_call 36;(with_reducible refine (onw_yes X.pr p q (by decide) (by decide) (by decide) M0a.out).mono ?_);rintro e w_z ⟨rfl,hh⟩
     (try replace p:=p.below hh);(try replace q:=q.below hh);(try replace r:=r.below hh);(try replace u:=u.below hh);(try replace XA:=XA.below hh);(try replace hL:=hL.below hh);(try replace hE:=hE.below hh);(try replace X:=X.below hh);replace hb:=bend hb hh)
  | (go_at_call 36;(with_reducible refine (onw_yes X.pr r u (by decide) (by decide) (by decide) M0b.out).mono ?_);rintro e w_z ⟨rfl,hh⟩
     (try replace p:=p.below hh);(try replace q:=q.below hh);(try replace r:=r.below hh);(try replace u:=u.below hh);(try replace XA:=XA.below hh);(try replace hL:=hL.below hh);(try replace hE:=hE.below hh);(try replace X:=X.below hh);replace hb:=bend hb hh))
 go_wp2_with fail
 rw [rounds_succ]
 go_upto_region 9 with (fail)
 replace p:=p.below (Below.refl _ _).drew
 replace q:=q.below (Below.refl _ _).drew
 replace r:=r.below (Below.refl _ _).drew
 replace u:=u.below (Below.refl _ _).drew
 replace XA:=XA.below (Below.refl _ _).drew
 replace hL:=hL.below (Below.refl _ _).drew
 replace hE:=hE.below (Below.refl _ _).drew
 replace X:=X.below (Below.refl _ _).drew
 replace hb:=hb.drew
 refine wp_region_held_drew (S:=(fun w'=>w'.cell? ⟨w.heap.size,0,none⟩=some (.bool s_p)∧w'.cell? ⟨w.heap.size,1,none⟩=some (.slice A_p n_p c_p)∧w'.cell? ⟨w.heap.size,2,none⟩=some (.slice B_p m_p d_p)∧w'.cell? ⟨w.heap.size,3,none⟩=some (.bool t_p)∧w'.cell? ⟨w.heap.size,4,none⟩=some (.slice E_p i_p e_p)∧w'.cell? ⟨w.heap.size,5,none⟩=some (.slice F_p j_p f_p)∧w'.cell? ⟨w.heap.size,6,none⟩=some (.bool s_q)∧w'.cell? ⟨w.heap.size,7,none⟩=some (.slice A_q n_q c_q)∧w'.cell? ⟨w.heap.size,8,none⟩=some (.slice B_q m_q d_q)∧w'.cell? ⟨w.heap.size,9,none⟩=some (.bool t_q)∧w'.cell? ⟨w.heap.size,10,none⟩=some (.slice E_q i_q e_q)∧w'.cell? ⟨w.heap.size,11,none⟩=some (.slice F_q j_q f_q)∧w'.cell? ⟨w.heap.size,12,none⟩=some (.bool s_r)∧w'.cell? ⟨w.heap.size,13,none⟩=some (.slice A_r n_r c_r)∧w'.cell? ⟨w.heap.size,14,none⟩=some (.slice B_r m_r d_r)∧w'.cell? ⟨w.heap.size,15,none⟩=some (.bool t_r)∧w'.cell? ⟨w.heap.size,16,none⟩=some (.slice E_r i_r e_r)∧w'.cell? ⟨w.heap.size,17,none⟩=some (.slice F_r j_r f_r)∧w'.cell? ⟨w.heap.size,18,none⟩=some (.bool s_u)∧w'.cell? ⟨w.heap.size,19,none⟩=some (.slice A_u n_u c_u)∧w'.cell? ⟨w.heap.size,20,none⟩=some (.slice B_u m_u d_u)∧w'.cell? ⟨w.heap.size,21,none⟩=some (.bool t_u)∧w'.cell? ⟨w.heap.size,22,none⟩=some (.slice E_u i_u e_u)∧w'.cell? ⟨w.heap.size,23,none⟩=some (.slice F_u j_u f_u)∧w'.cell? ⟨g_x,0,none⟩=some (.bool x.s)∧w'.cell? ⟨g_x,1,none⟩=some (.slice x.A x.n x.c)∧w'.cell? ⟨g_x,2,none⟩=some (.slice x.B x.m x.d)∧w'.cell? ⟨g_x,3,none⟩=some (.bool x.t)∧w'.cell? ⟨g_x,4,none⟩=some (.slice x.E x.i x.e)∧w'.cell? ⟨g_x,5,none⟩=some (.slice x.F x.j x.f))) (by kernel_rfl) ⟨XA.c0,XA.c1,XA.c2,XA.c3,XA.c4,XA.c5,XA.c6,XA.c7,XA.c8,XA.c9,XA.c10,XA.c11,XA.c12,XA.c13,XA.c14,XA.c15,XA.c16,XA.c17,XA.c18,XA.c19,XA.c20,XA.c21,XA.c22,XA.c23,(hL.cells0 rfl).1,(hL.cells0 rfl).2.1,(hL.cells0 rfl).2.2.1,(hL.cells0 rfl).2.2.2.1,(hL.cells0 rfl).2.2.2.2.1,(hL.cells0 rfl).2.2.2.2.2⟩ (fun hHeld=>?_)
 refine wpAnyH_take (i:=0) (oi:=⟨some 57,.move (.tmp 5),64, "law.go:61",#[],none⟩) (v:=?_) rfl (by kernel_rfl) (by kernel_rfl) (by kernel_rfl) (fun _ _ _ h=>h) (Or.inl ⟨by rfl,?_⟩) hHeld ?_
 rotate_left
 · (intro w hSw;(try dsimp only at hSw);go_simp;try with_reducible rfl)
 simp only [Act.put,List.setIfInBounds_toArray,List.set_cons_zero,List.set_cons_succ]
 refine wpAnyH_take (i:=1) (oi:=⟨some 58,.call ⟨.builtin Builtin.len,#[.tmp 57],#[64]⟩,3, "law.go:61",#[⟨0,.data⟩],none⟩) (v:=?_) rfl (by kernel_rfl) (by kernel_rfl) (by kernel_rfl) (fun _ _ _ h=>h) (Or.inl ⟨by rfl,?_⟩) hHeld ?_
 rotate_left
 · (intro w hSw;(try dsimp only at hSw);go_simp;try with_reducible rfl)
 simp only [Act.put,List.setIfInBounds_toArray,List.set_cons_zero,List.set_cons_succ]
 refine wpAnyH_take (i:=2) (oi:=⟨some 59,.binOp BinOp.gtr 3 (.tmp 58) (.const (Value.int IntKind.i64 2)) 3,4, "law.go:61",#[⟨1,.data⟩],none⟩) (v:=?_) rfl (by kernel_rfl) (by kernel_rfl) (by kernel_rfl) (fun _ _ _ h=>h) (Or.inl ⟨by rfl,?_⟩) hHeld ?_
 rotate_left
 · (intro w hSw;(try dsimp only at hSw);go_simp;try with_reducible rfl)
 simp only [Act.put,List.setIfInBounds_toArray,List.set_cons_zero,List.set_cons_succ]
 refine wpAnyH_take (i:=3) (oi:=⟨some 60,.move (.tmp 59),4, "law.go:61",#[⟨2,.data⟩],none⟩) (v:=?_) rfl (by kernel_rfl) (by kernel_rfl) (by kernel_rfl) (fun _ _ _ h=>h) (Or.inl ⟨by rfl,?_⟩) hHeld ?_
 rotate_left
 · (intro w hSw;(try dsimp only at hSw);go_simp;try with_reducible rfl)
 simp only [Act.put,List.setIfInBounds_toArray,List.set_cons_zero,List.set_cons_succ]
 refine wpAnyH_take (i:=4) (oi:=⟨some 61,.move (.tmp 5),64, "law.go:61",#[⟨3,.guard⟩],some (3,false)⟩) (v:=?_) rfl (by kernel_rfl) (by kernel_rfl) (by kernel_rfl) (fun _ _ _ h=>h) (Or.inl ⟨by rfl,?_⟩) hHeld ?_
 rotate_left
 · (intro w hSw;(try dsimp only at hSw);go_simp;try with_reducible rfl)
 simp only [Act.put,List.setIfInBounds_toArray,List.set_cons_zero,List.set_cons_succ]
 refine wpAnyH_take (i:=5) (oi:=⟨some 62,.call ⟨.builtin Builtin.len,#[.tmp 61],#[64]⟩,3, "law.go:61",#[⟨4,.data⟩,⟨3,.guard⟩],some (3,false)⟩) (v:=?_) rfl (by kernel_rfl) (by kernel_rfl) (by kernel_rfl) (fun _ _ _ h=>h) (Or.inl ⟨by rfl,?_⟩) hHeld ?_
 rotate_left
 · (intro w hSw;(try dsimp only at hSw);go_simp;try with_reducible rfl)
 simp only [Act.put,List.setIfInBounds_toArray,List.set_cons_zero,List.set_cons_succ]
 refine wpAnyH_take (i:=6) (oi:=⟨some 63,.binOp BinOp.eql 3 (.tmp 62) (.const (Value.int IntKind.i64 2)) 3,4, "law.go:61",#[⟨5,.data⟩,⟨3,.guard⟩],some (3,false)⟩) (v:=?_) rfl (by kernel_rfl) (by kernel_rfl) (by kernel_rfl) (fun _ _ _ h=>h) (Or.inl ⟨by rfl,?_⟩) hHeld ?_
 rotate_left
 · (intro w hSw;(try dsimp only at hSw);go_simp;try with_reducible rfl)
 simp only [Act.put,List.setIfInBounds_toArray,List.set_cons_zero,List.set_cons_succ]
 refine wpAnyH_take (i:=7) (oi:=⟨some 64,.move (.tmp 63),4, "law.go:61",#[⟨6,.data⟩,⟨3,.chain⟩,⟨3,.guard⟩],some (3,false)⟩) (v:=?_) rfl (by kernel_rfl) (by kernel_rfl) (by kernel_rfl) (fun _ _ _ h=>h) (Or.inl ⟨by rfl,?_⟩) hHeld ?_
 rotate_left
 · (intro w hSw;(try dsimp only at hSw);go_simp;try with_reducible rfl)
 simp only [Act.put,List.setIfInBounds_toArray,List.set_cons_zero,List.set_cons_succ]
 refine wpAnyH_take (i:=8) (oi:=⟨some 65,.move (.tmp 5),64, "law.go:61",#[⟨7,.guard⟩],some (7,true)⟩) (v:=undef) rfl (by kernel_rfl) (by kernel_rfl) (by kernel_rfl) (fun _ _ _ h=>h) (Or.inr ⟨by rfl,rfl⟩) hHeld ?_
 simp only [Act.put,List.setIfInBounds_toArray,List.set_cons_zero,List.set_cons_succ]
 refine wpAnyH_take (i:=9) (oi:=⟨some 66,.indexAddr 64 (.tmp 65) (.const (Value.int IntKind.i64 0)),0, "law.go:61",#[⟨8,.data⟩,⟨7,.guard⟩],some (7,true)⟩) (v:=undef) rfl (by kernel_rfl) (by kernel_rfl) (by kernel_rfl) (fun _ _ _ h=>h) (Or.inr ⟨by rfl,rfl⟩) hHeld ?_
 simp only [Act.put,List.setIfInBounds_toArray,List.set_cons_zero,List.set_cons_succ]
 refine wpAnyH_take (i:=10) (oi:=⟨some 67,.load 56 (.tmp 66),56, "law.go:61",#[⟨9,.data⟩,⟨7,.guard⟩],some (7,true)⟩) (v:=undef) rfl (by kernel_rfl) (by kernel_rfl) (by kernel_rfl) (fun _ _ _ h=>h) (Or.inr ⟨by rfl,rfl⟩) hHeld ?_
 simp only [Act.put,List.setIfInBounds_toArray,List.set_cons_zero,List.set_cons_succ]
 refine wpAnyH_take (i:=11) (oi:=⟨some 68,.move (.tmp 5),64, "law.go:61",#[⟨7,.guard⟩],some (7,true)⟩) (v:=undef) rfl (by kernel_rfl) (by kernel_rfl) (by kernel_rfl) (fun _ _ _ h=>h) (Or.inr ⟨by rfl,rfl⟩) hHeld ?_
 simp only [Act.put,List.setIfInBounds_toArray,List.set_cons_zero,List.set_cons_succ]
 refine wpAnyH_take (i:=12) (oi:=⟨some 69,.indexAddr 64 (.tmp 68) (.const (Value.int IntKind.i64 1)),0, "law.go:61",#[⟨11,.data⟩,⟨7,.guard⟩],some (7,true)⟩) (v:=undef) rfl (by kernel_rfl) (by kernel_rfl) (by kernel_rfl) (fun _ _ _ h=>h) (Or.inr ⟨by rfl,rfl⟩) hHeld ?_
 simp only [Act.put,List.setIfInBounds_toArray,List.set_cons_zero,List.set_cons_succ]
 refine wpAnyH_take (i:=13) (oi:=⟨some 70,.load 56 (.tmp 69),56, "law.go:61",#[⟨12,.data⟩,⟨7,.guard⟩],some (7,true)⟩) (v:=undef) rfl (by kernel_rfl) (by kernel_rfl) (by kernel_rfl) (fun _ _ _ h=>h) (Or.inr ⟨by rfl,rfl⟩) hHeld ?_
 simp only [Act.put,List.setIfInBounds_toArray,List.set_cons_zero,List.set_cons_succ]
 refine wpAnyH_take (i:=14) (oi:=⟨some 71,.call ⟨.value (.func 43),#[.tmp 67,.tmp 70],#[56,56]⟩,4, "law.go:61",#[⟨10,.data⟩,⟨13,.data⟩,⟨7,.chain⟩,⟨7,.guard⟩],some (7,true)⟩) (v:=undef) rfl (by kernel_rfl) (by kernel_rfl) (by kernel_rfl) (fun _ _ _ h=>h) (Or.inr ⟨by rfl,rfl⟩) hHeld ?_
 simp only [Act.put,List.setIfInBounds_toArray,List.set_cons_zero,List.set_cons_succ]
 refine wpAnyH_take (i:=15) (oi:=⟨some 72,.pick (.tmp 64) (.tmp 71) (.const (Value.bool false)),4, "law.go:61",#[⟨7,.data⟩,⟨14,.data⟩,⟨3,.guard⟩],some (3,false)⟩) (v:=?_) rfl (by kernel_rfl) (by kernel_rfl) (by kernel_rfl) (fun _ _ _ h=>h) (Or.inl ⟨by rfl,?_⟩) hHeld ?_
 rotate_left
 · (intro w hSw;(try dsimp only at hSw);go_simp;try with_reducible rfl)
 simp only [Act.put,List.setIfInBounds_toArray,List.set_cons_zero,List.set_cons_succ]
 refine wpAnyH_take (i:=16) (oi:=⟨some 73,.pick (.tmp 60) (.const (Value.bool true)) (.tmp 72),4, "law.go:61",#[⟨3,.data⟩,⟨15,.data⟩],none⟩) (v:=?_) rfl (by kernel_rfl) (by kernel_rfl) (by kernel_rfl) (fun _ _ _ h=>h) (Or.inl ⟨by rfl,?_⟩) hHeld ?_
 rotate_left
 · (intro w hSw;(try dsimp only at hSw);go_simp;try with_reducible rfl)
 simp only [Act.put,List.setIfInBounds_toArray,List.set_cons_zero,List.set_cons_succ]
 refine wpAnyH_done (by kernel_rfl) ?_ _
 clear hHeld;obtain ⟨xa0,xa1,xa2,xa3,xa4,xa5,xa6,xa7,xa8,xa9,xa10,xa11,xa12,xa13,xa14,xa15,xa16,xa17,xa18,xa19,xa20,xa21,xa22,xa23⟩:=XA.all
 go_upto_region 13 with (first
  | (go_at_call 33;(with_reducible refine (meet_p p q u r (by decide) (by decide)).mono ?_);rintro e w_m2 ⟨l,ht,v2,L2,rfl,hL2,hE2,hh⟩
     (try replace p:=p.below hh);(try replace q:=q.below hh);(try replace r:=r.below hh);(try replace u:=u.below hh);(try replace XA:=XA.below hh);(try replace hL:=hL.below hh);(try replace hE:=hE.below hh);(try replace X:=X.below hh);replace hb:=bend hb hh;obtain ⟨xa0,xa1,xa2,xa3,xa4,xa5,xa6,xa7,xa8,xa9,xa10,xa11,xa12,xa13,xa14,xa15,xa16,xa17,xa18,xa19,xa20,xa21,xa22,xa23⟩:=XA.all
     obtain rfl:=told_same (fun a b=>(both_swap a b).symm) ht HT.out
     clear ht)
  | (go_at_call 33;(with_reducible refine (meet_p r u p q (by decide) (by decide)).mono ?_);rintro e w_m3 ⟨l,ht,v3,L3,rfl,hL3,hE3,hh⟩
     (try replace p:=p.below hh);(try replace q:=q.below hh);(try replace r:=r.below hh);(try replace u:=u.below hh);(try replace XA:=XA.below hh);(try replace hL:=hL.below hh);(try replace hE:=hE.below hh);(try replace X:=X.below hh);replace hb:=bend hb hh;obtain ⟨xa0,xa1,xa2,xa3,xa4,xa5,xa6,xa7,xa8,xa9,xa10,xa11,xa12,xa13,xa14,xa15,xa16,xa17,xa18,xa19,xa20,xa21,xa22,xa23⟩:=XA.all
     obtain ⟨A_3,c_3,rfl,_,_⟩:=hL3.form
     have e3:L3.length=1:=hE3.1.trans (told_len (fun a b=>(both_over a b).symm) ht HT.out)
     clear ht hL3 hE3)
  | (go_at_call 33;(with_reducible refine (meet_p q p r u (by decide) (by decide)).mono ?_);rintro e w_m4 ⟨l,ht,v4,L4,rfl,hL4,hE4,hh⟩
     (try replace p:=p.below hh);(try replace q:=q.below hh);(try replace r:=r.below hh);(try replace u:=u.below hh);(try replace XA:=XA.below hh);(try replace hL:=hL.below hh);(try replace hE:=hE.below hh);(try replace X:=X.below hh);replace hb:=bend hb hh;obtain ⟨xa0,xa1,xa2,xa3,xa4,xa5,xa6,xa7,xa8,xa9,xa10,xa11,xa12,xa13,xa14,xa15,xa16,xa17,xa18,xa19,xa20,xa21,xa22,xa23⟩:=XA.all
     obtain ⟨A_4,c_4,rfl,_,_⟩:=hL4.form
     have e4:L4.length=1:=hE4.1.trans (told_len (fun a b=>(both_turn a b).symm) ht HT.out)
     clear ht hL4 hE4)
  | (go_at_call 32;(with_reducible refine (lines_same hL hL2 hE hE2 (by decide) HLN.out).mono ?_);rintro e w_z ⟨rfl,hh⟩
     (try replace p:=p.below hh);(try replace q:=q.below hh);(try replace r:=r.below hh);(try replace u:=u.below hh);(try replace XA:=XA.below hh);(try replace hL:=hL.below hh);(try replace hE:=hE.below hh);(try replace X:=X.below hh);replace hb:=bend hb hh;obtain ⟨xa0,xa1,xa2,xa3,xa4,xa5,xa6,xa7,xa8,xa9,xa10,xa11,xa12,xa13,xa14,xa15,xa16,xa17,xa18,xa19,xa20,xa21,xa22,xa23⟩:=XA.all;clear hL2 hE2))
 clear xa0 xa1 xa2 xa3 xa4 xa5 xa6 xa7 xa8 xa9 xa10 xa11 xa12 xa13 xa14 xa15 xa16 xa17 xa18 xa19 xa20 xa21 xa22 xa23;clear hE
 refine both13_region (by simp) rfl rfl XA p q hti ?_
 intro V w_o g_o s_o A_o n_o c_o B_o m_o d_o t_o E_o i_o e_o F_o j_o f_o o XO hg_o hvo hh
 simp only [putAll,Act.put,List.setIfInBounds_toArray,List.set_cons_zero,List.set_cons_succ,hvo]
 clear hvo;replace p:=p.below hh;replace q:=q.below hh;replace r:=r.below hh;replace u:=u.below hh;replace XA:=XA.below hh;replace hL:=hL.below hh;replace X:=X.below hh;replace hb:=bend hb hh;obtain ⟨xa0,xa1,xa2,xa3,xa4,xa5,xa6,xa7,xa8,xa9,xa10,xa11,xa12,xa13,xa14,xa15,xa16,xa17,xa18,xa19,xa20,xa21,xa22,xa23⟩:=XA.all;obtain ⟨xo0,xo1,xo2,xo3,xo4,xo5⟩:=XO.all
 go_upto_region 17 with (first
  | (go_at_call 36;(with_reducible refine (onw_yes o.pr r u (by decide) (by decide) (by decide) HC.out).mono ?_);rintro e w_z ⟨rfl,hh⟩
     (try replace p:=p.below hh);(try replace q:=q.below hh);(try replace r:=r.below hh);(try replace u:=u.below hh);(try replace XA:=XA.below hh);(try replace hL:=hL.below hh);(try replace X:=X.below hh);(try replace o:=o.below hh);(try replace XO:=XO.below hh);replace hb:=bend hb hh;obtain ⟨xa0,xa1,xa2,xa3,xa4,xa5,xa6,xa7,xa8,xa9,xa10,xa11,xa12,xa13,xa14,xa15,xa16,xa17,xa18,xa19,xa20,xa21,xa22,xa23⟩:=XA.all;obtain ⟨xo0,xo1,xo2,xo3,xo4,xo5⟩:=XO.all))
 clear xa0 xa1 xa2 xa3 xa4 xa5 xa6 xa7 xa8 xa9 xa10 xa11 xa12 xa13 xa14 xa15 xa16 xa17 xa18 xa19 xa20 xa21 xa22 xa23;clear xo0 xo1 xo2 xo3 xo4 xo5
 replace p:=p.below (Below.refl _ _).drew
 replace q:=q.below (Below.refl _ _).drew
 replace r:=r.below (Below.refl _ _).drew
 replace u:=u.below (Below.refl _ _).drew
 replace XA:=XA.below (Below.refl _ _).drew
 replace hL:=hL.below (Below.refl _ _).drew
 replace X:=X.below (Below.refl _ _).drew
 replace o:=o.below (Below.refl _ _).drew
 replace XO:=XO.below (Below.refl _ _).drew
 replace hb:=hb.drew
 go_region_held3 (fun w'=>w'.cell? ⟨g_o,0,none⟩=some (.bool s_o)∧w'.cell? ⟨g_o,1,none⟩=some (.slice A_o n_o c_o)∧w'.cell? ⟨g_o,2,none⟩=some (.slice B_o m_o d_o)∧w'.cell? ⟨g_o,3,none⟩=some (.bool t_o)∧w'.cell? ⟨g_o,4,none⟩=some (.slice E_o i_o e_o)∧w'.cell? ⟨g_o,5,none⟩=some (.slice F_o j_o f_o)∧w'.cell? ⟨g_x,0,none⟩=some (.bool x.s)∧w'.cell? ⟨g_x,1,none⟩=some (.slice x.A x.n x.c)∧w'.cell? ⟨g_x,2,none⟩=some (.slice x.B x.m x.d)∧w'.cell? ⟨g_x,3,none⟩=some (.bool x.t)∧w'.cell? ⟨g_x,4,none⟩=some (.slice x.E x.i x.e)∧w'.cell? ⟨g_x,5,none⟩=some (.slice x.F x.j x.f))
  (first | with_reducible exact ⟨XO.c0,XO.c1,XO.c2,XO.c3,XO.c4,XO.c5,(hL.cells0 rfl).1,(hL.cells0 rfl).2.1,(hL.cells0 rfl).2.2.1,(hL.cells0 rfl).2.2.2.1,(hL.cells0 rfl).2.2.2.2.1,(hL.cells0 rfl).2.2.2.2.2⟩)
  (first
  | (go_at_call 43;(with_reducible refine (psame_p o.pr X.pr (by decide) (by decide) (by decide) (by decide) true HS.out).mono ?_);rintro e w_z ⟨rfl,hh⟩
     (try replace p:=p.below hh);(try replace q:=q.below hh);(try replace r:=r.below hh);(try replace u:=u.below hh);(try replace XA:=XA.below hh);(try replace hL:=hL.below hh);(try replace X:=X.below hh);(try replace o:=o.below hh);(try replace XO:=XO.below hh);replace hb:=bend hb hh)
  | (go_at_call 30;(with_reducible refine (segwakes_any _).mono ?_);rintro e w_z ⟨rfl,hh⟩
     (try replace p:=p.below hh);(try replace q:=q.below hh);(try replace r:=r.below hh);(try replace u:=u.below hh);(try replace XA:=XA.below hh);(try replace hL:=hL.below hh);(try replace X:=X.below hh);(try replace o:=o.below hh);(try replace XO:=XO.below hh);replace hb:=bend hb hh))
 go_wp2_with fail
 go_ret;exact ⟨rfl,hb⟩
theorem both_t1 (t:Nat) {ax ay bx by_ cx cy dx dy:Rat} (p:PR w s_p A_p n_p c_p B_p m_p d_p t_p E_p i_p e_p F_p j_p f_p ax ay 6) (q:PR w s_q A_q n_q c_q B_q m_q d_q t_q E_q i_q e_q F_q j_q f_q bx by_ 6) (r:PR w s_r A_r n_r c_r B_r m_r d_r t_r E_r i_r e_r F_r j_r f_r cx cy 6) (u:PR w s_u A_u n_u c_u B_u m_u d_u t_u E_u i_u e_u F_u j_u f_u dx dy 6) {mx my nx ny:Rat} (h:(((n_p≤6∧m_p≤6)∧i_p≤6∧j_p≤6)∧((n_q≤6∧m_q≤6)∧i_q≤6∧j_q≤6)∧((n_r≤6∧m_r≤6)∧i_r≤6∧j_r≤6)∧((n_u≤6∧m_u≤6)∧i_u≤6∧j_u≤6))) (ht:t≤255) (hT:Told ax ay bx by_ cx cy dx dy [(mx,my),(nx,ny)]) (hon:¬ onS (ax+(bx - ax)*(Rat.divInt (t:Int) 255)) (ay+(by_ - ay)*(Rat.divInt (t:Int) 255)) cx cy dx dy) :
 Calls Tryz.prog 7 #[.agg #[.bool s_p,.slice A_p n_p c_p,.slice B_p m_p d_p,.bool t_p,.slice E_p i_p e_p,.slice F_p j_p f_p,.bool s_q,.slice A_q n_q c_q,.slice B_q m_q d_q,.bool t_q,.slice E_q i_q e_q,.slice F_q j_q f_q,.bool s_r,.slice A_r n_r c_r,.slice B_r m_r d_r,.bool t_r,.slice E_r i_r e_r,.slice F_r j_r f_r,.bool s_u,.slice A_u n_u c_u,.slice B_u m_u d_u,.bool t_u,.slice E_u i_u e_u,.slice F_u j_u f_u],.int .u8 (t:Int)] w fun e w'=>e=.returned (.bool true)∧Below w.heap.size w w':=by
 have HL:Hid (decide (((n_p≤6∧m_p≤6)∧i_p≤6∧j_p≤6)∧((n_q≤6∧m_q≤6)∧i_q≤6∧j_q≤6)∧((n_r≤6∧m_r≤6)∧i_r≤6∧j_r≤6)∧((n_u≤6∧m_u≤6)∧i_u≤6∧j_u≤6))=true):=decide_eq_true h
 have hti:(t:Int)≤255:=by omega
 have hr:=tq_range ht
 have hO:onS (ax+(bx - ax)*(Rat.divInt (t:Int) 255)) (ay+(by_ - ay)*(Rat.divInt (t:Int) 255)) ax ay bx by_:=⟨_,hr.1,hr.2,rfl,rfl⟩
 have HC:Hid (¬ onS (ax+(bx - ax)*(Rat.divInt (t:Int) 255)) (ay+(by_ - ay)*(Rat.divInt (t:Int) 255)) cx cy dx dy):=hon
 have M0a:Hid (onS mx my ax ay bx by_):=(told_mem hT (p:=(mx,my)) (by simp)).1
 have M0b:Hid (onS mx my cx cy dx dy):=(told_mem hT (p:=(mx,my)) (by simp)).2
 have M1a:Hid (onS nx ny ax ay bx by_):=(told_mem hT (p:=(nx,ny)) (by simp)).1
 have M1b:Hid (onS nx ny cx cy dx dy):=(told_mem hT (p:=(nx,ny)) (by simp)).2
 have HD:Hid (decide (mx=nx∧my=ny)=false):=decide_eq_false (told_diff hT)
 have HLN:Hid (([(mx,my),(nx,ny)]:List (Rat × Rat)).length≤1000000):=Nat.le_of_ble_eq_true rfl
 have HT:=Lib.hid hT;clear h hr ht hO hon hT
 go_enter Tryz.func7,Tryz.ntmps7
 go_upto_region 1 with (fail)
 generalize hW:World.alloc _ _=W
 obtain ⟨hb,XA,hzW⟩:=mkbx32_16 hW;clear hW;replace p:=p.below hb;replace q:=q.below hb;replace r:=r.below hb;replace u:=u.below hb;have ia0:=at4_0 w.heap.size;have ia1:=at4_1 w.heap.size;have ia2:=at4_2 w.heap.size;have ia3:=at4_3 w.heap.size;obtain ⟨xa0,xa1,xa2,xa3,xa4,xa5,xa6,xa7,xa8,xa9,xa10,xa11,xa12,xa13,xa14,xa15,xa16,xa17,xa18,xa19,xa20,xa21,xa22,xa23⟩:=XA.all
 go_wp2_with fail
 generalize hW:World.alloc _ _=W2
 obtain ⟨hh,XL,hzW2⟩:=mkbx33_16 hW;clear hW;(try replace p:=p.below hh);(try replace q:=q.below hh);(try replace r:=r.below hh);(try replace u:=u.below hh);(try replace XA:=XA.below hh);replace hb:=bend hb hh;rw [hzW] at XL;clear hzW2
 go_upto_region 3 with (first
  | (go_at_call 29;(with_reducible refine (fair4 XL true HL.out).mono ?_);rintro e w_z ⟨rfl,hh⟩
     clear XL;(try replace p:=p.below hh);(try replace q:=q.below hh);(try replace r:=r.below hh);(try replace u:=u.below hh);(try replace XA:=XA.below hh);replace hb:=bend hb hh;obtain ⟨xa0,xa1,xa2,xa3,xa4,xa5,xa6,xa7,xa8,xa9,xa10,xa11,xa12,xa13,xa14,xa15,xa16,xa17,xa18,xa19,xa20,xa21,xa22,xa23⟩:=XA.all))
 go_wp2_with (first
  | (go_at_call 33;(with_reducible refine (meet_p p q r u (by decide) (by decide)).mono ?_);rintro e w_m ⟨l,ht,v,L,rfl,hL,hE,hh⟩
     (try replace p:=p.below hh);(try replace q:=q.below hh);(try replace r:=r.below hh);(try replace u:=u.below hh);(try replace XA:=XA.below hh);replace hb:=bend hb hh
     obtain rfl:=told_same (fun _ _=>Iff.rfl) ht HT.out
     obtain ⟨x,y,g_x,c_x,rfl,rfl,hgx,X,Y⟩:=ln_two hL hE
     replace X:=X.more (k1:=8) (Nat.le_refl 8)
     replace Y:=Y.more (k1:=8) (Nat.le_refl 8)
     simp only at X Y
     replace hE:=Each.more hE (k2:=126) (Nat.le_of_ble_eq_true rfl)
     clear ht))
 clear xa0 xa1 xa2 xa3 xa4 xa5 xa6 xa7 xa8 xa9 xa10 xa11 xa12 xa13 xa14 xa15 xa16 xa17 xa18 xa19 xa20 xa21 xa22 xa23
 have ix:=idx0 (g:=g_x) (n:=2) (c:=c_x) (by decide)
 have iy:=idx1 (g:=g_x) (n:=2) (c:=c_x) (by decide)
 refine wp_loop_rounds 3 ?_
 rw [rounds_succ]
 go_upto_region 7 with (fail)
 replace p:=p.below (Below.refl _ _).drew
 replace q:=q.below (Below.refl _ _).drew
 replace r:=r.below (Below.refl _ _).drew
 replace u:=u.below (Below.refl _ _).drew
 replace XA:=XA.below (Below.refl _ _).drew
 replace hL:=hL.below (Below.refl _ _).drew
 replace hE:=hE.below (Below.refl _ _).drew
 replace X:=X.below (Below.refl _ _).drew
 replace Y:=Y.below (Below.refl _ _).drew
 replace hb:=hb.drew
 go_region_held3 (fun w'=>w'.cell? ⟨w.heap.size,0,none⟩=some (.bool s_p)∧w'.cell? ⟨w.heap.size,1,none⟩=some (.slice A_p n_p c_p)∧w'.cell? ⟨w.heap.size,2,none⟩=some (.slice B_p m_p d_p)∧w'.cell? ⟨w.heap.size,3,none⟩=some (.bool t_p)∧w'.cell? ⟨w.heap.size,4,none⟩=some (.slice E_p i_p e_p)∧w'.cell? ⟨w.heap.size,5,none⟩=some (.slice F_p j_p f_p)∧w'.cell? ⟨w.heap.size,6,none⟩=some (.bool s_q)∧w'.cell? ⟨w.heap.size,7,none⟩=some (.slice A_q n_q c_q)∧w'.cell? ⟨w.heap.size,8,none⟩=some (.slice B_q m_q d_q)∧w'.cell? ⟨w.heap.size,9,none⟩=some (.bool t_q)∧w'.cell? ⟨w.heap.size,10,none⟩=some (.slice E_q i_q e_q)∧w'.cell? ⟨w.heap.size,11,none⟩=some (.slice F_q j_q f_q)∧w'.cell? ⟨w.heap.size,12,none⟩=some (.bool s_r)∧w'.cell? ⟨w.heap.size,13,none⟩=some (.slice A_r n_r c_r)∧w'.cell? ⟨w.heap.size,14,none⟩=some (.slice B_r m_r d_r)∧w'.cell? ⟨w.heap.size,15,none⟩=some (.bool t_r)∧w'.cell? ⟨w.heap.size,16,none⟩=some (.slice E_r i_r e_r)∧w'.cell? ⟨w.heap.size,17,none⟩=some (.slice F_r j_r f_r)∧w'.cell? ⟨w.heap.size,18,none⟩=some (.bool s_u)∧w'.cell? ⟨w.heap.size,19,none⟩=some (.slice A_u n_u c_u)∧w'.cell? ⟨w.heap.size,20,none⟩=some (.slice B_u m_u d_u)∧w'.cell? ⟨w.heap.size,21,none⟩=some (.bool t_u)∧w'.cell? ⟨w.heap.size,22,none⟩=some (.slice E_u i_u e_u)∧w'.cell? ⟨w.heap.size,23,none⟩=some (.slice F_u j_u f_u)∧w'.cell? ⟨g_x,0,none⟩=some (.bool x.s)∧w'.cell? ⟨g_x,1,none⟩=some (.slice x.A x.n x.c)∧w'.cell? ⟨g_x,2,none⟩=some (.slice x.B x.m x.d)∧w'.cell? ⟨g_x,3,none⟩=some (.bool x.t)∧w'.cell? ⟨g_x,4,none⟩=some (.slice x.E x.i x.e)∧w'.cell? ⟨g_x,5,none⟩=some (.slice x.F x.j x.f)∧w'.cell? ⟨g_x,6,none⟩=some (.bool y.s)∧w'.cell? ⟨g_x,7,none⟩=some (.slice y.A y.n y.c)∧w'.cell? ⟨g_x,8,none⟩=some (.slice y.B y.m y.d)∧w'.cell? ⟨g_x,9,none⟩=some (.bool y.t)∧w'.cell? ⟨g_x,10,none⟩=some (.slice y.E y.i y.e)∧w'.cell? ⟨g_x,11,none⟩=some (.slice y.F y.j y.f))
  (first | with_reducible exact ⟨XA.c0,XA.c1,XA.c2,XA.c3,XA.c4,XA.c5,XA.c6,XA.c7,XA.c8,XA.c9,XA.c10,XA.c11,XA.c12,XA.c13,XA.c14,XA.c15,XA.c16,XA.c17,XA.c18,XA.c19,XA.c20,XA.c21,XA.c22,XA.c23,(hL.cells0 rfl).1,(hL.cells0 rfl).2.1,(hL.cells0 rfl).2.2.1,(hL.cells0 rfl).2.2.2.1,(hL.cells0 rfl).2.2.2.2.1,(hL.cells0 rfl).2.2.2.2.2,(hL.cells1 rfl).1,(hL.cells1 rfl).2.1,(hL.cells1 rfl).2.2.1,(hL.cells1 rfl).2.2.2.1,(hL.cells1 rfl).2.2.2.2.1,(hL.cells1 rfl).2.2.2.2.2⟩)
  (first
  | (go_at_call 36;(with_reducible refine (onw_yes X.pr p q (by decide) (by decide) (by decide) M0a.out).mono ?_);rintro e w_z ⟨rfl,hh⟩
     (try replace p:=p.below hh);(try replace q:=q.below hh);(try replace r:=r.below hh);(try replace u:=u.below hh);(try replace XA:=XA.below hh);(try replace hL:=hL.below hh);(try replace hE:=hE.below hh);(try replace X:=X.below hh);(try replace Y:=Y.below hh);replace hb:=bend hb hh)
  | (go_at_call 36;(with_reducible refine (onw_yes X.pr r u (by decide) (by decide) (by decide) M0b.out).mono ?_);rintro e w_z ⟨rfl,hh⟩
     (try replace p:=p.below hh);(try replace q:=q.below hh);(try replace r:=r.below hh);(try replace u:=u.below hh);(try replace XA:=XA.below hh);(try replace hL:=hL.below hh);(try replace hE:=hE.below hh);(try replace X:=X.below hh);(try replace Y:=Y.below hh);replace hb:=bend hb hh))
 go_wp2_with fail
 rw [rounds_succ]
 go_upto_region 7 with (fail)
 replace p:=p.below (Below.refl _ _).drew
 replace q:=q.below (Below.refl _ _).drew
 replace r:=r.below (Below.refl _ _).drew
 replace u:=u.below (Below.refl _ _).drew
 replace XA:=XA.below (Below.refl _ _).drew
 replace hL:=hL.below (Below.refl _ _).drew
 replace hE:=hE.below (Below.refl _ _).drew
 replace X:=X.below (Below.refl _ _).drew
 replace Y:=Y.below (Below.refl _ _).drew
 replace hb:=hb.drew
 go_region_held3 (fun w'=>w'.cell? ⟨w.heap.size,0,none⟩=some (.bool s_p)∧w'.cell? ⟨w.heap.size,1,none⟩=some (.slice A_p n_p c_p)∧w'.cell? ⟨w.heap.size,2,none⟩=some (.slice B_p m_p d_p)∧w'.cell? ⟨w.heap.size,3,none⟩=some (.bool t_p)∧w'.cell? ⟨w.heap.size,4,none⟩=some (.slice E_p i_p e_p)∧w'.cell? ⟨w.heap.size,5,none⟩=some (.slice F_p j_p f_p)∧w'.cell? ⟨w.heap.size,6,none⟩=some (.bool s_q)∧w'.cell? ⟨w.heap.size,7,none⟩=some (.slice A_q n_q c_q)∧w'.cell? ⟨w.heap.size,8,none⟩=some (.slice B_q m_q d_q)∧w'.cell? ⟨w.heap.size,9,none⟩=some (.bool t_q)∧w'.cell? ⟨w.heap.size,10,none⟩=some (.slice E_q i_q e_q)∧w'.cell? ⟨w.heap.size,11,none⟩=some (.slice F_q j_q f_q)∧w'.cell? ⟨w.heap.size,12,none⟩=some (.bool s_r)∧w'.cell? ⟨w.heap.size,13,none⟩=some (.slice A_r n_r c_r)∧w'.cell? ⟨w.heap.size,14,none⟩=some (.slice B_r m_r d_r)∧w'.cell? ⟨w.heap.size,15,none⟩=some (.bool t_r)∧w'.cell? ⟨w.heap.size,16,none⟩=some (.slice E_r i_r e_r)∧w'.cell? ⟨w.heap.size,17,none⟩=some (.slice F_r j_r f_r)∧w'.cell? ⟨w.heap.size,18,none⟩=some (.bool s_u)∧w'.cell? ⟨w.heap.size,19,none⟩=some (.slice A_u n_u c_u)∧w'.cell? ⟨w.heap.size,20,none⟩=some (.slice B_u m_u d_u)∧w'.cell? ⟨w.heap.size,21,none⟩=some (.bool t_u)∧w'.cell? ⟨w.heap.size,22,none⟩=some (.slice E_u i_u e_u)∧w'.cell? ⟨w.heap.size,23,none⟩=some (.slice F_u j_u f_u)∧w'.cell? ⟨g_x,0,none⟩=some (.bool x.s)∧w'.cell? ⟨g_x,1,none⟩=some (.slice x.A x.n x.c)∧w'.cell? ⟨g_x,2,none⟩=some (.slice x.B x.m x.d)∧w'.cell? ⟨g_x,3,none⟩=some (.bool x.t)∧w'.cell? ⟨g_x,4,none⟩=some (.slice x.E x.i x.e)∧w'.cell? ⟨g_x,5,none⟩=some (.slice x.F x.j x.f)∧w'.cell? ⟨g_x,6,none⟩=some (.bool y.s)∧w'.cell? ⟨g_x,7,none⟩=some (.slice y.A y.n y.c)∧w'.cell? ⟨g_x,8,none⟩=some (.slice y.B y.m y.d)∧w'.cell? ⟨g_x,9,none⟩=some (.bool y.t)∧w'.cell? ⟨g_x,10,none⟩=some (.slice y.E y.i y.e)∧w'.cell? ⟨g_x,11,none⟩=some (.slice y.F y.j y.f))
  (first | with_reducible exact ⟨XA.c0,XA.c1,XA.c2,XA.c3,XA.c4,XA.c5,XA.c6,XA.c7,XA.c8,XA.c9,XA.c10,XA.c11,XA.c12,XA.c13,XA.c14,XA.c15,XA.c16,XA.c17,XA.c18,XA.c19,XA.c20,XA.c21,XA.c22,XA.c23,(hL.cells0 rfl).1,(hL.cells0 rfl).2.1,(hL.cells0 rfl).2.2.1,(hL.cells0 rfl).2.2.2.1,(hL.cells0 rfl).2.2.2.2.1,(hL.cells0 rfl).2.2.2.2.2,(hL.cells1 rfl).1,(hL.cells1 rfl).2.1,(hL.cells1 rfl).2.2.1,(hL.cells1 rfl).2.2.2.1,(hL.cells1 rfl).2.2.2.2.1,(hL.cells1 rfl).2.2.2.2.2⟩)
  (first
  | (go_at_call 36;(with_reducible refine (onw_yes Y.pr p q (by decide) (by decide) (by decide) M1a.out).mono ?_);rintro e w_z ⟨rfl,hh⟩
     (try replace p:=p.below hh);(try replace q:=q.below hh);(try replace r:=r.below hh);(try replace u:=u.below hh);(try replace XA:=XA.below hh);(try replace hL:=hL.below hh);(try replace hE:=hE.below hh);(try replace X:=X.below hh);(try replace Y:=Y.below hh);replace hb:=bend hb hh)
  | (go_at_call 36;(with_reducible refine (onw_yes Y.pr r u (by decide) (by decide) (by decide) M1b.out).mono ?_);rintro e w_z ⟨rfl,hh⟩
     (try replace p:=p.below hh);(try replace q:=q.below hh);(try replace r:=r.below hh);(try replace u:=u.below hh);(try replace XA:=XA.below hh);(try replace hL:=hL.below hh);(try replace hE:=hE.below hh);(try replace X:=X.below hh);(try replace Y:=Y.below hh);replace hb:=bend hb hh))
 go_wp2_with fail
 rw [rounds_succ]
 go_upto_region 9 with (fail)
 replace p:=p.below (Below.refl _ _).drew
 replace q:=q.below (Below.refl _ _).drew
 replace r:=r.below (Below.refl _ _).drew
 replace u:=u.below (Below.refl _ _).drew
 replace XA:=XA.below (Below.refl _ _).drew
 replace hL:=hL.below (Below.refl _ _).drew
 replace hE:=hE.below (Below.refl _ _).drew
 replace X:=X.below (Below.refl _ _).drew
 replace Y:=Y.below (Below.refl _ _).drew
 replace hb:=hb.drew
 go_region_held3 (fun w'=>w'.cell? ⟨w.heap.size,0,none⟩=some (.bool s_p)∧w'.cell? ⟨w.heap.size,1,none⟩=some (.slice A_p n_p c_p)∧w'.cell? ⟨w.heap.size,2,none⟩=some (.slice B_p m_p d_p)∧w'.cell? ⟨w.heap.size,3,none⟩=some (.bool t_p)∧w'.cell? ⟨w.heap.size,4,none⟩=some (.slice E_p i_p e_p)∧w'.cell? ⟨w.heap.size,5,none⟩=some (.slice F_p j_p f_p)∧w'.cell? ⟨w.heap.size,6,none⟩=some (.bool s_q)∧w'.cell? ⟨w.heap.size,7,none⟩=some (.slice A_q n_q c_q)∧w'.cell? ⟨w.heap.size,8,none⟩=some (.slice B_q m_q d_q)∧w'.cell? ⟨w.heap.size,9,none⟩=some (.bool t_q)∧w'.cell? ⟨w.heap.size,10,none⟩=some (.slice E_q i_q e_q)∧w'.cell? ⟨w.heap.size,11,none⟩=some (.slice F_q j_q f_q)∧w'.cell? ⟨w.heap.size,12,none⟩=some (.bool s_r)∧w'.cell? ⟨w.heap.size,13,none⟩=some (.slice A_r n_r c_r)∧w'.cell? ⟨w.heap.size,14,none⟩=some (.slice B_r m_r d_r)∧w'.cell? ⟨w.heap.size,15,none⟩=some (.bool t_r)∧w'.cell? ⟨w.heap.size,16,none⟩=some (.slice E_r i_r e_r)∧w'.cell? ⟨w.heap.size,17,none⟩=some (.slice F_r j_r f_r)∧w'.cell? ⟨w.heap.size,18,none⟩=some (.bool s_u)∧w'.cell? ⟨w.heap.size,19,none⟩=some (.slice A_u n_u c_u)∧w'.cell? ⟨w.heap.size,20,none⟩=some (.slice B_u m_u d_u)∧w'.cell? ⟨w.heap.size,21,none⟩=some (.bool t_u)∧w'.cell? ⟨w.heap.size,22,none⟩=some (.slice E_u i_u e_u)∧w'.cell? ⟨w.heap.size,23,none⟩=some (.slice F_u j_u f_u)∧w'.cell? ⟨g_x,0,none⟩=some (.bool x.s)∧w'.cell? ⟨g_x,1,none⟩=some (.slice x.A x.n x.c)∧w'.cell? ⟨g_x,2,none⟩=some (.slice x.B x.m x.d)∧w'.cell? ⟨g_x,3,none⟩=some (.bool x.t)∧w'.cell? ⟨g_x,4,none⟩=some (.slice x.E x.i x.e)∧w'.cell? ⟨g_x,5,none⟩=some (.slice x.F x.j x.f)∧w'.cell? ⟨g_x,6,none⟩=some (.bool y.s)∧w'.cell? ⟨g_x,7,none⟩=some (.slice y.A y.n y.c)∧w'.cell? ⟨g_x,8,none⟩=some (.slice y.B y.m y.d)∧w'.cell? ⟨g_x,9,none⟩=some (.bool y.t)∧w'.cell? ⟨g_x,10,none⟩=some (.slice y.E y.i y.e)∧w'.cell? ⟨g_x,11,none⟩=some (.slice y.F y.j y.f))
  (first | with_reducible exact ⟨XA.c0,XA.c1,XA.c2,XA.c3,XA.c4,XA.c5,XA.c6,XA.c7,XA.c8,XA.c9,XA.c10,XA.c11,XA.c12,XA.c13,XA.c14,XA.c15,XA.c16,XA.c17,XA.c18,XA.c19,XA.c20,XA.c21,XA.c22,XA.c23,(hL.cells0 rfl).1,(hL.cells0 rfl).2.1,(hL.cells0 rfl).2.2.1,(hL.cells0 rfl).2.2.2.1,(hL.cells0 rfl).2.2.2.2.1,(hL.cells0 rfl).2.2.2.2.2,(hL.cells1 rfl).1,(hL.cells1 rfl).2.1,(hL.cells1 rfl).2.2.1,(hL.cells1 rfl).2.2.2.1,(hL.cells1 rfl).2.2.2.2.1,(hL.cells1 rfl).2.2.2.2.2⟩)
  (first
  | (go_at_call 43;(with_reducible refine (psame_p X.pr Y.pr (by decide) (by decide) (by decide) (by decide) false HD.out).mono ?_);rintro e w_z ⟨rfl,hh⟩
     (try replace p:=p.below hh);(try replace q:=q.below hh);(try replace r:=r.below hh);(try replace u:=u.below hh);(try replace XA:=XA.below hh);(try replace hL:=hL.below hh);(try replace hE:=hE.below hh);(try replace X:=X.below hh);(try replace Y:=Y.below hh);replace hb:=bend hb hh))
 obtain ⟨xa0,xa1,xa2,xa3,xa4,xa5,xa6,xa7,xa8,xa9,xa10,xa11,xa12,xa13,xa14,xa15,xa16,xa17,xa18,xa19,xa20,xa21,xa22,xa23⟩:=XA.all
 go_upto_region 13 with (first
  | (go_at_call 33;(with_reducible refine (meet_p p q u r (by decide) (by decide)).mono ?_);rintro e w_m2 ⟨l,ht,v2,L2,rfl,hL2,hE2,hh⟩
     (try replace p:=p.below hh);(try replace q:=q.below hh);(try replace r:=r.below hh);(try replace u:=u.below hh);(try replace XA:=XA.below hh);(try replace hL:=hL.below hh);(try replace hE:=hE.below hh);(try replace X:=X.below hh);(try replace Y:=Y.below hh);replace hb:=bend hb hh;obtain ⟨xa0,xa1,xa2,xa3,xa4,xa5,xa6,xa7,xa8,xa9,xa10,xa11,xa12,xa13,xa14,xa15,xa16,xa17,xa18,xa19,xa20,xa21,xa22,xa23⟩:=XA.all
     obtain rfl:=told_same (fun a b=>(both_swap a b).symm) ht HT.out
     clear ht)
  | (go_at_call 33;(with_reducible refine (meet_p r u p q (by decide) (by decide)).mono ?_);rintro e w_m3 ⟨l,ht,v3,L3,rfl,hL3,hE3,hh⟩
     (try replace p:=p.below hh);(try replace q:=q.below hh);(try replace r:=r.below hh);(try replace u:=u.below hh);(try replace XA:=XA.below hh);(try replace hL:=hL.below hh);(try replace hE:=hE.below hh);(try replace X:=X.below hh);(try replace Y:=Y.below hh);replace hb:=bend hb hh;obtain ⟨xa0,xa1,xa2,xa3,xa4,xa5,xa6,xa7,xa8,xa9,xa10,xa11,xa12,xa13,xa14,xa15,xa16,xa17,xa18,xa19,xa20,xa21,xa22,xa23⟩:=XA.all
     obtain ⟨A_3,c_3,rfl,_,_⟩:=hL3.form
     have e3:L3.length=2:=hE3.1.trans (told_len (fun a b=>(both_over a b).symm) ht HT.out)
     clear ht hL3 hE3)
  | (go_at_call 33;(with_reducible refine (meet_p q p r u (by decide) (by decide)).mono ?_);rintro e w_m4 ⟨l,ht,v4,L4,rfl,hL4,hE4,hh⟩
     (try replace p:=p.below hh);(try replace q:=q.below hh);(try replace r:=r.below hh);(try replace u:=u.below hh);(try replace XA:=XA.below hh);(try replace hL:=hL.below hh);(try replace hE:=hE.below hh);(try replace X:=X.below hh);(try replace Y:=Y.below hh);replace hb:=bend hb hh;obtain ⟨xa0,xa1,xa2,xa3,xa4,xa5,xa6,xa7,xa8,xa9,xa10,xa11,xa12,xa13,xa14,xa15,xa16,xa17,xa18,xa19,xa20,xa21,xa22,xa23⟩:=XA.all
     obtain ⟨A_4,c_4,rfl,_,_⟩:=hL4.form
     have e4:L4.length=2:=hE4.1.trans (told_len (fun a b=>(both_turn a b).symm) ht HT.out)
     clear ht hL4 hE4)
  | (go_at_call 32;(with_reducible refine (lines_same hL hL2 hE hE2 (by decide) HLN.out).mono ?_);rintro e w_z ⟨rfl,hh⟩
     (try replace p:=p.below hh);(try replace q:=q.below hh);(try replace r:=r.below hh);(try replace u:=u.below hh);(try replace XA:=XA.below hh);(try replace hL:=hL.below hh);(try replace hE:=hE.below hh);(try replace X:=X.below hh);(try replace Y:=Y.below hh);replace hb:=bend hb hh;obtain ⟨xa0,xa1,xa2,xa3,xa4,xa5,xa6,xa7,xa8,xa9,xa10,xa11,xa12,xa13,xa14,xa15,xa16,xa17,xa18,xa19,xa20,xa21,xa22,xa23⟩:=XA.all;clear hL2 hE2))
 clear xa0 xa1 xa2 xa3 xa4 xa5 xa6 xa7 xa8 xa9 xa10 xa11 xa12 xa13 xa14 xa15 xa16 xa17 xa18 xa19 xa20 xa21 xa22 xa23;clear hE
 refine both13_region (by simp) rfl rfl XA p q hti ?_
 intro V w_o g_o s_o A_o n_o c_o B_o m_o d_o t_o E_o i_o e_o F_o j_o f_o o XO hg_o hvo hh
 simp only [putAll,Act.put,List.setIfInBounds_toArray,List.set_cons_zero,List.set_cons_succ,hvo]
 clear hvo;replace p:=p.below hh;replace q:=q.below hh;replace r:=r.below hh;replace u:=u.below hh;replace XA:=XA.below hh;replace hL:=hL.below hh;replace X:=X.below hh;replace Y:=Y.below hh;replace hb:=bend hb hh;obtain ⟨xa0,xa1,xa2,xa3,xa4,xa5,xa6,xa7,xa8,xa9,xa10,xa11,xa12,xa13,xa14,xa15,xa16,xa17,xa18,xa19,xa20,xa21,xa22,xa23⟩:=XA.all;obtain ⟨xo0,xo1,xo2,xo3,xo4,xo5⟩:=XO.all
 go_wp2_with (first
  | (go_at_call 36;(with_reducible refine (onw_no o.pr r u (by decide) (by decide) (by decide) HC.out).mono ?_);rintro e w_z ⟨rfl,hh⟩
     (try replace p:=p.below hh);(try replace q:=q.below hh);(try replace r:=r.below hh);(try replace u:=u.below hh);(try replace XA:=XA.below hh);(try replace hL:=hL.below hh);(try replace X:=X.below hh);(try replace Y:=Y.below hh);(try replace o:=o.below hh);(try replace XO:=XO.below hh);replace hb:=bend hb hh;obtain ⟨xa0,xa1,xa2,xa3,xa4,xa5,xa6,xa7,xa8,xa9,xa10,xa11,xa12,xa13,xa14,xa15,xa16,xa17,xa18,xa19,xa20,xa21,xa22,xa23⟩:=XA.all;obtain ⟨xo0,xo1,xo2,xo3,xo4,xo5⟩:=XO.all)
  | (go_at_call 30;(with_reducible refine (segwakes_any _).mono ?_);rintro e w_z ⟨rfl,hh⟩
     (try replace p:=p.below hh);(try replace q:=q.below hh);(try replace r:=r.below hh);(try replace u:=u.below hh);(try replace XA:=XA.below hh);(try replace hL:=hL.below hh);(try replace X:=X.below hh);(try replace Y:=Y.below hh);(try replace o:=o.below hh);(try replace XO:=XO.below hh);replace hb:=bend hb hh))
 go_ret;exact ⟨rfl,hb⟩
theorem both_t2 (t:Nat) {ax ay bx by_ cx cy dx dy:Rat} (p:PR w s_p A_p n_p c_p B_p m_p d_p t_p E_p i_p e_p F_p j_p f_p ax ay 6) (q:PR w s_q A_q n_q c_q B_q m_q d_q t_q E_q i_q e_q F_q j_q f_q bx by_ 6) (r:PR w s_r A_r n_r c_r B_r m_r d_r t_r E_r i_r e_r F_r j_r f_r cx cy 6) (u:PR w s_u A_u n_u c_u B_u m_u d_u t_u E_u i_u e_u F_u j_u f_u dx dy 6) {mx my nx ny:Rat} (h:(((n_p≤6∧m_p≤6)∧i_p≤6∧j_p≤6)∧((n_q≤6∧m_q≤6)∧i_q≤6∧j_q≤6)∧((n_r≤6∧m_r≤6)∧i_r≤6∧j_r≤6)∧((n_u≤6∧m_u≤6)∧i_u≤6∧j_u≤6))) (ht:t≤255) (hT:Told ax ay bx by_ cx cy dx dy [(mx,my),(nx,ny)]) (hon:onS (ax+(bx - ax)*(Rat.divInt (t:Int) 255)) (ay+(by_ - ay)*(Rat.divInt (t:Int) 255)) cx cy dx dy) :
 Calls Tryz.prog 7 #[.agg #[.bool s_p,.slice A_p n_p c_p,.slice B_p m_p d_p,.bool t_p,.slice E_p i_p e_p,.slice F_p j_p f_p,.bool s_q,.slice A_q n_q c_q,.slice B_q m_q d_q,.bool t_q,.slice E_q i_q e_q,.slice F_q j_q f_q,.bool s_r,.slice A_r n_r c_r,.slice B_r m_r d_r,.bool t_r,.slice E_r i_r e_r,.slice F_r j_r f_r,.bool s_u,.slice A_u n_u c_u,.slice B_u m_u d_u,.bool t_u,.slice E_u i_u e_u,.slice F_u j_u f_u],.int .u8 (t:Int)] w fun e w'=>e=.returned (.bool true)∧Below w.heap.size w w':=by
 have HL:Hid (decide (((n_p≤6∧m_p≤6)∧i_p≤6∧j_p≤6)∧((n_q≤6∧m_q≤6)∧i_q≤6∧j_q≤6)∧((n_r≤6∧m_r≤6)∧i_r≤6∧j_r≤6)∧((n_u≤6∧m_u≤6)∧i_u≤6∧j_u≤6))=true):=decide_eq_true h
 have hti:(t:Int)≤255:=by omega
 have hr:=tq_range ht
 have hO:onS (ax+(bx - ax)*(Rat.divInt (t:Int) 255)) (ay+(by_ - ay)*(Rat.divInt (t:Int) 255)) ax ay bx by_:=⟨_,hr.1,hr.2,rfl,rfl⟩
 have HC:Hid (onS (ax+(bx - ax)*(Rat.divInt (t:Int) 255)) (ay+(by_ - ay)*(Rat.divInt (t:Int) 255)) cx cy dx dy):=hon
 have M0a:Hid (onS mx my ax ay bx by_):=(told_mem hT (p:=(mx,my)) (by simp)).1
 have M0b:Hid (onS mx my cx cy dx dy):=(told_mem hT (p:=(mx,my)) (by simp)).2
 have M1a:Hid (onS nx ny ax ay bx by_):=(told_mem hT (p:=(nx,ny)) (by simp)).1
 have M1b:Hid (onS nx ny cx cy dx dy):=(told_mem hT (p:=(nx,ny)) (by simp)).2
 have HD:Hid (decide (mx=nx∧my=ny)=false):=decide_eq_false (told_diff hT)
 have HS:Hid (onS (ax+(bx - ax)*(Rat.divInt (t:Int) 255)) (ay+(by_ - ay)*(Rat.divInt (t:Int) 255)) mx my nx ny):=told_seg hT ⟨hO,hon⟩
 have HLN:Hid (([(mx,my),(nx,ny)]:List (Rat × Rat)).length≤1000000):=Nat.le_of_ble_eq_true rfl
 have HT:=Lib.hid hT;clear h hr ht hO hon hT
 go_enter Tryz.func7,Tryz.ntmps7
 go_upto_region 1 with (fail)
 generalize hW:World.alloc _ _=W
 obtain ⟨hb,XA,hzW⟩:=mkbx32_16 hW;clear hW;replace p:=p.below hb;replace q:=q.below hb;replace r:=r.below hb;replace u:=u.below hb;have ia0:=at4_0 w.heap.size;have ia1:=at4_1 w.heap.size;have ia2:=at4_2 w.heap.size;have ia3:=at4_3 w.heap.size;obtain ⟨xa0,xa1,xa2,xa3,xa4,xa5,xa6,xa7,xa8,xa9,xa10,xa11,xa12,xa13,xa14,xa15,xa16,xa17,xa18,xa19,xa20,xa21,xa22,xa23⟩:=XA.all
 go_wp2_with fail
 generalize hW:World.alloc _ _=W2
 obtain ⟨hh,XL,hzW2⟩:=mkbx33_16 hW;clear hW;(try replace p:=p.below hh);(try replace q:=q.below hh);(try replace r:=r.below hh);(try replace u:=u.below hh);(try replace XA:=XA.below hh);replace hb:=bend hb hh;rw [hzW] at XL;clear hzW2
 go_upto_region 3 with (first
  | (go_at_call 29;(with_reducible refine (fair4 XL true HL.out).mono ?_);rintro e w_z ⟨rfl,hh⟩
     clear XL;(try replace p:=p.below hh);(try replace q:=q.below hh);(try replace r:=r.below hh);(try replace u:=u.below hh);(try replace XA:=XA.below hh);replace hb:=bend hb hh;obtain ⟨xa0,xa1,xa2,xa3,xa4,xa5,xa6,xa7,xa8,xa9,xa10,xa11,xa12,xa13,xa14,xa15,xa16,xa17,xa18,xa19,xa20,xa21,xa22,xa23⟩:=XA.all))
 go_wp2_with (first
  | (go_at_call 33;(with_reducible refine (meet_p p q r u (by decide) (by decide)).mono ?_);rintro e w_m ⟨l,ht,v,L,rfl,hL,hE,hh⟩
     (try replace p:=p.below hh);(try replace q:=q.below hh);(try replace r:=r.below hh);(try replace u:=u.below hh);(try replace XA:=XA.below hh);replace hb:=bend hb hh
     obtain rfl:=told_same (fun _ _=>Iff.rfl) ht HT.out
     obtain ⟨x,y,g_x,c_x,rfl,rfl,hgx,X,Y⟩:=ln_two hL hE
     replace X:=X.more (k1:=8) (Nat.le_refl 8)
     replace Y:=Y.more (k1:=8) (Nat.le_refl 8)
     simp only at X Y
     replace hE:=Each.more hE (k2:=126) (Nat.le_of_ble_eq_true rfl)
     clear ht))
 clear xa0 xa1 xa2 xa3 xa4 xa5 xa6 xa7 xa8 xa9 xa10 xa11 xa12 xa13 xa14 xa15 xa16 xa17 xa18 xa19 xa20 xa21 xa22 xa23
 have ix:=idx0 (g:=g_x) (n:=2) (c:=c_x) (by decide)
 have iy:=idx1 (g:=g_x) (n:=2) (c:=c_x) (by decide)
 refine wp_loop_rounds 3 ?_
 rw [rounds_succ]
 go_upto_region 7 with (fail)
 replace p:=p.below (Below.refl _ _).drew
 replace q:=q.below (Below.refl _ _).drew
 replace r:=r.below (Below.refl _ _).drew
 replace u:=u.below (Below.refl _ _).drew
 replace XA:=XA.below (Below.refl _ _).drew
 replace hL:=hL.below (Below.refl _ _).drew
 replace hE:=hE.below (Below.refl _ _).drew
 replace X:=X.below (Below.refl _ _).drew
 replace Y:=Y.below (Below.refl _ _).drew
 replace hb:=hb.drew
 go_region_held3 (fun w'=>w'.cell? ⟨w.heap.size,0,none⟩=some (.bool s_p)∧w'.cell? ⟨w.heap.size,1,none⟩=some (.slice A_p n_p c_p)∧w'.cell? ⟨w.heap.size,2,none⟩=some (.slice B_p m_p d_p)∧w'.cell? ⟨w.heap.size,3,none⟩=some (.bool t_p)∧w'.cell? ⟨w.heap.size,4,none⟩=some (.slice E_p i_p e_p)∧w'.cell? ⟨w.heap.size,5,none⟩=some (.slice F_p j_p f_p)∧w'.cell? ⟨w.heap.size,6,none⟩=some (.bool s_q)∧w'.cell? ⟨w.heap.size,7,none⟩=some (.slice A_q n_q c_q)∧w'.cell? ⟨w.heap.size,8,none⟩=some (.slice B_q m_q d_q)∧w'.cell? ⟨w.heap.size,9,none⟩=some (.bool t_q)∧w'.cell? ⟨w.heap.size,10,none⟩=some (.slice E_q i_q e_q)∧w'.cell? ⟨w.heap.size,11,none⟩=some (.slice F_q j_q f_q)∧w'.cell? ⟨w.heap.size,12,none⟩=some (.bool s_r)∧w'.cell? ⟨w.heap.size,13,none⟩=some (.slice A_r n_r c_r)∧w'.cell? ⟨w.heap.size,14,none⟩=some (.slice B_r m_r d_r)∧w'.cell? ⟨w.heap.size,15,none⟩=some (.bool t_r)∧w'.cell? ⟨w.heap.size,16,none⟩=some (.slice E_r i_r e_r)∧w'.cell? ⟨w.heap.size,17,none⟩=some (.slice F_r j_r f_r)∧w'.cell? ⟨w.heap.size,18,none⟩=some (.bool s_u)∧w'.cell? ⟨w.heap.size,19,none⟩=some (.slice A_u n_u c_u)∧w'.cell? ⟨w.heap.size,20,none⟩=some (.slice B_u m_u d_u)∧w'.cell? ⟨w.heap.size,21,none⟩=some (.bool t_u)∧w'.cell? ⟨w.heap.size,22,none⟩=some (.slice E_u i_u e_u)∧w'.cell? ⟨w.heap.size,23,none⟩=some (.slice F_u j_u f_u)∧w'.cell? ⟨g_x,0,none⟩=some (.bool x.s)∧w'.cell? ⟨g_x,1,none⟩=some (.slice x.A x.n x.c)∧w'.cell? ⟨g_x,2,none⟩=some (.slice x.B x.m x.d)∧w'.cell? ⟨g_x,3,none⟩=some (.bool x.t)∧w'.cell? ⟨g_x,4,none⟩=some (.slice x.E x.i x.e)∧w'.cell? ⟨g_x,5,none⟩=some (.slice x.F x.j x.f)∧w'.cell? ⟨g_x,6,none⟩=some (.bool y.s)∧w'.cell? ⟨g_x,7,none⟩=some (.slice y.A y.n y.c)∧w'.cell? ⟨g_x,8,none⟩=some (.slice y.B y.m y.d)∧w'.cell? ⟨g_x,9,none⟩=some (.bool y.t)∧w'.cell? ⟨g_x,10,none⟩=some (.slice y.E y.i y.e)∧w'.cell? ⟨g_x,11,none⟩=some (.slice y.F y.j y.f))
  (first | with_reducible exact ⟨XA.c0,XA.c1,XA.c2,XA.c3,XA.c4,XA.c5,XA.c6,XA.c7,XA.c8,XA.c9,XA.c10,XA.c11,XA.c12,XA.c13,XA.c14,XA.c15,XA.c16,XA.c17,XA.c18,XA.c19,XA.c20,XA.c21,XA.c22,XA.c23,(hL.cells0 rfl).1,(hL.cells0 rfl).2.1,(hL.cells0 rfl).2.2.1,(hL.cells0 rfl).2.2.2.1,(hL.cells0 rfl).2.2.2.2.1,(hL.cells0 rfl).2.2.2.2.2,(hL.cells1 rfl).1,(hL.cells1 rfl).2.1,(hL.cells1 rfl).2.2.1,(hL.cells1 rfl).2.2.2.1,(hL.cells1 rfl).2.2.2.2.1,(hL.cells1 rfl).2.2.2.2.2⟩)
  (first
  | (go_at_call 36;(with_reducible refine (onw_yes X.pr p q (by decide) (by decide) (by decide) M0a.out).mono ?_);rintro e w_z ⟨rfl,hh⟩
     (try replace p:=p.below hh);(try replace q:=q.below hh);(try replace r:=r.below hh);(try replace u:=u.below hh);(try replace XA:=XA.below hh);(try replace hL:=hL.below hh);(try replace hE:=hE.below hh);(try replace X:=X.below hh);(try replace Y:=Y.below hh);replace hb:=bend hb hh)
  | (go_at_call 36;(with_reducible refine (onw_yes X.pr r u (by decide) (by decide) (by decide) M0b.out).mono ?_);rintro e w_z ⟨rfl,hh⟩
     (try replace p:=p.below hh);(try replace q:=q.below hh);(try replace r:=r.below hh);(try replace u:=u.below hh);(try replace XA:=XA.below hh);(try replace hL:=hL.below hh);(try replace hE:=hE.below hh);(try replace X:=X.below hh);(try replace Y:=Y.below hh);replace hb:=bend hb hh))
 go_wp2_with fail
 rw [rounds_succ]
 go_upto_region 7 with (fail)
 replace p:=p.below (Below.refl _ _).drew
 replace q:=q.below (Below.refl _ _).drew
 replace r:=r.below (Below.refl _ _).drew
 replace u:=u.below (Below.refl _ _).drew
 replace XA:=XA.below (Below.refl _ _).drew
 replace hL:=hL.below (Below.refl _ _).drew
 replace hE:=hE.below (Below.refl _ _).drew
 replace X:=X.below (Below.refl _ _).drew
 replace Y:=Y.below (Below.refl _ _).drew
 replace hb:=hb.drew
 go_region_held3 (fun w'=>w'.cell? ⟨w.heap.size,0,none⟩=some (.bool s_p)∧w'.cell? ⟨w.heap.size,1,none⟩=some (.slice A_p n_p c_p)∧w'.cell? ⟨w.heap.size,2,none⟩=some (.slice B_p m_p d_p)∧w'.cell? ⟨w.heap.size,3,none⟩=some (.bool t_p)∧w'.cell? ⟨w.heap.size,4,none⟩=some (.slice E_p i_p e_p)∧w'.cell? ⟨w.heap.size,5,none⟩=some (.slice F_p j_p f_p)∧w'.cell? ⟨w.heap.size,6,none⟩=some (.bool s_q)∧w'.cell? ⟨w.heap.size,7,none⟩=some (.slice A_q n_q c_q)∧w'.cell? ⟨w.heap.size,8,none⟩=some (.slice B_q m_q d_q)∧w'.cell? ⟨w.heap.size,9,none⟩=some (.bool t_q)∧w'.cell? ⟨w.heap.size,10,none⟩=some (.slice E_q i_q e_q)∧w'.cell? ⟨w.heap.size,11,none⟩=some (.slice F_q j_q f_q)∧w'.cell? ⟨w.heap.size,12,none⟩=some (.bool s_r)∧w'.cell? ⟨w.heap.size,13,none⟩=some (.slice A_r n_r c_r)∧w'.cell? ⟨w.heap.size,14,none⟩=some (.slice B_r m_r d_r)∧w'.cell? ⟨w.heap.size,15,none⟩=some (.bool t_r)∧w'.cell? ⟨w.heap.size,16,none⟩=some (.slice E_r i_r e_r)∧w'.cell? ⟨w.heap.size,17,none⟩=some (.slice F_r j_r f_r)∧w'.cell? ⟨w.heap.size,18,none⟩=some (.bool s_u)∧w'.cell? ⟨w.heap.size,19,none⟩=some (.slice A_u n_u c_u)∧w'.cell? ⟨w.heap.size,20,none⟩=some (.slice B_u m_u d_u)∧w'.cell? ⟨w.heap.size,21,none⟩=some (.bool t_u)∧w'.cell? ⟨w.heap.size,22,none⟩=some (.slice E_u i_u e_u)∧w'.cell? ⟨w.heap.size,23,none⟩=some (.slice F_u j_u f_u)∧w'.cell? ⟨g_x,0,none⟩=some (.bool x.s)∧w'.cell? ⟨g_x,1,none⟩=some (.slice x.A x.n x.c)∧w'.cell? ⟨g_x,2,none⟩=some (.slice x.B x.m x.d)∧w'.cell? ⟨g_x,3,none⟩=some (.bool x.t)∧w'.cell? ⟨g_x,4,none⟩=some (.slice x.E x.i x.e)∧w'.cell? ⟨g_x,5,none⟩=some (.slice x.F x.j x.f)∧w'.cell? ⟨g_x,6,none⟩=some (.bool y.s)∧w'.cell? ⟨g_x,7,none⟩=some (.slice y.A y.n y.c)∧w'.cell? ⟨g_x,8,none⟩=some (.slice y.B y.m y.d)∧w'.cell? ⟨g_x,9,none⟩=some (.bool y.t)∧w'.cell? ⟨g_x,10,none⟩=some (.slice y.E y.i y.e)∧w'.cell? ⟨g_x,11,none⟩=some (.slice y.F y.j y.f))
  (first | with_reducible exact ⟨XA.c0,XA.c1,XA.c2,XA.c3,XA.c4,XA.c5,XA.c6,XA.c7,XA.c8,XA.c9,XA.c10,XA.c11,XA.c12,XA.c13,XA.c14,XA.c15,XA.c16,XA.c17,XA.c18,XA.c19,XA.c20,XA.c21,XA.c22,XA.c23,(hL.cells0 rfl).1,(hL.cells0 rfl).2.1,(hL.cells0 rfl).2.2.1,(hL.cells0 rfl).2.2.2.1,(hL.cells0 rfl).2.2.2.2.1,(hL.cells0 rfl).2.2.2.2.2,(hL.cells1 rfl).1,(hL.cells1 rfl).2.1,(hL.cells1 rfl).2.2.1,(hL.cells1 rfl).2.2.2.1,(hL.cells1 rfl).2.2.2.2.1,(hL.cells1 rfl).2.2.2.2.2⟩)
  (first
  | (go_at_call 36;(with_reducible refine (onw_yes Y.pr p q (by decide) (by decide) (by decide) M1a.out).mono ?_);rintro e w_z ⟨rfl,hh⟩
     (try replace p:=p.below hh);(try replace q:=q.below hh);(try replace r:=r.below hh);(try replace u:=u.below hh);(try replace XA:=XA.below hh);(try replace hL:=hL.below hh);(try replace hE:=hE.below hh);(try replace X:=X.below hh);(try replace Y:=Y.below hh);replace hb:=bend hb hh)
  | (go_at_call 36;(with_reducible refine (onw_yes Y.pr r u (by decide) (by decide) (by decide) M1b.out).mono ?_);rintro e w_z ⟨rfl,hh⟩
     (try replace p:=p.below hh);(try replace q:=q.below hh);(try replace r:=r.below hh);(try replace u:=u.below hh);(try replace XA:=XA.below hh);(try replace hL:=hL.below hh);(try replace hE:=hE.below hh);(try replace X:=X.below hh);(try replace Y:=Y.below hh);replace hb:=bend hb hh))
 go_wp2_with fail
 rw [rounds_succ]
 go_upto_region 9 with (fail)
 replace p:=p.below (Below.refl _ _).drew
 replace q:=q.below (Below.refl _ _).drew
 replace r:=r.below (Below.refl _ _).drew
 replace u:=u.below (Below.refl _ _).drew
 replace XA:=XA.below (Below.refl _ _).drew
 replace hL:=hL.below (Below.refl _ _).drew
 replace hE:=hE.below (Below.refl _ _).drew
 replace X:=X.below (Below.refl _ _).drew
 replace Y:=Y.below (Below.refl _ _).drew
 replace hb:=hb.drew
 go_region_held3 (fun w'=>w'.cell? ⟨w.heap.size,0,none⟩=some (.bool s_p)∧w'.cell? ⟨w.heap.size,1,none⟩=some (.slice A_p n_p c_p)∧w'.cell? ⟨w.heap.size,2,none⟩=some (.slice B_p m_p d_p)∧w'.cell? ⟨w.heap.size,3,none⟩=some (.bool t_p)∧w'.cell? ⟨w.heap.size,4,none⟩=some (.slice E_p i_p e_p)∧w'.cell? ⟨w.heap.size,5,none⟩=some (.slice F_p j_p f_p)∧w'.cell? ⟨w.heap.size,6,none⟩=some (.bool s_q)∧w'.cell? ⟨w.heap.size,7,none⟩=some (.slice A_q n_q c_q)∧w'.cell? ⟨w.heap.size,8,none⟩=some (.slice B_q m_q d_q)∧w'.cell? ⟨w.heap.size,9,none⟩=some (.bool t_q)∧w'.cell? ⟨w.heap.size,10,none⟩=some (.slice E_q i_q e_q)∧w'.cell? ⟨w.heap.size,11,none⟩=some (.slice F_q j_q f_q)∧w'.cell? ⟨w.heap.size,12,none⟩=some (.bool s_r)∧w'.cell? ⟨w.heap.size,13,none⟩=some (.slice A_r n_r c_r)∧w'.cell? ⟨w.heap.size,14,none⟩=some (.slice B_r m_r d_r)∧w'.cell? ⟨w.heap.size,15,none⟩=some (.bool t_r)∧w'.cell? ⟨w.heap.size,16,none⟩=some (.slice E_r i_r e_r)∧w'.cell? ⟨w.heap.size,17,none⟩=some (.slice F_r j_r f_r)∧w'.cell? ⟨w.heap.size,18,none⟩=some (.bool s_u)∧w'.cell? ⟨w.heap.size,19,none⟩=some (.slice A_u n_u c_u)∧w'.cell? ⟨w.heap.size,20,none⟩=some (.slice B_u m_u d_u)∧w'.cell? ⟨w.heap.size,21,none⟩=some (.bool t_u)∧w'.cell? ⟨w.heap.size,22,none⟩=some (.slice E_u i_u e_u)∧w'.cell? ⟨w.heap.size,23,none⟩=some (.slice F_u j_u f_u)∧w'.cell? ⟨g_x,0,none⟩=some (.bool x.s)∧w'.cell? ⟨g_x,1,none⟩=some (.slice x.A x.n x.c)∧w'.cell? ⟨g_x,2,none⟩=some (.slice x.B x.m x.d)∧w'.cell? ⟨g_x,3,none⟩=some (.bool x.t)∧w'.cell? ⟨g_x,4,none⟩=some (.slice x.E x.i x.e)∧w'.cell? ⟨g_x,5,none⟩=some (.slice x.F x.j x.f)∧w'.cell? ⟨g_x,6,none⟩=some (.bool y.s)∧w'.cell? ⟨g_x,7,none⟩=some (.slice y.A y.n y.c)∧w'.cell? ⟨g_x,8,none⟩=some (.slice y.B y.m y.d)∧w'.cell? ⟨g_x,9,none⟩=some (.bool y.t)∧w'.cell? ⟨g_x,10,none⟩=some (.slice y.E y.i y.e)∧w'.cell? ⟨g_x,11,none⟩=some (.slice y.F y.j y.f))
  (first | with_reducible exact ⟨XA.c0,XA.c1,XA.c2,XA.c3,XA.c4,XA.c5,XA.c6,XA.c7,XA.c8,XA.c9,XA.c10,XA.c11,XA.c12,XA.c13,XA.c14,XA.c15,XA.c16,XA.c17,XA.c18,XA.c19,XA.c20,XA.c21,XA.c22,XA.c23,(hL.cells0 rfl).1,(hL.cells0 rfl).2.1,(hL.cells0 rfl).2.2.1,(hL.cells0 rfl).2.2.2.1,(hL.cells0 rfl).2.2.2.2.1,(hL.cells0 rfl).2.2.2.2.2,(hL.cells1 rfl).1,(hL.cells1 rfl).2.1,(hL.cells1 rfl).2.2.1,(hL.cells1 rfl).2.2.2.1,(hL.cells1 rfl).2.2.2.2.1,(hL.cells1 rfl).2.2.2.2.2⟩)
  (first
  | (go_at_call 43;(with_reducible refine (psame_p X.pr Y.pr (by decide) (by decide) (by decide) (by decide) false HD.out).mono ?_);rintro e w_z ⟨rfl,hh⟩
     (try replace p:=p.below hh);(try replace q:=q.below hh);(try replace r:=r.below hh);(try replace u:=u.below hh);(try replace XA:=XA.below hh);(try replace hL:=hL.below hh);(try replace hE:=hE.below hh);(try replace X:=X.below hh);(try replace Y:=Y.below hh);replace hb:=bend hb hh))
 obtain ⟨xa0,xa1,xa2,xa3,xa4,xa5,xa6,xa7,xa8,xa9,xa10,xa11,xa12,xa13,xa14,xa15,xa16,xa17,xa18,xa19,xa20,xa21,xa22,xa23⟩:=XA.all
 go_upto_region 13 with (first
  | (go_at_call 33;(with_reducible refine (meet_p p q u r (by decide) (by decide)).mono ?_);rintro e w_m2 ⟨l,ht,v2,L2,rfl,hL2,hE2,hh⟩
     (try replace p:=p.below hh);(try replace q:=q.below hh);(try replace r:=r.below hh);(try replace u:=u.below hh);(try replace XA:=XA.below hh);(try replace hL:=hL.below hh);(try replace hE:=hE.below hh);(try replace X:=X.below hh);(try replace Y:=Y.below hh);replace hb:=bend hb hh;obtain ⟨xa0,xa1,xa2,xa3,xa4,xa5,xa6,xa7,xa8,xa9,xa10,xa11,xa12,xa13,xa14,xa15,xa16,xa17,xa18,xa19,xa20,xa21,xa22,xa23⟩:=XA.all
     obtain rfl:=told_same (fun a b=>(both_swap a b).symm) ht HT.out
     clear ht)
  | (go_at_call 33;(with_reducible refine (meet_p r u p q (by decide) (by decide)).mono ?_);rintro e w_m3 ⟨l,ht,v3,L3,rfl,hL3,hE3,hh⟩
     (try replace p:=p.below hh);(try replace q:=q.below hh);(try replace r:=r.below hh);(try replace u:=u.below hh);(try replace XA:=XA.below hh);(try replace hL:=hL.below hh);(try replace hE:=hE.below hh);(try replace X:=X.below hh);(try replace Y:=Y.below hh);replace hb:=bend hb hh;obtain ⟨xa0,xa1,xa2,xa3,xa4,xa5,xa6,xa7,xa8,xa9,xa10,xa11,xa12,xa13,xa14,xa15,xa16,xa17,xa18,xa19,xa20,xa21,xa22,xa23⟩:=XA.all
     obtain ⟨A_3,c_3,rfl,_,_⟩:=hL3.form
     have e3:L3.length=2:=hE3.1.trans (told_len (fun a b=>(both_over a b).symm) ht HT.out)
     clear ht hL3 hE3)
  | (go_at_call 33;(with_reducible refine (meet_p q p r u (by decide) (by decide)).mono ?_);rintro e w_m4 ⟨l,ht,v4,L4,rfl,hL4,hE4,hh⟩
     (try replace p:=p.below hh);(try replace q:=q.below hh);(try replace r:=r.below hh);(try replace u:=u.below hh);(try replace XA:=XA.below hh);(try replace hL:=hL.below hh);(try replace hE:=hE.below hh);(try replace X:=X.below hh);(try replace Y:=Y.below hh);replace hb:=bend hb hh;obtain ⟨xa0,xa1,xa2,xa3,xa4,xa5,xa6,xa7,xa8,xa9,xa10,xa11,xa12,xa13,xa14,xa15,xa16,xa17,xa18,xa19,xa20,xa21,xa22,xa23⟩:=XA.all
     obtain ⟨A_4,c_4,rfl,_,_⟩:=hL4.form
     have e4:L4.length=2:=hE4.1.trans (told_len (fun a b=>(both_turn a b).symm) ht HT.out)
     clear ht hL4 hE4)
  | (go_at_call 32;(with_reducible refine (lines_same hL hL2 hE hE2 (by decide) HLN.out).mono ?_);rintro e w_z ⟨rfl,hh⟩
     (try replace p:=p.below hh);(try replace q:=q.below hh);(try replace r:=r.below hh);(try replace u:=u.below hh);(try replace XA:=XA.below hh);(try replace hL:=hL.below hh);(try replace hE:=hE.below hh);(try replace X:=X.below hh);(try replace Y:=Y.below hh);replace hb:=bend hb hh;obtain ⟨xa0,xa1,xa2,xa3,xa4,xa5,xa6,xa7,xa8,xa9,xa10,xa11,xa12,xa13,xa14,xa15,xa16,xa17,xa18,xa19,xa20,xa21,xa22,xa23⟩:=XA.all;clear hL2 hE2))
 clear xa0 xa1 xa2 xa3 xa4 xa5 xa6 xa7 xa8 xa9 xa10 xa11 xa12 xa13 xa14 xa15 xa16 xa17 xa18 xa19 xa20 xa21 xa22 xa23;clear hE
 refine both13_region (by simp) rfl rfl XA p q hti ?_
 intro V w_o g_o s_o A_o n_o c_o B_o m_o d_o t_o E_o i_o e_o F_o j_o f_o o XO hg_o hvo hh
 simp only [putAll,Act.put,List.setIfInBounds_toArray,List.set_cons_zero,List.set_cons_succ,hvo]
 clear hvo;replace p:=p.below hh;replace q:=q.below hh;replace r:=r.below hh;replace u:=u.below hh;replace XA:=XA.below hh;replace hL:=hL.below hh;replace X:=X.below hh;replace Y:=Y.below hh;replace hb:=bend hb hh;obtain ⟨xa0,xa1,xa2,xa3,xa4,xa5,xa6,xa7,xa8,xa9,xa10,xa11,xa12,xa13,xa14,xa15,xa16,xa17,xa18,xa19,xa20,xa21,xa22,xa23⟩:=XA.all;obtain ⟨xo0,xo1,xo2,xo3,xo4,xo5⟩:=XO.all
 go_upto_region 18 with (first
  | (go_at_call 36;(with_reducible refine (onw_yes o.pr r u (by decide) (by decide) (by decide) HC.out).mono ?_);rintro e w_z ⟨rfl,hh⟩
     (try replace p:=p.below hh);(try replace q:=q.below hh);(try replace r:=r.below hh);(try replace u:=u.below hh);(try replace XA:=XA.below hh);(try replace hL:=hL.below hh);(try replace X:=X.below hh);(try replace Y:=Y.below hh);(try replace o:=o.below hh);(try replace XO:=XO.below hh);replace hb:=bend hb hh;obtain ⟨xa0,xa1,xa2,xa3,xa4,xa5,xa6,xa7,xa8,xa9,xa10,xa11,xa12,xa13,xa14,xa15,xa16,xa17,xa18,xa19,xa20,xa21,xa22,xa23⟩:=XA.all;obtain ⟨xo0,xo1,xo2,xo3,xo4,xo5⟩:=XO.all))
 clear xa0 xa1 xa2 xa3 xa4 xa5 xa6 xa7 xa8 xa9 xa10 xa11 xa12 xa13 xa14 xa15 xa16 xa17 xa18 xa19 xa20 xa21 xa22 xa23;clear xo0 xo1 xo2 xo3 xo4 xo5
 replace p:=p.below (Below.refl _ _).drew
 replace q:=q.below (Below.refl _ _).drew
 replace r:=r.below (Below.refl _ _).drew
 replace u:=u.below (Below.refl _ _).drew
 replace XA:=XA.below (Below.refl _ _).drew
 replace hL:=hL.below (Below.refl _ _).drew
 replace X:=X.below (Below.refl _ _).drew
 replace Y:=Y.below (Below.refl _ _).drew
 replace o:=o.below (Below.refl _ _).drew
 replace XO:=XO.below (Below.refl _ _).drew
 replace hb:=hb.drew
 go_region_held3 (fun w'=>w'.cell? ⟨g_o,0,none⟩=some (.bool s_o)∧w'.cell? ⟨g_o,1,none⟩=some (.slice A_o n_o c_o)∧w'.cell? ⟨g_o,2,none⟩=some (.slice B_o m_o d_o)∧w'.cell? ⟨g_o,3,none⟩=some (.bool t_o)∧w'.cell? ⟨g_o,4,none⟩=some (.slice E_o i_o e_o)∧w'.cell? ⟨g_o,5,none⟩=some (.slice F_o j_o f_o)∧w'.cell? ⟨g_x,0,none⟩=some (.bool x.s)∧w'.cell? ⟨g_x,1,none⟩=some (.slice x.A x.n x.c)∧w'.cell? ⟨g_x,2,none⟩=some (.slice x.B x.m x.d)∧w'.cell? ⟨g_x,3,none⟩=some (.bool x.t)∧w'.cell? ⟨g_x,4,none⟩=some (.slice x.E x.i x.e)∧w'.cell? ⟨g_x,5,none⟩=some (.slice x.F x.j x.f)∧w'.cell? ⟨g_x,6,none⟩=some (.bool y.s)∧w'.cell? ⟨g_x,7,none⟩=some (.slice y.A y.n y.c)∧w'.cell? ⟨g_x,8,none⟩=some (.slice y.B y.m y.d)∧w'.cell? ⟨g_x,9,none⟩=some (.bool y.t)∧w'.cell? ⟨g_x,10,none⟩=some (.slice y.E y.i y.e)∧w'.cell? ⟨g_x,11,none⟩=some (.slice y.F y.j y.f))
  (first | with_reducible exact ⟨XO.c0,XO.c1,XO.c2,XO.c3,XO.c4,XO.c5,(hL.cells0 rfl).1,(hL.cells0 rfl).2.1,(hL.cells0 rfl).2.2.1,(hL.cells0 rfl).2.2.2.1,(hL.cells0 rfl).2.2.2.2.1,(hL.cells0 rfl).2.2.2.2.2,(hL.cells1 rfl).1,(hL.cells1 rfl).2.1,(hL.cells1 rfl).2.2.1,(hL.cells1 rfl).2.2.2.1,(hL.cells1 rfl).2.2.2.2.1,(hL.cells1 rfl).2.2.2.2.2⟩)
  (first
  | (go_at_call 36;(with_reducible refine (onw_yes o.pr X.pr Y.pr (by decide) (by decide) (by decide) HS.out).mono ?_);rintro e w_z ⟨rfl,hh⟩
     (try replace p:=p.below hh);(try replace q:=q.below hh);(try replace r:=r.below hh);(try replace u:=u.below hh);(try replace XA:=XA.below hh);(try replace hL:=hL.below hh);(try replace X:=X.below hh);(try replace Y:=Y.below hh);(try replace o:=o.below hh);(try replace XO:=XO.below hh);replace hb:=bend hb hh)
  | (go_at_call 30;(with_reducible refine (segwakes_any _).mono ?_);rintro e w_z ⟨rfl,hh⟩
     (try replace p:=p.below hh);(try replace q:=q.below hh);(try replace r:=r.below hh);(try replace u:=u.below hh);(try replace XA:=XA.below hh);(try replace hL:=hL.below hh);(try replace X:=X.below hh);(try replace Y:=Y.below hh);(try replace o:=o.below hh);(try replace XO:=XO.below hh);replace hb:=bend hb hh))
 go_wp2_with fail
 go_ret;exact ⟨rfl,hb⟩
theorem law_both (t:Nat) {lap lbp lcp ldp:List Nat} {laq lbq lcq ldq:List Nat} {lar lbr lcr ldr:List Nat} {lau lbu lcu ldu:List Nat} (ap:Rd .u64 w A_p n_p lap) (bp:Rd .u64 w B_p m_p lbp) (up:Rd .u64 w E_p i_p lcp) (vp:Rd .u64 w F_p j_p ldp) (tap:Lim B64 lap) (tbp:Lim B64 lbp) (tcp:Lim B64 lcp) (tdp:Lim B64 ldp) (cap:n_p≤c_p) (cbp:m_p≤d_p) (ccp:i_p≤e_p) (cdp:j_p≤f_p) (aq:Rd .u64 w A_q n_q laq) (bq:Rd .u64 w B_q m_q lbq) (uq:Rd .u64 w E_q i_q lcq) (vq:Rd .u64 w F_q j_q ldq) (taq:Lim B64 laq) (tbq:Lim B64 lbq) (tcq:Lim B64 lcq) (tdq:Lim B64 ldq) (caq:n_q≤c_q) (cbq:m_q≤d_q) (ccq:i_q≤e_q) (cdq:j_q≤f_q) (ar:Rd .u64 w A_r n_r lar) (br:Rd .u64 w B_r m_r lbr) (ur:Rd .u64 w E_r i_r lcr) (vr:Rd .u64 w F_r j_r ldr) (tar:Lim B64 lar) (tbr:Lim B64 lbr) (tcr:Lim B64 lcr) (tdr:Lim B64 ldr) (car:n_r≤c_r) (cbr:m_r≤d_r) (ccr:i_r≤e_r) (cdr:j_r≤f_r) (au:Rd .u64 w A_u n_u lau) (bu:Rd .u64 w B_u m_u lbu) (uu:Rd .u64 w E_u i_u lcu) (vu:Rd .u64 w F_u j_u ldu) (tau:Lim B64 lau) (tbu:Lim B64 lbu) (tcu:Lim B64 lcu) (tdu:Lim B64 ldu) (cau:n_u≤c_u) (cbu:m_u≤d_u) (ccu:i_u≤e_u) (cdu:j_u≤f_u) (ht:t≤255) :
 Calls Tryz.prog 7 #[.agg #[.bool s_p,.slice A_p n_p c_p,.slice B_p m_p d_p,.bool t_p,.slice E_p i_p e_p,.slice F_p j_p f_p,.bool s_q,.slice A_q n_q c_q,.slice B_q m_q d_q,.bool t_q,.slice E_q i_q e_q,.slice F_q j_q f_q,.bool s_r,.slice A_r n_r c_r,.slice B_r m_r d_r,.bool t_r,.slice E_r i_r e_r,.slice F_r j_r f_r,.bool s_u,.slice A_u n_u c_u,.slice B_u m_u d_u,.bool t_u,.slice E_u i_u e_u,.slice F_u j_u f_u],.int .u8 (t:Int)] w fun e w'=>e=.returned (.bool true)∧Below w.heap.size w w':=by
 by_cases h:(((n_p≤6∧m_p≤6)∧i_p≤6∧j_p≤6)∧((n_q≤6∧m_q≤6)∧i_q≤6∧j_q≤6)∧((n_r≤6∧m_r≤6)∧i_r≤6∧j_r≤6)∧((n_u≤6∧m_u≤6)∧i_u≤6∧j_u≤6))
 · have p:PR w s_p A_p n_p c_p B_p m_p d_p t_p E_p i_p e_p F_p j_p f_p (mkRat (iv s_p (val B64 lap)) (den1 (val B64 lbp))) (mkRat (iv t_p (val B64 lcp)) (den1 (val B64 ldp))) 6:=⟨QR.of_rd ap tap cap bp tbp cbp h.1.1.1 h.1.1.2,QR.of_rd up tcp ccp vp tdp cdp h.1.2.1 h.1.2.2⟩
   have q:PR w s_q A_q n_q c_q B_q m_q d_q t_q E_q i_q e_q F_q j_q f_q (mkRat (iv s_q (val B64 laq)) (den1 (val B64 lbq))) (mkRat (iv t_q (val B64 lcq)) (den1 (val B64 ldq))) 6:=⟨QR.of_rd aq taq caq bq tbq cbq h.2.1.1.1 h.2.1.1.2,QR.of_rd uq tcq ccq vq tdq cdq h.2.1.2.1 h.2.1.2.2⟩
   have r:PR w s_r A_r n_r c_r B_r m_r d_r t_r E_r i_r e_r F_r j_r f_r (mkRat (iv s_r (val B64 lar)) (den1 (val B64 lbr))) (mkRat (iv t_r (val B64 lcr)) (den1 (val B64 ldr))) 6:=⟨QR.of_rd ar tar car br tbr cbr h.2.2.1.1.1 h.2.2.1.1.2,QR.of_rd ur tcr ccr vr tdr cdr h.2.2.1.2.1 h.2.2.1.2.2⟩
   have u:PR w s_u A_u n_u c_u B_u m_u d_u t_u E_u i_u e_u F_u j_u f_u (mkRat (iv s_u (val B64 lau)) (den1 (val B64 lbu))) (mkRat (iv t_u (val B64 lcu)) (den1 (val B64 ldu))) 6:=⟨QR.of_rd au tau cau bu tbu cbu h.2.2.2.1.1 h.2.2.2.1.2,QR.of_rd uu tcu ccu vu tdu cdu h.2.2.2.2.1 h.2.2.2.2.2⟩
   generalize mkRat (iv s_p (val B64 lap)) (den1 (val B64 lbp))=ax at p
   generalize mkRat (iv t_p (val B64 lcp)) (den1 (val B64 ldp))=ay at p
   generalize mkRat (iv s_q (val B64 laq)) (den1 (val B64 lbq))=bx at q
   generalize mkRat (iv t_q (val B64 lcq)) (den1 (val B64 ldq))=by_ at q
   generalize mkRat (iv s_r (val B64 lar)) (den1 (val B64 lbr))=cx at r
   generalize mkRat (iv t_r (val B64 lcr)) (den1 (val B64 ldr))=cy at r
   generalize mkRat (iv s_u (val B64 lau)) (den1 (val B64 lbu))=dx at u
   generalize mkRat (iv t_u (val B64 lcu)) (den1 (val B64 ldu))=dy at u
   have hr:=tq_range ht
   obtain ⟨l,hT⟩:=told_ex ax ay bx by_ cx cy dx dy
   match l,hT with
   | [],hT=>exact both_e t p q r u h ht hT (fun q=>hT _ _ ⟨⟨_,hr.1,hr.2,rfl,rfl⟩,q⟩)
   | [(mx,my)],hT =>
     by_cases ho:onS (ax+(bx - ax)*(Rat.divInt (t:Int) 255)) (ay+(by_ - ay)*(Rat.divInt (t:Int) 255)) cx cy dx dy
     · exact both_o2 t p q r u h ht hT ho
     · exact both_o1 t p q r u h ht hT ho
   | [(mx,my),(nx,ny)],hT =>
     by_cases ho:onS (ax+(bx - ax)*(Rat.divInt (t:Int) 255)) (ay+(by_ - ay)*(Rat.divInt (t:Int) 255)) cx cy dx dy
     · exact both_t2 t p q r u h ht hT ho
     · exact both_t1 t p q r u h ht hT ho
   | _ :: _ :: _ :: _,hT=>exact hT.elim
 · exact both_l t h
end Go.Proofs.YtmgklaklnaihpaaGreat
