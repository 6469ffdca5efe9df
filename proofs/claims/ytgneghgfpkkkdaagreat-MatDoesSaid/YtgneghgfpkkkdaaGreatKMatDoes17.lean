/- MatDoes: part 17. -/
import Derived.Laws.ResultCell
import Derived.Test.YtgneghgfpkkkdaaGreatKMatDoes15
set_option linter.unusedVariables false
set_option maxRecDepth 100000
set_option maxHeartbeats 16000000
variable {w:Go.World}
variable {s_p t_p:Bool} {A_p B_p E_p F_p:Option Go.Addr} {n_p c_p m_p d_p i_p e_p j_p f_p:Nat}
variable {s_q t_q:Bool} {A_q B_q E_q F_q:Option Go.Addr} {n_q c_q m_q d_q i_q e_q j_q f_q:Nat}
variable {s_t:Bool} {A_t B_t:Option Go.Addr} {n_t c_t m_t d_t:Nat}
namespace Go.Proofs.YtgneghgfpkkkdaaGreat
section
open Go Go.RowKit
def AM.undo (v:AM) (K:Rat):AM:=⟨v.d*K,-v.b*K,-v.c*K,v.a*K,0,0⟩
def AM.ik (v:AM):Rat:=Rat.divInt 1 1 / v.det
def AM.inv (v:AM):AM:=⟨(v.undo v.ik).a,(v.undo v.ik).b,(v.undo v.ik).c,(v.undo v.ik).d,0 - (v.undo v.ik).dx v.e v.f,0 - (v.undo v.ik).dy v.e v.f⟩
theorem MU.mr {m:MV} {v:AM} {k l:Nat} (h:MU w m v k l):MR w m v k 1:=by
 obtain ⟨h1,h2,h3,h4,h5,h6⟩:=h
 obtain ⟨a,b,c,d,e,f⟩:=m
 obtain rfl:e=QV.zero:=h3
 obtain rfl:f=QV.zero:=h4
 refine ⟨h1.pr,h2.pr,?_,?_⟩
 · rw [h5];exact zqr w
 · rw [h6];exact zqr w
theorem mby_u {k:Nat} {x y x2 y2:Rat} (p:PG w s_p A_p n_p c_p B_p m_p d_p t_p E_p i_p e_p F_p j_p f_p x y k) (q:PG w s_q A_q n_q c_q B_q m_q d_q t_q E_q i_q e_q F_q j_q f_q x2 y2 k) :
 Calls Tryz.prog 105 #[.agg #[.bool s_p,.slice A_p n_p c_p,.slice B_p m_p d_p,.bool t_p,.slice E_p i_p e_p,.slice F_p j_p f_p],.agg #[.bool s_q,.slice A_q n_q c_q,.slice B_q m_q d_q,.bool t_q,.slice E_q i_q e_q,.slice F_q j_q f_q],.agg #[.bool false,.slice none 0 0,.slice none 0 0,.bool false,.slice none 0 0,.slice none 0 0]] w fun e w'=>∃ u:MV,e=.returned (.agg #[.bool u.a.s,.slice u.a.A u.a.n u.a.c,.slice u.a.B u.a.m u.a.d,.bool u.b.s,.slice u.b.A u.b.n u.b.c,.slice u.b.B u.b.m u.b.d,.bool u.c.s,.slice u.c.A u.c.n u.c.c,.slice u.c.B u.c.m u.c.d,.bool u.d.s,.slice u.d.A u.d.n u.d.c,.slice u.d.B u.d.m u.d.d,.bool u.e.s,.slice u.e.A u.e.n u.e.c,.slice u.e.B u.e.m u.e.d,.bool u.f.s,.slice u.f.A u.f.n u.f.c,.slice u.f.B u.f.m u.f.d])∧MU w' u ⟨x,y,x2,y2,0,0⟩ k 1∧Below w.heap.size w w':=by
 go_enter Tryz.func105,Tryz.ntmps105
 go_upto_region 1 with (fail)
 generalize hW:World.alloc _ _=W
 obtain ⟨hb,XA,XB,XC,Z,hzW⟩:=mkbx38_14 hW;clear hW;replace p:=p.below hb;replace q:=q.below hb;obtain ⟨xa0,xa1,xa2,xa3,xa4,xa5⟩:=XA.all;obtain ⟨xb0,xb1,xb2,xb3,xb4,xb5⟩:=XB.all;obtain ⟨xc0,xc1,xc2,xc3,xc4,xc5⟩:=XC.all;have zg0:=Z.f0;have zg1:=Z.f1;have zg2:=Z.f2;have zg3:=Z.f3;have zg4:=Z.f4;have zg5:=Z.f5;have zg6:=Z.f6;have zg7:=Z.f7;have zg8:=Z.f8;have zg9:=Z.f9;have zg10:=Z.f10;have zg11:=Z.f11;have zg12:=Z.f12;have zg13:=Z.f13;have zg14:=Z.f14;have zg15:=Z.f15;have zg16:=Z.f16;have zg17:=Z.f17;obtain ⟨zc0,zc1,zc2,zc3,zc4,zc5,zc6,zc7,zc8,zc9,zc10,zc11,zc12,zc13,zc14,zc15,zc16,zc17⟩:=Z.all
 go_wp2_with fail
 have Z2:=Z.set18 (.bool s_p) (.slice A_p n_p c_p) (.slice B_p m_p d_p) (.bool t_p) (.slice E_p i_p e_p) (.slice F_p j_p f_p) (.bool s_q) (.slice A_q n_q c_q) (.slice B_q m_q d_q) (.bool t_q) (.slice E_q i_q e_q) (.slice F_q j_q f_q) (.bool false) (.slice none 0 0) (.slice none 0 0) (.bool false) (.slice none 0 0) (.slice none 0 0)
 have gl:=Z2.ld
 refine bodyPost_ret (v:=.agg #[.bool s_p,.slice A_p n_p c_p,.slice B_p m_p d_p,.bool t_p,.slice E_p i_p e_p,.slice F_p j_p f_p,.bool s_q,.slice A_q n_q c_q,.slice B_q m_q d_q,.bool t_q,.slice E_q i_q e_q,.slice F_q j_q f_q,.bool false,.slice none 0 0,.slice none 0 0,.bool false,.slice none 0 0,.slice none 0 0]) (res_M Tryz.results105 _ _ (by simp) gl) rfl ?_
 exact ⟨⟨⟨s_p,A_p,n_p,c_p,B_p,m_p,d_p⟩,⟨t_p,E_p,i_p,e_p,F_p,j_p,f_p⟩,⟨s_q,A_q,n_q,c_q,B_q,m_q,d_q⟩,⟨t_q,E_q,i_q,e_q,F_q,j_q,f_q⟩,QV.zero,QV.zero⟩,rfl,⟨⟨p.1.set18 Z _ _ _ _ _ _ _ _ _ _ _ _ _ _ _ _ _ _,p.2.set18 Z _ _ _ _ _ _ _ _ _ _ _ _ _ _ _ _ _ _⟩,⟨q.1.set18 Z _ _ _ _ _ _ _ _ _ _ _ _ _ _ _ _ _ _,q.2.set18 Z _ _ _ _ _ _ _ _ _ _ _ _ _ _ _ _ _ _⟩,rfl,rfl,rfl,rfl⟩,below_set18 hb (by omega) _ _ _ _ _ _ _ _ _ _ _ _ _ _ _ _ _ _⟩
abbrev L_invz:List Nat:=[9,10,11,12,8,13,14,4,5]
def o0_invz:Oper:=⟨some 9,.call ⟨.value (.func 60),#[.const (Value.int IntKind.i64 1),.const (Value.int IntKind.i64 1)],#[2,2]⟩,27, "mat.go:58",#[],none⟩
def o1_invz:Oper:=⟨some 10,.load 71 (.tmp 1),71, "mat.go:58",#[],none⟩
def o2_invz:Oper:=⟨some 11,.call ⟨.value (.func 47),#[.tmp 10],#[71]⟩,27, "mat.go:58",#[⟨1,.data⟩,⟨0,.chain⟩],none⟩
def o3_invz:Oper:=⟨some 12,.call ⟨.value (.func 104),#[.tmp 9,.tmp 11],#[27,27]⟩,139, "mat.go:58",#[⟨0,.data⟩,⟨2,.data⟩,⟨2,.chain⟩],none⟩
def o4_invz:Oper:=⟨some 8,.move (.tmp 12),139, "mat.go:58",#[⟨3,.data⟩],none⟩
def o5_invz:Oper:=⟨some 13,.extract (.tmp 8) 0,27, "mat.go:58",#[⟨4,.data⟩],none⟩
def o6_invz:Oper:=⟨some 14,.extract (.tmp 8) 1,76, "mat.go:58",#[⟨4,.data⟩,⟨8,.gcOnly .lateStores⟩],none⟩
def o7_invz:Oper:=⟨some 4,.alloc 27,0, "mat.go:58",#[],none⟩
def o8_invz:Oper:=⟨none,.store 27 (.tmp 4) (.tmp 13),0, "mat.go:58",#[⟨7,.data⟩,⟨5,.data⟩,⟨3,.chain⟩,⟨0,.phase⟩,⟨1,.phase⟩,⟨2,.phase⟩,⟨3,.phase⟩,⟨4,.phase⟩,⟨5,.phase⟩,⟨6,.textOnly .lateStores⟩,⟨7,.phase⟩],none⟩
def o9_invz:Oper:=⟨some 5,.assign (.tmp 14),76, "mat.go:58",#[⟨6,.data⟩,⟨8,.chain⟩,⟨0,.phase⟩,⟨1,.phase⟩,⟨2,.phase⟩,⟨3,.phase⟩,⟨4,.phase⟩,⟨5,.phase⟩,⟨6,.phase⟩,⟨7,.phase⟩,⟨8,.phase⟩],none⟩
theorem rc_gesso_rat_Of {e:Operand→Value} {x0 x1:Operand} {d:Option Tmp} {y:Nat} {pos:String} {af:Array Edge} {u0 u1:Value} (h0:e x0=u0) (h1:e x1=u1) (hf:e (.func 60)=.func (.func 60) #[] #[]) :
 (execOp e ⟨d,.call ⟨.value (.func 60),#[x0,x1],#[2,2]⟩,y,pos,af,none⟩).run Tryz.prog w=.ok (.enter 60 #[u0,u1]) w:=by
 go_simp
theorem rc_gesso_mat_Det {e:Operand→Value} {x0:Operand} {d:Option Tmp} {y:Nat} {pos:String} {af:Array Edge} {u0:Value} (h0:e x0=u0) (hf:e (.func 47)=.func (.func 47) #[] #[]) :
 (execOp e ⟨d,.call ⟨.value (.func 47),#[x0],#[71]⟩,y,pos,af,none⟩).run Tryz.prog w=.ok (.enter 47 #[u0]) w:=by
 go_simp
def F_invz (m:MV) (v:AM) (k:Nat) (sl:Nat):Value→World→Prop :=
 match sl with
 | 9=>VQ (Rat.divInt 1 1) (1)
 | 10=>fun x _=>x=Value.agg #[.bool m.a.s,.slice m.a.A m.a.n m.a.c,.slice m.a.B m.a.m m.a.d,.bool m.b.s,.slice m.b.A m.b.n m.b.c,.slice m.b.B m.b.m m.b.d,.bool m.c.s,.slice m.c.A m.c.n m.c.c,.slice m.c.B m.c.m m.c.d,.bool m.d.s,.slice m.d.A m.d.n m.d.c,.slice m.d.B m.d.m m.d.d,.bool m.e.s,.slice m.e.A m.e.n m.e.c,.slice m.e.B m.e.m m.e.d,.bool m.f.s,.slice m.f.A m.f.n m.f.c,.slice m.f.B m.f.m m.f.d]
 | 11=>VQ (v.det) (k+k+(k+k)+1)
 | 12=>fun x _=>x=Value.tuple #[.agg #[.bool false,.slice none 0 0,.slice none 0 0],.int .i64 12]
 | 8=>fun x _=>x=Value.tuple #[.agg #[.bool false,.slice none 0 0,.slice none 0 0],.int .i64 12]
 | 13=>VK (#[.bool false,.slice none 0 0,.slice none 0 0])
 | 14=>fun x _=>x=Value.int .i64 12
 | 5=>fun x _=>x=Value.int .i64 12
 | _=>fun _ _=>True
def B0_invz :BoxOp :=
 ⟨7,8,4,27,#[.bool false,.slice none 0 0,.slice none 0 0],fun cs _=>cs=#[.bool false,.slice none 0 0,.slice none 0 0]⟩
theorem invz_region {id:Nat} {ac:Act} {Q:Exit→Act→World→Prop} {m:MV} {v:AM} {k l gm:Nat}
 (hsz:14 < ac.tmps.size) (e1:ac.eval (.tmp 1)=Value.pointer (some ⟨gm,0,none⟩)) (XA:B18 w gm (.bool m.a.s) (.slice m.a.A m.a.n m.a.c) (.slice m.a.B m.a.m m.a.d) (.bool m.b.s) (.slice m.b.A m.b.n m.b.c) (.slice m.b.B m.b.m m.b.d) (.bool m.c.s) (.slice m.c.A m.c.n m.c.c) (.slice m.c.B m.c.m m.c.d) (.bool m.d.s) (.slice m.d.A m.d.n m.d.c) (.slice m.d.B m.d.m m.d.d) (.bool m.e.s) (.slice m.e.A m.e.n m.e.c) (.slice m.e.B m.e.m m.e.d) (.bool m.f.s) (.slice m.f.A m.f.n m.f.c) (.slice m.f.B m.f.m m.f.d)) (M:MR w m v k l) (hk:k+k≤190) (h1:1≤k) (h0:v.det=0)
 (hend:∀ (V:Nat→Value) (w':World) (g0:Nat),B3 w' g0 (.bool false) (.slice none 0 0) (.slice none 0 0)→w.heap.size≤g0→V 4=.pointer (some ⟨g0,0,none⟩)→V 5=Value.int .i64 12→Below w.heap.size w w'→Q .normal (putAll ac [9,10,11,12,8,13,14,4,5] V) w') :
 (Code.region id #[o0_invz,o1_invz,o2_invz,o3_invz,o4_invz,o5_invz,o6_invz,o7_invz,o8_invz,o9_invz] true).wp Tryz.prog Q ac w:=by
 have hnd:L_invz.Nodup:=by decide
 have G:∀ (sv:Nat→Value) (t:Nat),t ∈ L_invz→t≤14→(putAll ac L_invz sv).eval (.tmp t)=sv t:=fun sv t ht h=>eval_putAll_mem (t:=t) L_invz ac hnd ht (Nat.lt_of_le_of_lt h hsz)
 have E1:∀ sv:Nat→Value,(putAll ac L_invz sv).eval (.tmp 1)=Value.pointer (some ⟨gm,0,none⟩):=fun sv=>(eval_putAll_not (v:=sv) L_invz ac (show 1 ∉ _ by decide)).trans e1
 have NE:∀ t:Nat,(t ≠ 4)→∀ p ∈ [B0_invz],t ≠ p.tA:=by
  intro t ht p hp
  simp only [List.mem_cons,List.not_mem_nil,or_false] at hp
  rcases hp with rfl
  · exact ht
 refine wp_region_flowsT L_invz [B0_invz] (F_invz m v k) (by kernel_rfl) (by kernel_rfl) rfl hnd ?_ ?_ ?_ ?_ ?_ ?_ ?_ ?_
 · intro p hp
   simp only [List.mem_cons,List.not_mem_nil,or_false] at hp
   rcases hp with rfl
   · refine ⟨⟨o7_invz,rfl,rfl,rfl,fun e w'=>run_allocQ⟩,⟨o8_invz,rfl,rfl,rfl,⟨7,.data⟩,by simp [o8_invz],rfl,rfl⟩,free3 _ _ _ _ _ _ _,?_,?_⟩
     · rintro cs w1 w2 rfl hb;rfl
     · rintro T cs w1 w2 g c0 rfl hB ho;rfl
 · intro p hp q hq h
   simp only [List.mem_cons,List.not_mem_nil,or_false] at hp hq
   rcases hp with rfl <;> rcases hq with rfl
   · rfl
 · intro p hp q hq h
   simp only [List.mem_cons,List.not_mem_nil,or_false] at hp hq
   rcases hp with rfl <;> rcases hq with rfl
   · rfl
 · intro i o h1 h2
   match i,h1 with
   | 0,h1=>cases h1;cases h2
   | 1,h1=>cases h1;cases h2
   | 2,h1=>cases h1;cases h2
   | 3,h1=>cases h1;cases h2
   | 4,h1=>cases h1;cases h2
   | 5,h1=>cases h1;cases h2
   | 6,h1=>cases h1;cases h2
   | 7,h1=>cases h1;cases h2
   | 8,h1=>exact ⟨B0_invz,List.Mem.head _,rfl⟩
   | 9,h1=>cases h1;cases h2
   | i+10,h1=>cases h1
 · intro t
   unfold F_invz
   split <;> first | exact (stays_eq _).inn _ | exact (stays_q _ _).inn _ | exact (stays_z _ _).inn _ | exact (stays_r _ _).inn _ | exact (stays_rq _ _).inn _ | exact (stays_pg _ _ _).inn _ | exact (stays_true).inn _ | exact (stays_k _).inn _
 · intro i o t sv w' ho hia hd J0 hf
   have XA:=XA.below J0;have M:=M.below J0
   match i,ho with
   | 0,ho =>
     obtain rfl:o0_invz=o:=Option.some.inj ho
     cases hd
     refine wpOp_plain' (o:=o0_invz) rfl rfl ?_
     unfold Oper.wp o0_invz
     rw [rc_gesso_rat_Of (show (putAll ac L_invz sv).eval (.const (Value.int IntKind.i64 1))=(Value.int IntKind.i64 1) from rfl) (show (putAll ac L_invz sv).eval (.const (Value.int IntKind.i64 1))=(Value.int IntKind.i64 1) from rfl) rfl,Oper.upon_enter]
     refine (rof_q 1 1 (by decide) (by decide) (by decide) (by decide) (by decide) _).mono ?_
     rintro e w1 ⟨s_,A_,n_,c_,B_,m_,d_,rfl,hq,hh⟩
     exact ⟨_,rfl,hh,s_,A_,n_,c_,B_,m_,d_,rfl,hq⟩
   | 1,ho =>
     obtain rfl:o1_invz=o:=Option.some.inj ho
     cases hd
     refine wpOp_plain' (o:=o1_invz) rfl rfl ?_
     unfold Oper.wp o1_invz
     rw [run_loadM (E1 sv) XA,Oper.upon_value]
     exact ⟨_,rfl,Below.refl _ _,rfl⟩
   | 2,ho =>
     obtain rfl:o2_invz=o:=Option.some.inj ho
     cases hd
     have f10:sv 10=Value.agg #[.bool m.a.s,.slice m.a.A m.a.n m.a.c,.slice m.a.B m.a.m m.a.d,.bool m.b.s,.slice m.b.A m.b.n m.b.c,.slice m.b.B m.b.m m.b.d,.bool m.c.s,.slice m.c.A m.c.n m.c.c,.slice m.c.B m.c.m m.c.d,.bool m.d.s,.slice m.d.A m.d.n m.d.c,.slice m.d.B m.d.m m.d.d,.bool m.e.s,.slice m.e.A m.e.n m.e.c,.slice m.e.B m.e.m m.e.d,.bool m.f.s,.slice m.f.A m.f.n m.f.c,.slice m.f.B m.f.m m.f.d]:=hf ⟨1,.data⟩ (by simp [o2_invz]) rfl _ 10 rfl rfl (NE _ (by decide))
     refine wpOp_plain' (o:=o2_invz) rfl rfl ?_
     unfold Oper.wp o2_invz
     rw [rc_gesso_mat_Det ((G sv 10 (by decide) (by decide)).trans f10) rfl,Oper.upon_enter]
     refine (mdet_p M (by omega) h1).mono ?_
     rintro e w1 ⟨s_,A_,n_,c_,B_,m_,d_,rfl,hq,hh⟩
     exact ⟨_,rfl,hh,s_,A_,n_,c_,B_,m_,d_,rfl,hq⟩
   | 3,ho =>
     obtain rfl:o3_invz=o:=Option.some.inj ho
     cases hd
     have h9:VQ (Rat.divInt 1 1) (1) (sv 9) w':=hf ⟨0,.data⟩ (by simp [o3_invz]) rfl _ 9 rfl rfl (NE _ (by decide))
     obtain ⟨s9_,A9_,n9_,c9_,B9_,m9_,d9_,f9,q9⟩:=h9
     have h11:VQ (v.det) (k+k+(k+k)+1) (sv 11) w':=hf ⟨2,.data⟩ (by simp [o3_invz]) rfl _ 11 rfl rfl (NE _ (by decide))
     obtain ⟨s11_,A11_,n11_,c11_,B11_,m11_,d11_,f11,q11⟩:=h11
     refine wpOp_plain' (o:=o3_invz) rfl rfl ?_
     unfold Oper.wp o3_invz
     rw [rc_gesso_rat_Div ((G sv 9 (by decide) (by decide)).trans f9) ((G sv 11 (by decide) (by decide)).trans f11) rfl,Oper.upon_enter]
     refine (rdiv_zero q9.qr q11.qr (by decide) (by omega) (.inl (by decide)) (by decide) (by omega) h0).mono ?_
     rintro e w1 ⟨rfl,hh⟩
     exact ⟨_,rfl,hh,rfl⟩
   | 4,ho =>
     obtain rfl:o4_invz=o:=Option.some.inj ho
     cases hd
     have f:=hf ⟨3,.data⟩ (by simp [o4_invz]) rfl _ 12 rfl rfl (NE _ (by decide))
     refine wpOp_plain' (o:=o4_invz) rfl rfl ?_
     unfold Oper.wp o4_invz
     rw [run_move (G sv 12 (by decide) (by decide)),Oper.upon_value]
     exact ⟨_,rfl,Below.refl _ _,f⟩
   | 5,ho =>
     obtain rfl:o5_invz=o:=Option.some.inj ho
     cases hd
     have f8:sv 8=Value.tuple #[.agg #[.bool false,.slice none 0 0,.slice none 0 0],.int .i64 12]:=hf ⟨4,.data⟩ (by simp [o5_invz]) rfl _ 8 rfl rfl (NE _ (by decide))
     refine wpOp_plain' (o:=o5_invz) rfl rfl ?_
     unfold Oper.wp o5_invz
     rw [run_ext0 ((G sv 8 (by decide) (by decide)).trans f8),Oper.upon_value]
     exact ⟨_,rfl,Below.refl _ _,rfl⟩
   | 6,ho =>
     obtain rfl:o6_invz=o:=Option.some.inj ho
     cases hd
     have f8:sv 8=Value.tuple #[.agg #[.bool false,.slice none 0 0,.slice none 0 0],.int .i64 12]:=hf ⟨4,.data⟩ (by simp [o6_invz]) rfl _ 8 rfl rfl (NE _ (by decide))
     refine wpOp_plain' (o:=o6_invz) rfl rfl ?_
     unfold Oper.wp o6_invz
     rw [run_ext1 ((G sv 8 (by decide) (by decide)).trans f8),Oper.upon_value]
     exact ⟨_,rfl,Below.refl _ _,rfl⟩
   | 7,ho=>cases ho;cases hd;exact absurd rfl (hia (B0_invz) (List.Mem.head _))
   | 8,ho=>cases ho;cases hd
   | 9,ho =>
     obtain rfl:o9_invz=o:=Option.some.inj ho
     cases hd
     have f:=hf ⟨6,.data⟩ (by simp [o9_invz]) rfl _ 14 rfl rfl (NE _ (by decide))
     refine wpOp_plain' (o:=o9_invz) rfl rfl ?_
     unfold Oper.wp o9_invz
     rw [run_assign (G sv 14 (by decide) (by decide)),Oper.upon_value]
     exact ⟨_,rfl,Below.refl _ _,f⟩
   | i+10,ho=>cases ho
 · intro p hp os sv w' g hos J0 p1 p3 hf
   simp only [List.mem_cons,List.not_mem_nil,or_false] at hp
   rcases hp with rfl
   · obtain rfl:o8_invz=os:=Option.some.inj hos
     have h1:VK (#[.bool false,.slice none 0 0,.slice none 0 0]) (sv 13) w':=hf ⟨5,.data⟩ (by simp [o8_invz]) rfl _ 13 rfl rfl (NE _ (by decide))
     rw [← G sv 13 (by decide) (by decide)] at h1
     refine store_kq  (ac:=putAll ac L_invz sv) (z:=.tmp 13) ?_ ?_ ?_
     · exact (G sv 4 (by decide) (by decide)).trans p1
     · exact h1
     · exact p3
 · intro sv w' J0 hF hB hap
   obtain ⟨g0,cs0,p0,r0,b0,rfl⟩:=hB (B0_invz) (List.Mem.head _)
   have p0':sv 4=.pointer (some ⟨g0,0,none⟩):=p0
   exact hend sv w' g0 b0.at_ r0 p0' (hF 9 _ 5 rfl rfl (NE _ (by decide)))  J0
def F_invp (m:MV) (v:AM) (k:Nat) (sl:Nat):Value→World→Prop :=
 match sl with
 | 9=>VQ (Rat.divInt 1 1) (1)
 | 10=>fun x _=>x=Value.agg #[.bool m.a.s,.slice m.a.A m.a.n m.a.c,.slice m.a.B m.a.m m.a.d,.bool m.b.s,.slice m.b.A m.b.n m.b.c,.slice m.b.B m.b.m m.b.d,.bool m.c.s,.slice m.c.A m.c.n m.c.c,.slice m.c.B m.c.m m.c.d,.bool m.d.s,.slice m.d.A m.d.n m.d.c,.slice m.d.B m.d.m m.d.d,.bool m.e.s,.slice m.e.A m.e.n m.e.c,.slice m.e.B m.e.m m.e.d,.bool m.f.s,.slice m.f.A m.f.n m.f.c,.slice m.f.B m.f.m m.f.d]
 | 11=>VQ (v.det) (k+k+(k+k)+1)
 | 12=>VQEa (Rat.divInt 1 1 / v.det) (1+(k+k+(k+k)+1))
 | 8=>VQEa (Rat.divInt 1 1 / v.det) (1+(k+k+(k+k)+1))
 | 13=>VQ (Rat.divInt 1 1 / v.det) (1+(k+k+(k+k)+1))
 | 14=>fun x _=>x=Value.int .i64 0
 | 5=>fun x _=>x=Value.int .i64 0
 | _=>fun _ _=>True
def B0_invp (v:AM) (k:Nat):BoxOp :=
 ⟨7,8,4,27,#[.bool false,.slice none 0 0,.slice none 0 0],fun cs w=>∃ s A n c B m d,cs=#[.bool s,.slice A n c,.slice B m d]∧QG w s A n c B m d (Rat.divInt 1 1 / v.det) (1+(k+k+(k+k)+1))⟩
theorem invp_region {id:Nat} {ac:Act} {Q:Exit→Act→World→Prop} {m:MV} {v:AM} {k l gm:Nat}
 (hsz:14 < ac.tmps.size) (e1:ac.eval (.tmp 1)=Value.pointer (some ⟨gm,0,none⟩)) (XA:B18 w gm (.bool m.a.s) (.slice m.a.A m.a.n m.a.c) (.slice m.a.B m.a.m m.a.d) (.bool m.b.s) (.slice m.b.A m.b.n m.b.c) (.slice m.b.B m.b.m m.b.d) (.bool m.c.s) (.slice m.c.A m.c.n m.c.c) (.slice m.c.B m.c.m m.c.d) (.bool m.d.s) (.slice m.d.A m.d.n m.d.c) (.slice m.d.B m.d.m m.d.d) (.bool m.e.s) (.slice m.e.A m.e.n m.e.c) (.slice m.e.B m.e.m m.e.d) (.bool m.f.s) (.slice m.f.A m.f.n m.f.c) (.slice m.f.B m.f.m m.f.d)) (M:MR w m v k l) (hk:k+k≤190) (h1:1≤k) (h0:v.det ≠ 0)
 (hend:∀ (V:Nat→Value) (w':World) (g0:Nat) (s0:Bool) (A0:Option Addr) (n0:Nat) (c0:Nat) (B0:Option Addr) (m0:Nat) (d0:Nat),QG w' s0 A0 n0 c0 B0 m0 d0 (Rat.divInt 1 1 / v.det) (1+(k+k+(k+k)+1))→B3 w' g0 (.bool s0) (.slice A0 n0 c0) (.slice B0 m0 d0)→w.heap.size≤g0→V 4=.pointer (some ⟨g0,0,none⟩)→V 5=Value.int .i64 0→Below w.heap.size w w'→Q .normal (putAll ac [9,10,11,12,8,13,14,4,5] V) w') :
 (Code.region id #[o0_invz,o1_invz,o2_invz,o3_invz,o4_invz,o5_invz,o6_invz,o7_invz,o8_invz,o9_invz] true).wp Tryz.prog Q ac w:=by
 have hnd:L_invz.Nodup:=by decide
 have G:∀ (sv:Nat→Value) (t:Nat),t ∈ L_invz→t≤14→(putAll ac L_invz sv).eval (.tmp t)=sv t:=fun sv t ht h=>eval_putAll_mem (t:=t) L_invz ac hnd ht (Nat.lt_of_le_of_lt h hsz)
 have E1:∀ sv:Nat→Value,(putAll ac L_invz sv).eval (.tmp 1)=Value.pointer (some ⟨gm,0,none⟩):=fun sv=>(eval_putAll_not (v:=sv) L_invz ac (show 1 ∉ _ by decide)).trans e1
 have NE:∀ t:Nat,(t ≠ 4)→∀ p ∈ [B0_invp v k],t ≠ p.tA:=by
  intro t ht p hp
  simp only [List.mem_cons,List.not_mem_nil,or_false] at hp
  rcases hp with rfl
  · exact ht
 refine wp_region_flowsT L_invz [B0_invp v k] (F_invp m v k) (by kernel_rfl) (by kernel_rfl) rfl hnd ?_ ?_ ?_ ?_ ?_ ?_ ?_ ?_
 · intro p hp
   simp only [List.mem_cons,List.not_mem_nil,or_false] at hp
   rcases hp with rfl
   · refine ⟨⟨o7_invz,rfl,rfl,rfl,fun e w'=>run_allocQ⟩,⟨o8_invz,rfl,rfl,rfl,⟨7,.data⟩,by simp [o8_invz],rfl,rfl⟩,free3 _ _ _ _ _ _ _,?_,?_⟩
     · rintro cs w1 w2 ⟨s_,A_,n_,c_,B_,m_,d_,rfl,h⟩ hb;exact ⟨s_,A_,n_,c_,B_,m_,d_,rfl,h.below hb⟩
     · rintro T cs w1 w2 g c0 ⟨s_,A_,n_,c_,B_,m_,d_,rfl,h⟩ hB ho;exact ⟨s_,A_,n_,c_,B_,m_,d_,rfl,h.box hB ho⟩
 · intro p hp q hq h
   simp only [List.mem_cons,List.not_mem_nil,or_false] at hp hq
   rcases hp with rfl <;> rcases hq with rfl
   · rfl
 · intro p hp q hq h
   simp only [List.mem_cons,List.not_mem_nil,or_false] at hp hq
   rcases hp with rfl <;> rcases hq with rfl
   · rfl
 · intro i o h1 h2
   match i,h1 with
   | 0,h1=>cases h1;cases h2
   | 1,h1=>cases h1;cases h2
   | 2,h1=>cases h1;cases h2
   | 3,h1=>cases h1;cases h2
   | 4,h1=>cases h1;cases h2
   | 5,h1=>cases h1;cases h2
   | 6,h1=>cases h1;cases h2
   | 7,h1=>cases h1;cases h2
   | 8,h1=>exact ⟨B0_invp v k,List.Mem.head _,rfl⟩
   | 9,h1=>cases h1;cases h2
   | i+10,h1=>cases h1
 · intro t
   unfold F_invp
   split <;> first | exact (stays_eq _).inn _ | exact (stays_q _ _).inn _ | exact (stays_z _ _).inn _ | exact (stays_r _ _).inn _ | exact (stays_rq _ _).inn _ | exact (stays_pg _ _ _).inn _ | exact (stays_true).inn _ | exact (stays_qea _ _).inn _
 · intro i o t sv w' ho hia hd J0 hf
   have XA:=XA.below J0;have M:=M.below J0
   match i,ho with
   | 0,ho =>
     obtain rfl:o0_invz=o:=Option.some.inj ho
     cases hd
     refine wpOp_plain' (o:=o0_invz) rfl rfl ?_
     unfold Oper.wp o0_invz
     rw [rc_gesso_rat_Of (show (putAll ac L_invz sv).eval (.const (Value.int IntKind.i64 1))=(Value.int IntKind.i64 1) from rfl) (show (putAll ac L_invz sv).eval (.const (Value.int IntKind.i64 1))=(Value.int IntKind.i64 1) from rfl) rfl,Oper.upon_enter]
     refine (rof_q 1 1 (by decide) (by decide) (by decide) (by decide) (by decide) _).mono ?_
     rintro e w1 ⟨s_,A_,n_,c_,B_,m_,d_,rfl,hq,hh⟩
     exact ⟨_,rfl,hh,s_,A_,n_,c_,B_,m_,d_,rfl,hq⟩
   | 1,ho =>
     obtain rfl:o1_invz=o:=Option.some.inj ho
     cases hd
     refine wpOp_plain' (o:=o1_invz) rfl rfl ?_
     unfold Oper.wp o1_invz
     rw [run_loadM (E1 sv) XA,Oper.upon_value]
     exact ⟨_,rfl,Below.refl _ _,rfl⟩
   | 2,ho =>
     obtain rfl:o2_invz=o:=Option.some.inj ho
     cases hd
     have f10:sv 10=Value.agg #[.bool m.a.s,.slice m.a.A m.a.n m.a.c,.slice m.a.B m.a.m m.a.d,.bool m.b.s,.slice m.b.A m.b.n m.b.c,.slice m.b.B m.b.m m.b.d,.bool m.c.s,.slice m.c.A m.c.n m.c.c,.slice m.c.B m.c.m m.c.d,.bool m.d.s,.slice m.d.A m.d.n m.d.c,.slice m.d.B m.d.m m.d.d,.bool m.e.s,.slice m.e.A m.e.n m.e.c,.slice m.e.B m.e.m m.e.d,.bool m.f.s,.slice m.f.A m.f.n m.f.c,.slice m.f.B m.f.m m.f.d]:=hf ⟨1,.data⟩ (by simp [o2_invz]) rfl _ 10 rfl rfl (NE _ (by decide))
     refine wpOp_plain' (o:=o2_invz) rfl rfl ?_
     unfold Oper.wp o2_invz
     rw [rc_gesso_mat_Det ((G sv 10 (by decide) (by decide)).trans f10) rfl,Oper.upon_enter]
     refine (mdet_p M (by omega) h1).mono ?_
     rintro e w1 ⟨s_,A_,n_,c_,B_,m_,d_,rfl,hq,hh⟩
     exact ⟨_,rfl,hh,s_,A_,n_,c_,B_,m_,d_,rfl,hq⟩
   | 3,ho =>
     obtain rfl:o3_invz=o:=Option.some.inj ho
     cases hd
     have h9:VQ (Rat.divInt 1 1) (1) (sv 9) w':=hf ⟨0,.data⟩ (by simp [o3_invz]) rfl _ 9 rfl rfl (NE _ (by decide))
     obtain ⟨s9_,A9_,n9_,c9_,B9_,m9_,d9_,f9,q9⟩:=h9
     have h11:VQ (v.det) (k+k+(k+k)+1) (sv 11) w':=hf ⟨2,.data⟩ (by simp [o3_invz]) rfl _ 11 rfl rfl (NE _ (by decide))
     obtain ⟨s11_,A11_,n11_,c11_,B11_,m11_,d11_,f11,q11⟩:=h11
     refine wpOp_plain' (o:=o3_invz) rfl rfl ?_
     unfold Oper.wp o3_invz
     rw [rc_gesso_rat_Div ((G sv 9 (by decide) (by decide)).trans f9) ((G sv 11 (by decide) (by decide)).trans f11) rfl,Oper.upon_enter]
     refine (rdiv_q q9.qr q11.qr (by decide) (by omega) (.inl (by decide)) (by decide) (by omega) h0).mono ?_
     rintro e w1 ⟨s_,A_,n_,c_,B_,m_,d_,rfl,hq,hh⟩
     exact ⟨_,rfl,hh,s_,A_,n_,c_,B_,m_,d_,rfl,hq⟩
   | 4,ho =>
     obtain rfl:o4_invz=o:=Option.some.inj ho
     cases hd
     have f:=hf ⟨3,.data⟩ (by simp [o4_invz]) rfl _ 12 rfl rfl (NE _ (by decide))
     refine wpOp_plain' (o:=o4_invz) rfl rfl ?_
     unfold Oper.wp o4_invz
     rw [run_move (G sv 12 (by decide) (by decide)),Oper.upon_value]
     exact ⟨_,rfl,Below.refl _ _,f⟩
   | 5,ho =>
     obtain rfl:o5_invz=o:=Option.some.inj ho
     cases hd
     have h8:VQEa (Rat.divInt 1 1 / v.det) (1+(k+k+(k+k)+1)) (sv 8) w':=hf ⟨4,.data⟩ (by simp [o5_invz]) rfl _ 8 rfl rfl (NE _ (by decide))
     obtain ⟨s8_,A8_,n8_,c8_,B8_,m8_,d8_,f8,q8⟩:=h8
     refine wpOp_plain' (o:=o5_invz) rfl rfl ?_
     unfold Oper.wp o5_invz
     rw [run_ext0 ((G sv 8 (by decide) (by decide)).trans f8),Oper.upon_value]
     exact ⟨_,rfl,Below.refl _ _,s8_,A8_,n8_,c8_,B8_,m8_,d8_,rfl,q8⟩
   | 6,ho =>
     obtain rfl:o6_invz=o:=Option.some.inj ho
     cases hd
     have h8:VQEa (Rat.divInt 1 1 / v.det) (1+(k+k+(k+k)+1)) (sv 8) w':=hf ⟨4,.data⟩ (by simp [o6_invz]) rfl _ 8 rfl rfl (NE _ (by decide))
     obtain ⟨s8_,A8_,n8_,c8_,B8_,m8_,d8_,f8,q8⟩:=h8
     refine wpOp_plain' (o:=o6_invz) rfl rfl ?_
     unfold Oper.wp o6_invz
     rw [run_ext1 ((G sv 8 (by decide) (by decide)).trans f8),Oper.upon_value]
     exact ⟨_,rfl,Below.refl _ _,rfl⟩
   | 7,ho=>cases ho;cases hd;exact absurd rfl (hia (B0_invp v k) (List.Mem.head _))
   | 8,ho=>cases ho;cases hd
   | 9,ho =>
     obtain rfl:o9_invz=o:=Option.some.inj ho
     cases hd
     have f:=hf ⟨6,.data⟩ (by simp [o9_invz]) rfl _ 14 rfl rfl (NE _ (by decide))
     refine wpOp_plain' (o:=o9_invz) rfl rfl ?_
     unfold Oper.wp o9_invz
     rw [run_assign (G sv 14 (by decide) (by decide)),Oper.upon_value]
     exact ⟨_,rfl,Below.refl _ _,f⟩
   | i+10,ho=>cases ho
 · intro p hp os sv w' g hos J0 p1 p3 hf
   simp only [List.mem_cons,List.not_mem_nil,or_false] at hp
   rcases hp with rfl
   · obtain rfl:o8_invz=os:=Option.some.inj hos
     have h1:VQ (Rat.divInt 1 1 / v.det) (1+(k+k+(k+k)+1)) (sv 13) w':=hf ⟨5,.data⟩ (by simp [o8_invz]) rfl _ 13 rfl rfl (NE _ (by decide))
     rw [← G sv 13 (by decide) (by decide)] at h1
     refine store_q (V:=Rat.divInt 1 1 / v.det) (k:=1+(k+k+(k+k)+1)) (ac:=putAll ac L_invz sv) (z:=.tmp 13) ?_ ?_ ?_
     · exact (G sv 4 (by decide) (by decide)).trans p1
     · exact h1
     · exact p3
 · intro sv w' J0 hF hB hap
   obtain ⟨g0,cs0,p0,r0,b0,⟨s0,A0,n0,c0,B0,m0,d0,rfl,h0⟩⟩:=hB (B0_invp v k) (List.Mem.head _)
   have p0':sv 4=.pointer (some ⟨g0,0,none⟩):=p0
   exact hend sv w' g0 _ _ _ _ _ _ _ h0 b0.at_ r0 p0' (hF 9 _ 5 rfl rfl (NE _ (by decide)))  J0
abbrev L_invu:List Nat:=[19,20,21,22,23,24,25,26,27,28,29,30,31,32,33,34,35,36,6]
def o0_invu:Oper:=⟨some 19,.fieldAddr 71 (.tmp 1) 3,0, "mat.go:62",#[],none⟩
def o1_invu:Oper:=⟨some 20,.load 27 (.tmp 19),27, "mat.go:62",#[⟨0,.data⟩],none⟩
def o2_invu:Oper:=⟨some 21,.fieldAddr 71 (.tmp 1) 1,0, "mat.go:62",#[],none⟩
def o3_invu:Oper:=⟨some 22,.load 27 (.tmp 21),27, "mat.go:62",#[⟨2,.data⟩],none⟩
def o4_invu:Oper:=⟨some 23,.call ⟨.value (.func 106),#[.tmp 22],#[27]⟩,27, "mat.go:63",#[⟨3,.data⟩],none⟩
def o5_invu:Oper:=⟨some 24,.build 29 #[(0,.tmp 20),(1,.tmp 23)],29, "mat.go:62",#[⟨1,.data⟩,⟨4,.data⟩],none⟩
def o6_invu:Oper:=⟨some 25,.load 27 (.tmp 4),27, "mat.go:62",#[],none⟩
def o7_invu:Oper:=⟨some 26,.call ⟨.value (.func 63),#[.tmp 24,.tmp 25],#[29,27]⟩,29, "mat.go:63",#[⟨5,.data⟩,⟨6,.data⟩,⟨4,.chain⟩],none⟩
def o8_invu:Oper:=⟨some 27,.fieldAddr 71 (.tmp 1) 2,0, "mat.go:62",#[],none⟩
def o9_invu:Oper:=⟨some 28,.load 27 (.tmp 27),27, "mat.go:62",#[⟨8,.data⟩],none⟩
def o10_invu:Oper:=⟨some 29,.call ⟨.value (.func 106),#[.tmp 28],#[27]⟩,27, "mat.go:64",#[⟨9,.data⟩,⟨7,.chain⟩],none⟩
def o11_invu:Oper:=⟨some 30,.fieldAddr 71 (.tmp 1) 0,0, "mat.go:62",#[],none⟩
def o12_invu:Oper:=⟨some 31,.load 27 (.tmp 30),27, "mat.go:62",#[⟨11,.data⟩],none⟩
def o13_invu:Oper:=⟨some 32,.build 29 #[(0,.tmp 29),(1,.tmp 31)],29, "mat.go:62",#[⟨10,.data⟩,⟨12,.data⟩],none⟩
def o14_invu:Oper:=⟨some 33,.load 27 (.tmp 4),27, "mat.go:62",#[],none⟩
def o15_invu:Oper:=⟨some 34,.call ⟨.value (.func 63),#[.tmp 32,.tmp 33],#[29,27]⟩,29, "mat.go:64",#[⟨13,.data⟩,⟨14,.data⟩,⟨10,.chain⟩],none⟩
def o16_invu:Oper:=⟨some 35,.build 29 #[],29, "mat.go:62",#[],none⟩
def o17_invu:Oper:=⟨some 36,.call ⟨.value (.func 105),#[.tmp 26,.tmp 34,.tmp 35],#[29,29,29]⟩,71, "mat.go:62",#[⟨7,.data⟩,⟨15,.data⟩,⟨16,.data⟩,⟨15,.chain⟩],none⟩
def o18_invu:Oper:=⟨some 6,.alloc 71,0, "mat.go:62",#[],none⟩
def o19_invu:Oper:=⟨none,.store 71 (.tmp 6) (.tmp 36),0, "mat.go:62",#[⟨18,.data⟩,⟨17,.data⟩,⟨17,.chain⟩,⟨0,.phase⟩,⟨1,.phase⟩,⟨2,.phase⟩,⟨3,.phase⟩,⟨4,.phase⟩,⟨5,.phase⟩,⟨6,.phase⟩,⟨7,.phase⟩,⟨8,.phase⟩,⟨9,.phase⟩,⟨10,.phase⟩,⟨11,.phase⟩,⟨12,.phase⟩,⟨13,.phase⟩,⟨14,.phase⟩,⟨15,.phase⟩,⟨16,.phase⟩,⟨17,.phase⟩,⟨18,.phase⟩],none⟩
theorem rc_gesso_rat_Neg {e:Operand→Value} {x0:Operand} {d:Option Tmp} {y:Nat} {pos:String} {af:Array Edge} {u0:Value} (h0:e x0=u0) (hf:e (.func 106)=.func (.func 106) #[] #[]) :
 (execOp e ⟨d,.call ⟨.value (.func 106),#[x0],#[27]⟩,y,pos,af,none⟩).run Tryz.prog w=.ok (.enter 106 #[u0]) w:=by
 go_simp
theorem rc_gesso_pt_Scale {e:Operand→Value} {x0 x1:Operand} {d:Option Tmp} {y:Nat} {pos:String} {af:Array Edge} {u0 u1:Value} (h0:e x0=u0) (h1:e x1=u1) (hf:e (.func 63)=.func (.func 63) #[] #[]) :
 (execOp e ⟨d,.call ⟨.value (.func 63),#[x0,x1],#[29,27]⟩,y,pos,af,none⟩).run Tryz.prog w=.ok (.enter 63 #[u0,u1]) w:=by
 go_simp
theorem rc_gesso_mat_by {e:Operand→Value} {x0 x1 x2:Operand} {d:Option Tmp} {y:Nat} {pos:String} {af:Array Edge} {u0 u1 u2:Value} (h0:e x0=u0) (h1:e x1=u1) (h2:e x2=u2) (hf:e (.func 105)=.func (.func 105) #[] #[]) :
 (execOp e ⟨d,.call ⟨.value (.func 105),#[x0,x1,x2],#[29,29,29]⟩,y,pos,af,none⟩).run Tryz.prog w=.ok (.enter 105 #[u0,u1,u2]) w:=by
 go_simp
def F_invu (m:MV) (v:AM) (T:Rat) (k:Nat) (kt:Nat) (gm:Nat) (s_t:Bool) (A_t:Option Addr) (B_t:Option Addr) (n_t:Nat) (c_t:Nat) (m_t:Nat) (d_t:Nat) (sl:Nat):Value→World→Prop :=
 match sl with
 | 19=>fun x _=>x=Value.pointer (some ⟨gm,9,none⟩)
 | 20=>fun x _=>x=Value.agg #[.bool m.d.s,.slice m.d.A m.d.n m.d.c,.slice m.d.B m.d.m m.d.d]
 | 21=>fun x _=>x=Value.pointer (some ⟨gm,3,none⟩)
 | 22=>fun x _=>x=Value.agg #[.bool m.b.s,.slice m.b.A m.b.n m.b.c,.slice m.b.B m.b.m m.b.d]
 | 23=>VQ (-v.b) (k)
 | 24=>VPR (v.d) (-v.b) (k)
 | 25=>fun x _=>x=Value.agg #[.bool s_t,.slice A_t n_t c_t,.slice B_t m_t d_t]
 | 26=>VPG (v.d*T) (-v.b*T) (k+kt)
 | 27=>fun x _=>x=Value.pointer (some ⟨gm,6,none⟩)
 | 28=>fun x _=>x=Value.agg #[.bool m.c.s,.slice m.c.A m.c.n m.c.c,.slice m.c.B m.c.m m.c.d]
 | 29=>VQ (-v.c) (k)
 | 30=>fun x _=>x=Value.pointer (some ⟨gm,0,none⟩)
 | 31=>fun x _=>x=Value.agg #[.bool m.a.s,.slice m.a.A m.a.n m.a.c,.slice m.a.B m.a.m m.a.d]
 | 32=>VPR (-v.c) (v.a) (k)
 | 33=>fun x _=>x=Value.agg #[.bool s_t,.slice A_t n_t c_t,.slice B_t m_t d_t]
 | 34=>VPG (-v.c*T) (v.a*T) (k+kt)
 | 35=>fun x _=>x=Value.agg #[.bool false,.slice none 0 0,.slice none 0 0,.bool false,.slice none 0 0,.slice none 0 0]
 | 36=>VMU (v.undo T) (k+kt) (1)
 | _=>fun _ _=>True
def B0_invu (v:AM) (T:Rat) (k:Nat) (kt:Nat):BoxOp :=
 ⟨18,19,6,71,#[.bool false,.slice none 0 0,.slice none 0 0,.bool false,.slice none 0 0,.slice none 0 0,.bool false,.slice none 0 0,.slice none 0 0,.bool false,.slice none 0 0,.slice none 0 0,.bool false,.slice none 0 0,.slice none 0 0,.bool false,.slice none 0 0,.slice none 0 0],fun cs w=>∃ u,cs=#[.bool u.a.s,.slice u.a.A u.a.n u.a.c,.slice u.a.B u.a.m u.a.d,.bool u.b.s,.slice u.b.A u.b.n u.b.c,.slice u.b.B u.b.m u.b.d,.bool u.c.s,.slice u.c.A u.c.n u.c.c,.slice u.c.B u.c.m u.c.d,.bool u.d.s,.slice u.d.A u.d.n u.d.c,.slice u.d.B u.d.m u.d.d,.bool u.e.s,.slice u.e.A u.e.n u.e.c,.slice u.e.B u.e.m u.e.d,.bool u.f.s,.slice u.f.A u.f.n u.f.c,.slice u.f.B u.f.m u.f.d]∧MU w u (v.undo T) (k+kt) (1)⟩
theorem invu_region {id:Nat} {ac:Act} {Q:Exit→Act→World→Prop} {m:MV} {v:AM} {T:Rat} {k l kt gm gt:Nat} 
 (hsz:36 < ac.tmps.size) (e1:ac.eval (.tmp 1)=Value.pointer (some ⟨gm,0,none⟩)) (e4:ac.eval (.tmp 4)=Value.pointer (some ⟨gt,0,none⟩)) (XA:B18 w gm (.bool m.a.s) (.slice m.a.A m.a.n m.a.c) (.slice m.a.B m.a.m m.a.d) (.bool m.b.s) (.slice m.b.A m.b.n m.b.c) (.slice m.b.B m.b.m m.b.d) (.bool m.c.s) (.slice m.c.A m.c.n m.c.c) (.slice m.c.B m.c.m m.c.d) (.bool m.d.s) (.slice m.d.A m.d.n m.d.c) (.slice m.d.B m.d.m m.d.d) (.bool m.e.s) (.slice m.e.A m.e.n m.e.c) (.slice m.e.B m.e.m m.e.d) (.bool m.f.s) (.slice m.f.A m.f.n m.f.c) (.slice m.f.B m.f.m m.f.d)) (XT:B3 w gt (.bool s_t) (.slice A_t n_t c_t) (.slice B_t m_t d_t)) (M:MR w m v k l) (tq:QG w s_t A_t n_t c_t B_t m_t d_t T kt) (hk:k≤200) (h1:1≤k) (hkt:kt≤300) (h2:1≤kt)
 (hend:∀ (V:Nat→Value) (w':World) (g0:Nat) (u0:MV),MU w' u0 (v.undo T) (k+kt) (1)→B18 w' g0 (.bool u0.a.s) (.slice u0.a.A u0.a.n u0.a.c) (.slice u0.a.B u0.a.m u0.a.d) (.bool u0.b.s) (.slice u0.b.A u0.b.n u0.b.c) (.slice u0.b.B u0.b.m u0.b.d) (.bool u0.c.s) (.slice u0.c.A u0.c.n u0.c.c) (.slice u0.c.B u0.c.m u0.c.d) (.bool u0.d.s) (.slice u0.d.A u0.d.n u0.d.c) (.slice u0.d.B u0.d.m u0.d.d) (.bool u0.e.s) (.slice u0.e.A u0.e.n u0.e.c) (.slice u0.e.B u0.e.m u0.e.d) (.bool u0.f.s) (.slice u0.f.A u0.f.n u0.f.c) (.slice u0.f.B u0.f.m u0.f.d)→w.heap.size≤g0→V 6=.pointer (some ⟨g0,0,none⟩)→Below w.heap.size w w'→Q .normal (putAll ac [19,20,21,22,23,24,25,26,27,28,29,30,31,32,33,34,35,36,6] V) w') :
 (Code.region id #[o0_invu,o1_invu,o2_invu,o3_invu,o4_invu,o5_invu,o6_invu,o7_invu,o8_invu,o9_invu,o10_invu,o11_invu,o12_invu,o13_invu,o14_invu,o15_invu,o16_invu,o17_invu,o18_invu,o19_invu] true).wp Tryz.prog Q ac w:=by
 have hnd:L_invu.Nodup:=by decide
 have G:∀ (sv:Nat→Value) (t:Nat),t ∈ L_invu→t≤36→(putAll ac L_invu sv).eval (.tmp t)=sv t:=fun sv t ht h=>eval_putAll_mem (t:=t) L_invu ac hnd ht (Nat.lt_of_le_of_lt h hsz)
 have E1:∀ sv:Nat→Value,(putAll ac L_invu sv).eval (.tmp 1)=Value.pointer (some ⟨gm,0,none⟩):=fun sv=>(eval_putAll_not (v:=sv) L_invu ac (show 1 ∉ _ by decide)).trans e1
 have E4:∀ sv:Nat→Value,(putAll ac L_invu sv).eval (.tmp 4)=Value.pointer (some ⟨gt,0,none⟩):=fun sv=>(eval_putAll_not (v:=sv) L_invu ac (show 4 ∉ _ by decide)).trans e4
 have NE:∀ t:Nat,(t ≠ 6)→∀ p ∈ [B0_invu v T k kt],t ≠ p.tA:=by
  intro t ht p hp
  simp only [List.mem_cons,List.not_mem_nil,or_false] at hp
  rcases hp with rfl
  · exact ht
 refine wp_region_flowsT L_invu [B0_invu v T k kt] (F_invu m v T k kt gm s_t A_t B_t n_t c_t m_t d_t) (by kernel_rfl) (by kernel_rfl) rfl hnd ?_ ?_ ?_ ?_ ?_ ?_ ?_ ?_
 · intro p hp
   simp only [List.mem_cons,List.not_mem_nil,or_false] at hp
   rcases hp with rfl
   · refine ⟨⟨o18_invu,rfl,rfl,rfl,fun e w'=>run_allocM⟩,⟨o19_invu,rfl,rfl,rfl,⟨18,.data⟩,by simp [o19_invu],rfl,rfl⟩,free18z,?_,?_⟩
     · rintro cs w1 w2 ⟨u_,rfl,h⟩ hb;exact ⟨u_,rfl,h.below hb⟩
     · rintro T cs w1 w2 g c0 ⟨u_,rfl,h⟩ hB ho;exact ⟨u_,rfl,h.box hB ho⟩
 · intro p hp q hq h
   simp only [List.mem_cons,List.not_mem_nil,or_false] at hp hq
   rcases hp with rfl <;> rcases hq with rfl
   · rfl
 · intro p hp q hq h
   simp only [List.mem_cons,List.not_mem_nil,or_false] at hp hq
   rcases hp with rfl <;> rcases hq with rfl
   · rfl
 · intro i o h1 h2
   match i,h1 with
   | 0,h1=>cases h1;cases h2
   | 1,h1=>cases h1;cases h2
   | 2,h1=>cases h1;cases h2
   | 3,h1=>cases h1;cases h2
   | 4,h1=>cases h1;cases h2
   | 5,h1=>cases h1;cases h2
   | 6,h1=>cases h1;cases h2
   | 7,h1=>cases h1;cases h2
   | 8,h1=>cases h1;cases h2
   | 9,h1=>cases h1;cases h2
   | 10,h1=>cases h1;cases h2
   | 11,h1=>cases h1;cases h2
   | 12,h1=>cases h1;cases h2
   | 13,h1=>cases h1;cases h2
   | 14,h1=>cases h1;cases h2
   | 15,h1=>cases h1;cases h2
   | 16,h1=>cases h1;cases h2
   | 17,h1=>cases h1;cases h2
   | 18,h1=>cases h1;cases h2
   | 19,h1=>exact ⟨B0_invu v T k kt,List.Mem.head _,rfl⟩
   | i+20,h1=>cases h1
 · intro t
   unfold F_invu
   split <;> first | exact (stays_eq _).inn _ | exact (stays_q _ _).inn _ | exact (stays_z _ _).inn _ | exact (stays_r _ _).inn _ | exact (stays_rq _ _).inn _ | exact (stays_pg _ _ _).inn _ | exact (stays_true).inn _ | exact (stays_mu _ _ _).inn _ | exact (stays_pr _ _ _).inn _
 · intro i o t sv w' ho hia hd J0 hf
   have XA:=XA.below J0;have XT:=XT.below J0;have M:=M.below J0;have tq:=tq.below J0
   match i,ho with
   | 0,ho =>
     obtain rfl:o0_invu=o:=Option.some.inj ho
     cases hd
     refine wpOp_plain' (o:=o0_invu) rfl rfl ?_
     unfold Oper.wp o0_invu
     rw [run_fM3 (E1 sv),Oper.upon_value]
     exact ⟨_,rfl,Below.refl _ _,rfl⟩
   | 1,ho =>
     obtain rfl:o1_invu=o:=Option.some.inj ho
     cases hd
     have f19:sv 19=Value.pointer (some ⟨gm,9,none⟩):=hf ⟨0,.data⟩ (by simp [o1_invu]) rfl _ 19 rfl rfl (NE _ (by decide))
     refine wpOp_plain' (o:=o1_invu) rfl rfl ?_
     unfold Oper.wp o1_invu
     rw [run_loadM3 ((G sv 19 (by decide) (by decide)).trans f19) XA,Oper.upon_value]
     exact ⟨_,rfl,Below.refl _ _,rfl⟩
   | 2,ho =>
     obtain rfl:o2_invu=o:=Option.some.inj ho
     cases hd
     refine wpOp_plain' (o:=o2_invu) rfl rfl ?_
     unfold Oper.wp o2_invu
     rw [run_fM1 (E1 sv),Oper.upon_value]
     exact ⟨_,rfl,Below.refl _ _,rfl⟩
   | 3,ho =>
     obtain rfl:o3_invu=o:=Option.some.inj ho
     cases hd
     have f21:sv 21=Value.pointer (some ⟨gm,3,none⟩):=hf ⟨2,.data⟩ (by simp [o3_invu]) rfl _ 21 rfl rfl (NE _ (by decide))
     refine wpOp_plain' (o:=o3_invu) rfl rfl ?_
     unfold Oper.wp o3_invu
     rw [run_loadM1 ((G sv 21 (by decide) (by decide)).trans f21) XA,Oper.upon_value]
     exact ⟨_,rfl,Below.refl _ _,rfl⟩
   | 4,ho =>
     obtain rfl:o4_invu=o:=Option.some.inj ho
     cases hd
     have f22:sv 22=Value.agg #[.bool m.b.s,.slice m.b.A m.b.n m.b.c,.slice m.b.B m.b.m m.b.d]:=hf ⟨3,.data⟩ (by simp [o4_invu]) rfl _ 22 rfl rfl (NE _ (by decide))
     refine wpOp_plain' (o:=o4_invu) rfl rfl ?_
     unfold Oper.wp o4_invu
     rw [rc_gesso_rat_Neg ((G sv 22 (by decide) (by decide)).trans f22) rfl,Oper.upon_enter]
     refine (rneg_q M.ab.qy (by omega) h1).mono ?_
     rintro e w1 ⟨s_,A_,n_,c_,B_,m_,d_,rfl,hq,hh⟩
     exact ⟨_,rfl,hh,s_,A_,n_,c_,B_,m_,d_,rfl,hq⟩
   | 5,ho =>
     obtain rfl:o5_invu=o:=Option.some.inj ho
     cases hd
     have f20:sv 20=Value.agg #[.bool m.d.s,.slice m.d.A m.d.n m.d.c,.slice m.d.B m.d.m m.d.d]:=hf ⟨1,.data⟩ (by simp [o5_invu]) rfl _ 20 rfl rfl (NE _ (by decide))
     have h23:VQ (-v.b) (k) (sv 23) w':=hf ⟨4,.data⟩ (by simp [o5_invu]) rfl _ 23 rfl rfl (NE _ (by decide))
     obtain ⟨s23_,A23_,n23_,c23_,B23_,m23_,d23_,f23,q23⟩:=h23
     refine wpOp_plain' (o:=o5_invu) rfl rfl ?_
     unfold Oper.wp o5_invu
     rw [run_build6 ((G sv 20 (by decide) (by decide)).trans f20) ((G sv 23 (by decide) (by decide)).trans f23) ,Oper.upon_value]
     exact ⟨_,rfl,Below.refl _ _,_,_,_,_,_,_,_,_,_,_,_,_,_,_,rfl,M.cd.qy,q23.qr⟩
   | 6,ho =>
     obtain rfl:o6_invu=o:=Option.some.inj ho
     cases hd
     refine wpOp_plain' (o:=o6_invu) rfl rfl ?_
     unfold Oper.wp o6_invu
     rw [run_loadQ (E4 sv) XT.c0 XT.c1 XT.c2,Oper.upon_value]
     exact ⟨_,rfl,Below.refl _ _,rfl⟩
   | 7,ho =>
     obtain rfl:o7_invu=o:=Option.some.inj ho
     cases hd
     have h24:VPR (v.d) (-v.b) (k) (sv 24) w':=hf ⟨5,.data⟩ (by simp [o7_invu]) rfl _ 24 rfl rfl (NE _ (by decide))
     obtain ⟨s24_,A24_,n24_,c24_,B24_,m24_,d24_,t24_,E24_,i24_,e24_,F24_,j24_,f24_,f24,q24⟩:=h24
     have f25:sv 25=Value.agg #[.bool s_t,.slice A_t n_t c_t,.slice B_t m_t d_t]:=hf ⟨6,.data⟩ (by simp [o7_invu]) rfl _ 25 rfl rfl (NE _ (by decide))
     refine wpOp_plain' (o:=o7_invu) rfl rfl ?_
     unfold Oper.wp o7_invu
     rw [rc_gesso_pt_Scale ((G sv 24 (by decide) (by decide)).trans f24) ((G sv 25 (by decide) (by decide)).trans f25) rfl,Oper.upon_enter]
     refine (pscale_p q24 tq.qr (by omega) (by omega) (.inl (by omega)) (by omega) (by omega)).mono ?_
     rintro e w1 ⟨s_,A_,n_,c_,B_,m_,d_,t_,E_,i_,e_,F_,j_,f_,rfl,hq,hh⟩
     exact ⟨_,rfl,hh,s_,A_,n_,c_,B_,m_,d_,t_,E_,i_,e_,F_,j_,f_,rfl,hq⟩
   | 8,ho =>
     obtain rfl:o8_invu=o:=Option.some.inj ho
     cases hd
     refine wpOp_plain' (o:=o8_invu) rfl rfl ?_
     unfold Oper.wp o8_invu
     rw [run_fM2 (E1 sv),Oper.upon_value]
     exact ⟨_,rfl,Below.refl _ _,rfl⟩
   | 9,ho =>
     obtain rfl:o9_invu=o:=Option.some.inj ho
     cases hd
     have f27:sv 27=Value.pointer (some ⟨gm,6,none⟩):=hf ⟨8,.data⟩ (by simp [o9_invu]) rfl _ 27 rfl rfl (NE _ (by decide))
     refine wpOp_plain' (o:=o9_invu) rfl rfl ?_
     unfold Oper.wp o9_invu
     rw [run_loadM2 ((G sv 27 (by decide) (by decide)).trans f27) XA,Oper.upon_value]
     exact ⟨_,rfl,Below.refl _ _,rfl⟩
   | 10,ho =>
     obtain rfl:o10_invu=o:=Option.some.inj ho
     cases hd
     have f28:sv 28=Value.agg #[.bool m.c.s,.slice m.c.A m.c.n m.c.c,.slice m.c.B m.c.m m.c.d]:=hf ⟨9,.data⟩ (by simp [o10_invu]) rfl _ 28 rfl rfl (NE _ (by decide))
     refine wpOp_plain' (o:=o10_invu) rfl rfl ?_
     unfold Oper.wp o10_invu
     rw [rc_gesso_rat_Neg ((G sv 28 (by decide) (by decide)).trans f28) rfl,Oper.upon_enter]
     refine (rneg_q M.cd.qx (by omega) h1).mono ?_
     rintro e w1 ⟨s_,A_,n_,c_,B_,m_,d_,rfl,hq,hh⟩
     exact ⟨_,rfl,hh,s_,A_,n_,c_,B_,m_,d_,rfl,hq⟩
   | 11,ho =>
     obtain rfl:o11_invu=o:=Option.some.inj ho
     cases hd
     refine wpOp_plain' (o:=o11_invu) rfl rfl ?_
     unfold Oper.wp o11_invu
     rw [run_fM0 (E1 sv),Oper.upon_value]
     exact ⟨_,rfl,Below.refl _ _,rfl⟩
   | 12,ho =>
     obtain rfl:o12_invu=o:=Option.some.inj ho
     cases hd
     have f30:sv 30=Value.pointer (some ⟨gm,0,none⟩):=hf ⟨11,.data⟩ (by simp [o12_invu]) rfl _ 30 rfl rfl (NE _ (by decide))
     refine wpOp_plain' (o:=o12_invu) rfl rfl ?_
     unfold Oper.wp o12_invu
     rw [run_loadM0 ((G sv 30 (by decide) (by decide)).trans f30) XA,Oper.upon_value]
     exact ⟨_,rfl,Below.refl _ _,rfl⟩
   | 13,ho =>
     obtain rfl:o13_invu=o:=Option.some.inj ho
     cases hd
     have h29:VQ (-v.c) (k) (sv 29) w':=hf ⟨10,.data⟩ (by simp [o13_invu]) rfl _ 29 rfl rfl (NE _ (by decide))
     obtain ⟨s29_,A29_,n29_,c29_,B29_,m29_,d29_,f29,q29⟩:=h29
     have f31:sv 31=Value.agg #[.bool m.a.s,.slice m.a.A m.a.n m.a.c,.slice m.a.B m.a.m m.a.d]:=hf ⟨12,.data⟩ (by simp [o13_invu]) rfl _ 31 rfl rfl (NE _ (by decide))
     refine wpOp_plain' (o:=o13_invu) rfl rfl ?_
     unfold Oper.wp o13_invu
     rw [run_build6 ((G sv 29 (by decide) (by decide)).trans f29) ((G sv 31 (by decide) (by decide)).trans f31) ,Oper.upon_value]
     exact ⟨_,rfl,Below.refl _ _,_,_,_,_,_,_,_,_,_,_,_,_,_,_,rfl,q29.qr,M.ab.qx⟩
   | 14,ho =>
     obtain rfl:o14_invu=o:=Option.some.inj ho
     cases hd
     refine wpOp_plain' (o:=o14_invu) rfl rfl ?_
     unfold Oper.wp o14_invu
     rw [run_loadQ (E4 sv) XT.c0 XT.c1 XT.c2,Oper.upon_value]
     exact ⟨_,rfl,Below.refl _ _,rfl⟩
   | 15,ho =>
     obtain rfl:o15_invu=o:=Option.some.inj ho
     cases hd
     have h32:VPR (-v.c) (v.a) (k) (sv 32) w':=hf ⟨13,.data⟩ (by simp [o15_invu]) rfl _ 32 rfl rfl (NE _ (by decide))
     obtain ⟨s32_,A32_,n32_,c32_,B32_,m32_,d32_,t32_,E32_,i32_,e32_,F32_,j32_,f32_,f32,q32⟩:=h32
     have f33:sv 33=Value.agg #[.bool s_t,.slice A_t n_t c_t,.slice B_t m_t d_t]:=hf ⟨14,.data⟩ (by simp [o15_invu]) rfl _ 33 rfl rfl (NE _ (by decide))
     refine wpOp_plain' (o:=o15_invu) rfl rfl ?_
     unfold Oper.wp o15_invu
     rw [rc_gesso_pt_Scale ((G sv 32 (by decide) (by decide)).trans f32) ((G sv 33 (by decide) (by decide)).trans f33) rfl,Oper.upon_enter]
     refine (pscale_p q32 tq.qr (by omega) (by omega) (.inl (by omega)) (by omega) (by omega)).mono ?_
     rintro e w1 ⟨s_,A_,n_,c_,B_,m_,d_,t_,E_,i_,e_,F_,j_,f_,rfl,hq,hh⟩
     exact ⟨_,rfl,hh,s_,A_,n_,c_,B_,m_,d_,t_,E_,i_,e_,F_,j_,f_,rfl,hq⟩
   | 16,ho =>
     obtain rfl:o16_invu=o:=Option.some.inj ho
     cases hd
     refine wpOp_plain' (o:=o16_invu) rfl rfl ?_
     unfold Oper.wp o16_invu
     rw [run_build0  ,Oper.upon_value]
     exact ⟨_,rfl,Below.refl _ _,rfl⟩
   | 17,ho =>
     obtain rfl:o17_invu=o:=Option.some.inj ho
     cases hd
     have h26:VPG (v.d*T) (-v.b*T) (k+kt) (sv 26) w':=hf ⟨7,.data⟩ (by simp [o17_invu]) rfl _ 26 rfl rfl (NE _ (by decide))
     obtain ⟨s26_,A26_,n26_,c26_,B26_,m26_,d26_,t26_,E26_,i26_,e26_,F26_,j26_,f26_,f26,q26⟩:=h26
     have h34:VPG (-v.c*T) (v.a*T) (k+kt) (sv 34) w':=hf ⟨15,.data⟩ (by simp [o17_invu]) rfl _ 34 rfl rfl (NE _ (by decide))
     obtain ⟨s34_,A34_,n34_,c34_,B34_,m34_,d34_,t34_,E34_,i34_,e34_,F34_,j34_,f34_,f34,q34⟩:=h34
     have f35:sv 35=Value.agg #[.bool false,.slice none 0 0,.slice none 0 0,.bool false,.slice none 0 0,.slice none 0 0]:=hf ⟨16,.data⟩ (by simp [o17_invu]) rfl _ 35 rfl rfl (NE _ (by decide))
     refine wpOp_plain' (o:=o17_invu) rfl rfl ?_
     unfold Oper.wp o17_invu
     rw [rc_gesso_mat_by ((G sv 26 (by decide) (by decide)).trans f26) ((G sv 34 (by decide) (by decide)).trans f34) ((G sv 35 (by decide) (by decide)).trans f35) rfl,Oper.upon_enter]
     refine (mby_u q26 q34).mono ?_
     rintro e w1 ⟨u_,rfl,hq,hh⟩
     exact ⟨_,rfl,hh,u_,rfl,hq⟩
   | 18,ho=>cases ho;cases hd;exact absurd rfl (hia (B0_invu v T k kt) (List.Mem.head _))
   | 19,ho=>cases ho;cases hd
   | i+20,ho=>cases ho
 · intro p hp os sv w' g hos J0 p1 p3 hf
   simp only [List.mem_cons,List.not_mem_nil,or_false] at hp
   rcases hp with rfl
   · obtain rfl:o19_invu=os:=Option.some.inj hos
     have h1:VMU (v.undo T) (k+kt) (1) (sv 36) w':=hf ⟨17,.data⟩ (by simp [o19_invu]) rfl _ 36 rfl rfl (NE _ (by decide))
     rw [← G sv 36 (by decide) (by decide)] at h1
     refine store_mu (v:=v.undo T) (k:=k+kt) (l:=1) (ac:=putAll ac L_invu sv) (z:=.tmp 36) ?_ ?_ ?_
     · exact (G sv 6 (by decide) (by decide)).trans p1
     · exact h1
     · exact p3
 · intro sv w' J0 hF hB hap
   obtain ⟨g0,cs0,p0,r0,b0,⟨u0,rfl,h0⟩⟩:=hB (B0_invu v T k kt) (List.Mem.head _)
   have p0':sv 6=.pointer (some ⟨g0,0,none⟩):=p0
   exact hend sv w' g0 _ h0 b0.at_ r0 p0'   J0
abbrev L_invb:List Nat:=[37,38,39,40,41,42,7]
def o0_invb:Oper:=⟨some 37,.build 29 #[],29, "mat.go:68",#[],none⟩
def o1_invb:Oper:=⟨some 38,.load 71 (.tmp 6),71, "mat.go:68",#[],none⟩
def o2_invb:Oper:=⟨some 39,.load 71 (.tmp 1),71, "mat.go:68",#[],none⟩
def o3_invb:Oper:=⟨some 40,.call ⟨.value (.func 108),#[.tmp 39],#[71]⟩,29, "mat.go:68",#[⟨2,.data⟩],none⟩
def o4_invb:Oper:=⟨some 41,.call ⟨.value (.func 107),#[.tmp 38,.tmp 40],#[71,29]⟩,29, "mat.go:68",#[⟨1,.data⟩,⟨3,.data⟩,⟨3,.chain⟩],none⟩
def o5_invb:Oper:=⟨some 42,.call ⟨.value (.func 57),#[.tmp 37,.tmp 41],#[29,29]⟩,29, "mat.go:68",#[⟨0,.data⟩,⟨4,.data⟩,⟨4,.chain⟩],none⟩
def o6_invb:Oper:=⟨some 7,.alloc 29,0, "mat.go:68",#[],none⟩
def o7_invb:Oper:=⟨none,.store 29 (.tmp 7) (.tmp 42),0, "mat.go:68",#[⟨6,.data⟩,⟨5,.data⟩,⟨5,.chain⟩,⟨0,.phase⟩,⟨1,.phase⟩,⟨2,.phase⟩,⟨3,.phase⟩,⟨4,.phase⟩,⟨5,.phase⟩,⟨6,.phase⟩],none⟩
theorem rc_gesso_mat_moved {e:Operand→Value} {x0:Operand} {d:Option Tmp} {y:Nat} {pos:String} {af:Array Edge} {u0:Value} (h0:e x0=u0) (hf:e (.func 108)=.func (.func 108) #[] #[]) :
 (execOp e ⟨d,.call ⟨.value (.func 108),#[x0],#[71]⟩,y,pos,af,none⟩).run Tryz.prog w=.ok (.enter 108 #[u0]) w:=by
 go_simp
theorem rc_gesso_mat_direction {e:Operand→Value} {x0 x1:Operand} {d:Option Tmp} {y:Nat} {pos:String} {af:Array Edge} {u0 u1:Value} (h0:e x0=u0) (h1:e x1=u1) (hf:e (.func 107)=.func (.func 107) #[] #[]) :
 (execOp e ⟨d,.call ⟨.value (.func 107),#[x0,x1],#[71,29]⟩,y,pos,af,none⟩).run Tryz.prog w=.ok (.enter 107 #[u0,u1]) w:=by
 go_simp
def F_invb (m:MV) (u:MV) (v:AM) (x:AM) (l:Nat) (ku:Nat) (sl:Nat):Value→World→Prop :=
 match sl with
 | 37=>fun x _=>x=Value.agg #[.bool false,.slice none 0 0,.slice none 0 0,.bool false,.slice none 0 0,.slice none 0 0]
 | 38=>fun x _=>x=Value.agg #[.bool u.a.s,.slice u.a.A u.a.n u.a.c,.slice u.a.B u.a.m u.a.d,.bool u.b.s,.slice u.b.A u.b.n u.b.c,.slice u.b.B u.b.m u.b.d,.bool u.c.s,.slice u.c.A u.c.n u.c.c,.slice u.c.B u.c.m u.c.d,.bool u.d.s,.slice u.d.A u.d.n u.d.c,.slice u.d.B u.d.m u.d.d,.bool u.e.s,.slice u.e.A u.e.n u.e.c,.slice u.e.B u.e.m u.e.d,.bool u.f.s,.slice u.f.A u.f.n u.f.c,.slice u.f.B u.f.m u.f.d]
 | 39=>fun x _=>x=Value.agg #[.bool m.a.s,.slice m.a.A m.a.n m.a.c,.slice m.a.B m.a.m m.a.d,.bool m.b.s,.slice m.b.A m.b.n m.b.c,.slice m.b.B m.b.m m.b.d,.bool m.c.s,.slice m.c.A m.c.n m.c.c,.slice m.c.B m.c.m m.c.d,.bool m.d.s,.slice m.d.A m.d.n m.d.c,.slice m.d.B m.d.m m.d.d,.bool m.e.s,.slice m.e.A m.e.n m.e.c,.slice m.e.B m.e.m m.e.d,.bool m.f.s,.slice m.f.A m.f.n m.f.c,.slice m.f.B m.f.m m.f.d]
 | 40=>fun x _=>x=Value.agg #[.bool m.e.s,.slice m.e.A m.e.n m.e.c,.slice m.e.B m.e.m m.e.d,.bool m.f.s,.slice m.f.A m.f.n m.f.c,.slice m.f.B m.f.m m.f.d]
 | 41=>VPG (x.dx v.e v.f) (x.dy v.e v.f) ((ku+l+(ku+l)+1))
 | 42=>VPG (0 - x.dx v.e v.f) (0 - x.dy v.e v.f) (1+(ku+l+(ku+l)+1)+1)
 | _=>fun _ _=>True
def B0_invb (v:AM) (x:AM) (l:Nat) (ku:Nat):BoxOp :=
 ⟨6,7,7,29,#[.bool false,.slice none 0 0,.slice none 0 0,.bool false,.slice none 0 0,.slice none 0 0],fun cs w=>∃ s A n c B m d t E i e F j f,cs=#[.bool s,.slice A n c,.slice B m d,.bool t,.slice E i e,.slice F j f]∧PG w s A n c B m d t E i e F j f (0 - x.dx v.e v.f) (0 - x.dy v.e v.f) (1+(ku+l+(ku+l)+1)+1)⟩
theorem invb_region {id:Nat} {ac:Act} {Q:Exit→Act→World→Prop} {m u:MV} {v x:AM} {k l ku gm gu:Nat}
 (hsz:42 < ac.tmps.size) (e1:ac.eval (.tmp 1)=Value.pointer (some ⟨gm,0,none⟩)) (e6:ac.eval (.tmp 6)=Value.pointer (some ⟨gu,0,none⟩)) (XA:B18 w gm (.bool m.a.s) (.slice m.a.A m.a.n m.a.c) (.slice m.a.B m.a.m m.a.d) (.bool m.b.s) (.slice m.b.A m.b.n m.b.c) (.slice m.b.B m.b.m m.b.d) (.bool m.c.s) (.slice m.c.A m.c.n m.c.c) (.slice m.c.B m.c.m m.c.d) (.bool m.d.s) (.slice m.d.A m.d.n m.d.c) (.slice m.d.B m.d.m m.d.d) (.bool m.e.s) (.slice m.e.A m.e.n m.e.c) (.slice m.e.B m.e.m m.e.d) (.bool m.f.s) (.slice m.f.A m.f.n m.f.c) (.slice m.f.B m.f.m m.f.d)) (XU:B18 w gu (.bool u.a.s) (.slice u.a.A u.a.n u.a.c) (.slice u.a.B u.a.m u.a.d) (.bool u.b.s) (.slice u.b.A u.b.n u.b.c) (.slice u.b.B u.b.m u.b.d) (.bool u.c.s) (.slice u.c.A u.c.n u.c.c) (.slice u.c.B u.c.m u.c.d) (.bool u.d.s) (.slice u.d.A u.d.n u.d.c) (.slice u.d.B u.d.m u.d.d) (.bool u.e.s) (.slice u.e.A u.e.n u.e.c) (.slice u.e.B u.e.m u.e.d) (.bool u.f.s) (.slice u.f.A u.f.n u.f.c) (.slice u.f.B u.f.m u.f.d)) (M:MR w m v k l) (U:MU w u x ku 1) (hk:ku+l≤140) (h1:1≤ku) (h2:1≤l)
 (hend:∀ (V:Nat→Value) (w':World) (g0:Nat) (s0:Bool) (A0:Option Addr) (n0:Nat) (c0:Nat) (B0:Option Addr) (m0:Nat) (d0:Nat) (t0:Bool) (E0:Option Addr) (i0:Nat) (e0:Nat) (F0:Option Addr) (j0:Nat) (f0:Nat),PG w' s0 A0 n0 c0 B0 m0 d0 t0 E0 i0 e0 F0 j0 f0 (0 - x.dx v.e v.f) (0 - x.dy v.e v.f) (1+(ku+l+(ku+l)+1)+1)→B6 w' g0 (.bool s0) (.slice A0 n0 c0) (.slice B0 m0 d0) (.bool t0) (.slice E0 i0 e0) (.slice F0 j0 f0)→w.heap.size≤g0→V 7=.pointer (some ⟨g0,0,none⟩)→Below w.heap.size w w'→Q .normal (putAll ac [37,38,39,40,41,42,7] V) w') :
 (Code.region id #[o0_invb,o1_invb,o2_invb,o3_invb,o4_invb,o5_invb,o6_invb,o7_invb] true).wp Tryz.prog Q ac w:=by
 have hnd:L_invb.Nodup:=by decide
 have G:∀ (sv:Nat→Value) (t:Nat),t ∈ L_invb→t≤42→(putAll ac L_invb sv).eval (.tmp t)=sv t:=fun sv t ht h=>eval_putAll_mem (t:=t) L_invb ac hnd ht (Nat.lt_of_le_of_lt h hsz)
 have E1:∀ sv:Nat→Value,(putAll ac L_invb sv).eval (.tmp 1)=Value.pointer (some ⟨gm,0,none⟩):=fun sv=>(eval_putAll_not (v:=sv) L_invb ac (show 1 ∉ _ by decide)).trans e1
 have E6:∀ sv:Nat→Value,(putAll ac L_invb sv).eval (.tmp 6)=Value.pointer (some ⟨gu,0,none⟩):=fun sv=>(eval_putAll_not (v:=sv) L_invb ac (show 6 ∉ _ by decide)).trans e6
 have NE:∀ t:Nat,(t ≠ 7)→∀ p ∈ [B0_invb v x l ku],t ≠ p.tA:=by
  intro t ht p hp
  simp only [List.mem_cons,List.not_mem_nil,or_false] at hp
  rcases hp with rfl
  · exact ht
 refine wp_region_flowsT L_invb [B0_invb v x l ku] (F_invb m u v x l ku) (by kernel_rfl) (by kernel_rfl) rfl hnd ?_ ?_ ?_ ?_ ?_ ?_ ?_ ?_
 · intro p hp
   simp only [List.mem_cons,List.not_mem_nil,or_false] at hp
   rcases hp with rfl
   · refine ⟨⟨o6_invb,rfl,rfl,rfl,fun e w'=>run_alloc6⟩,⟨o7_invb,rfl,rfl,rfl,⟨6,.data⟩,by simp [o7_invb],rfl,rfl⟩,free6 _ _ _ _ _ _ _ _ _ _ _ _ _ _,?_,?_⟩
     · rintro cs w1 w2 ⟨s_,A_,n_,c_,B_,m_,d_,t_,E_,i_,e_,F_,j_,f_,rfl,h⟩ hb;exact ⟨s_,A_,n_,c_,B_,m_,d_,t_,E_,i_,e_,F_,j_,f_,rfl,h.below hb⟩
     · rintro T cs w1 w2 g c0 ⟨s_,A_,n_,c_,B_,m_,d_,t_,E_,i_,e_,F_,j_,f_,rfl,h⟩ hB ho;exact ⟨s_,A_,n_,c_,B_,m_,d_,t_,E_,i_,e_,F_,j_,f_,rfl,h.box hB ho⟩
 · intro p hp q hq h
   simp only [List.mem_cons,List.not_mem_nil,or_false] at hp hq
   rcases hp with rfl <;> rcases hq with rfl
   · rfl
 · intro p hp q hq h
   simp only [List.mem_cons,List.not_mem_nil,or_false] at hp hq
   rcases hp with rfl <;> rcases hq with rfl
   · rfl
 · intro i o h1 h2
   match i,h1 with
   | 0,h1=>cases h1;cases h2
   | 1,h1=>cases h1;cases h2
   | 2,h1=>cases h1;cases h2
   | 3,h1=>cases h1;cases h2
   | 4,h1=>cases h1;cases h2
   | 5,h1=>cases h1;cases h2
   | 6,h1=>cases h1;cases h2
   | 7,h1=>exact ⟨B0_invb v x l ku,List.Mem.head _,rfl⟩
   | i+8,h1=>cases h1
 · intro t
   unfold F_invb
   split <;> first | exact (stays_eq _).inn _ | exact (stays_q _ _).inn _ | exact (stays_z _ _).inn _ | exact (stays_r _ _).inn _ | exact (stays_rq _ _).inn _ | exact (stays_pg _ _ _).inn _ | exact (stays_true).inn _
 · intro i o t sv w' ho hia hd J0 hf
   have XA:=XA.below J0;have XU:=XU.below J0;have M:=M.below J0;have U:=U.below J0
   match i,ho with
   | 0,ho =>
     obtain rfl:o0_invb=o:=Option.some.inj ho
     cases hd
     refine wpOp_plain' (o:=o0_invb) rfl rfl ?_
     unfold Oper.wp o0_invb
     rw [run_build0  ,Oper.upon_value]
     exact ⟨_,rfl,Below.refl _ _,rfl⟩
   | 1,ho =>
     obtain rfl:o1_invb=o:=Option.some.inj ho
     cases hd
     refine wpOp_plain' (o:=o1_invb) rfl rfl ?_
     unfold Oper.wp o1_invb
     rw [run_loadM (E6 sv) XU,Oper.upon_value]
     exact ⟨_,rfl,Below.refl _ _,rfl⟩
   | 2,ho =>
     obtain rfl:o2_invb=o:=Option.some.inj ho
     cases hd
     refine wpOp_plain' (o:=o2_invb) rfl rfl ?_
     unfold Oper.wp o2_invb
     rw [run_loadM (E1 sv) XA,Oper.upon_value]
     exact ⟨_,rfl,Below.refl _ _,rfl⟩
   | 3,ho =>
     obtain rfl:o3_invb=o:=Option.some.inj ho
     cases hd
     have f39:sv 39=Value.agg #[.bool m.a.s,.slice m.a.A m.a.n m.a.c,.slice m.a.B m.a.m m.a.d,.bool m.b.s,.slice m.b.A m.b.n m.b.c,.slice m.b.B m.b.m m.b.d,.bool m.c.s,.slice m.c.A m.c.n m.c.c,.slice m.c.B m.c.m m.c.d,.bool m.d.s,.slice m.d.A m.d.n m.d.c,.slice m.d.B m.d.m m.d.d,.bool m.e.s,.slice m.e.A m.e.n m.e.c,.slice m.e.B m.e.m m.e.d,.bool m.f.s,.slice m.f.A m.f.n m.f.c,.slice m.f.B m.f.m m.f.d]:=hf ⟨2,.data⟩ (by simp [o3_invb]) rfl _ 39 rfl rfl (NE _ (by decide))
     refine wpOp_plain' (o:=o3_invb) rfl rfl ?_
     unfold Oper.wp o3_invb
     rw [rc_gesso_mat_moved ((G sv 39 (by decide) (by decide)).trans f39) rfl,Oper.upon_enter]
     refine (mmoved_any).mono ?_
     rintro e w1 ⟨rfl,hh⟩
     exact ⟨_,rfl,hh,rfl⟩
   | 4,ho =>
     obtain rfl:o4_invb=o:=Option.some.inj ho
     cases hd
     have f38:sv 38=Value.agg #[.bool u.a.s,.slice u.a.A u.a.n u.a.c,.slice u.a.B u.a.m u.a.d,.bool u.b.s,.slice u.b.A u.b.n u.b.c,.slice u.b.B u.b.m u.b.d,.bool u.c.s,.slice u.c.A u.c.n u.c.c,.slice u.c.B u.c.m u.c.d,.bool u.d.s,.slice u.d.A u.d.n u.d.c,.slice u.d.B u.d.m u.d.d,.bool u.e.s,.slice u.e.A u.e.n u.e.c,.slice u.e.B u.e.m u.e.d,.bool u.f.s,.slice u.f.A u.f.n u.f.c,.slice u.f.B u.f.m u.f.d]:=hf ⟨1,.data⟩ (by simp [o4_invb]) rfl _ 38 rfl rfl (NE _ (by decide))
     have f40:sv 40=Value.agg #[.bool m.e.s,.slice m.e.A m.e.n m.e.c,.slice m.e.B m.e.m m.e.d,.bool m.f.s,.slice m.f.A m.f.n m.f.c,.slice m.f.B m.f.m m.f.d]:=hf ⟨3,.data⟩ (by simp [o4_invb]) rfl _ 40 rfl rfl (NE _ (by decide))
     refine wpOp_plain' (o:=o4_invb) rfl rfl ?_
     unfold Oper.wp o4_invb
     rw [rc_gesso_mat_direction ((G sv 38 (by decide) (by decide)).trans f38) ((G sv 40 (by decide) (by decide)).trans f40) rfl,Oper.upon_enter]
     refine (mdir_p U.mr M.ef (by omega) h1 h2).mono ?_
     rintro e w1 ⟨s_,A_,n_,c_,B_,m_,d_,t_,E_,i_,e_,F_,j_,f_,rfl,hq,hh⟩
     exact ⟨_,rfl,hh,s_,A_,n_,c_,B_,m_,d_,t_,E_,i_,e_,F_,j_,f_,rfl,hq⟩
   | 5,ho =>
     obtain rfl:o5_invb=o:=Option.some.inj ho
     cases hd
     have f37:sv 37=Value.agg #[.bool false,.slice none 0 0,.slice none 0 0,.bool false,.slice none 0 0,.slice none 0 0]:=hf ⟨0,.data⟩ (by simp [o5_invb]) rfl _ 37 rfl rfl (NE _ (by decide))
     have h41:VPG (x.dx v.e v.f) (x.dy v.e v.f) ((ku+l+(ku+l)+1)) (sv 41) w':=hf ⟨4,.data⟩ (by simp [o5_invb]) rfl _ 41 rfl rfl (NE _ (by decide))
     obtain ⟨s41_,A41_,n41_,c41_,B41_,m41_,d41_,t41_,E41_,i41_,e41_,F41_,j41_,f41_,f41,q41⟩:=h41
     refine wpOp_plain' (o:=o5_invb) rfl rfl ?_
     unfold Oper.wp o5_invb
     rw [rc_gesso_pt_Sub ((G sv 37 (by decide) (by decide)).trans f37) ((G sv 41 (by decide) (by decide)).trans f41) rfl,Oper.upon_enter]
     refine (psub_p (zpr _) q41.pr (by omega) (by omega) (.inl (by omega)) (by omega) (by omega)).mono ?_
     rintro e w1 ⟨s_,A_,n_,c_,B_,m_,d_,t_,E_,i_,e_,F_,j_,f_,rfl,hq,hh⟩
     exact ⟨_,rfl,hh,s_,A_,n_,c_,B_,m_,d_,t_,E_,i_,e_,F_,j_,f_,rfl,hq⟩
   | 6,ho=>cases ho;cases hd;exact absurd rfl (hia (B0_invb v x l ku) (List.Mem.head _))
   | 7,ho=>cases ho;cases hd
   | i+8,ho=>cases ho
 · intro p hp os sv w' g hos J0 p1 p3 hf
   simp only [List.mem_cons,List.not_mem_nil,or_false] at hp
   rcases hp with rfl
   · obtain rfl:o7_invb=os:=Option.some.inj hos
     have h1:VPG (0 - x.dx v.e v.f) (0 - x.dy v.e v.f) (1+(ku+l+(ku+l)+1)+1) (sv 42) w':=hf ⟨5,.data⟩ (by simp [o7_invb]) rfl _ 42 rfl rfl (NE _ (by decide))
     rw [← G sv 42 (by decide) (by decide)] at h1
     refine store_pg (x:=0 - x.dx v.e v.f) (y:=0 - x.dy v.e v.f) (k:=1+(ku+l+(ku+l)+1)+1) (ac:=putAll ac L_invb sv) (z:=.tmp 42) ?_ ?_ ?_
     · exact (G sv 7 (by decide) (by decide)).trans p1
     · exact h1
     · exact p3
 · intro sv w' J0 hF hB hap
   obtain ⟨g0,cs0,p0,r0,b0,⟨s0,A0,n0,c0,B0,m0,d0,t0,E0,i0,e0,F0,j0,f0,rfl,h0⟩⟩:=hB (B0_invb v x l ku) (List.Mem.head _)
   have p0':sv 7=.pointer (some ⟨g0,0,none⟩):=p0
   exact hend sv w' g0 _ _ _ _ _ _ _ _ _ _ _ _ _ _ h0 b0.at_ r0 p0'   J0
end
section
open Go Go.RowKit
attribute [local go_sem ↓] open_LVM open_STM open_LVN open_STN
theorem res_M2 {fn:Func} {a u:Tmp} (h:fn.results=#[.cell a 71,.tmp u]) (tmps:Array Value) (w:World) {g:Nat} {c:Array Value} {x:Value} (ha:tmps[a]?.getD undef=.pointer (some ⟨g,0,none⟩)) (hu:tmps[u]?.getD undef=x) (hl:(LVM ⟨g,0,none⟩).run Tryz.prog w=.ok (.agg c) w):(results fn tmps).run Tryz.prog w=.ok (.tuple #[.agg c,x]) w:=by
 rw [results_cell_tmp h]
 simp [asAddr,ha,hu,Result.andThen,open_LVM,hl]
theorem QG.on18 {w w':World} {u:Rat} {g k:Nat} {s:Bool} {A B:Option Addr} {n c m d:Nat} {s0:Bool} {s1:Bool} {s2:Bool} {s3:Bool} {s4:Bool} {s5:Bool} {A1:Option Addr} {n1 c1:Nat} {A2:Option Addr} {n2 c2:Nat} {A4:Option Addr} {n4 c4:Nat} {A5:Option Addr} {n5 c5:Nat} {A7:Option Addr} {n7 c7:Nat} {A8:Option Addr} {n8 c8:Nat} {A10:Option Addr} {n10 c10:Nat} {A11:Option Addr} {n11 c11:Nat} {A13:Option Addr} {n13 c13:Nat} {A14:Option Addr} {n14 c14:Nat} {A16:Option Addr} {n16 c16:Nat} {A17:Option Addr} {n17 c17:Nat} (h:QG w s A n c B m d u k) (Z:B18 w g (.bool s0) (.slice A1 n1 c1) (.slice A2 n2 c2) (.bool s1) (.slice A4 n4 c4) (.slice A5 n5 c5) (.bool s2) (.slice A7 n7 c7) (.slice A8 n8 c8) (.bool s3) (.slice A10 n10 c10) (.slice A11 n11 c11) (.bool s4) (.slice A13 n13 c13) (.slice A14 n14 c14) (.bool s5) (.slice A16 n16 c16) (.slice A17 n17 c17)) (ho:Only g w w'):QG w' s A n c B m d u k :=
 ⟨⟨h.1.1,h.1.2.1.only (h.1.2.1.offB18 Z) ho,h.1.2.2⟩,⟨h.2.1.only (h.2.1.offB18 Z) ho,h.2.2⟩⟩
theorem minv_z {k l:Nat} {v:AM} {m:MV} (M:MR w m v k l) (hk:k+k≤190) (h1:1≤k) (h0:v.det=0) :
 Calls Tryz.prog 38 #[.agg #[.bool m.a.s,.slice m.a.A m.a.n m.a.c,.slice m.a.B m.a.m m.a.d,.bool m.b.s,.slice m.b.A m.b.n m.b.c,.slice m.b.B m.b.m m.b.d,.bool m.c.s,.slice m.c.A m.c.n m.c.c,.slice m.c.B m.c.m m.c.d,.bool m.d.s,.slice m.d.A m.d.n m.d.c,.slice m.d.B m.d.m m.d.d,.bool m.e.s,.slice m.e.A m.e.n m.e.c,.slice m.e.B m.e.m m.e.d,.bool m.f.s,.slice m.f.A m.f.n m.f.c,.slice m.f.B m.f.m m.f.d]] w fun e w'=>e=.returned (.tuple #[.agg #[.bool false,.slice none 0 0,.slice none 0 0,.bool false,.slice none 0 0,.slice none 0 0,.bool false,.slice none 0 0,.slice none 0 0,.bool false,.slice none 0 0,.slice none 0 0,.bool false,.slice none 0 0,.slice none 0 0,.bool false,.slice none 0 0,.slice none 0 0],.int .i64 12])∧Below w.heap.size w w':=by
 go_enter Tryz.func38,Tryz.ntmps38
 go_upto_region 1 with (fail)
 generalize hW:World.alloc _ _=W
 obtain ⟨hb,XA,Z,hzW⟩:=mkbx45_15 hW;clear hW;replace M:=M.below hb
 refine invz_region (by simp) rfl XA M hk h1 h0 ?_
 intro V1 w_b g_k XK hg_k hvk hv5 hh
 simp only [putAll,Act.put,List.setIfInBounds_toArray,List.set_cons_zero,List.set_cons_succ,hvk,hv5]
 clear hvk hv5;replace M:=M.below hh;replace XA:=XA.below hh;replace Z:=Z.below hh;replace hb:=bend hb hh
 have zst:=Z.st (.bool false) (.slice none 0 0) (.slice none 0 0) (.bool false) (.slice none 0 0) (.slice none 0 0) (.bool false) (.slice none 0 0) (.slice none 0 0) (.bool false) (.slice none 0 0) (.slice none 0 0) (.bool false) (.slice none 0 0) (.slice none 0 0) (.bool false) (.slice none 0 0) (.slice none 0 0) (by simp [Value.oneCell'])
 go_wp2_with fail
 have Z2:=Z.set18 (.bool false) (.slice none 0 0) (.slice none 0 0) (.bool false) (.slice none 0 0) (.slice none 0 0) (.bool false) (.slice none 0 0) (.slice none 0 0) (.bool false) (.slice none 0 0) (.slice none 0 0) (.bool false) (.slice none 0 0) (.slice none 0 0) (.bool false) (.slice none 0 0) (.slice none 0 0)
 have gl:=Z2.ld
 refine bodyPost_ret (v:=.tuple #[.agg #[.bool false,.slice none 0 0,.slice none 0 0,.bool false,.slice none 0 0,.slice none 0 0,.bool false,.slice none 0 0,.slice none 0 0,.bool false,.slice none 0 0,.slice none 0 0,.bool false,.slice none 0 0,.slice none 0 0,.bool false,.slice none 0 0,.slice none 0 0],.int .i64 12]) (res_M2 Tryz.results38 _ _ rfl rfl gl) rfl ?_
 exact ⟨rfl,below_set18 hb (by omega) _ _ _ _ _ _ _ _ _ _ _ _ _ _ _ _ _ _⟩
theorem minv_p {k l:Nat} {v:AM} {m:MV} (M:MR w m v k l) (hk:k≤12) (h1:1≤k) (h2:1≤l) (hl:l≤40) (h0:v.det ≠ 0) :
 Calls Tryz.prog 38 #[.agg #[.bool m.a.s,.slice m.a.A m.a.n m.a.c,.slice m.a.B m.a.m m.a.d,.bool m.b.s,.slice m.b.A m.b.n m.b.c,.slice m.b.B m.b.m m.b.d,.bool m.c.s,.slice m.c.A m.c.n m.c.c,.slice m.c.B m.c.m m.c.d,.bool m.d.s,.slice m.d.A m.d.n m.d.c,.slice m.d.B m.d.m m.d.d,.bool m.e.s,.slice m.e.A m.e.n m.e.c,.slice m.e.B m.e.m m.e.d,.bool m.f.s,.slice m.f.A m.f.n m.f.c,.slice m.f.B m.f.m m.f.d]] w fun e w'=>∃ u:MV,e=.returned (.tuple #[.agg #[.bool u.a.s,.slice u.a.A u.a.n u.a.c,.slice u.a.B u.a.m u.a.d,.bool u.b.s,.slice u.b.A u.b.n u.b.c,.slice u.b.B u.b.m u.b.d,.bool u.c.s,.slice u.c.A u.c.n u.c.c,.slice u.c.B u.c.m u.c.d,.bool u.d.s,.slice u.d.A u.d.n u.d.c,.slice u.d.B u.d.m u.d.d,.bool u.e.s,.slice u.e.A u.e.n u.e.c,.slice u.e.B u.e.m u.e.d,.bool u.f.s,.slice u.f.A u.f.n u.f.c,.slice u.f.B u.f.m u.f.d],.int .i64 0])∧MG w' u v.inv (k+(1+(k+k+(k+k)+1))) (1+((k+(1+(k+k+(k+k)+1)))+l+((k+(1+(k+k+(k+k)+1)))+l)+1)+1)∧Below w.heap.size w w':=by
 go_enter Tryz.func38,Tryz.ntmps38
 go_upto_region 1 with (fail)
 generalize hW:World.alloc _ _=W
 obtain ⟨hb,XA,Z,hzW⟩:=mkbx45_15 hW;clear hW;replace M:=M.below hb
 refine invp_region (by simp) rfl XA M (by omega) h1 h0 ?_
 intro V1 w_t g_t s_t A_t n_t c_t B_t m_t d_t tq XT hg_t hvt hv5 hh
 simp only [putAll,Act.put,List.setIfInBounds_toArray,List.set_cons_zero,List.set_cons_succ,hvt,hv5]
 clear hvt hv5
 have hzt:w.heap.size+2≤w_t.heap.size:=by have:=hh.size;omega
 replace M:=M.below hh;replace XA:=XA.below hh;replace Z:=Z.below hh;replace hb:=bend hb hh
 go_upto_region 4 with (fail)
 refine invu_region (by simp) rfl rfl XA XT M tq (by omega) h1 (by omega) (by omega) ?_
 intro V2 w_u g_u u U XU hg_u hvu hh
 simp only [putAll,Act.put,List.setIfInBounds_toArray,List.set_cons_zero,List.set_cons_succ,hvu]
 clear hvu;replace M:=M.below hh;replace XA:=XA.below hh;replace Z:=Z.below hh;replace XT:=XT.below hh;replace hb:=bend hb hh
 go_upto_region 5 with (fail)
 have hlu:=XU.lt
 refine invb_region (by simp) rfl rfl XA XU M U (by omega) (by omega) h2 ?_
 intro V3 w_p g_p s_p A_p n_p c_p B_p m_p d_p t_p E_p i_p e_p F_p j_p f_p p XP hg_p hvp hh
 simp only [putAll,Act.put,List.setIfInBounds_toArray,List.set_cons_zero,List.set_cons_succ,hvp]
 clear hvp;replace M:=M.below hh;replace XA:=XA.below hh;replace Z:=Z.below hh;replace XT:=XT.below hh;replace U:=U.below hh;replace XU:=XU.below hh;replace hb:=bend hb hh
 go_upto_region 6 with (fail)
 have hne:g_p ≠ g_u:=by have:=XU.lt;omega
 have hnz:w.heap.size+1 ≠ g_u:=by omega
 have hne2:g_u ≠ g_p:=hne.symm
 obtain ⟨xp0,xp1,xp2,xp3,xp4,xp5⟩:=XP.all;have zu12:=XU.c12;have zv12:=XU.f12;have zu13:=XU.c13;have zv13:=XU.f13;have zu14:=XU.c14;have zv14:=XU.f14;have zu15:=XU.c15;have zv15:=XU.f15;have zu16:=XU.c16;have zv16:=XU.f16;have zu17:=XU.c17;have zv17:=XU.f17
 go_region
 have ho:=only_setef w_p g_u (.bool s_p) (.slice A_p n_p c_p) (.slice B_p m_p d_p) (.bool t_p) (.slice E_p i_p e_p) (.slice F_p j_p f_p)
 have XU2:=XU.setef (.bool s_p) (.slice A_p n_p c_p) (.slice B_p m_p d_p) (.bool t_p) (.slice E_p i_p e_p) (.slice F_p j_p f_p)
 have hb2:=below_setef hb (show w.heap.size≤g_u by omega) (.bool s_p) (.slice A_p n_p c_p) (.slice B_p m_p d_p) (.bool t_p) (.slice E_p i_p e_p) (.slice F_p j_p f_p)
 have Z2:=Z.restm hnz ho;have a1:=U.1.1.on18 XU ho;have a2:=U.1.2.on18 XU ho;have a3:=U.2.1.1.on18 XU ho;have a4:=U.2.1.2.on18 XU ho;have a5:=p.1.on18 XU ho;have a6:=p.2.on18 XU ho;clear U XU Z p XP ho hb xp0 xp1 xp2 xp3 xp4 xp5 zu12 zv12 zu13 zv13 zu14 zv14 zu15 zv15 zu16 zv16 zu17 zv17
 generalize hW2:((((((w_p.setCell ⟨g_u,12,none⟩ (.bool s_p)).setCell ⟨g_u,13,none⟩ (.slice A_p n_p c_p)).setCell ⟨g_u,14,none⟩ (.slice B_p m_p d_p)).setCell ⟨g_u,15,none⟩ (.bool t_p)).setCell ⟨g_u,16,none⟩ (.slice E_p i_p e_p)).setCell ⟨g_u,17,none⟩ (.slice F_p j_p f_p))=W2 at *
 clear hW2
 replace XU2:=XU2.below (Below.refl _ _).drew
 replace Z2:=Z2.below (Below.refl _ _).drew
 replace a1:=a1.below (Below.refl _ _).drew
 replace a2:=a2.below (Below.refl _ _).drew
 replace a3:=a3.below (Below.refl _ _).drew
 replace a4:=a4.below (Below.refl _ _).drew
 replace a5:=a5.below (Below.refl _ _).drew
 replace a6:=a6.below (Below.refl _ _).drew
 replace hb2:=hb2.drew
 generalize W2.drew=W3 at *
 have xul:=XU2.ld
 have zst:=Z2.st (.bool u.a.s) (.slice u.a.A u.a.n u.a.c) (.slice u.a.B u.a.m u.a.d) (.bool u.b.s) (.slice u.b.A u.b.n u.b.c) (.slice u.b.B u.b.m u.b.d) (.bool u.c.s) (.slice u.c.A u.c.n u.c.c) (.slice u.c.B u.c.m u.c.d) (.bool u.d.s) (.slice u.d.A u.d.n u.d.c) (.slice u.d.B u.d.m u.d.d) (.bool s_p) (.slice A_p n_p c_p) (.slice B_p m_p d_p) (.bool t_p) (.slice E_p i_p e_p) (.slice F_p j_p f_p) (by simp [Value.oneCell'])
 go_wp2_with fail
 have Z3:=Z2.set18 (.bool u.a.s) (.slice u.a.A u.a.n u.a.c) (.slice u.a.B u.a.m u.a.d) (.bool u.b.s) (.slice u.b.A u.b.n u.b.c) (.slice u.b.B u.b.m u.b.d) (.bool u.c.s) (.slice u.c.A u.c.n u.c.c) (.slice u.c.B u.c.m u.c.d) (.bool u.d.s) (.slice u.d.A u.d.n u.d.c) (.slice u.d.B u.d.m u.d.d) (.bool s_p) (.slice A_p n_p c_p) (.slice B_p m_p d_p) (.bool t_p) (.slice E_p i_p e_p) (.slice F_p j_p f_p)
 have gl:=Z3.ld
 refine bodyPost_ret (v:=.tuple #[.agg #[.bool u.a.s,.slice u.a.A u.a.n u.a.c,.slice u.a.B u.a.m u.a.d,.bool u.b.s,.slice u.b.A u.b.n u.b.c,.slice u.b.B u.b.m u.b.d,.bool u.c.s,.slice u.c.A u.c.n u.c.c,.slice u.c.B u.c.m u.c.d,.bool u.d.s,.slice u.d.A u.d.n u.d.c,.slice u.d.B u.d.m u.d.d,.bool s_p,.slice A_p n_p c_p,.slice B_p m_p d_p,.bool t_p,.slice E_p i_p e_p,.slice F_p j_p f_p],.int .i64 0]) (res_M2 Tryz.results38 _ _ rfl rfl gl) rfl ?_
 have hm:MG W3 ⟨u.a,u.b,u.c,u.d,⟨s_p,A_p,n_p,c_p,B_p,m_p,d_p⟩,⟨t_p,E_p,i_p,e_p,F_p,j_p,f_p⟩⟩ v.inv (k+(1+(k+k+(k+k)+1))) (1+((k+(1+(k+k+(k+k)+1)))+l+((k+(1+(k+k+(k+k)+1)))+l)+1)+1):=⟨⟨a1,a2⟩,⟨a3,a4⟩,⟨a5,a6⟩⟩
 have hm2:=hm.set18 Z2 (.bool u.a.s) (.slice u.a.A u.a.n u.a.c) (.slice u.a.B u.a.m u.a.d) (.bool u.b.s) (.slice u.b.A u.b.n u.b.c) (.slice u.b.B u.b.m u.b.d) (.bool u.c.s) (.slice u.c.A u.c.n u.c.c) (.slice u.c.B u.c.m u.c.d) (.bool u.d.s) (.slice u.d.A u.d.n u.d.c) (.slice u.d.B u.d.m u.d.d) (.bool s_p) (.slice A_p n_p c_p) (.slice B_p m_p d_p) (.bool t_p) (.slice E_p i_p e_p) (.slice F_p j_p f_p)
 have hb3:=below_set18 hb2 (show w.heap.size≤w.heap.size+1 by omega) (.bool u.a.s) (.slice u.a.A u.a.n u.a.c) (.slice u.a.B u.a.m u.a.d) (.bool u.b.s) (.slice u.b.A u.b.n u.b.c) (.slice u.b.B u.b.m u.b.d) (.bool u.c.s) (.slice u.c.A u.c.n u.c.c) (.slice u.c.B u.c.m u.c.d) (.bool u.d.s) (.slice u.d.A u.d.n u.d.c) (.slice u.d.B u.d.m u.d.d) (.bool s_p) (.slice A_p n_p c_p) (.slice B_p m_p d_p) (.bool t_p) (.slice E_p i_p e_p) (.slice F_p j_p f_p)
 exact ⟨⟨u.a,u.b,u.c,u.d,⟨s_p,A_p,n_p,c_p,B_p,m_p,d_p⟩,⟨t_p,E_p,i_p,e_p,F_p,j_p,f_p⟩⟩,rfl,hm2,hb3⟩
end
end Go.Proofs.YtgneghgfpkkkdaaGreat
