/- MatParts: part 15. -/
import Derived.Lib.SmallJoins
import Derived.OpenShut
import Derived.Test.YtgneghgfpkkkdaaGreatKMatParts0
import Derived.Test.YtgneghgfpkkkdaaGreatKMatParts12
import Derived.Test.YtgneghgfpkkkdaaGreatKMatParts14
set_option linter.unusedVariables false
set_option maxRecDepth 100000
set_option maxHeartbeats 16000000
variable {w:Go.World}
variable {s_o t_o:Bool} {A_o B_o E_o F_o:Option Go.Addr} {n_o c_o m_o d_o i_o e_o j_o f_o:Nat}
variable {s_p t_p:Bool} {A_p B_p E_p F_p:Option Go.Addr} {n_p c_p m_p d_p i_p e_p j_p f_p:Nat}
variable {s_q t_q:Bool} {A_q B_q E_q F_q:Option Go.Addr} {n_q c_q m_q d_q i_q e_q j_q f_q:Nat}
variable {s_x t_x:Bool} {A_x B_x E_x F_x:Option Go.Addr} {n_x c_x m_x d_x i_x e_x j_x f_x:Nat}
variable {s_y t_y:Bool} {A_y B_y E_y F_y:Option Go.Addr} {n_y c_y m_y d_y i_y e_y j_y f_y:Nat}
namespace Go.Proofs.YtgneghgfpkkkdaaGreat
section
open Go Go.RowKit
attribute [local go_sem ↓] open_LVM open_STM open_LVN open_STN
theorem zero1:Rat.divInt 0 1=0:=by decide +kernel
theorem unit1:Rat.divInt 1 1=1:=by decide +kernel
theorem run_buildp {ac:Act} {d1:Option Tmp} {y1:Nat} {pos:String} {af:Array Edge} :
 (execOp ac.eval ⟨d1,.build 91 #[(0,.const (Value.int IntKind.i64 65536)),(1,.const (Value.int IntKind.i64 0)),(2,.const (Value.int IntKind.i64 0)),(3,.const (Value.int IntKind.i64 65536)),(4,.const (Value.int IntKind.i64 96)),(5,.const (Value.int IntKind.i64 (-32)))],y1,pos,af,none⟩).run Tryz.prog w=.ok (.value (.agg #[.int .i64 65536,.int .i64 0,.int .i64 0,.int .i64 65536,.int .i64 96,.int .i64 (-32)])) w:=by
 go_simp
abbrev L_mpo:List Nat:=[25,26,27,7]
def o0_mpo:Oper:=⟨some 25,.load 71 (.tmp 3),71, "law.go:76",#[],none⟩
def o1_mpo:Oper:=⟨some 26,.call ⟨.value (.func 61),#[.const (Value.int IntKind.i64 0),.const (Value.int IntKind.i64 0)],#[2,2]⟩,29, "law.go:76",#[],none⟩
def o2_mpo:Oper:=⟨some 27,.call ⟨.value (.func 43),#[.tmp 25,.tmp 26],#[71,29]⟩,29, "law.go:76",#[⟨0,.data⟩,⟨1,.data⟩,⟨1,.chain⟩],none⟩
def o3_mpo:Oper:=⟨some 7,.alloc 29,0, "law.go:76",#[],none⟩
def o4_mpo:Oper:=⟨none,.store 29 (.tmp 7) (.tmp 27),0, "law.go:76",#[⟨3,.data⟩,⟨2,.data⟩,⟨2,.chain⟩,⟨0,.phase⟩,⟨1,.phase⟩,⟨2,.phase⟩,⟨3,.phase⟩],none⟩
theorem rc_gesso_gessolaw06_P {e:Operand→Value} {x0 x1:Operand} {d:Option Tmp} {y:Nat} {pos:String} {af:Array Edge} {u0 u1:Value} (h0:e x0=u0) (h1:e x1=u1) (hf:e (.func 61)=.func (.func 61) #[] #[]) :
 (execOp e ⟨d,.call ⟨.value (.func 61),#[x0,x1],#[2,2]⟩,y,pos,af,none⟩).run Tryz.prog w=.ok (.enter 61 #[u0,u1]) w:=by
 go_simp
theorem rc_gesso_mat_Apply {e:Operand→Value} {x0 x1:Operand} {d:Option Tmp} {y:Nat} {pos:String} {af:Array Edge} {u0 u1:Value} (h0:e x0=u0) (h1:e x1=u1) (hf:e (.func 43)=.func (.func 43) #[] #[]) :
 (execOp e ⟨d,.call ⟨.value (.func 43),#[x0,x1],#[71,29]⟩,y,pos,af,none⟩).run Tryz.prog w=.ok (.enter 43 #[u0,u1]) w:=by
 go_simp
def F_mpo (m:MV) (v:AM) (sl:Nat):Value→World→Prop :=
 match sl with
 | 25=>fun x _=>x=Value.agg #[.bool m.a.s,.slice m.a.A m.a.n m.a.c,.slice m.a.B m.a.m m.a.d,.bool m.b.s,.slice m.b.A m.b.n m.b.c,.slice m.b.B m.b.m m.b.d,.bool m.c.s,.slice m.c.A m.c.n m.c.c,.slice m.c.B m.c.m m.c.d,.bool m.d.s,.slice m.d.A m.d.n m.d.c,.slice m.d.B m.d.m m.d.d,.bool m.e.s,.slice m.e.A m.e.n m.e.c,.slice m.e.B m.e.m m.e.d,.bool m.f.s,.slice m.f.A m.f.n m.f.c,.slice m.f.B m.f.m m.f.d]
 | 26=>VPG (Rat.divInt 0 1) (Rat.divInt 0 1) (1)
 | 27=>VPG ((v.ax (Rat.divInt 0 1) (Rat.divInt 0 1))) ((v.ay (Rat.divInt 0 1) (Rat.divInt 0 1))) ((6+1+(6+1)+1+6+1))
 | _=>fun _ _=>True
def B0_mpo (v:AM):BoxOp :=
 ⟨3,4,7,29,#[.bool false,.slice none 0 0,.slice none 0 0,.bool false,.slice none 0 0,.slice none 0 0],fun cs w=>∃ s A n c B m d t E i e F j f,cs=#[.bool s,.slice A n c,.slice B m d,.bool t,.slice E i e,.slice F j f]∧PG w s A n c B m d t E i e F j f ((v.ax (Rat.divInt 0 1) (Rat.divInt 0 1))) ((v.ay (Rat.divInt 0 1) (Rat.divInt 0 1))) ((6+1+(6+1)+1+6+1))⟩
theorem mpo_region {id:Nat} {ac:Act} {Q:Exit→Act→World→Prop} {m:MV} {v:AM} {gm:Nat}
 (hsz:27 < ac.tmps.size) (e3:ac.eval (.tmp 3)=Value.pointer (some ⟨gm,0,none⟩)) (XA:B18 w gm (.bool m.a.s) (.slice m.a.A m.a.n m.a.c) (.slice m.a.B m.a.m m.a.d) (.bool m.b.s) (.slice m.b.A m.b.n m.b.c) (.slice m.b.B m.b.m m.b.d) (.bool m.c.s) (.slice m.c.A m.c.n m.c.c) (.slice m.c.B m.c.m m.c.d) (.bool m.d.s) (.slice m.d.A m.d.n m.d.c) (.slice m.d.B m.d.m m.d.d) (.bool m.e.s) (.slice m.e.A m.e.n m.e.c) (.slice m.e.B m.e.m m.e.d) (.bool m.f.s) (.slice m.f.A m.f.n m.f.c) (.slice m.f.B m.f.m m.f.d)) (M:MR w m v 6 6)
 (hend:∀ (V:Nat→Value) (w':World) (g0:Nat) (s0:Bool) (A0:Option Addr) (n0:Nat) (c0:Nat) (B0:Option Addr) (m0:Nat) (d0:Nat) (t0:Bool) (E0:Option Addr) (i0:Nat) (e0:Nat) (F0:Option Addr) (j0:Nat) (f0:Nat),PG w' s0 A0 n0 c0 B0 m0 d0 t0 E0 i0 e0 F0 j0 f0 ((v.ax (Rat.divInt 0 1) (Rat.divInt 0 1))) ((v.ay (Rat.divInt 0 1) (Rat.divInt 0 1))) ((6+1+(6+1)+1+6+1))→B6 w' g0 (.bool s0) (.slice A0 n0 c0) (.slice B0 m0 d0) (.bool t0) (.slice E0 i0 e0) (.slice F0 j0 f0)→w.heap.size≤g0→V 7=.pointer (some ⟨g0,0,none⟩)→Below w.heap.size w w'→Q .normal (putAll ac [25,26,27,7] V) w') :
 (Code.region id #[o0_mpo,o1_mpo,o2_mpo,o3_mpo,o4_mpo] true).wp Tryz.prog Q ac w:=by
 have hnd:L_mpo.Nodup:=by decide
 have G:∀ (sv:Nat→Value) (t:Nat),t ∈ L_mpo→t≤27→(putAll ac L_mpo sv).eval (.tmp t)=sv t:=fun sv t ht h=>eval_putAll_mem (t:=t) L_mpo ac hnd ht (Nat.lt_of_le_of_lt h hsz)
 have E3:∀ sv:Nat→Value,(putAll ac L_mpo sv).eval (.tmp 3)=Value.pointer (some ⟨gm,0,none⟩):=fun sv=>(eval_putAll_not (v:=sv) L_mpo ac (show 3 ∉ _ by decide)).trans e3
 have NE:∀ t:Nat,(t ≠ 7)→∀ p ∈ [B0_mpo v],t ≠ p.tA:=by
  intro t ht p hp
  simp only [List.mem_cons,List.not_mem_nil,or_false] at hp
  rcases hp with rfl
  · exact ht
 refine wp_region_flowsT L_mpo [B0_mpo v] (F_mpo m v) (by kernel_rfl) (by kernel_rfl) rfl hnd ?_ ?_ ?_ ?_ ?_ ?_ ?_ ?_
 · intro p hp
   simp only [List.mem_cons,List.not_mem_nil,or_false] at hp
   rcases hp with rfl
   · refine ⟨⟨o3_mpo,rfl,rfl,rfl,fun e w'=>run_alloc6⟩,⟨o4_mpo,rfl,rfl,rfl,⟨3,.data⟩,by simp [o4_mpo],rfl,rfl⟩,free6 _ _ _ _ _ _ _ _ _ _ _ _ _ _,?_,?_⟩
     · rintro cs w1 w2 ⟨s_,A_,n_,c_,B_,m_,d_,t_,E_,i_,e_,F_,j_,f_,rfl,h⟩ hb;exact ⟨s_,A_,n_,c_,B_,m_,d_,t_,E_,i_,e_,F_,j_,f_,rfl,h.below hb⟩
     · rintro T cs w1 w2 g c0 ⟨s_,A_,n_,c_,B_,m_,d_,t_,E_,i_,e_,F_,j_,f_,rfl,h⟩ hB ho;exact ⟨s_,A_,n_,c_,B_,m_,d_,t_,E_,i_,e_,F_,j_,f_,rfl,h.box hB ho⟩
 · intro p hp q hq h
   simp only [List.mem_cons,List.not_mem_nil,or_false] at hp hq
   rcases hp with rfl <;> rcases hq with rfl
   · rfl
 · intro p hp q hq h
   simp only [List.mem_cons,List.not_mem_nil,or_false] at hp hq
   rcases hp with rfl <;> rcases hq with rfl
   · rfl
 · intro i o h1 h2
   match i,h1 with
   | 0,h1=>cases h1;cases h2
   | 1,h1=>cases h1;cases h2
   | 2,h1=>cases h1;cases h2
   | 3,h1=>cases h1;cases h2
   | 4,h1=>exact ⟨B0_mpo v,List.Mem.head _,rfl⟩
   | i+5,h1=>cases h1
 · intro t
   unfold F_mpo
   split <;> first | exact (stays_eq _).inn _ | exact (stays_q _ _).inn _ | exact (stays_z _ _).inn _ | exact (stays_r _ _).inn _ | exact (stays_rq _ _).inn _ | exact (stays_pg _ _ _).inn _ | exact (stays_true).inn _
 · intro i o t sv w' ho hia hd J0 hf
   have XA:=XA.below J0;have M:=M.below J0
   match i,ho with
   | 0,ho =>
     obtain rfl:o0_mpo=o:=Option.some.inj ho
     cases hd
     refine wpOp_plain' (o:=o0_mpo) rfl rfl ?_
     unfold Oper.wp o0_mpo
     rw [run_loadM (E3 sv) XA,Oper.upon_value]
     exact ⟨_,rfl,Below.refl _ _,rfl⟩
   | 1,ho =>
     obtain rfl:o1_mpo=o:=Option.some.inj ho
     cases hd
     refine wpOp_plain' (o:=o1_mpo) rfl rfl ?_
     unfold Oper.wp o1_mpo
     rw [rc_gesso_gessolaw06_P (show (putAll ac L_mpo sv).eval (.const (Value.int IntKind.i64 0))=(Value.int IntKind.i64 0) from rfl) (show (putAll ac L_mpo sv).eval (.const (Value.int IntKind.i64 0))=(Value.int IntKind.i64 0) from rfl) rfl,Oper.upon_enter]
     refine (lawP 0 0 (by decide) (by decide) (by decide) (by decide) _).mono ?_
     rintro e w1 ⟨s_,A_,n_,c_,B_,m_,d_,t_,E_,i_,e_,F_,j_,f_,rfl,hq,hh⟩
     exact ⟨_,rfl,hh,s_,A_,n_,c_,B_,m_,d_,t_,E_,i_,e_,F_,j_,f_,rfl,hq⟩
   | 2,ho =>
     obtain rfl:o2_mpo=o:=Option.some.inj ho
     cases hd
     have f25:sv 25=Value.agg #[.bool m.a.s,.slice m.a.A m.a.n m.a.c,.slice m.a.B m.a.m m.a.d,.bool m.b.s,.slice m.b.A m.b.n m.b.c,.slice m.b.B m.b.m m.b.d,.bool m.c.s,.slice m.c.A m.c.n m.c.c,.slice m.c.B m.c.m m.c.d,.bool m.d.s,.slice m.d.A m.d.n m.d.c,.slice m.d.B m.d.m m.d.d,.bool m.e.s,.slice m.e.A m.e.n m.e.c,.slice m.e.B m.e.m m.e.d,.bool m.f.s,.slice m.f.A m.f.n m.f.c,.slice m.f.B m.f.m m.f.d]:=hf ⟨0,.data⟩ (by simp [o2_mpo]) rfl _ 25 rfl rfl (NE _ (by decide))
     have h26:VPG (Rat.divInt 0 1) (Rat.divInt 0 1) (1) (sv 26) w':=hf ⟨1,.data⟩ (by simp [o2_mpo]) rfl _ 26 rfl rfl (NE _ (by decide))
     obtain ⟨s26_,A26_,n26_,c26_,B26_,m26_,d26_,t26_,E26_,i26_,e26_,F26_,j26_,f26_,f26,q26⟩:=h26
     refine wpOp_plain' (o:=o2_mpo) rfl rfl ?_
     unfold Oper.wp o2_mpo
     rw [rc_gesso_mat_Apply ((G sv 25 (by decide) (by decide)).trans f25) ((G sv 26 (by decide) (by decide)).trans f26) rfl,Oper.upon_enter]
     refine (mapply_p M q26.pr (by decide) (by decide) (by decide) (by decide) (by decide)).mono ?_
     rintro e w1 ⟨s_,A_,n_,c_,B_,m_,d_,t_,E_,i_,e_,F_,j_,f_,rfl,hq,hh⟩
     exact ⟨_,rfl,hh,s_,A_,n_,c_,B_,m_,d_,t_,E_,i_,e_,F_,j_,f_,rfl,hq⟩
   | 3,ho=>cases ho;cases hd;exact absurd rfl (hia (B0_mpo v) (List.Mem.head _))
   | 4,ho=>cases ho;cases hd
   | i+5,ho=>cases ho
 · intro p hp os sv w' g hos J0 p1 p3 hf
   simp only [List.mem_cons,List.not_mem_nil,or_false] at hp
   rcases hp with rfl
   · obtain rfl:o4_mpo=os:=Option.some.inj hos
     have h1:VPG ((v.ax (Rat.divInt 0 1) (Rat.divInt 0 1))) ((v.ay (Rat.divInt 0 1) (Rat.divInt 0 1))) ((6+1+(6+1)+1+6+1)) (sv 27) w':=hf ⟨2,.data⟩ (by simp [o4_mpo]) rfl _ 27 rfl rfl (NE _ (by decide))
     rw [← G sv 27 (by decide) (by decide)] at h1
     refine store_pg (x:=(v.ax (Rat.divInt 0 1) (Rat.divInt 0 1))) (y:=(v.ay (Rat.divInt 0 1) (Rat.divInt 0 1))) (k:=(6+1+(6+1)+1+6+1)) (ac:=putAll ac L_mpo sv) (z:=.tmp 27) ?_ ?_ ?_
     · exact (G sv 7 (by decide) (by decide)).trans p1
     · exact h1
     · exact p3
 · intro sv w' J0 hF hB hap
   obtain ⟨g0,cs0,p0,r0,b0,⟨s0,A0,n0,c0,B0,m0,d0,t0,E0,i0,e0,F0,j0,f0,rfl,h0⟩⟩:=hB (B0_mpo v) (List.Mem.head _)
   have p0':sv 7=.pointer (some ⟨g0,0,none⟩):=p0
   exact hend sv w' g0 _ _ _ _ _ _ _ _ _ _ _ _ _ _ h0 b0.at_ r0 p0'   J0
abbrev L_mps:List Nat:=[28,29,30,31,32,33,34,35,36,8]
def o0_mps:Oper:=⟨some 28,.load 71 (.tmp 3),71, "law.go:77",#[],none⟩
def o1_mps:Oper:=⟨some 29,.load 29 (.tmp 4),29, "law.go:77",#[],none⟩
def o2_mps:Oper:=⟨some 30,.call ⟨.value (.func 43),#[.tmp 28,.tmp 29],#[71,29]⟩,29, "law.go:77",#[⟨0,.data⟩,⟨1,.data⟩],none⟩
def o3_mps:Oper:=⟨some 31,.load 71 (.tmp 3),71, "law.go:77",#[],none⟩
def o4_mps:Oper:=⟨some 32,.load 29 (.tmp 5),29, "law.go:77",#[],none⟩
def o5_mps:Oper:=⟨some 33,.call ⟨.value (.func 43),#[.tmp 31,.tmp 32],#[71,29]⟩,29, "law.go:77",#[⟨3,.data⟩,⟨4,.data⟩,⟨2,.chain⟩],none⟩
def o6_mps:Oper:=⟨some 34,.call ⟨.value (.func 62),#[.tmp 30,.tmp 33],#[29,29]⟩,29, "law.go:77",#[⟨2,.data⟩,⟨5,.data⟩,⟨5,.chain⟩],none⟩
def o7_mps:Oper:=⟨some 35,.load 29 (.tmp 7),29, "law.go:77",#[],none⟩
def o8_mps:Oper:=⟨some 36,.call ⟨.value (.func 57),#[.tmp 34,.tmp 35],#[29,29]⟩,29, "law.go:77",#[⟨6,.data⟩,⟨7,.data⟩,⟨6,.chain⟩],none⟩
def o9_mps:Oper:=⟨some 8,.alloc 29,0, "law.go:77",#[],none⟩
def o10_mps:Oper:=⟨none,.store 29 (.tmp 8) (.tmp 36),0, "law.go:77",#[⟨9,.data⟩,⟨8,.data⟩,⟨8,.chain⟩,⟨0,.phase⟩,⟨1,.phase⟩,⟨2,.phase⟩,⟨3,.phase⟩,⟨4,.phase⟩,⟨5,.phase⟩,⟨6,.phase⟩,⟨7,.phase⟩,⟨8,.phase⟩,⟨9,.phase⟩],none⟩
theorem rc_gesso_pt_Add {e:Operand→Value} {x0 x1:Operand} {d:Option Tmp} {y:Nat} {pos:String} {af:Array Edge} {u0 u1:Value} (h0:e x0=u0) (h1:e x1=u1) (hf:e (.func 62)=.func (.func 62) #[] #[]) :
 (execOp e ⟨d,.call ⟨.value (.func 62),#[x0,x1],#[29,29]⟩,y,pos,af,none⟩).run Tryz.prog w=.ok (.enter 62 #[u0,u1]) w:=by
 go_simp
def F_mps (m:MV) (v:AM) (s_p:Bool) (t_p:Bool) (A_p:Option Addr) (B_p:Option Addr) (E_p:Option Addr) (F_p:Option Addr) (n_p:Nat) (c_p:Nat) (m_p:Nat) (d_p:Nat) (i_p:Nat) (e_p:Nat) (j_p:Nat) (f_p:Nat) (s_q:Bool) (t_q:Bool) (A_q:Option Addr) (B_q:Option Addr) (E_q:Option Addr) (F_q:Option Addr) (n_q:Nat) (c_q:Nat) (m_q:Nat) (d_q:Nat) (i_q:Nat) (e_q:Nat) (j_q:Nat) (f_q:Nat) (s_o:Bool) (t_o:Bool) (A_o:Option Addr) (B_o:Option Addr) (E_o:Option Addr) (F_o:Option Addr) (n_o:Nat) (c_o:Nat) (m_o:Nat) (d_o:Nat) (i_o:Nat) (e_o:Nat) (j_o:Nat) (f_o:Nat) (px:Rat) (py:Rat) (qx:Rat) (qy:Rat) (ox:Rat) (oy:Rat) (sl:Nat):Value→World→Prop :=
 match sl with
 | 28=>fun x _=>x=Value.agg #[.bool m.a.s,.slice m.a.A m.a.n m.a.c,.slice m.a.B m.a.m m.a.d,.bool m.b.s,.slice m.b.A m.b.n m.b.c,.slice m.b.B m.b.m m.b.d,.bool m.c.s,.slice m.c.A m.c.n m.c.c,.slice m.c.B m.c.m m.c.d,.bool m.d.s,.slice m.d.A m.d.n m.d.c,.slice m.d.B m.d.m m.d.d,.bool m.e.s,.slice m.e.A m.e.n m.e.c,.slice m.e.B m.e.m m.e.d,.bool m.f.s,.slice m.f.A m.f.n m.f.c,.slice m.f.B m.f.m m.f.d]
 | 29=>fun x _=>x=Value.agg #[.bool s_p,.slice A_p n_p c_p,.slice B_p m_p d_p,.bool t_p,.slice E_p i_p e_p,.slice F_p j_p f_p]
 | 30=>VPG (v.ax px py) (v.ay px py) ((6+6+(6+6)+1+6+1))
 | 31=>fun x _=>x=Value.agg #[.bool m.a.s,.slice m.a.A m.a.n m.a.c,.slice m.a.B m.a.m m.a.d,.bool m.b.s,.slice m.b.A m.b.n m.b.c,.slice m.b.B m.b.m m.b.d,.bool m.c.s,.slice m.c.A m.c.n m.c.c,.slice m.c.B m.c.m m.c.d,.bool m.d.s,.slice m.d.A m.d.n m.d.c,.slice m.d.B m.d.m m.d.d,.bool m.e.s,.slice m.e.A m.e.n m.e.c,.slice m.e.B m.e.m m.e.d,.bool m.f.s,.slice m.f.A m.f.n m.f.c,.slice m.f.B m.f.m m.f.d]
 | 32=>fun x _=>x=Value.agg #[.bool s_q,.slice A_q n_q c_q,.slice B_q m_q d_q,.bool t_q,.slice E_q i_q e_q,.slice F_q j_q f_q]
 | 33=>VPG (v.ax qx qy) (v.ay qx qy) ((6+6+(6+6)+1+6+1))
 | 34=>VPG (v.ax px py+v.ax qx qy) (v.ay px py+v.ay qx qy) ((6+6+(6+6)+1+6+1)+(6+6+(6+6)+1+6+1)+1)
 | 35=>fun x _=>x=Value.agg #[.bool s_o,.slice A_o n_o c_o,.slice B_o m_o d_o,.bool t_o,.slice E_o i_o e_o,.slice F_o j_o f_o]
 | 36=>VPG (v.ax px py+v.ax qx qy - ox) (v.ay px py+v.ay qx qy - oy) (((6+6+(6+6)+1+6+1)+(6+6+(6+6)+1+6+1)+1)+(6+1+(6+1)+1+6+1)+1)
 | _=>fun _ _=>True
def B0_mps (v:AM) (px:Rat) (py:Rat) (qx:Rat) (qy:Rat) (ox:Rat) (oy:Rat):BoxOp :=
 ⟨9,10,8,29,#[.bool false,.slice none 0 0,.slice none 0 0,.bool false,.slice none 0 0,.slice none 0 0],fun cs w=>∃ s A n c B m d t E i e F j f,cs=#[.bool s,.slice A n c,.slice B m d,.bool t,.slice E i e,.slice F j f]∧PG w s A n c B m d t E i e F j f (v.ax px py+v.ax qx qy - ox) (v.ay px py+v.ay qx qy - oy) (((6+6+(6+6)+1+6+1)+(6+6+(6+6)+1+6+1)+1)+(6+1+(6+1)+1+6+1)+1)⟩
theorem mps_region {id:Nat} {ac:Act} {Q:Exit→Act→World→Prop} {m:MV} {v:AM} {gm:Nat} {px py qx qy ox oy:Rat} {gp gq go:Nat}
 (hsz:36 < ac.tmps.size) (e3:ac.eval (.tmp 3)=Value.pointer (some ⟨gm,0,none⟩)) (e4:ac.eval (.tmp 4)=Value.pointer (some ⟨gp,0,none⟩)) (e5:ac.eval (.tmp 5)=Value.pointer (some ⟨gq,0,none⟩)) (e7:ac.eval (.tmp 7)=Value.pointer (some ⟨go,0,none⟩)) (XA:B18 w gm (.bool m.a.s) (.slice m.a.A m.a.n m.a.c) (.slice m.a.B m.a.m m.a.d) (.bool m.b.s) (.slice m.b.A m.b.n m.b.c) (.slice m.b.B m.b.m m.b.d) (.bool m.c.s) (.slice m.c.A m.c.n m.c.c) (.slice m.c.B m.c.m m.c.d) (.bool m.d.s) (.slice m.d.A m.d.n m.d.c) (.slice m.d.B m.d.m m.d.d) (.bool m.e.s) (.slice m.e.A m.e.n m.e.c) (.slice m.e.B m.e.m m.e.d) (.bool m.f.s) (.slice m.f.A m.f.n m.f.c) (.slice m.f.B m.f.m m.f.d)) (XP:B6 w gp (.bool s_p) (.slice A_p n_p c_p) (.slice B_p m_p d_p) (.bool t_p) (.slice E_p i_p e_p) (.slice F_p j_p f_p)) (XQ:B6 w gq (.bool s_q) (.slice A_q n_q c_q) (.slice B_q m_q d_q) (.bool t_q) (.slice E_q i_q e_q) (.slice F_q j_q f_q)) (XO:B6 w go (.bool s_o) (.slice A_o n_o c_o) (.slice B_o m_o d_o) (.bool t_o) (.slice E_o i_o e_o) (.slice F_o j_o f_o)) (M:MR w m v 6 6) (p:PR w s_p A_p n_p c_p B_p m_p d_p t_p E_p i_p e_p F_p j_p f_p px py 6) (q:PR w s_q A_q n_q c_q B_q m_q d_q t_q E_q i_q e_q F_q j_q f_q qx qy 6) (o0:PG w s_o A_o n_o c_o B_o m_o d_o t_o E_o i_o e_o F_o j_o f_o ox oy (6+1+(6+1)+1+6+1))
 (hend:∀ (V:Nat→Value) (w':World) (g0:Nat) (s0:Bool) (A0:Option Addr) (n0:Nat) (c0:Nat) (B0:Option Addr) (m0:Nat) (d0:Nat) (t0:Bool) (E0:Option Addr) (i0:Nat) (e0:Nat) (F0:Option Addr) (j0:Nat) (f0:Nat),PG w' s0 A0 n0 c0 B0 m0 d0 t0 E0 i0 e0 F0 j0 f0 (v.ax px py+v.ax qx qy - ox) (v.ay px py+v.ay qx qy - oy) (((6+6+(6+6)+1+6+1)+(6+6+(6+6)+1+6+1)+1)+(6+1+(6+1)+1+6+1)+1)→B6 w' g0 (.bool s0) (.slice A0 n0 c0) (.slice B0 m0 d0) (.bool t0) (.slice E0 i0 e0) (.slice F0 j0 f0)→w.heap.size≤g0→V 8=.pointer (some ⟨g0,0,none⟩)→Below w.heap.size w w'→Q .normal (putAll ac [28,29,30,31,32,33,34,35,36,8] V) w') :
 (Code.region id #[o0_mps,o1_mps,o2_mps,o3_mps,o4_mps,o5_mps,o6_mps,o7_mps,o8_mps,o9_mps,o10_mps] true).wp Tryz.prog Q ac w:=by
 have hnd:L_mps.Nodup:=by decide
 have G:∀ (sv:Nat→Value) (t:Nat),t ∈ L_mps→t≤36→(putAll ac L_mps sv).eval (.tmp t)=sv t:=fun sv t ht h=>eval_putAll_mem (t:=t) L_mps ac hnd ht (Nat.lt_of_le_of_lt h hsz)
 have E3:∀ sv:Nat→Value,(putAll ac L_mps sv).eval (.tmp 3)=Value.pointer (some ⟨gm,0,none⟩):=fun sv=>(eval_putAll_not (v:=sv) L_mps ac (show 3 ∉ _ by decide)).trans e3
 have E4:∀ sv:Nat→Value,(putAll ac L_mps sv).eval (.tmp 4)=Value.pointer (some ⟨gp,0,none⟩):=fun sv=>(eval_putAll_not (v:=sv) L_mps ac (show 4 ∉ _ by decide)).trans e4
 have E5:∀ sv:Nat→Value,(putAll ac L_mps sv).eval (.tmp 5)=Value.pointer (some ⟨gq,0,none⟩):=fun sv=>(eval_putAll_not (v:=sv) L_mps ac (show 5 ∉ _ by decide)).trans e5
 have E7:∀ sv:Nat→Value,(putAll ac L_mps sv).eval (.tmp 7)=Value.pointer (some ⟨go,0,none⟩):=fun sv=>(eval_putAll_not (v:=sv) L_mps ac (show 7 ∉ _ by decide)).trans e7
 have NE:∀ t:Nat,(t ≠ 8)→∀ p ∈ [B0_mps v px py qx qy ox oy],t ≠ p.tA:=by
  intro t ht p hp
  simp only [List.mem_cons,List.not_mem_nil,or_false] at hp
  rcases hp with rfl
  · exact ht
 refine wp_region_flowsT L_mps [B0_mps v px py qx qy ox oy] (F_mps m v s_p t_p A_p B_p E_p F_p n_p c_p m_p d_p i_p e_p j_p f_p s_q t_q A_q B_q E_q F_q n_q c_q m_q d_q i_q e_q j_q f_q s_o t_o A_o B_o E_o F_o n_o c_o m_o d_o i_o e_o j_o f_o px py qx qy ox oy) (by kernel_rfl) (by kernel_rfl) rfl hnd ?_ ?_ ?_ ?_ ?_ ?_ ?_ ?_
 · intro p hp
   simp only [List.mem_cons,List.not_mem_nil,or_false] at hp
   rcases hp with rfl
   · refine ⟨⟨o9_mps,rfl,rfl,rfl,fun e w'=>run_alloc6⟩,⟨o10_mps,rfl,rfl,rfl,⟨9,.data⟩,by simp [o10_mps],rfl,rfl⟩,free6 _ _ _ _ _ _ _ _ _ _ _ _ _ _,?_,?_⟩
     · rintro cs w1 w2 ⟨s_,A_,n_,c_,B_,m_,d_,t_,E_,i_,e_,F_,j_,f_,rfl,h⟩ hb;exact ⟨s_,A_,n_,c_,B_,m_,d_,t_,E_,i_,e_,F_,j_,f_,rfl,h.below hb⟩
     · rintro T cs w1 w2 g c0 ⟨s_,A_,n_,c_,B_,m_,d_,t_,E_,i_,e_,F_,j_,f_,rfl,h⟩ hB ho;exact ⟨s_,A_,n_,c_,B_,m_,d_,t_,E_,i_,e_,F_,j_,f_,rfl,h.box hB ho⟩
 · intro p hp q hq h
   simp only [List.mem_cons,List.not_mem_nil,or_false] at hp hq
   rcases hp with rfl <;> rcases hq with rfl
   · rfl
 · intro p hp q hq h
   simp only [List.mem_cons,List.not_mem_nil,or_false] at hp hq
   rcases hp with rfl <;> rcases hq with rfl
   · rfl
 · intro i o h1 h2
   match i,h1 with
   | 0,h1=>cases h1;cases h2
   | 1,h1=>cases h1;cases h2
   | 2,h1=>cases h1;cases h2
   | 3,h1=>cases h1;cases h2
   | 4,h1=>cases h1;cases h2
   | 5,h1=>cases h1;cases h2
   | 6,h1=>cases h1;cases h2
   | 7,h1=>cases h1;cases h2
   | 8,h1=>cases h1;cases h2
   | 9,h1=>cases h1;cases h2
   | 10,h1=>exact ⟨B0_mps v px py qx qy ox oy,List.Mem.head _,rfl⟩
   | i+11,h1=>cases h1
 · intro t
   unfold F_mps
   split <;> first | exact (stays_eq _).inn _ | exact (stays_q _ _).inn _ | exact (stays_z _ _).inn _ | exact (stays_r _ _).inn _ | exact (stays_rq _ _).inn _ | exact (stays_pg _ _ _).inn _ | exact (stays_true).inn _
 · intro i o t sv w' ho hia hd J0 hf
   have XA:=XA.below J0;have XP:=XP.below J0;have XQ:=XQ.below J0;have XO:=XO.below J0;have M:=M.below J0;have p:=p.below J0;have q:=q.below J0;have o0:=o0.below J0
   match i,ho with
   | 0,ho =>
     obtain rfl:o0_mps=o:=Option.some.inj ho
     cases hd
     refine wpOp_plain' (o:=o0_mps) rfl rfl ?_
     unfold Oper.wp o0_mps
     rw [run_loadM (E3 sv) XA,Oper.upon_value]
     exact ⟨_,rfl,Below.refl _ _,rfl⟩
   | 1,ho =>
     obtain rfl:o1_mps=o:=Option.some.inj ho
     cases hd
     refine wpOp_plain' (o:=o1_mps) rfl rfl ?_
     unfold Oper.wp o1_mps
     rw [run_load6 (E4 sv) XP.c0 XP.c1 XP.c2 XP.c3 XP.c4 XP.c5,Oper.upon_value]
     exact ⟨_,rfl,Below.refl _ _,rfl⟩
   | 2,ho =>
     obtain rfl:o2_mps=o:=Option.some.inj ho
     cases hd
     have f28:sv 28=Value.agg #[.bool m.a.s,.slice m.a.A m.a.n m.a.c,.slice m.a.B m.a.m m.a.d,.bool m.b.s,.slice m.b.A m.b.n m.b.c,.slice m.b.B m.b.m m.b.d,.bool m.c.s,.slice m.c.A m.c.n m.c.c,.slice m.c.B m.c.m m.c.d,.bool m.d.s,.slice m.d.A m.d.n m.d.c,.slice m.d.B m.d.m m.d.d,.bool m.e.s,.slice m.e.A m.e.n m.e.c,.slice m.e.B m.e.m m.e.d,.bool m.f.s,.slice m.f.A m.f.n m.f.c,.slice m.f.B m.f.m m.f.d]:=hf ⟨0,.data⟩ (by simp [o2_mps]) rfl _ 28 rfl rfl (NE _ (by decide))
     have f29:sv 29=Value.agg #[.bool s_p,.slice A_p n_p c_p,.slice B_p m_p d_p,.bool t_p,.slice E_p i_p e_p,.slice F_p j_p f_p]:=hf ⟨1,.data⟩ (by simp [o2_mps]) rfl _ 29 rfl rfl (NE _ (by decide))
     refine wpOp_plain' (o:=o2_mps) rfl rfl ?_
     unfold Oper.wp o2_mps
     rw [rc_gesso_mat_Apply ((G sv 28 (by decide) (by decide)).trans f28) ((G sv 29 (by decide) (by decide)).trans f29) rfl,Oper.upon_enter]
     refine (mapply_p M p (by decide) (by decide) (by decide) (by decide) (by decide)).mono ?_
     rintro e w1 ⟨s_,A_,n_,c_,B_,m_,d_,t_,E_,i_,e_,F_,j_,f_,rfl,hq,hh⟩
     exact ⟨_,rfl,hh,s_,A_,n_,c_,B_,m_,d_,t_,E_,i_,e_,F_,j_,f_,rfl,hq⟩
   | 3,ho =>
     obtain rfl:o3_mps=o:=Option.some.inj ho
     cases hd
     refine wpOp_plain' (o:=o3_mps) rfl rfl ?_
     unfold Oper.wp o3_mps
     rw [run_loadM (E3 sv) XA,Oper.upon_value]
     exact ⟨_,rfl,Below.refl _ _,rfl⟩
   | 4,ho =>
     obtain rfl:o4_mps=o:=Option.some.inj ho
     cases hd
     refine wpOp_plain' (o:=o4_mps) rfl rfl ?_
     unfold Oper.wp o4_mps
     rw [run_load6 (E5 sv) XQ.c0 XQ.c1 XQ.c2 XQ.c3 XQ.c4 XQ.c5,Oper.upon_value]
     exact ⟨_,rfl,Below.refl _ _,rfl⟩
   | 5,ho =>
     obtain rfl:o5_mps=o:=Option.some.inj ho
     cases hd
     have f31:sv 31=Value.agg #[.bool m.a.s,.slice m.a.A m.a.n m.a.c,.slice m.a.B m.a.m m.a.d,.bool m.b.s,.slice m.b.A m.b.n m.b.c,.slice m.b.B m.b.m m.b.d,.bool m.c.s,.slice m.c.A m.c.n m.c.c,.slice m.c.B m.c.m m.c.d,.bool m.d.s,.slice m.d.A m.d.n m.d.c,.slice m.d.B m.d.m m.d.d,.bool m.e.s,.slice m.e.A m.e.n m.e.c,.slice m.e.B m.e.m m.e.d,.bool m.f.s,.slice m.f.A m.f.n m.f.c,.slice m.f.B m.f.m m.f.d]:=hf ⟨3,.data⟩ (by simp [o5_mps]) rfl _ 31 rfl rfl (NE _ (by decide))
     have f32:sv 32=Value.agg #[.bool s_q,.slice A_q n_q c_q,.slice B_q m_q d_q,.bool t_q,.slice E_q i_q e_q,.slice F_q j_q f_q]:=hf ⟨4,.data⟩ (by simp [o5_mps]) rfl _ 32 rfl rfl (NE _ (by decide))
     refine wpOp_plain' (o:=o5_mps) rfl rfl ?_
     unfold Oper.wp o5_mps
     rw [rc_gesso_mat_Apply ((G sv 31 (by decide) (by decide)).trans f31) ((G sv 32 (by decide) (by decide)).trans f32) rfl,Oper.upon_enter]
     refine (mapply_p M q (by decide) (by decide) (by decide) (by decide) (by decide)).mono ?_
     rintro e w1 ⟨s_,A_,n_,c_,B_,m_,d_,t_,E_,i_,e_,F_,j_,f_,rfl,hq,hh⟩
     exact ⟨_,rfl,hh,s_,A_,n_,c_,B_,m_,d_,t_,E_,i_,e_,F_,j_,f_,rfl,hq⟩
   | 6,ho =>
     obtain rfl:o6_mps=o:=Option.some.inj ho
     cases hd
     have h30:VPG (v.ax px py) (v.ay px py) ((6+6+(6+6)+1+6+1)) (sv 30) w':=hf ⟨2,.data⟩ (by simp [o6_mps]) rfl _ 30 rfl rfl (NE _ (by decide))
     obtain ⟨s30_,A30_,n30_,c30_,B30_,m30_,d30_,t30_,E30_,i30_,e30_,F30_,j30_,f30_,f30,q30⟩:=h30
     have h33:VPG (v.ax qx qy) (v.ay qx qy) ((6+6+(6+6)+1+6+1)) (sv 33) w':=hf ⟨5,.data⟩ (by simp [o6_mps]) rfl _ 33 rfl rfl (NE _ (by decide))
     obtain ⟨s33_,A33_,n33_,c33_,B33_,m33_,d33_,t33_,E33_,i33_,e33_,F33_,j33_,f33_,f33,q33⟩:=h33
     refine wpOp_plain' (o:=o6_mps) rfl rfl ?_
     unfold Oper.wp o6_mps
     rw [rc_gesso_pt_Add ((G sv 30 (by decide) (by decide)).trans f30) ((G sv 33 (by decide) (by decide)).trans f33) rfl,Oper.upon_enter]
     refine (padd_p q30.pr q33.pr (by decide) (by decide) (.inl (by decide)) (by decide) (by decide)).mono ?_
     rintro e w1 ⟨s_,A_,n_,c_,B_,m_,d_,t_,E_,i_,e_,F_,j_,f_,rfl,hq,hh⟩
     exact ⟨_,rfl,hh,s_,A_,n_,c_,B_,m_,d_,t_,E_,i_,e_,F_,j_,f_,rfl,hq⟩
   | 7,ho =>
     obtain rfl:o7_mps=o:=Option.some.inj ho
     cases hd
     refine wpOp_plain' (o:=o7_mps) rfl rfl ?_
     unfold Oper.wp o7_mps
     rw [run_load6 (E7 sv) XO.c0 XO.c1 XO.c2 XO.c3 XO.c4 XO.c5,Oper.upon_value]
     exact ⟨_,rfl,Below.refl _ _,rfl⟩
   | 8,ho =>
     obtain rfl:o8_mps=o:=Option.some.inj ho
     cases hd
     have h34:VPG (v.ax px py+v.ax qx qy) (v.ay px py+v.ay qx qy) ((6+6+(6+6)+1+6+1)+(6+6+(6+6)+1+6+1)+1) (sv 34) w':=hf ⟨6,.data⟩ (by simp [o8_mps]) rfl _ 34 rfl rfl (NE _ (by decide))
     obtain ⟨s34_,A34_,n34_,c34_,B34_,m34_,d34_,t34_,E34_,i34_,e34_,F34_,j34_,f34_,f34,q34⟩:=h34
     have f35:sv 35=Value.agg #[.bool s_o,.slice A_o n_o c_o,.slice B_o m_o d_o,.bool t_o,.slice E_o i_o e_o,.slice F_o j_o f_o]:=hf ⟨7,.data⟩ (by simp [o8_mps]) rfl _ 35 rfl rfl (NE _ (by decide))
     refine wpOp_plain' (o:=o8_mps) rfl rfl ?_
     unfold Oper.wp o8_mps
     rw [rc_gesso_pt_Sub ((G sv 34 (by decide) (by decide)).trans f34) ((G sv 35 (by decide) (by decide)).trans f35) rfl,Oper.upon_enter]
     refine (psub_p q34.pr o0.pr (by decide) (by decide) (.inl (by decide)) (by decide) (by decide)).mono ?_
     rintro e w1 ⟨s_,A_,n_,c_,B_,m_,d_,t_,E_,i_,e_,F_,j_,f_,rfl,hq,hh⟩
     exact ⟨_,rfl,hh,s_,A_,n_,c_,B_,m_,d_,t_,E_,i_,e_,F_,j_,f_,rfl,hq⟩
   | 9,ho=>cases ho;cases hd;exact absurd rfl (hia (B0_mps v px py qx qy ox oy) (List.Mem.head _))
   | 10,ho=>cases ho;cases hd
   | i+11,ho=>cases ho
 · intro p hp os sv w' g hos J0 p1 p3 hf
   simp only [List.mem_cons,List.not_mem_nil,or_false] at hp
   rcases hp with rfl
   · obtain rfl:o10_mps=os:=Option.some.inj hos
     have h1:VPG (v.ax px py+v.ax qx qy - ox) (v.ay px py+v.ay qx qy - oy) (((6+6+(6+6)+1+6+1)+(6+6+(6+6)+1+6+1)+1)+(6+1+(6+1)+1+6+1)+1) (sv 36) w':=hf ⟨8,.data⟩ (by simp [o10_mps]) rfl _ 36 rfl rfl (NE _ (by decide))
     rw [← G sv 36 (by decide) (by decide)] at h1
     refine store_pg (x:=v.ax px py+v.ax qx qy - ox) (y:=v.ay px py+v.ay qx qy - oy) (k:=((6+6+(6+6)+1+6+1)+(6+6+(6+6)+1+6+1)+1)+(6+1+(6+1)+1+6+1)+1) (ac:=putAll ac L_mps sv) (z:=.tmp 36) ?_ ?_ ?_
     · exact (G sv 8 (by decide) (by decide)).trans p1
     · exact h1
     · exact p3
 · intro sv w' J0 hF hB hap
   obtain ⟨g0,cs0,p0,r0,b0,⟨s0,A0,n0,c0,B0,m0,d0,t0,E0,i0,e0,F0,j0,f0,rfl,h0⟩⟩:=hB (B0_mps v px py qx qy ox oy) (List.Mem.head _)
   have p0':sv 8=.pointer (some ⟨g0,0,none⟩):=p0
   exact hend sv w' g0 _ _ _ _ _ _ _ _ _ _ _ _ _ _ h0 b0.at_ r0 p0'   J0
abbrev L_mpx:List Nat:=[37,38,39,40,41,9]
def o0_mpx:Oper:=⟨some 37,.load 71 (.tmp 3),71, "law.go:78",#[],none⟩
def o1_mpx:Oper:=⟨some 38,.call ⟨.value (.func 61),#[.const (Value.int IntKind.i64 1),.const (Value.int IntKind.i64 0)],#[2,2]⟩,29, "law.go:78",#[],none⟩
def o2_mpx:Oper:=⟨some 39,.call ⟨.value (.func 43),#[.tmp 37,.tmp 38],#[71,29]⟩,29, "law.go:78",#[⟨0,.data⟩,⟨1,.data⟩,⟨1,.chain⟩],none⟩
def o3_mpx:Oper:=⟨some 40,.load 29 (.tmp 7),29, "law.go:78",#[],none⟩
def o4_mpx:Oper:=⟨some 41,.call ⟨.value (.func 57),#[.tmp 39,.tmp 40],#[29,29]⟩,29, "law.go:78",#[⟨2,.data⟩,⟨3,.data⟩,⟨2,.chain⟩],none⟩
def o5_mpx:Oper:=⟨some 9,.alloc 29,0, "law.go:78",#[],none⟩
def o6_mpx:Oper:=⟨none,.store 29 (.tmp 9) (.tmp 41),0, "law.go:78",#[⟨5,.data⟩,⟨4,.data⟩,⟨4,.chain⟩,⟨0,.phase⟩,⟨1,.phase⟩,⟨2,.phase⟩,⟨3,.phase⟩,⟨4,.phase⟩,⟨5,.phase⟩],none⟩
def F_mpx (m:MV) (v:AM) (s_o:Bool) (t_o:Bool) (A_o:Option Addr) (B_o:Option Addr) (E_o:Option Addr) (F_o:Option Addr) (n_o:Nat) (c_o:Nat) (m_o:Nat) (d_o:Nat) (i_o:Nat) (e_o:Nat) (j_o:Nat) (f_o:Nat) (ox:Rat) (oy:Rat) (sl:Nat):Value→World→Prop :=
 match sl with
 | 37=>fun x _=>x=Value.agg #[.bool m.a.s,.slice m.a.A m.a.n m.a.c,.slice m.a.B m.a.m m.a.d,.bool m.b.s,.slice m.b.A m.b.n m.b.c,.slice m.b.B m.b.m m.b.d,.bool m.c.s,.slice m.c.A m.c.n m.c.c,.slice m.c.B m.c.m m.c.d,.bool m.d.s,.slice m.d.A m.d.n m.d.c,.slice m.d.B m.d.m m.d.d,.bool m.e.s,.slice m.e.A m.e.n m.e.c,.slice m.e.B m.e.m m.e.d,.bool m.f.s,.slice m.f.A m.f.n m.f.c,.slice m.f.B m.f.m m.f.d]
 | 38=>VPG (Rat.divInt 1 1) (Rat.divInt 0 1) (1)
 | 39=>VPG (v.ax (Rat.divInt 1 1) (Rat.divInt 0 1)) (v.ay (Rat.divInt 1 1) (Rat.divInt 0 1)) ((6+1+(6+1)+1+6+1))
 | 40=>fun x _=>x=Value.agg #[.bool s_o,.slice A_o n_o c_o,.slice B_o m_o d_o,.bool t_o,.slice E_o i_o e_o,.slice F_o j_o f_o]
 | 41=>VPG (v.ax (Rat.divInt 1 1) (Rat.divInt 0 1) - ox) (v.ay (Rat.divInt 1 1) (Rat.divInt 0 1) - oy) ((6+1+(6+1)+1+6+1)+(6+1+(6+1)+1+6+1)+1)
 | _=>fun _ _=>True
def B0_mpx (v:AM) (ox:Rat) (oy:Rat):BoxOp :=
 ⟨5,6,9,29,#[.bool false,.slice none 0 0,.slice none 0 0,.bool false,.slice none 0 0,.slice none 0 0],fun cs w=>∃ s A n c B m d t E i e F j f,cs=#[.bool s,.slice A n c,.slice B m d,.bool t,.slice E i e,.slice F j f]∧PG w s A n c B m d t E i e F j f (v.ax (Rat.divInt 1 1) (Rat.divInt 0 1) - ox) (v.ay (Rat.divInt 1 1) (Rat.divInt 0 1) - oy) ((6+1+(6+1)+1+6+1)+(6+1+(6+1)+1+6+1)+1)⟩
theorem mpx_region {id:Nat} {ac:Act} {Q:Exit→Act→World→Prop} {m:MV} {v:AM} {gm:Nat} {ox oy:Rat} {go:Nat}
 (hsz:41 < ac.tmps.size) (e3:ac.eval (.tmp 3)=Value.pointer (some ⟨gm,0,none⟩)) (e7:ac.eval (.tmp 7)=Value.pointer (some ⟨go,0,none⟩)) (XA:B18 w gm (.bool m.a.s) (.slice m.a.A m.a.n m.a.c) (.slice m.a.B m.a.m m.a.d) (.bool m.b.s) (.slice m.b.A m.b.n m.b.c) (.slice m.b.B m.b.m m.b.d) (.bool m.c.s) (.slice m.c.A m.c.n m.c.c) (.slice m.c.B m.c.m m.c.d) (.bool m.d.s) (.slice m.d.A m.d.n m.d.c) (.slice m.d.B m.d.m m.d.d) (.bool m.e.s) (.slice m.e.A m.e.n m.e.c) (.slice m.e.B m.e.m m.e.d) (.bool m.f.s) (.slice m.f.A m.f.n m.f.c) (.slice m.f.B m.f.m m.f.d)) (XO:B6 w go (.bool s_o) (.slice A_o n_o c_o) (.slice B_o m_o d_o) (.bool t_o) (.slice E_o i_o e_o) (.slice F_o j_o f_o)) (M:MR w m v 6 6) (o0:PG w s_o A_o n_o c_o B_o m_o d_o t_o E_o i_o e_o F_o j_o f_o ox oy (6+1+(6+1)+1+6+1))
 (hend:∀ (V:Nat→Value) (w':World) (g0:Nat) (s0:Bool) (A0:Option Addr) (n0:Nat) (c0:Nat) (B0:Option Addr) (m0:Nat) (d0:Nat) (t0:Bool) (E0:Option Addr) (i0:Nat) (e0:Nat) (F0:Option Addr) (j0:Nat) (f0:Nat),PG w' s0 A0 n0 c0 B0 m0 d0 t0 E0 i0 e0 F0 j0 f0 (v.ax (Rat.divInt 1 1) (Rat.divInt 0 1) - ox) (v.ay (Rat.divInt 1 1) (Rat.divInt 0 1) - oy) ((6+1+(6+1)+1+6+1)+(6+1+(6+1)+1+6+1)+1)→B6 w' g0 (.bool s0) (.slice A0 n0 c0) (.slice B0 m0 d0) (.bool t0) (.slice E0 i0 e0) (.slice F0 j0 f0)→w.heap.size≤g0→V 9=.pointer (some ⟨g0,0,none⟩)→Below w.heap.size w w'→Q .normal (putAll ac [37,38,39,40,41,9] V) w') :
 (Code.region id #[o0_mpx,o1_mpx,o2_mpx,o3_mpx,o4_mpx,o5_mpx,o6_mpx] true).wp Tryz.prog Q ac w:=by
 have hnd:L_mpx.Nodup:=by decide
 have G:∀ (sv:Nat→Value) (t:Nat),t ∈ L_mpx→t≤41→(putAll ac L_mpx sv).eval (.tmp t)=sv t:=fun sv t ht h=>eval_putAll_mem (t:=t) L_mpx ac hnd ht (Nat.lt_of_le_of_lt h hsz)
 have E3:∀ sv:Nat→Value,(putAll ac L_mpx sv).eval (.tmp 3)=Value.pointer (some ⟨gm,0,none⟩):=fun sv=>(eval_putAll_not (v:=sv) L_mpx ac (show 3 ∉ _ by decide)).trans e3
 have E7:∀ sv:Nat→Value,(putAll ac L_mpx sv).eval (.tmp 7)=Value.pointer (some ⟨go,0,none⟩):=fun sv=>(eval_putAll_not (v:=sv) L_mpx ac (show 7 ∉ _ by decide)).trans e7
 have NE:∀ t:Nat,(t ≠ 9)→∀ p ∈ [B0_mpx v ox oy],t ≠ p.tA:=by
  intro t ht p hp
  simp only [List.mem_cons,List.not_mem_nil,or_false] at hp
  rcases hp with rfl
  · exact ht
 refine wp_region_flowsT L_mpx [B0_mpx v ox oy] (F_mpx m v s_o t_o A_o B_o E_o F_o n_o c_o m_o d_o i_o e_o j_o f_o ox oy) (by kernel_rfl) (by kernel_rfl) rfl hnd ?_ ?_ ?_ ?_ ?_ ?_ ?_ ?_
 · intro p hp
   simp only [List.mem_cons,List.not_mem_nil,or_false] at hp
   rcases hp with rfl
   · refine ⟨⟨o5_mpx,rfl,rfl,rfl,fun e w'=>run_alloc6⟩,⟨o6_mpx,rfl,rfl,rfl,⟨5,.data⟩,by simp [o6_mpx],rfl,rfl⟩,free6 _ _ _ _ _ _ _ _ _ _ _ _ _ _,?_,?_⟩
     · rintro cs w1 w2 ⟨s_,A_,n_,c_,B_,m_,d_,t_,E_,i_,e_,F_,j_,f_,rfl,h⟩ hb;exact ⟨s_,A_,n_,c_,B_,m_,d_,t_,E_,i_,e_,F_,j_,f_,rfl,h.below hb⟩
     · rintro T cs w1 w2 g c0 ⟨s_,A_,n_,c_,B_,m_,d_,t_,E_,i_,e_,F_,j_,f_,rfl,h⟩ hB ho;exact ⟨s_,A_,n_,c_,B_,m_,d_,t_,E_,i_,e_,F_,j_,f_,rfl,h.box hB ho⟩
 · intro p hp q hq h
   simp only [List.mem_cons,List.not_mem_nil,or_false] at hp hq
   rcases hp with rfl <;> rcases hq with rfl
   · rfl
 · intro p hp q hq h
   simp only [List.mem_cons,List.not_mem_nil,or_false] at hp hq
   rcases hp with rfl <;> rcases hq with rfl
   · rfl
 · intro i o h1 h2
   match i,h1 with
   | 0,h1=>cases h1;cases h2
   | 1,h1=>cases h1;cases h2
   | 2,h1=>cases h1;cases h2
   | 3,h1=>cases h1;cases h2
   | 4,h1=>cases h1;cases h2
   | 5,h1=>cases h1;cases h2
   | 6,h1=>exact ⟨B0_mpx v ox oy,List.Mem.head _,rfl⟩
   | i+7,h1=>cases h1
 · intro t
   unfold F_mpx
   split <;> first | exact (stays_eq _).inn _ | exact (stays_q _ _).inn _ | exact (stays_z _ _).inn _ | exact (stays_r _ _).inn _ | exact (stays_rq _ _).inn _ | exact (stays_pg _ _ _).inn _ | exact (stays_true).inn _
 · intro i o t sv w' ho hia hd J0 hf
   have XA:=XA.below J0;have XO:=XO.below J0;have M:=M.below J0;have o0:=o0.below J0
   match i,ho with
   | 0,ho =>
     obtain rfl:o0_mpx=o:=Option.some.inj ho
     cases hd
     refine wpOp_plain' (o:=o0_mpx) rfl rfl ?_
     unfold Oper.wp o0_mpx
     rw [run_loadM (E3 sv) XA,Oper.upon_value]
     exact ⟨_,rfl,Below.refl _ _,rfl⟩
   | 1,ho =>
     obtain rfl:o1_mpx=o:=Option.some.inj ho
     cases hd
     refine wpOp_plain' (o:=o1_mpx) rfl rfl ?_
     unfold Oper.wp o1_mpx
     rw [rc_gesso_gessolaw06_P (show (putAll ac L_mpx sv).eval (.const (Value.int IntKind.i64 1))=(Value.int IntKind.i64 1) from rfl) (show (putAll ac L_mpx sv).eval (.const (Value.int IntKind.i64 0))=(Value.int IntKind.i64 0) from rfl) rfl,Oper.upon_enter]
     refine (lawP 1 0 (by decide) (by decide) (by decide) (by decide) _).mono ?_
     rintro e w1 ⟨s_,A_,n_,c_,B_,m_,d_,t_,E_,i_,e_,F_,j_,f_,rfl,hq,hh⟩
     exact ⟨_,rfl,hh,s_,A_,n_,c_,B_,m_,d_,t_,E_,i_,e_,F_,j_,f_,rfl,hq⟩
   | 2,ho =>
     obtain rfl:o2_mpx=o:=Option.some.inj ho
     cases hd
     have f37:sv 37=Value.agg #[.bool m.a.s,.slice m.a.A m.a.n m.a.c,.slice m.a.B m.a.m m.a.d,.bool m.b.s,.slice m.b.A m.b.n m.b.c,.slice m.b.B m.b.m m.b.d,.bool m.c.s,.slice m.c.A m.c.n m.c.c,.slice m.c.B m.c.m m.c.d,.bool m.d.s,.slice m.d.A m.d.n m.d.c,.slice m.d.B m.d.m m.d.d,.bool m.e.s,.slice m.e.A m.e.n m.e.c,.slice m.e.B m.e.m m.e.d,.bool m.f.s,.slice m.f.A m.f.n m.f.c,.slice m.f.B m.f.m m.f.d]:=hf ⟨0,.data⟩ (by simp [o2_mpx]) rfl _ 37 rfl rfl (NE _ (by decide))
     have h38:VPG (Rat.divInt 1 1) (Rat.divInt 0 1) (1) (sv 38) w':=hf ⟨1,.data⟩ (by simp [o2_mpx]) rfl _ 38 rfl rfl (NE _ (by decide))
     obtain ⟨s38_,A38_,n38_,c38_,B38_,m38_,d38_,t38_,E38_,i38_,e38_,F38_,j38_,f38_,f38,q38⟩:=h38
     refine wpOp_plain' (o:=o2_mpx) rfl rfl ?_
     unfold Oper.wp o2_mpx
     rw [rc_gesso_mat_Apply ((G sv 37 (by decide) (by decide)).trans f37) ((G sv 38 (by decide) (by decide)).trans f38) rfl,Oper.upon_enter]
     refine (mapply_p M q38.pr (by decide) (by decide) (by decide) (by decide) (by decide)).mono ?_
     rintro e w1 ⟨s_,A_,n_,c_,B_,m_,d_,t_,E_,i_,e_,F_,j_,f_,rfl,hq,hh⟩
     exact ⟨_,rfl,hh,s_,A_,n_,c_,B_,m_,d_,t_,E_,i_,e_,F_,j_,f_,rfl,hq⟩
   | 3,ho =>
     obtain rfl:o3_mpx=o:=Option.some.inj ho
     cases hd
     refine wpOp_plain' (o:=o3_mpx) rfl rfl ?_
     unfold Oper.wp o3_mpx
     rw [run_load6 (E7 sv) XO.c0 XO.c1 XO.c2 XO.c3 XO.c4 XO.c5,Oper.upon_value]
     exact ⟨_,rfl,Below.refl _ _,rfl⟩
   | 4,ho =>
     obtain rfl:o4_mpx=o:=Option.some.inj ho
     cases hd
     have h39:VPG (v.ax (Rat.divInt 1 1) (Rat.divInt 0 1)) (v.ay (Rat.divInt 1 1) (Rat.divInt 0 1)) ((6+1+(6+1)+1+6+1)) (sv 39) w':=hf ⟨2,.data⟩ (by simp [o4_mpx]) rfl _ 39 rfl rfl (NE _ (by decide))
     obtain ⟨s39_,A39_,n39_,c39_,B39_,m39_,d39_,t39_,E39_,i39_,e39_,F39_,j39_,f39_,f39,q39⟩:=h39
     have f40:sv 40=Value.agg #[.bool s_o,.slice A_o n_o c_o,.slice B_o m_o d_o,.bool t_o,.slice E_o i_o e_o,.slice F_o j_o f_o]:=hf ⟨3,.data⟩ (by simp [o4_mpx]) rfl _ 40 rfl rfl (NE _ (by decide))
     refine wpOp_plain' (o:=o4_mpx) rfl rfl ?_
     unfold Oper.wp o4_mpx
     rw [rc_gesso_pt_Sub ((G sv 39 (by decide) (by decide)).trans f39) ((G sv 40 (by decide) (by decide)).trans f40) rfl,Oper.upon_enter]
     refine (psub_p q39.pr o0.pr (by decide) (by decide) (.inl (by decide)) (by decide) (by decide)).mono ?_
     rintro e w1 ⟨s_,A_,n_,c_,B_,m_,d_,t_,E_,i_,e_,F_,j_,f_,rfl,hq,hh⟩
     exact ⟨_,rfl,hh,s_,A_,n_,c_,B_,m_,d_,t_,E_,i_,e_,F_,j_,f_,rfl,hq⟩
   | 5,ho=>cases ho;cases hd;exact absurd rfl (hia (B0_mpx v ox oy) (List.Mem.head _))
   | 6,ho=>cases ho;cases hd
   | i+7,ho=>cases ho
 · intro p hp os sv w' g hos J0 p1 p3 hf
   simp only [List.mem_cons,List.not_mem_nil,or_false] at hp
   rcases hp with rfl
   · obtain rfl:o6_mpx=os:=Option.some.inj hos
     have h1:VPG (v.ax (Rat.divInt 1 1) (Rat.divInt 0 1) - ox) (v.ay (Rat.divInt 1 1) (Rat.divInt 0 1) - oy) ((6+1+(6+1)+1+6+1)+(6+1+(6+1)+1+6+1)+1) (sv 41) w':=hf ⟨4,.data⟩ (by simp [o6_mpx]) rfl _ 41 rfl rfl (NE _ (by decide))
     rw [← G sv 41 (by decide) (by decide)] at h1
     refine store_pg (x:=v.ax (Rat.divInt 1 1) (Rat.divInt 0 1) - ox) (y:=v.ay (Rat.divInt 1 1) (Rat.divInt 0 1) - oy) (k:=(6+1+(6+1)+1+6+1)+(6+1+(6+1)+1+6+1)+1) (ac:=putAll ac L_mpx sv) (z:=.tmp 41) ?_ ?_ ?_
     · exact (G sv 9 (by decide) (by decide)).trans p1
     · exact h1
     · exact p3
 · intro sv w' J0 hF hB hap
   obtain ⟨g0,cs0,p0,r0,b0,⟨s0,A0,n0,c0,B0,m0,d0,t0,E0,i0,e0,F0,j0,f0,rfl,h0⟩⟩:=hB (B0_mpx v ox oy) (List.Mem.head _)
   have p0':sv 9=.pointer (some ⟨g0,0,none⟩):=p0
   exact hend sv w' g0 _ _ _ _ _ _ _ _ _ _ _ _ _ _ h0 b0.at_ r0 p0'   J0
abbrev L_mpy:List Nat:=[42,43,44,45,46,10]
def o0_mpy:Oper:=⟨some 42,.load 71 (.tmp 3),71, "law.go:79",#[],none⟩
def o1_mpy:Oper:=⟨some 43,.call ⟨.value (.func 61),#[.const (Value.int IntKind.i64 0),.const (Value.int IntKind.i64 1)],#[2,2]⟩,29, "law.go:79",#[],none⟩
def o2_mpy:Oper:=⟨some 44,.call ⟨.value (.func 43),#[.tmp 42,.tmp 43],#[71,29]⟩,29, "law.go:79",#[⟨0,.data⟩,⟨1,.data⟩,⟨1,.chain⟩],none⟩
def o3_mpy:Oper:=⟨some 45,.load 29 (.tmp 7),29, "law.go:79",#[],none⟩
def o4_mpy:Oper:=⟨some 46,.call ⟨.value (.func 57),#[.tmp 44,.tmp 45],#[29,29]⟩,29, "law.go:79",#[⟨2,.data⟩,⟨3,.data⟩,⟨2,.chain⟩],none⟩
def o5_mpy:Oper:=⟨some 10,.alloc 29,0, "law.go:79",#[],none⟩
def o6_mpy:Oper:=⟨none,.store 29 (.tmp 10) (.tmp 46),0, "law.go:79",#[⟨5,.data⟩,⟨4,.data⟩,⟨4,.chain⟩,⟨0,.phase⟩,⟨1,.phase⟩,⟨2,.phase⟩,⟨3,.phase⟩,⟨4,.phase⟩,⟨5,.phase⟩],none⟩
def F_mpy (m:MV) (v:AM) (s_o:Bool) (t_o:Bool) (A_o:Option Addr) (B_o:Option Addr) (E_o:Option Addr) (F_o:Option Addr) (n_o:Nat) (c_o:Nat) (m_o:Nat) (d_o:Nat) (i_o:Nat) (e_o:Nat) (j_o:Nat) (f_o:Nat) (ox:Rat) (oy:Rat) (sl:Nat):Value→World→Prop :=
 match sl with
 | 42=>fun x _=>x=Value.agg #[.bool m.a.s,.slice m.a.A m.a.n m.a.c,.slice m.a.B m.a.m m.a.d,.bool m.b.s,.slice m.b.A m.b.n m.b.c,.slice m.b.B m.b.m m.b.d,.bool m.c.s,.slice m.c.A m.c.n m.c.c,.slice m.c.B m.c.m m.c.d,.bool m.d.s,.slice m.d.A m.d.n m.d.c,.slice m.d.B m.d.m m.d.d,.bool m.e.s,.slice m.e.A m.e.n m.e.c,.slice m.e.B m.e.m m.e.d,.bool m.f.s,.slice m.f.A m.f.n m.f.c,.slice m.f.B m.f.m m.f.d]
 | 43=>VPG (Rat.divInt 0 1) (Rat.divInt 1 1) (1)
 | 44=>VPG (v.ax (Rat.divInt 0 1) (Rat.divInt 1 1)) (v.ay (Rat.divInt 0 1) (Rat.divInt 1 1)) ((6+1+(6+1)+1+6+1))
 | 45=>fun x _=>x=Value.agg #[.bool s_o,.slice A_o n_o c_o,.slice B_o m_o d_o,.bool t_o,.slice E_o i_o e_o,.slice F_o j_o f_o]
 | 46=>VPG (v.ax (Rat.divInt 0 1) (Rat.divInt 1 1) - ox) (v.ay (Rat.divInt 0 1) (Rat.divInt 1 1) - oy) ((6+1+(6+1)+1+6+1)+(6+1+(6+1)+1+6+1)+1)
 | _=>fun _ _=>True
def B0_mpy (v:AM) (ox:Rat) (oy:Rat):BoxOp :=
 ⟨5,6,10,29,#[.bool false,.slice none 0 0,.slice none 0 0,.bool false,.slice none 0 0,.slice none 0 0],fun cs w=>∃ s A n c B m d t E i e F j f,cs=#[.bool s,.slice A n c,.slice B m d,.bool t,.slice E i e,.slice F j f]∧PG w s A n c B m d t E i e F j f (v.ax (Rat.divInt 0 1) (Rat.divInt 1 1) - ox) (v.ay (Rat.divInt 0 1) (Rat.divInt 1 1) - oy) ((6+1+(6+1)+1+6+1)+(6+1+(6+1)+1+6+1)+1)⟩
theorem mpy_region {id:Nat} {ac:Act} {Q:Exit→Act→World→Prop} {m:MV} {v:AM} {gm:Nat} {ox oy:Rat} {go:Nat}
 (hsz:46 < ac.tmps.size) (e3:ac.eval (.tmp 3)=Value.pointer (some ⟨gm,0,none⟩)) (e7:ac.eval (.tmp 7)=Value.pointer (some ⟨go,0,none⟩)) (XA:B18 w gm (.bool m.a.s) (.slice m.a.A m.a.n m.a.c) (.slice m.a.B m.a.m m.a.d) (.bool m.b.s) (.slice m.b.A m.b.n m.b.c) (.slice m.b.B m.b.m m.b.d) (.bool m.c.s) (.slice m.c.A m.c.n m.c.c) (.slice m.c.B m.c.m m.c.d) (.bool m.d.s) (.slice m.d.A m.d.n m.d.c) (.slice m.d.B m.d.m m.d.d) (.bool m.e.s) (.slice m.e.A m.e.n m.e.c) (.slice m.e.B m.e.m m.e.d) (.bool m.f.s) (.slice m.f.A m.f.n m.f.c) (.slice m.f.B m.f.m m.f.d)) (XO:B6 w go (.bool s_o) (.slice A_o n_o c_o) (.slice B_o m_o d_o) (.bool t_o) (.slice E_o i_o e_o) (.slice F_o j_o f_o)) (M:MR w m v 6 6) (o0:PG w s_o A_o n_o c_o B_o m_o d_o t_o E_o i_o e_o F_o j_o f_o ox oy (6+1+(6+1)+1+6+1))
 (hend:∀ (V:Nat→Value) (w':World) (g0:Nat) (s0:Bool) (A0:Option Addr) (n0:Nat) (c0:Nat) (B0:Option Addr) (m0:Nat) (d0:Nat) (t0:Bool) (E0:Option Addr) (i0:Nat) (e0:Nat) (F0:Option Addr) (j0:Nat) (f0:Nat),PG w' s0 A0 n0 c0 B0 m0 d0 t0 E0 i0 e0 F0 j0 f0 (v.ax (Rat.divInt 0 1) (Rat.divInt 1 1) - ox) (v.ay (Rat.divInt 0 1) (Rat.divInt 1 1) - oy) ((6+1+(6+1)+1+6+1)+(6+1+(6+1)+1+6+1)+1)→B6 w' g0 (.bool s0) (.slice A0 n0 c0) (.slice B0 m0 d0) (.bool t0) (.slice E0 i0 e0) (.slice F0 j0 f0)→w.heap.size≤g0→V 10=.pointer (some ⟨g0,0,none⟩)→Below w.heap.size w w'→Q .normal (putAll ac [42,43,44,45,46,10] V) w') :
 (Code.region id #[o0_mpy,o1_mpy,o2_mpy,o3_mpy,o4_mpy,o5_mpy,o6_mpy] true).wp Tryz.prog Q ac w:=by
 have hnd:L_mpy.Nodup:=by decide
 have G:∀ (sv:Nat→Value) (t:Nat),t ∈ L_mpy→t≤46→(putAll ac L_mpy sv).eval (.tmp t)=sv t:=fun sv t ht h=>eval_putAll_mem (t:=t) L_mpy ac hnd ht (Nat.lt_of_le_of_lt h hsz)
 have E3:∀ sv:Nat→Value,(putAll ac L_mpy sv).eval (.tmp 3)=Value.pointer (some ⟨gm,0,none⟩):=fun sv=>(eval_putAll_not (v:=sv) L_mpy ac (show 3 ∉ _ by decide)).trans e3
 have E7:∀ sv:Nat→Value,(putAll ac L_mpy sv).eval (.tmp 7)=Value.pointer (some ⟨go,0,none⟩):=fun sv=>(eval_putAll_not (v:=sv) L_mpy ac (show 7 ∉ _ by decide)).trans e7
 have NE:∀ t:Nat,(t ≠ 10)→∀ p ∈ [B0_mpy v ox oy],t ≠ p.tA:=by
  intro t ht p hp
  simp only [List.mem_cons,List.not_mem_nil,or_false] at hp
  rcases hp with rfl
  · exact ht
 refine wp_region_flowsT L_mpy [B0_mpy v ox oy] (F_mpy m v s_o t_o A_o B_o E_o F_o n_o c_o m_o d_o i_o e_o j_o f_o ox oy) (by kernel_rfl) (by kernel_rfl) rfl hnd ?_ ?_ ?_ ?_ ?_ ?_ ?_ ?_
 · intro p hp
   simp only [List.mem_cons,List.not_mem_nil,or_false] at hp
   rcases hp with rfl
   · refine ⟨⟨o5_mpy,rfl,rfl,rfl,fun e w'=>run_alloc6⟩,⟨o6_mpy,rfl,rfl,rfl,⟨5,.data⟩,by simp [o6_mpy],rfl,rfl⟩,free6 _ _ _ _ _ _ _ _ _ _ _ _ _ _,?_,?_⟩
     · rintro cs w1 w2 ⟨s_,A_,n_,c_,B_,m_,d_,t_,E_,i_,e_,F_,j_,f_,rfl,h⟩ hb;exact ⟨s_,A_,n_,c_,B_,m_,d_,t_,E_,i_,e_,F_,j_,f_,rfl,h.below hb⟩
     · rintro T cs w1 w2 g c0 ⟨s_,A_,n_,c_,B_,m_,d_,t_,E_,i_,e_,F_,j_,f_,rfl,h⟩ hB ho;exact ⟨s_,A_,n_,c_,B_,m_,d_,t_,E_,i_,e_,F_,j_,f_,rfl,h.box hB ho⟩
 · intro p hp q hq h
   simp only [List.mem_cons,List.not_mem_nil,or_false] at hp hq
   rcases hp with rfl <;> rcases hq with rfl
   · rfl
 · intro p hp q hq h
   simp only [List.mem_cons,List.not_mem_nil,or_false] at hp hq
   rcases hp with rfl <;> rcases hq with rfl
   · rfl
 · intro i o h1 h2
   match i,h1 with
   | 0,h1=>cases h1;cases h2
   | 1,h1=>cases h1;cases h2
   | 2,h1=>cases h1;cases h2
   | 3,h1=>cases h1;cases h2
   | 4,h1=>cases h1;cases h2
   | 5,h1=>cases h1;cases h2
   | 6,h1=>exact ⟨B0_mpy v ox oy,List.Mem.head _,rfl⟩
   | i+7,h1=>cases h1
 · intro t
   unfold F_mpy
   split <;> first | exact (stays_eq _).inn _ | exact (stays_q _ _).inn _ | exact (stays_z _ _).inn _ | exact (stays_r _ _).inn _ | exact (stays_rq _ _).inn _ | exact (stays_pg _ _ _).inn _ | exact (stays_true).inn _
 · intro i o t sv w' ho hia hd J0 hf
   have XA:=XA.below J0;have XO:=XO.below J0;have M:=M.below J0;have o0:=o0.below J0
   match i,ho with
   | 0,ho =>
     obtain rfl:o0_mpy=o:=Option.some.inj ho
     cases hd
     refine wpOp_plain' (o:=o0_mpy) rfl rfl ?_
     unfold Oper.wp o0_mpy
     rw [run_loadM (E3 sv) XA,Oper.upon_value]
     exact ⟨_,rfl,Below.refl _ _,rfl⟩
   | 1,ho =>
     obtain rfl:o1_mpy=o:=Option.some.inj ho
     cases hd
     refine wpOp_plain' (o:=o1_mpy) rfl rfl ?_
     unfold Oper.wp o1_mpy
     rw [rc_gesso_gessolaw06_P (show (putAll ac L_mpy sv).eval (.const (Value.int IntKind.i64 0))=(Value.int IntKind.i64 0) from rfl) (show (putAll ac L_mpy sv).eval (.const (Value.int IntKind.i64 1))=(Value.int IntKind.i64 1) from rfl) rfl,Oper.upon_enter]
     refine (lawP 0 1 (by decide) (by decide) (by decide) (by decide) _).mono ?_
     rintro e w1 ⟨s_,A_,n_,c_,B_,m_,d_,t_,E_,i_,e_,F_,j_,f_,rfl,hq,hh⟩
     exact ⟨_,rfl,hh,s_,A_,n_,c_,B_,m_,d_,t_,E_,i_,e_,F_,j_,f_,rfl,hq⟩
   | 2,ho =>
     obtain rfl:o2_mpy=o:=Option.some.inj ho
     cases hd
     have f42:sv 42=Value.agg #[.bool m.a.s,.slice m.a.A m.a.n m.a.c,.slice m.a.B m.a.m m.a.d,.bool m.b.s,.slice m.b.A m.b.n m.b.c,.slice m.b.B m.b.m m.b.d,.bool m.c.s,.slice m.c.A m.c.n m.c.c,.slice m.c.B m.c.m m.c.d,.bool m.d.s,.slice m.d.A m.d.n m.d.c,.slice m.d.B m.d.m m.d.d,.bool m.e.s,.slice m.e.A m.e.n m.e.c,.slice m.e.B m.e.m m.e.d,.bool m.f.s,.slice m.f.A m.f.n m.f.c,.slice m.f.B m.f.m m.f.d]:=hf ⟨0,.data⟩ (by simp [o2_mpy]) rfl _ 42 rfl rfl (NE _ (by decide))
     have h43:VPG (Rat.divInt 0 1) (Rat.divInt 1 1) (1) (sv 43) w':=hf ⟨1,.data⟩ (by simp [o2_mpy]) rfl _ 43 rfl rfl (NE _ (by decide))
     obtain ⟨s43_,A43_,n43_,c43_,B43_,m43_,d43_,t43_,E43_,i43_,e43_,F43_,j43_,f43_,f43,q43⟩:=h43
     refine wpOp_plain' (o:=o2_mpy) rfl rfl ?_
     unfold Oper.wp o2_mpy
     rw [rc_gesso_mat_Apply ((G sv 42 (by decide) (by decide)).trans f42) ((G sv 43 (by decide) (by decide)).trans f43) rfl,Oper.upon_enter]
     refine (mapply_p M q43.pr (by decide) (by decide) (by decide) (by decide) (by decide)).mono ?_
     rintro e w1 ⟨s_,A_,n_,c_,B_,m_,d_,t_,E_,i_,e_,F_,j_,f_,rfl,hq,hh⟩
     exact ⟨_,rfl,hh,s_,A_,n_,c_,B_,m_,d_,t_,E_,i_,e_,F_,j_,f_,rfl,hq⟩
   | 3,ho =>
     obtain rfl:o3_mpy=o:=Option.some.inj ho
     cases hd
     refine wpOp_plain' (o:=o3_mpy) rfl rfl ?_
     unfold Oper.wp o3_mpy
     rw [run_load6 (E7 sv) XO.c0 XO.c1 XO.c2 XO.c3 XO.c4 XO.c5,Oper.upon_value]
     exact ⟨_,rfl,Below.refl _ _,rfl⟩
   | 4,ho =>
     obtain rfl:o4_mpy=o:=Option.some.inj ho
     cases hd
     have h44:VPG (v.ax (Rat.divInt 0 1) (Rat.divInt 1 1)) (v.ay (Rat.divInt 0 1) (Rat.divInt 1 1)) ((6+1+(6+1)+1+6+1)) (sv 44) w':=hf ⟨2,.data⟩ (by simp [o4_mpy]) rfl _ 44 rfl rfl (NE _ (by decide))
     obtain ⟨s44_,A44_,n44_,c44_,B44_,m44_,d44_,t44_,E44_,i44_,e44_,F44_,j44_,f44_,f44,q44⟩:=h44
     have f45:sv 45=Value.agg #[.bool s_o,.slice A_o n_o c_o,.slice B_o m_o d_o,.bool t_o,.slice E_o i_o e_o,.slice F_o j_o f_o]:=hf ⟨3,.data⟩ (by simp [o4_mpy]) rfl _ 45 rfl rfl (NE _ (by decide))
     refine wpOp_plain' (o:=o4_mpy) rfl rfl ?_
     unfold Oper.wp o4_mpy
     rw [rc_gesso_pt_Sub ((G sv 44 (by decide) (by decide)).trans f44) ((G sv 45 (by decide) (by decide)).trans f45) rfl,Oper.upon_enter]
     refine (psub_p q44.pr o0.pr (by decide) (by decide) (.inl (by decide)) (by decide) (by decide)).mono ?_
     rintro e w1 ⟨s_,A_,n_,c_,B_,m_,d_,t_,E_,i_,e_,F_,j_,f_,rfl,hq,hh⟩
     exact ⟨_,rfl,hh,s_,A_,n_,c_,B_,m_,d_,t_,E_,i_,e_,F_,j_,f_,rfl,hq⟩
   | 5,ho=>cases ho;cases hd;exact absurd rfl (hia (B0_mpy v ox oy) (List.Mem.head _))
   | 6,ho=>cases ho;cases hd
   | i+7,ho=>cases ho
 · intro p hp os sv w' g hos J0 p1 p3 hf
   simp only [List.mem_cons,List.not_mem_nil,or_false] at hp
   rcases hp with rfl
   · obtain rfl:o6_mpy=os:=Option.some.inj hos
     have h1:VPG (v.ax (Rat.divInt 0 1) (Rat.divInt 1 1) - ox) (v.ay (Rat.divInt 0 1) (Rat.divInt 1 1) - oy) ((6+1+(6+1)+1+6+1)+(6+1+(6+1)+1+6+1)+1) (sv 46) w':=hf ⟨4,.data⟩ (by simp [o6_mpy]) rfl _ 46 rfl rfl (NE _ (by decide))
     rw [← G sv 46 (by decide) (by decide)] at h1
     refine store_pg (x:=v.ax (Rat.divInt 0 1) (Rat.divInt 1 1) - ox) (y:=v.ay (Rat.divInt 0 1) (Rat.divInt 1 1) - oy) (k:=(6+1+(6+1)+1+6+1)+(6+1+(6+1)+1+6+1)+1) (ac:=putAll ac L_mpy sv) (z:=.tmp 46) ?_ ?_ ?_
     · exact (G sv 10 (by decide) (by decide)).trans p1
     · exact h1
     · exact p3
 · intro sv w' J0 hF hB hap
   obtain ⟨g0,cs0,p0,r0,b0,⟨s0,A0,n0,c0,B0,m0,d0,t0,E0,i0,e0,F0,j0,f0,rfl,h0⟩⟩:=hB (B0_mpy v ox oy) (List.Mem.head _)
   have p0':sv 10=.pointer (some ⟨g0,0,none⟩):=p0
   exact hend sv w' g0 _ _ _ _ _ _ _ _ _ _ _ _ _ _ h0 b0.at_ r0 p0'   J0
abbrev L_mpt:List Nat:=[47,48,49,50,51,52,53,54,55,56,57,11]
def o0_mpt:Oper:=⟨some 47,.load 29 (.tmp 7),29, "law.go:80",#[],none⟩
def o1_mpt:Oper:=⟨some 48,.load 29 (.tmp 9),29, "law.go:80",#[],none⟩
def o2_mpt:Oper:=⟨some 49,.fieldAddr 29 (.tmp 4) 0,0, "law.go:80",#[],none⟩
def o3_mpt:Oper:=⟨some 50,.load 27 (.tmp 49),27, "law.go:80",#[⟨2,.data⟩],none⟩
def o4_mpt:Oper:=⟨some 51,.call ⟨.value (.func 63),#[.tmp 48,.tmp 50],#[29,27]⟩,29, "law.go:80",#[⟨1,.data⟩,⟨3,.data⟩],none⟩
def o5_mpt:Oper:=⟨some 52,.load 29 (.tmp 10),29, "law.go:80",#[],none⟩
def o6_mpt:Oper:=⟨some 53,.fieldAddr 29 (.tmp 4) 1,0, "law.go:80",#[],none⟩
def o7_mpt:Oper:=⟨some 54,.load 27 (.tmp 53),27, "law.go:80",#[⟨6,.data⟩],none⟩
def o8_mpt:Oper:=⟨some 55,.call ⟨.value (.func 63),#[.tmp 52,.tmp 54],#[29,27]⟩,29, "law.go:80",#[⟨5,.data⟩,⟨7,.data⟩,⟨4,.chain⟩],none⟩
def o9_mpt:Oper:=⟨some 56,.call ⟨.value (.func 62),#[.tmp 51,.tmp 55],#[29,29]⟩,29, "law.go:80",#[⟨4,.data⟩,⟨8,.data⟩,⟨8,.chain⟩],none⟩
def o10_mpt:Oper:=⟨some 57,.call ⟨.value (.func 62),#[.tmp 47,.tmp 56],#[29,29]⟩,29, "law.go:80",#[⟨0,.data⟩,⟨9,.data⟩,⟨9,.chain⟩],none⟩
def o11_mpt:Oper:=⟨some 11,.alloc 29,0, "law.go:80",#[],none⟩
def o12_mpt:Oper:=⟨none,.store 29 (.tmp 11) (.tmp 57),0, "law.go:80",#[⟨11,.data⟩,⟨10,.data⟩,⟨10,.chain⟩,⟨0,.phase⟩,⟨1,.phase⟩,⟨2,.phase⟩,⟨3,.phase⟩,⟨4,.phase⟩,⟨5,.phase⟩,⟨6,.phase⟩,⟨7,.phase⟩,⟨8,.phase⟩,⟨9,.phase⟩,⟨10,.phase⟩,⟨11,.phase⟩],none⟩
def F_mpt (s_p:Bool) (t_p:Bool) (A_p:Option Addr) (B_p:Option Addr) (E_p:Option Addr) (F_p:Option Addr) (n_p:Nat) (c_p:Nat) (m_p:Nat) (d_p:Nat) (i_p:Nat) (e_p:Nat) (j_p:Nat) (f_p:Nat) (s_o:Bool) (t_o:Bool) (A_o:Option Addr) (B_o:Option Addr) (E_o:Option Addr) (F_o:Option Addr) (n_o:Nat) (c_o:Nat) (m_o:Nat) (d_o:Nat) (i_o:Nat) (e_o:Nat) (j_o:Nat) (f_o:Nat) (s_x:Bool) (t_x:Bool) (A_x:Option Addr) (B_x:Option Addr) (E_x:Option Addr) (F_x:Option Addr) (n_x:Nat) (c_x:Nat) (m_x:Nat) (d_x:Nat) (i_x:Nat) (e_x:Nat) (j_x:Nat) (f_x:Nat) (s_y:Bool) (t_y:Bool) (A_y:Option Addr) (B_y:Option Addr) (E_y:Option Addr) (F_y:Option Addr) (n_y:Nat) (c_y:Nat) (m_y:Nat) (d_y:Nat) (i_y:Nat) (e_y:Nat) (j_y:Nat) (f_y:Nat) (px:Rat) (py:Rat) (ox:Rat) (oy:Rat) (xx:Rat) (xy:Rat) (yx:Rat) (yy:Rat) (gp:Nat) (sl:Nat):Value→World→Prop :=
 match sl with
 | 47=>fun x _=>x=Value.agg #[.bool s_o,.slice A_o n_o c_o,.slice B_o m_o d_o,.bool t_o,.slice E_o i_o e_o,.slice F_o j_o f_o]
 | 48=>fun x _=>x=Value.agg #[.bool s_x,.slice A_x n_x c_x,.slice B_x m_x d_x,.bool t_x,.slice E_x i_x e_x,.slice F_x j_x f_x]
 | 49=>fun x _=>x=Value.pointer (some ⟨gp,0,none⟩)
 | 50=>fun x _=>x=Value.agg #[.bool s_p,.slice A_p n_p c_p,.slice B_p m_p d_p]
 | 51=>VPG (xx*px) (xy*px) (((6+1+(6+1)+1+6+1)+(6+1+(6+1)+1+6+1)+1)+6)
 | 52=>fun x _=>x=Value.agg #[.bool s_y,.slice A_y n_y c_y,.slice B_y m_y d_y,.bool t_y,.slice E_y i_y e_y,.slice F_y j_y f_y]
 | 53=>fun x _=>x=Value.pointer (some ⟨gp,3,none⟩)
 | 54=>fun x _=>x=Value.agg #[.bool t_p,.slice E_p i_p e_p,.slice F_p j_p f_p]
 | 55=>VPG (yx*py) (yy*py) (((6+1+(6+1)+1+6+1)+(6+1+(6+1)+1+6+1)+1)+6)
 | 56=>VPG (xx*px+yx*py) (xy*px+yy*py) (((6+1+(6+1)+1+6+1)+(6+1+(6+1)+1+6+1)+1)+6+(((6+1+(6+1)+1+6+1)+(6+1+(6+1)+1+6+1)+1)+6)+1)
 | 57=>VPG (ox+(xx*px+yx*py)) (oy+(xy*px+yy*py)) ((6+1+(6+1)+1+6+1)+(((6+1+(6+1)+1+6+1)+(6+1+(6+1)+1+6+1)+1)+6+(((6+1+(6+1)+1+6+1)+(6+1+(6+1)+1+6+1)+1)+6)+1)+1)
 | _=>fun _ _=>True
def B0_mpt (px:Rat) (py:Rat) (ox:Rat) (oy:Rat) (xx:Rat) (xy:Rat) (yx:Rat) (yy:Rat):BoxOp :=
 ⟨11,12,11,29,#[.bool false,.slice none 0 0,.slice none 0 0,.bool false,.slice none 0 0,.slice none 0 0],fun cs w=>∃ s A n c B m d t E i e F j f,cs=#[.bool s,.slice A n c,.slice B m d,.bool t,.slice E i e,.slice F j f]∧PG w s A n c B m d t E i e F j f (ox+(xx*px+yx*py)) (oy+(xy*px+yy*py)) ((6+1+(6+1)+1+6+1)+(((6+1+(6+1)+1+6+1)+(6+1+(6+1)+1+6+1)+1)+6+(((6+1+(6+1)+1+6+1)+(6+1+(6+1)+1+6+1)+1)+6)+1)+1)⟩
theorem mpt_region {id:Nat} {ac:Act} {Q:Exit→Act→World→Prop} {px py ox oy xx xy yx yy:Rat} {gp go gx gy:Nat}
 (hsz:57 < ac.tmps.size) (e4:ac.eval (.tmp 4)=Value.pointer (some ⟨gp,0,none⟩)) (e7:ac.eval (.tmp 7)=Value.pointer (some ⟨go,0,none⟩)) (e9:ac.eval (.tmp 9)=Value.pointer (some ⟨gx,0,none⟩)) (e10:ac.eval (.tmp 10)=Value.pointer (some ⟨gy,0,none⟩)) (XP:B6 w gp (.bool s_p) (.slice A_p n_p c_p) (.slice B_p m_p d_p) (.bool t_p) (.slice E_p i_p e_p) (.slice F_p j_p f_p)) (XO:B6 w go (.bool s_o) (.slice A_o n_o c_o) (.slice B_o m_o d_o) (.bool t_o) (.slice E_o i_o e_o) (.slice F_o j_o f_o)) (XX:B6 w gx (.bool s_x) (.slice A_x n_x c_x) (.slice B_x m_x d_x) (.bool t_x) (.slice E_x i_x e_x) (.slice F_x j_x f_x)) (XY:B6 w gy (.bool s_y) (.slice A_y n_y c_y) (.slice B_y m_y d_y) (.bool t_y) (.slice E_y i_y e_y) (.slice F_y j_y f_y)) (p:PR w s_p A_p n_p c_p B_p m_p d_p t_p E_p i_p e_p F_p j_p f_p px py 6) (o0:PG w s_o A_o n_o c_o B_o m_o d_o t_o E_o i_o e_o F_o j_o f_o ox oy (6+1+(6+1)+1+6+1)) (x0:PG w s_x A_x n_x c_x B_x m_x d_x t_x E_x i_x e_x F_x j_x f_x xx xy ((6+1+(6+1)+1+6+1)+(6+1+(6+1)+1+6+1)+1)) (y0:PG w s_y A_y n_y c_y B_y m_y d_y t_y E_y i_y e_y F_y j_y f_y yx yy ((6+1+(6+1)+1+6+1)+(6+1+(6+1)+1+6+1)+1))
 (hend:∀ (V:Nat→Value) (w':World) (g0:Nat) (s0:Bool) (A0:Option Addr) (n0:Nat) (c0:Nat) (B0:Option Addr) (m0:Nat) (d0:Nat) (t0:Bool) (E0:Option Addr) (i0:Nat) (e0:Nat) (F0:Option Addr) (j0:Nat) (f0:Nat),PG w' s0 A0 n0 c0 B0 m0 d0 t0 E0 i0 e0 F0 j0 f0 (ox+(xx*px+yx*py)) (oy+(xy*px+yy*py)) ((6+1+(6+1)+1+6+1)+(((6+1+(6+1)+1+6+1)+(6+1+(6+1)+1+6+1)+1)+6+(((6+1+(6+1)+1+6+1)+(6+1+(6+1)+1+6+1)+1)+6)+1)+1)→B6 w' g0 (.bool s0) (.slice A0 n0 c0) (.slice B0 m0 d0) (.bool t0) (.slice E0 i0 e0) (.slice F0 j0 f0)→w.heap.size≤g0→V 11=.pointer (some ⟨g0,0,none⟩)→Below w.heap.size w w'→Q .normal (putAll ac [47,48,49,50,51,52,53,54,55,56,57,11] V) w') :
 (Code.region id #[o0_mpt,o1_mpt,o2_mpt,o3_mpt,o4_mpt,o5_mpt,o6_mpt,o7_mpt,o8_mpt,o9_mpt,o10_mpt,o11_mpt,o12_mpt] true).wp Tryz.prog Q ac w:=by
 have hnd:L_mpt.Nodup:=by decide
 have G:∀ (sv:Nat→Value) (t:Nat),t ∈ L_mpt→t≤57→(putAll ac L_mpt sv).eval (.tmp t)=sv t:=fun sv t ht h=>eval_putAll_mem (t:=t) L_mpt ac hnd ht (Nat.lt_of_le_of_lt h hsz)
 have E4:∀ sv:Nat→Value,(putAll ac L_mpt sv).eval (.tmp 4)=Value.pointer (some ⟨gp,0,none⟩):=fun sv=>(eval_putAll_not (v:=sv) L_mpt ac (show 4 ∉ _ by decide)).trans e4
 have E7:∀ sv:Nat→Value,(putAll ac L_mpt sv).eval (.tmp 7)=Value.pointer (some ⟨go,0,none⟩):=fun sv=>(eval_putAll_not (v:=sv) L_mpt ac (show 7 ∉ _ by decide)).trans e7
 have E9:∀ sv:Nat→Value,(putAll ac L_mpt sv).eval (.tmp 9)=Value.pointer (some ⟨gx,0,none⟩):=fun sv=>(eval_putAll_not (v:=sv) L_mpt ac (show 9 ∉ _ by decide)).trans e9
 have E10:∀ sv:Nat→Value,(putAll ac L_mpt sv).eval (.tmp 10)=Value.pointer (some ⟨gy,0,none⟩):=fun sv=>(eval_putAll_not (v:=sv) L_mpt ac (show 10 ∉ _ by decide)).trans e10
 have NE:∀ t:Nat,(t ≠ 11)→∀ p ∈ [B0_mpt px py ox oy xx xy yx yy],t ≠ p.tA:=by
  intro t ht p hp
  simp only [List.mem_cons,List.not_mem_nil,or_false] at hp
  rcases hp with rfl
  · exact ht
 refine wp_region_flowsT L_mpt [B0_mpt px py ox oy xx xy yx yy] (F_mpt s_p t_p A_p B_p E_p F_p n_p c_p m_p d_p i_p e_p j_p f_p s_o t_o A_o B_o E_o F_o n_o c_o m_o d_o i_o e_o j_o f_o s_x t_x A_x B_x E_x F_x n_x c_x m_x d_x i_x e_x j_x f_x s_y t_y A_y B_y E_y F_y n_y c_y m_y d_y i_y e_y j_y f_y px py ox oy xx xy yx yy gp) (by kernel_rfl) (by kernel_rfl) rfl hnd ?_ ?_ ?_ ?_ ?_ ?_ ?_ ?_
 · intro p hp
   simp only [List.mem_cons,List.not_mem_nil,or_false] at hp
   rcases hp with rfl
   · refine ⟨⟨o11_mpt,rfl,rfl,rfl,fun e w'=>run_alloc6⟩,⟨o12_mpt,rfl,rfl,rfl,⟨11,.data⟩,by simp [o12_mpt],rfl,rfl⟩,free6 _ _ _ _ _ _ _ _ _ _ _ _ _ _,?_,?_⟩
     · rintro cs w1 w2 ⟨s_,A_,n_,c_,B_,m_,d_,t_,E_,i_,e_,F_,j_,f_,rfl,h⟩ hb;exact ⟨s_,A_,n_,c_,B_,m_,d_,t_,E_,i_,e_,F_,j_,f_,rfl,h.below hb⟩
     · rintro T cs w1 w2 g c0 ⟨s_,A_,n_,c_,B_,m_,d_,t_,E_,i_,e_,F_,j_,f_,rfl,h⟩ hB ho;exact ⟨s_,A_,n_,c_,B_,m_,d_,t_,E_,i_,e_,F_,j_,f_,rfl,h.box hB ho⟩
 · intro p hp q hq h
   simp only [List.mem_cons,List.not_mem_nil,or_false] at hp hq
   rcases hp with rfl <;> rcases hq with rfl
   · rfl
 · intro p hp q hq h
   simp only [List.mem_cons,List.not_mem_nil,or_false] at hp hq
   rcases hp with rfl <;> rcases hq with rfl
   · rfl
 · intro i o h1 h2
   match i,h1 with
   | 0,h1=>cases h1;cases h2
   | 1,h1=>cases h1;cases h2
   | 2,h1=>cases h1;cases h2
   | 3,h1=>cases h1;cases h2
   | 4,h1=>cases h1;cases h2
   | 5,h1=>cases h1;cases h2
   | 6,h1=>cases h1;cases h2
   | 7,h1=>cases h1;cases h2
   | 8,h1=>cases h1;cases h2
   | 9,h1=>cases h1;cases h2
   | 10,h1=>cases h1;cases h2
   | 11,h1=>cases h1;cases h2
   | 12,h1=>exact ⟨B0_mpt px py ox oy xx xy yx yy,List.Mem.head _,rfl⟩
   | i+13,h1=>cases h1
 · intro t
   unfold F_mpt
   split <;> first | exact (stays_eq _).inn _ | exact (stays_q _ _).inn _ | exact (stays_z _ _).inn _ | exact (stays_r _ _).inn _ | exact (stays_rq _ _).inn _ | exact (stays_pg _ _ _).inn _ | exact (stays_true).inn _
 · intro i o t sv w' ho hia hd J0 hf
   have XP:=XP.below J0;have XO:=XO.below J0;have XX:=XX.below J0;have XY:=XY.below J0;have p:=p.below J0;have o0:=o0.below J0;have x0:=x0.below J0;have y0:=y0.below J0
   match i,ho with
   | 0,ho =>
     obtain rfl:o0_mpt=o:=Option.some.inj ho
     cases hd
     refine wpOp_plain' (o:=o0_mpt) rfl rfl ?_
     unfold Oper.wp o0_mpt
     rw [run_load6 (E7 sv) XO.c0 XO.c1 XO.c2 XO.c3 XO.c4 XO.c5,Oper.upon_value]
     exact ⟨_,rfl,Below.refl _ _,rfl⟩
   | 1,ho =>
     obtain rfl:o1_mpt=o:=Option.some.inj ho
     cases hd
     refine wpOp_plain' (o:=o1_mpt) rfl rfl ?_
     unfold Oper.wp o1_mpt
     rw [run_load6 (E9 sv) XX.c0 XX.c1 XX.c2 XX.c3 XX.c4 XX.c5,Oper.upon_value]
     exact ⟨_,rfl,Below.refl _ _,rfl⟩
   | 2,ho =>
     obtain rfl:o2_mpt=o:=Option.some.inj ho
     cases hd
     refine wpOp_plain' (o:=o2_mpt) rfl rfl ?_
     unfold Oper.wp o2_mpt
     rw [run_fp0 (E4 sv),Oper.upon_value]
     exact ⟨_,rfl,Below.refl _ _,rfl⟩
   | 3,ho =>
     obtain rfl:o3_mpt=o:=Option.some.inj ho
     cases hd
     have f49:sv 49=Value.pointer (some ⟨gp,0,none⟩):=hf ⟨2,.data⟩ (by simp [o3_mpt]) rfl _ 49 rfl rfl (NE _ (by decide))
     refine wpOp_plain' (o:=o3_mpt) rfl rfl ?_
     unfold Oper.wp o3_mpt
     rw [run_loadP0 ((G sv 49 (by decide) (by decide)).trans f49) XP,Oper.upon_value]
     exact ⟨_,rfl,Below.refl _ _,rfl⟩
   | 4,ho =>
     obtain rfl:o4_mpt=o:=Option.some.inj ho
     cases hd
     have f48:sv 48=Value.agg #[.bool s_x,.slice A_x n_x c_x,.slice B_x m_x d_x,.bool t_x,.slice E_x i_x e_x,.slice F_x j_x f_x]:=hf ⟨1,.data⟩ (by simp [o4_mpt]) rfl _ 48 rfl rfl (NE _ (by decide))
     have f50:sv 50=Value.agg #[.bool s_p,.slice A_p n_p c_p,.slice B_p m_p d_p]:=hf ⟨3,.data⟩ (by simp [o4_mpt]) rfl _ 50 rfl rfl (NE _ (by decide))
     refine wpOp_plain' (o:=o4_mpt) rfl rfl ?_
     unfold Oper.wp o4_mpt
     rw [rc_gesso_pt_Scale ((G sv 48 (by decide) (by decide)).trans f48) ((G sv 50 (by decide) (by decide)).trans f50) rfl,Oper.upon_enter]
     refine (pscale_p x0.pr p.qx (by decide) (by decide) (.inl (by decide)) (by decide) (by decide)).mono ?_
     rintro e w1 ⟨s_,A_,n_,c_,B_,m_,d_,t_,E_,i_,e_,F_,j_,f_,rfl,hq,hh⟩
     exact ⟨_,rfl,hh,s_,A_,n_,c_,B_,m_,d_,t_,E_,i_,e_,F_,j_,f_,rfl,hq⟩
   | 5,ho =>
     obtain rfl:o5_mpt=o:=Option.some.inj ho
     cases hd
     refine wpOp_plain' (o:=o5_mpt) rfl rfl ?_
     unfold Oper.wp o5_mpt
     rw [run_load6 (E10 sv) XY.c0 XY.c1 XY.c2 XY.c3 XY.c4 XY.c5,Oper.upon_value]
     exact ⟨_,rfl,Below.refl _ _,rfl⟩
   | 6,ho =>
     obtain rfl:o6_mpt=o:=Option.some.inj ho
     cases hd
     refine wpOp_plain' (o:=o6_mpt) rfl rfl ?_
     unfold Oper.wp o6_mpt
     rw [run_fp1 (E4 sv),Oper.upon_value]
     exact ⟨_,rfl,Below.refl _ _,rfl⟩
   | 7,ho =>
     obtain rfl:o7_mpt=o:=Option.some.inj ho
     cases hd
     have f53:sv 53=Value.pointer (some ⟨gp,3,none⟩):=hf ⟨6,.data⟩ (by simp [o7_mpt]) rfl _ 53 rfl rfl (NE _ (by decide))
     refine wpOp_plain' (o:=o7_mpt) rfl rfl ?_
     unfold Oper.wp o7_mpt
     rw [run_loadP1 ((G sv 53 (by decide) (by decide)).trans f53) XP,Oper.upon_value]
     exact ⟨_,rfl,Below.refl _ _,rfl⟩
   | 8,ho =>
     obtain rfl:o8_mpt=o:=Option.some.inj ho
     cases hd
     have f52:sv 52=Value.agg #[.bool s_y,.slice A_y n_y c_y,.slice B_y m_y d_y,.bool t_y,.slice E_y i_y e_y,.slice F_y j_y f_y]:=hf ⟨5,.data⟩ (by simp [o8_mpt]) rfl _ 52 rfl rfl (NE _ (by decide))
     have f54:sv 54=Value.agg #[.bool t_p,.slice E_p i_p e_p,.slice F_p j_p f_p]:=hf ⟨7,.data⟩ (by simp [o8_mpt]) rfl _ 54 rfl rfl (NE _ (by decide))
     refine wpOp_plain' (o:=o8_mpt) rfl rfl ?_
     unfold Oper.wp o8_mpt
     rw [rc_gesso_pt_Scale ((G sv 52 (by decide) (by decide)).trans f52) ((G sv 54 (by decide) (by decide)).trans f54) rfl,Oper.upon_enter]
     refine (pscale_p y0.pr p.qy (by decide) (by decide) (.inl (by decide)) (by decide) (by decide)).mono ?_
     rintro e w1 ⟨s_,A_,n_,c_,B_,m_,d_,t_,E_,i_,e_,F_,j_,f_,rfl,hq,hh⟩
     exact ⟨_,rfl,hh,s_,A_,n_,c_,B_,m_,d_,t_,E_,i_,e_,F_,j_,f_,rfl,hq⟩
   | 9,ho =>
     obtain rfl:o9_mpt=o:=Option.some.inj ho
     cases hd
     have h51:VPG (xx*px) (xy*px) (((6+1+(6+1)+1+6+1)+(6+1+(6+1)+1+6+1)+1)+6) (sv 51) w':=hf ⟨4,.data⟩ (by simp [o9_mpt]) rfl _ 51 rfl rfl (NE _ (by decide))
     obtain ⟨s51_,A51_,n51_,c51_,B51_,m51_,d51_,t51_,E51_,i51_,e51_,F51_,j51_,f51_,f51,q51⟩:=h51
     have h55:VPG (yx*py) (yy*py) (((6+1+(6+1)+1+6+1)+(6+1+(6+1)+1+6+1)+1)+6) (sv 55) w':=hf ⟨8,.data⟩ (by simp [o9_mpt]) rfl _ 55 rfl rfl (NE _ (by decide))
     obtain ⟨s55_,A55_,n55_,c55_,B55_,m55_,d55_,t55_,E55_,i55_,e55_,F55_,j55_,f55_,f55,q55⟩:=h55
     refine wpOp_plain' (o:=o9_mpt) rfl rfl ?_
     unfold Oper.wp o9_mpt
     rw [rc_gesso_pt_Add ((G sv 51 (by decide) (by decide)).trans f51) ((G sv 55 (by decide) (by decide)).trans f55) rfl,Oper.upon_enter]
     refine (padd_p q51.pr q55.pr (by decide) (by decide) (.inl (by decide)) (by decide) (by decide)).mono ?_
     rintro e w1 ⟨s_,A_,n_,c_,B_,m_,d_,t_,E_,i_,e_,F_,j_,f_,rfl,hq,hh⟩
     exact ⟨_,rfl,hh,s_,A_,n_,c_,B_,m_,d_,t_,E_,i_,e_,F_,j_,f_,rfl,hq⟩
   | 10,ho =>
     obtain rfl:o10_mpt=o:=Option.some.inj ho
     cases hd
     have f47:sv 47=Value.agg #[.bool s_o,.slice A_o n_o c_o,.slice B_o m_o d_o,.bool t_o,.slice E_o i_o e_o,.slice F_o j_o f_o]:=hf ⟨0,.data⟩ (by simp [o10_mpt]) rfl _ 47 rfl rfl (NE _ (by decide))
     have h56:VPG (xx*px+yx*py) (xy*px+yy*py) (((6+1+(6+1)+1+6+1)+(6+1+(6+1)+1+6+1)+1)+6+(((6+1+(6+1)+1+6+1)+(6+1+(6+1)+1+6+1)+1)+6)+1) (sv 56) w':=hf ⟨9,.data⟩ (by simp [o10_mpt]) rfl _ 56 rfl rfl (NE _ (by decide))
     obtain ⟨s56_,A56_,n56_,c56_,B56_,m56_,d56_,t56_,E56_,i56_,e56_,F56_,j56_,f56_,f56,q56⟩:=h56
     refine wpOp_plain' (o:=o10_mpt) rfl rfl ?_
     unfold Oper.wp o10_mpt
     rw [rc_gesso_pt_Add ((G sv 47 (by decide) (by decide)).trans f47) ((G sv 56 (by decide) (by decide)).trans f56) rfl,Oper.upon_enter]
     refine (padd_p o0.pr q56.pr (by decide) (by decide) (.inl (by decide)) (by decide) (by decide)).mono ?_
     rintro e w1 ⟨s_,A_,n_,c_,B_,m_,d_,t_,E_,i_,e_,F_,j_,f_,rfl,hq,hh⟩
     exact ⟨_,rfl,hh,s_,A_,n_,c_,B_,m_,d_,t_,E_,i_,e_,F_,j_,f_,rfl,hq⟩
   | 11,ho=>cases ho;cases hd;exact absurd rfl (hia (B0_mpt px py ox oy xx xy yx yy) (List.Mem.head _))
   | 12,ho=>cases ho;cases hd
   | i+13,ho=>cases ho
 · intro p hp os sv w' g hos J0 p1 p3 hf
   simp only [List.mem_cons,List.not_mem_nil,or_false] at hp
   rcases hp with rfl
   · obtain rfl:o12_mpt=os:=Option.some.inj hos
     have h1:VPG (ox+(xx*px+yx*py)) (oy+(xy*px+yy*py)) ((6+1+(6+1)+1+6+1)+(((6+1+(6+1)+1+6+1)+(6+1+(6+1)+1+6+1)+1)+6+(((6+1+(6+1)+1+6+1)+(6+1+(6+1)+1+6+1)+1)+6)+1)+1) (sv 57) w':=hf ⟨10,.data⟩ (by simp [o12_mpt]) rfl _ 57 rfl rfl (NE _ (by decide))
     rw [← G sv 57 (by decide) (by decide)] at h1
     refine store_pg (x:=ox+(xx*px+yx*py)) (y:=oy+(xy*px+yy*py)) (k:=(6+1+(6+1)+1+6+1)+(((6+1+(6+1)+1+6+1)+(6+1+(6+1)+1+6+1)+1)+6+(((6+1+(6+1)+1+6+1)+(6+1+(6+1)+1+6+1)+1)+6)+1)+1) (ac:=putAll ac L_mpt sv) (z:=.tmp 57) ?_ ?_ ?_
     · exact (G sv 11 (by decide) (by decide)).trans p1
     · exact h1
     · exact p3
 · intro sv w' J0 hF hB hap
   obtain ⟨g0,cs0,p0,r0,b0,⟨s0,A0,n0,c0,B0,m0,d0,t0,E0,i0,e0,F0,j0,f0,rfl,h0⟩⟩:=hB (B0_mpt px py ox oy xx xy yx yy) (List.Mem.head _)
   have p0':sv 11=.pointer (some ⟨g0,0,none⟩):=p0
   exact hend sv w' g0 _ _ _ _ _ _ _ _ _ _ _ _ _ _ h0 b0.at_ r0 p0'   J0
abbrev L_mpm:List Nat:=[58,59,60,61,12]
def o0_mpm:Oper:=⟨some 58,.build 91 #[(0,.const (Value.int IntKind.i64 65536)),(1,.const (Value.int IntKind.i64 0)),(2,.const (Value.int IntKind.i64 0)),(3,.const (Value.int IntKind.i64 65536)),(4,.const (Value.int IntKind.i64 96)),(5,.const (Value.int IntKind.i64 (-32)))],91, "law.go:81",#[],none⟩
def o1_mpm:Oper:=⟨some 59,.call ⟨.value (.func 51),#[.tmp 58],#[91]⟩,71, "law.go:81",#[⟨0,.data⟩],none⟩
def o2_mpm:Oper:=⟨some 60,.load 29 (.tmp 4),29, "law.go:81",#[],none⟩
def o3_mpm:Oper:=⟨some 61,.call ⟨.value (.func 43),#[.tmp 59,.tmp 60],#[71,29]⟩,29, "law.go:81",#[⟨1,.data⟩,⟨2,.data⟩,⟨1,.chain⟩],none⟩
def o4_mpm:Oper:=⟨some 12,.alloc 29,0, "law.go:81",#[],none⟩
def o5_mpm:Oper:=⟨none,.store 29 (.tmp 12) (.tmp 61),0, "law.go:81",#[⟨4,.data⟩,⟨3,.data⟩,⟨3,.chain⟩,⟨0,.phase⟩,⟨1,.phase⟩,⟨2,.phase⟩,⟨3,.phase⟩,⟨4,.phase⟩],none⟩
theorem rc_gesso_mat_Of {e:Operand→Value} {x0:Operand} {d:Option Tmp} {y:Nat} {pos:String} {af:Array Edge} {u0:Value} (h0:e x0=u0) (hf:e (.func 51)=.func (.func 51) #[] #[]) :
 (execOp e ⟨d,.call ⟨.value (.func 51),#[x0],#[91]⟩,y,pos,af,none⟩).run Tryz.prog w=.ok (.enter 51 #[u0]) w:=by
 go_simp
def F_mpm (s_p:Bool) (t_p:Bool) (A_p:Option Addr) (B_p:Option Addr) (E_p:Option Addr) (F_p:Option Addr) (n_p:Nat) (c_p:Nat) (m_p:Nat) (d_p:Nat) (i_p:Nat) (e_p:Nat) (j_p:Nat) (f_p:Nat) (px:Rat) (py:Rat) (sl:Nat):Value→World→Prop :=
 match sl with
 | 58=>fun x _=>x=Value.agg #[.int .i64 65536,.int .i64 0,.int .i64 0,.int .i64 65536,.int .i64 96,.int .i64 (-32)]
 | 59=>VMT (AM.of 65536 0 0 65536 96 (-32)) (1) (1)
 | 60=>fun x _=>x=Value.agg #[.bool s_p,.slice A_p n_p c_p,.slice B_p m_p d_p,.bool t_p,.slice E_p i_p e_p,.slice F_p j_p f_p]
 | 61=>VPG ((AM.of 65536 0 0 65536 96 (-32)).ax px py) ((AM.of 65536 0 0 65536 96 (-32)).ay px py) ((1+6+(1+6)+1+1+1))
 | _=>fun _ _=>True
def B0_mpm (px:Rat) (py:Rat):BoxOp :=
 ⟨4,5,12,29,#[.bool false,.slice none 0 0,.slice none 0 0,.bool false,.slice none 0 0,.slice none 0 0],fun cs w=>∃ s A n c B m d t E i e F j f,cs=#[.bool s,.slice A n c,.slice B m d,.bool t,.slice E i e,.slice F j f]∧PG w s A n c B m d t E i e F j f ((AM.of 65536 0 0 65536 96 (-32)).ax px py) ((AM.of 65536 0 0 65536 96 (-32)).ay px py) ((1+6+(1+6)+1+1+1))⟩
theorem mpm_region {id:Nat} {ac:Act} {Q:Exit→Act→World→Prop} {px py:Rat} {gp:Nat}
 (hsz:61 < ac.tmps.size) (e4:ac.eval (.tmp 4)=Value.pointer (some ⟨gp,0,none⟩)) (XP:B6 w gp (.bool s_p) (.slice A_p n_p c_p) (.slice B_p m_p d_p) (.bool t_p) (.slice E_p i_p e_p) (.slice F_p j_p f_p)) (p:PR w s_p A_p n_p c_p B_p m_p d_p t_p E_p i_p e_p F_p j_p f_p px py 6)
 (hend:∀ (V:Nat→Value) (w':World) (g0:Nat) (s0:Bool) (A0:Option Addr) (n0:Nat) (c0:Nat) (B0:Option Addr) (m0:Nat) (d0:Nat) (t0:Bool) (E0:Option Addr) (i0:Nat) (e0:Nat) (F0:Option Addr) (j0:Nat) (f0:Nat),PG w' s0 A0 n0 c0 B0 m0 d0 t0 E0 i0 e0 F0 j0 f0 ((AM.of 65536 0 0 65536 96 (-32)).ax px py) ((AM.of 65536 0 0 65536 96 (-32)).ay px py) ((1+6+(1+6)+1+1+1))→B6 w' g0 (.bool s0) (.slice A0 n0 c0) (.slice B0 m0 d0) (.bool t0) (.slice E0 i0 e0) (.slice F0 j0 f0)→w.heap.size≤g0→V 12=.pointer (some ⟨g0,0,none⟩)→Below w.heap.size w w'→Q .normal (putAll ac [58,59,60,61,12] V) w') :
 (Code.region id #[o0_mpm,o1_mpm,o2_mpm,o3_mpm,o4_mpm,o5_mpm] true).wp Tryz.prog Q ac w:=by
 have hnd:L_mpm.Nodup:=by decide
 have G:∀ (sv:Nat→Value) (t:Nat),t ∈ L_mpm→t≤61→(putAll ac L_mpm sv).eval (.tmp t)=sv t:=fun sv t ht h=>eval_putAll_mem (t:=t) L_mpm ac hnd ht (Nat.lt_of_le_of_lt h hsz)
 have E4:∀ sv:Nat→Value,(putAll ac L_mpm sv).eval (.tmp 4)=Value.pointer (some ⟨gp,0,none⟩):=fun sv=>(eval_putAll_not (v:=sv) L_mpm ac (show 4 ∉ _ by decide)).trans e4
 have NE:∀ t:Nat,(t ≠ 12)→∀ p ∈ [B0_mpm px py],t ≠ p.tA:=by
  intro t ht p hp
  simp only [List.mem_cons,List.not_mem_nil,or_false] at hp
  rcases hp with rfl
  · exact ht
 refine wp_region_flowsT L_mpm [B0_mpm px py] (F_mpm s_p t_p A_p B_p E_p F_p n_p c_p m_p d_p i_p e_p j_p f_p px py) (by kernel_rfl) (by kernel_rfl) rfl hnd ?_ ?_ ?_ ?_ ?_ ?_ ?_ ?_
 · intro p hp
   simp only [List.mem_cons,List.not_mem_nil,or_false] at hp
   rcases hp with rfl
   · refine ⟨⟨o4_mpm,rfl,rfl,rfl,fun e w'=>run_alloc6⟩,⟨o5_mpm,rfl,rfl,rfl,⟨4,.data⟩,by simp [o5_mpm],rfl,rfl⟩,free6 _ _ _ _ _ _ _ _ _ _ _ _ _ _,?_,?_⟩
     · rintro cs w1 w2 ⟨s_,A_,n_,c_,B_,m_,d_,t_,E_,i_,e_,F_,j_,f_,rfl,h⟩ hb;exact ⟨s_,A_,n_,c_,B_,m_,d_,t_,E_,i_,e_,F_,j_,f_,rfl,h.below hb⟩
     · rintro T cs w1 w2 g c0 ⟨s_,A_,n_,c_,B_,m_,d_,t_,E_,i_,e_,F_,j_,f_,rfl,h⟩ hB ho;exact ⟨s_,A_,n_,c_,B_,m_,d_,t_,E_,i_,e_,F_,j_,f_,rfl,h.box hB ho⟩
 · intro p hp q hq h
   simp only [List.mem_cons,List.not_mem_nil,or_false] at hp hq
   rcases hp with rfl <;> rcases hq with rfl
   · rfl
 · intro p hp q hq h
   simp only [List.mem_cons,List.not_mem_nil,or_false] at hp hq
   rcases hp with rfl <;> rcases hq with rfl
   · rfl
 · intro i o h1 h2
   match i,h1 with
   | 0,h1=>cases h1;cases h2
   | 1,h1=>cases h1;cases h2
   | 2,h1=>cases h1;cases h2
   | 3,h1=>cases h1;cases h2
   | 4,h1=>cases h1;cases h2
   | 5,h1=>exact ⟨B0_mpm px py,List.Mem.head _,rfl⟩
   | i+6,h1=>cases h1
 · intro t
   unfold F_mpm
   split <;> first | exact (stays_eq _).inn _ | exact (stays_q _ _).inn _ | exact (stays_z _ _).inn _ | exact (stays_r _ _).inn _ | exact (stays_rq _ _).inn _ | exact (stays_pg _ _ _).inn _ | exact (stays_true).inn _ | exact (stays_mt _ _ _).inn _
 · intro i o t sv w' ho hia hd J0 hf
   have XP:=XP.below J0;have p:=p.below J0
   match i,ho with
   | 0,ho =>
     obtain rfl:o0_mpm=o:=Option.some.inj ho
     cases hd
     refine wpOp_plain' (o:=o0_mpm) rfl rfl ?_
     unfold Oper.wp o0_mpm
     rw [run_buildp  ,Oper.upon_value]
     exact ⟨_,rfl,Below.refl _ _,rfl⟩
   | 1,ho =>
     obtain rfl:o1_mpm=o:=Option.some.inj ho
     cases hd
     have f58:sv 58=Value.agg #[.int .i64 65536,.int .i64 0,.int .i64 0,.int .i64 65536,.int .i64 96,.int .i64 (-32)]:=hf ⟨0,.data⟩ (by simp [o1_mpm]) rfl _ 58 rfl rfl (NE _ (by decide))
     refine wpOp_plain' (o:=o1_mpm) rfl rfl ?_
     unfold Oper.wp o1_mpm
     rw [rc_gesso_mat_Of ((G sv 58 (by decide) (by decide)).trans f58) rfl,Oper.upon_enter]
     refine (mof_p 65536 0 0 65536 96 (-32) (by decide) (by decide) (by decide) (by decide) (by decide) (by decide) (by decide) (by decide) (by decide) (by decide) (by decide) (by decide) _).mono ?_
     rintro e w1 ⟨u_,rfl,hq,hh⟩
     exact ⟨_,rfl,hh,u_,rfl,hq⟩
   | 2,ho =>
     obtain rfl:o2_mpm=o:=Option.some.inj ho
     cases hd
     refine wpOp_plain' (o:=o2_mpm) rfl rfl ?_
     unfold Oper.wp o2_mpm
     rw [run_load6 (E4 sv) XP.c0 XP.c1 XP.c2 XP.c3 XP.c4 XP.c5,Oper.upon_value]
     exact ⟨_,rfl,Below.refl _ _,rfl⟩
   | 3,ho =>
     obtain rfl:o3_mpm=o:=Option.some.inj ho
     cases hd
     have h59:VMT (AM.of 65536 0 0 65536 96 (-32)) (1) (1) (sv 59) w':=hf ⟨1,.data⟩ (by simp [o3_mpm]) rfl _ 59 rfl rfl (NE _ (by decide))
     obtain ⟨u59_,f59,q59⟩:=h59
     have f60:sv 60=Value.agg #[.bool s_p,.slice A_p n_p c_p,.slice B_p m_p d_p,.bool t_p,.slice E_p i_p e_p,.slice F_p j_p f_p]:=hf ⟨2,.data⟩ (by simp [o3_mpm]) rfl _ 60 rfl rfl (NE _ (by decide))
     refine wpOp_plain' (o:=o3_mpm) rfl rfl ?_
     unfold Oper.wp o3_mpm
     rw [rc_gesso_mat_Apply ((G sv 59 (by decide) (by decide)).trans f59) ((G sv 60 (by decide) (by decide)).trans f60) rfl,Oper.upon_enter]
     refine (mapply_p q59.mr p (by decide) (by decide) (by decide) (by decide) (by decide)).mono ?_
     rintro e w1 ⟨s_,A_,n_,c_,B_,m_,d_,t_,E_,i_,e_,F_,j_,f_,rfl,hq,hh⟩
     exact ⟨_,rfl,hh,s_,A_,n_,c_,B_,m_,d_,t_,E_,i_,e_,F_,j_,f_,rfl,hq⟩
   | 4,ho=>cases ho;cases hd;exact absurd rfl (hia (B0_mpm px py) (List.Mem.head _))
   | 5,ho=>cases ho;cases hd
   | i+6,ho=>cases ho
 · intro p hp os sv w' g hos J0 p1 p3 hf
   simp only [List.mem_cons,List.not_mem_nil,or_false] at hp
   rcases hp with rfl
   · obtain rfl:o5_mpm=os:=Option.some.inj hos
     have h1:VPG ((AM.of 65536 0 0 65536 96 (-32)).ax px py) ((AM.of 65536 0 0 65536 96 (-32)).ay px py) ((1+6+(1+6)+1+1+1)) (sv 61) w':=hf ⟨3,.data⟩ (by simp [o5_mpm]) rfl _ 61 rfl rfl (NE _ (by decide))
     rw [← G sv 61 (by decide) (by decide)] at h1
     refine store_pg (x:=(AM.of 65536 0 0 65536 96 (-32)).ax px py) (y:=(AM.of 65536 0 0 65536 96 (-32)).ay px py) (k:=(1+6+(1+6)+1+1+1)) (ac:=putAll ac L_mpm sv) (z:=.tmp 61) ?_ ?_ ?_
     · exact (G sv 12 (by decide) (by decide)).trans p1
     · exact h1
     · exact p3
 · intro sv w' J0 hF hB hap
   obtain ⟨g0,cs0,p0,r0,b0,⟨s0,A0,n0,c0,B0,m0,d0,t0,E0,i0,e0,F0,j0,f0,rfl,h0⟩⟩:=hB (B0_mpm px py) (List.Mem.head _)
   have p0':sv 12=.pointer (some ⟨g0,0,none⟩):=p0
   exact hend sv w' g0 _ _ _ _ _ _ _ _ _ _ _ _ _ _ h0 b0.at_ r0 p0'   J0
end
section
open Go Go.ChangeShapes Go.WideShapes Go.ChangeAt Go.RowKit
theorem open_rat3 {H:Type} {enc:TypeId × Value→H} {base fuel:Nat} {held:Bool} {x0 x1 x2:Value} {y:DataW H × List MemPlace}
 (h:DataW.trod enc Tryz.prog w base (fun _=>true) held fuel 27 [x0,x1,x2]=some y) :
 ∃ (q:QV) (zs ys:List Int),x0=.bool q.s∧x1=.slice q.A q.n q.c∧x2=.slice q.B q.m q.d∧IsRow64 w q.A q.n q.c zs∧IsRow64 w q.B q.m q.d ys:=by
 have e0:Tryz.prog.cellsOf 25=2:=by kernel_rfl
 have e1:Tryz.prog.cellsOf 23=1:=by kernel_rfl
 have e2:Tryz.prog.cellsOf 4=1:=by kernel_rfl
 obtain ⟨z0,z1,m,hx2,_,h2,h3⟩:=trod_struct2 Tryz.underlying27 h
 simp [e0] at h2
 simp [e1] at h3
 obtain ⟨u0,u1,k,hx4,_,h6,h7⟩:=trod_struct2 Tryz.underlying25 h2
 simp [e2] at h6
 simp [e1] at h7
 obtain ⟨b,hb,_⟩:=DataW.trod_bool Tryz.underlying4 h6
 cases hb
 obtain ⟨A1,n1,c1,zs1,rfl,r1⟩:∃ A n c zs,x1=.slice A n c∧IsRow64 w A n c zs:=by
  rcases open_ints Tryz.underlying23 Tryz.underlying161 (by kernel_rfl) h7 with ⟨hcs,_⟩ | ⟨x,l,c,zs,hcs,_,hl,hm,hz,_,hcell,hwz⟩
  · exact ⟨none,0,0,[],by cases hcs;rfl,.inl ⟨rfl,rfl,rfl,rfl⟩⟩
  · exact ⟨some x,l,c,zs,by cases hcs;rfl,.inr ⟨x,rfl,hl,hm,by simpa using hz,hcell,hwz⟩⟩
 obtain ⟨A2,n2,c2,zs2,rfl,r2⟩:∃ A n c zs,x2=.slice A n c∧IsRow64 w A n c zs:=by
  rcases open_ints Tryz.underlying23 Tryz.underlying161 (by kernel_rfl) h3 with ⟨hcs,_⟩ | ⟨x,l,c,zs,hcs,_,hl,hm,hz,_,hcell,hwz⟩
  · exact ⟨none,0,0,[],by cases hcs;rfl,.inl ⟨rfl,rfl,rfl,rfl⟩⟩
  · exact ⟨some x,l,c,zs,by cases hcs;rfl,.inr ⟨x,rfl,hl,hm,by simpa using hz,hcell,hwz⟩⟩
 exact ⟨⟨_,A1,n1,c1,A2,n2,c2⟩,zs1,zs2,rfl,rfl,rfl,r1,r2⟩
def MRows (w:World) (m:MV):Prop:=(∃ zs,IsRow64 w m.a.A m.a.n m.a.c zs)∧(∃ zs,IsRow64 w m.a.B m.a.m m.a.d zs)∧(∃ zs,IsRow64 w m.b.A m.b.n m.b.c zs)∧(∃ zs,IsRow64 w m.b.B m.b.m m.b.d zs)∧(∃ zs,IsRow64 w m.c.A m.c.n m.c.c zs)∧(∃ zs,IsRow64 w m.c.B m.c.m m.c.d zs)∧(∃ zs,IsRow64 w m.d.A m.d.n m.d.c zs)∧(∃ zs,IsRow64 w m.d.B m.d.m m.d.d zs)∧(∃ zs,IsRow64 w m.e.A m.e.n m.e.c zs)∧(∃ zs,IsRow64 w m.e.B m.e.m m.e.d zs)∧(∃ zs,IsRow64 w m.f.A m.f.n m.f.c zs)∧(∃ zs,IsRow64 w m.f.B m.f.m m.f.d zs)
theorem open_zmat {H:Type} {enc:TypeId × Value→H} {base:Nat} {held:Bool} {r:Reach} {b0:Nat} {v:Value} {d:DataW H} {p:List MemPlace}
 (hv:Value.okWide Tryz.prog w r b0 71 v) (h:DataW.Trod enc Tryz.prog w base (fun _=>true) held 71 v d p) :
 ∃ m:MV,v=.agg #[.bool m.a.s,.slice m.a.A m.a.n m.a.c,.slice m.a.B m.a.m m.a.d,.bool m.b.s,.slice m.b.A m.b.n m.b.c,.slice m.b.B m.b.m m.b.d,.bool m.c.s,.slice m.c.A m.c.n m.c.c,.slice m.c.B m.c.m m.c.d,.bool m.d.s,.slice m.d.A m.d.n m.d.c,.slice m.d.B m.d.m m.d.d,.bool m.e.s,.slice m.e.A m.e.n m.e.c,.slice m.e.B m.e.m m.e.d,.bool m.f.s,.slice m.f.A m.f.n m.f.c,.slice m.f.B m.f.m m.f.d]∧MRows w m:=by
 have e3:Tryz.prog.cellsOf 27=3:=by kernel_rfl
 obtain ⟨cs,rfl,hsz⟩:=okWide_struct Tryz.underlying71 hv
 have hsz18:cs.size=18:=hsz.trans (by kernel_rfl)
 obtain ⟨x0,x1,x2,x3,x4,x5,x6,x7,x8,x9,x10,x11,x12,x13,x14,x15,x16,x17,rfl⟩:∃ x0 x1 x2 x3 x4 x5 x6 x7 x8 x9 x10 x11 x12 x13 x14 x15 x16 x17,cs=#[x0,x1,x2,x3,x4,x5,x6,x7,x8,x9,x10,x11,x12,x13,x14,x15,x16,x17]:=by
  obtain ⟨l⟩:=cs
  match l,hsz18 with
  | [x0,x1,x2,x3,x4,x5,x6,x7,x8,x9,x10,x11,x12,x13,x14,x15,x16,x17],_=>exact ⟨x0,x1,x2,x3,x4,x5,x6,x7,x8,x9,x10,x11,x12,x13,x14,x15,x16,x17,rfl⟩
 obtain ⟨fuel,hf⟩:=h
 obtain ⟨xs,n,_,_,_,hlen,hi⟩:=DataW.trod_struct Tryz.underlying71 hf
 match xs,hlen with
 | [y0,y1,y2,y3,y4,y5],_ =>
   have h0:=hi 0 _ rfl
   simp [Value.cells,e3] at h0
   have h1:=hi 1 _ rfl
   simp [Value.cells,e3] at h1
   have h2:=hi 2 _ rfl
   simp [Value.cells,e3] at h2
   have h3:=hi 3 _ rfl
   simp [Value.cells,e3] at h3
   have h4:=hi 4 _ rfl
   simp [Value.cells,e3] at h4
   have h5:=hi 5 _ rfl
   simp [Value.cells,e3] at h5
   obtain ⟨q0,z0,s0,rfl,rfl,rfl,r0,t0⟩:=open_rat3 h0
   obtain ⟨q1,z1,s1,rfl,rfl,rfl,r1,t1⟩:=open_rat3 h1
   obtain ⟨q2,z2,s2,rfl,rfl,rfl,r2,t2⟩:=open_rat3 h2
   obtain ⟨q3,z3,s3,rfl,rfl,rfl,r3,t3⟩:=open_rat3 h3
   obtain ⟨q4,z4,s4,rfl,rfl,rfl,r4,t4⟩:=open_rat3 h4
   obtain ⟨q5,z5,s5,rfl,rfl,rfl,r5,t5⟩:=open_rat3 h5
   exact ⟨⟨q0,q1,q2,q3,q4,q5⟩,rfl,⟨z0,r0⟩,⟨s0,t0⟩,⟨z1,r1⟩,⟨s1,t1⟩,⟨z2,r2⟩,⟨s2,t2⟩,⟨z3,r3⟩,⟨s3,t3⟩,⟨z4,r4⟩,⟨s4,t4⟩,⟨z5,r5⟩,⟨s5,t5⟩⟩
theorem MRows.mr {m:MV} (h:MRows w m):∃ v:AM,((((m.a.n≤6∧m.a.m≤6)∧m.b.n≤6∧m.b.m≤6)∧(((m.c.n≤6∧m.c.m≤6)∧m.d.n≤6∧m.d.m≤6))∧(((m.e.n≤6∧m.e.m≤6)∧m.f.n≤6∧m.f.m≤6)))→MR w m v 6 6):=by
 obtain ⟨⟨_,ra⟩,⟨_,ta⟩,⟨_,rb⟩,⟨_,tb⟩,⟨_,rc⟩,⟨_,tc⟩,⟨_,rd⟩,⟨_,td⟩,⟨_,re⟩,⟨_,te⟩,⟨_,rf⟩,⟨_,tf⟩⟩:=h
 obtain ⟨lia,pa,sa,ea,_⟩:=ra.rd
 obtain ⟨lja,qa,ua,ga,_⟩:=ta.rd
 obtain ⟨lib,pb,sb,eb,_⟩:=rb.rd
 obtain ⟨ljb,qb,ub,gb,_⟩:=tb.rd
 obtain ⟨lic,pc,sc,ec,_⟩:=rc.rd
 obtain ⟨ljc,qc,uc,gc,_⟩:=tc.rd
 obtain ⟨lid,pd,sd,ed,_⟩:=rd.rd
 obtain ⟨ljd,qd,ud,gd,_⟩:=td.rd
 obtain ⟨lie,pe,se,ee,_⟩:=re.rd
 obtain ⟨lje,qe,ue,ge,_⟩:=te.rd
 obtain ⟨lif,pf,sf,ef,_⟩:=rf.rd
 obtain ⟨ljf,qf,uf,gf,_⟩:=tf.rd
 exact ⟨⟨_,_,_,_,_,_⟩,fun k=>⟨⟨QR.of_rd pa sa ea qa ua ga k.1.1.1 k.1.1.2,QR.of_rd pb sb eb qb ub gb k.1.2.1 k.1.2.2⟩,⟨QR.of_rd pc sc ec qc uc gc k.2.1.1.1 k.2.1.1.2,QR.of_rd pd sd ed qd ud gd k.2.1.2.1 k.2.1.2.2⟩,⟨QR.of_rd pe se ee qe ue ge k.2.2.1.1 k.2.2.1.2,QR.of_rd pf sf ef qf uf gf k.2.2.2.1 k.2.2.2.2⟩⟩⟩
end
end Go.Proofs.YtgneghgfpkkkdaaGreat
