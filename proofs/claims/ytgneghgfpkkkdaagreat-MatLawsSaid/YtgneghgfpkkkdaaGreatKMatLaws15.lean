/- MatLaws: part 15. -/
import Derived.Lib.SmallJoins
import Derived.Test.YtgneghgfpkkkdaaGreatKMatLaws0
import Derived.Test.YtgneghgfpkkkdaaGreatKMatLaws11
import Derived.Test.YtgneghgfpkkkdaaGreatKMatLaws14
set_option linter.unusedVariables false
set_option maxRecDepth 100000
set_option maxHeartbeats 16000000
variable {w:Go.World}
variable {s_a t_a:Bool} {A_a B_a E_a F_a:Option Go.Addr} {n_a c_a m_a d_a i_a e_a j_a f_a:Nat}
variable {s_b t_b:Bool} {A_b B_b E_b F_b:Option Go.Addr} {n_b c_b m_b d_b i_b e_b j_b f_b:Nat}
variable {s_c t_c:Bool} {A_c B_c E_c F_c:Option Go.Addr} {n_c c_c m_c d_c i_c e_c j_c f_c:Nat}
variable {s_p t_p:Bool} {A_p B_p E_p F_p:Option Go.Addr} {n_p c_p m_p d_p i_p e_p j_p f_p:Nat}
variable {s_q t_q:Bool} {A_q B_q E_q F_q:Option Go.Addr} {n_q c_q m_q d_q i_q e_q j_q f_q:Nat}
variable {s_r t_r:Bool} {A_r B_r E_r F_r:Option Go.Addr} {n_r c_r m_r d_r i_r e_r j_r f_r:Nat}
namespace Go.Proofs.YtgneghgfpkkkdaaGreat
section
open Go Go.RowKit
attribute [local go_sem ↓] open_LVM open_STM open_LVN open_STN
theorem zero2:Rat.divInt 0 1=0:=by decide +kernel
theorem unit2:Rat.divInt 1 1=1:=by decide +kernel
theorem AM.eq_of {v u:AM} (h1:v.a=u.a) (h2:v.b=u.b) (h3:v.c=u.c) (h4:v.d=u.d) (h5:v.e=u.e) (h6:v.f=u.f):v=u:=by
 cases v;cases u;simp only at h1 h2 h3 h4 h5 h6;subst h1 h2 h3 h4 h5 h6;rfl
theorem AM.same_self (v:AM):v.same v=true:=by unfold AM.same AM.sab AM.scd AM.sef;simp
theorem one_is:AM.one=⟨1,0,0,1,0,0⟩:=by unfold AM.one;rw [unit2,zero2]
theorem ik_det {v:AM} (h:v.det ≠ 0):v.ik*v.det=1:=by unfold AM.ik;rw [unit2];exact Rat.div_mul_cancel h
theorem inv_right {v:AM} (h:v.det ≠ 0):(v.mul v.inv).same AM.one=true:=by
 have e:v.mul v.inv=AM.one:=by
  have hk:=ik_det h;rw [one_is]
  unfold AM.det at hk
  apply AM.eq_of
  all_goals simp only [AM.mul,AM.inv,AM.undo,AM.dx,AM.dy,AM.ax,AM.ay]
  all_goals generalize v.ik=T at hk
  all_goals grind
 rw [e];exact AM.same_self _
theorem inv_left {v:AM} (h:v.det ≠ 0):(v.inv.mul v).same AM.one=true:=by
 have e:v.inv.mul v=AM.one:=by
  have hk:=ik_det h;rw [one_is]
  unfold AM.det at hk
  apply AM.eq_of
  all_goals simp only [AM.mul,AM.inv,AM.undo,AM.dx,AM.dy,AM.ax,AM.ay]
  all_goals generalize v.ik=T at hk
  all_goals grind
 rw [e];exact AM.same_self _
theorem inv_back {v:AM} (h:v.det ≠ 0) (x y:Rat):v.inv.ax (v.ax x y) (v.ay x y)=x∧v.inv.ay (v.ax x y) (v.ay x y)=y:=by
 have hk:=ik_det h
 unfold AM.det at hk
 simp only [AM.inv,AM.undo,AM.dx,AM.dy,AM.ax,AM.ay]
 generalize v.ik=T at hk
 constructor <;> grind
abbrev L_mla:List Nat:=[81,82,83,84,85,86,87,88,89,90,91,92,9,10,11]
def o0_mla:Oper:=⟨some 81,.load 71 (.tmp 3),71, "law.go:65",#[],none⟩
def o1_mla:Oper:=⟨some 82,.indexAddr 63 (.tmp 5) (.const (Value.int IntKind.i64 0)),0, "law.go:65",#[],none⟩
def o2_mla:Oper:=⟨some 83,.load 29 (.tmp 82),29, "law.go:65",#[⟨1,.data⟩],none⟩
def o3_mla:Oper:=⟨some 84,.call ⟨.value (.func 43),#[.tmp 81,.tmp 83],#[71,29]⟩,29, "law.go:65",#[⟨0,.data⟩,⟨2,.data⟩],none⟩
def o4_mla:Oper:=⟨some 85,.load 71 (.tmp 3),71, "law.go:65",#[],none⟩
def o5_mla:Oper:=⟨some 86,.indexAddr 63 (.tmp 5) (.const (Value.int IntKind.i64 1)),0, "law.go:65",#[],none⟩
def o6_mla:Oper:=⟨some 87,.load 29 (.tmp 86),29, "law.go:65",#[⟨5,.data⟩],none⟩
def o7_mla:Oper:=⟨some 88,.call ⟨.value (.func 43),#[.tmp 85,.tmp 87],#[71,29]⟩,29, "law.go:65",#[⟨4,.data⟩,⟨6,.data⟩,⟨3,.chain⟩],none⟩
def o8_mla:Oper:=⟨some 89,.load 71 (.tmp 3),71, "law.go:65",#[],none⟩
def o9_mla:Oper:=⟨some 90,.indexAddr 63 (.tmp 5) (.const (Value.int IntKind.i64 2)),0, "law.go:65",#[],none⟩
def o10_mla:Oper:=⟨some 91,.load 29 (.tmp 90),29, "law.go:65",#[⟨9,.data⟩],none⟩
def o11_mla:Oper:=⟨some 92,.call ⟨.value (.func 43),#[.tmp 89,.tmp 91],#[71,29]⟩,29, "law.go:65",#[⟨8,.data⟩,⟨10,.data⟩,⟨7,.chain⟩],none⟩
def o12_mla:Oper:=⟨some 9,.alloc 29,0, "law.go:65",#[],none⟩
def o13_mla:Oper:=⟨some 10,.alloc 29,0, "law.go:65",#[],none⟩
def o14_mla:Oper:=⟨some 11,.alloc 29,0, "law.go:65",#[],none⟩
def o15_mla:Oper:=⟨none,.store 29 (.tmp 9) (.tmp 84),0, "law.go:65",#[⟨12,.data⟩,⟨3,.data⟩,⟨11,.chain⟩,⟨0,.phase⟩,⟨1,.phase⟩,⟨2,.phase⟩,⟨3,.phase⟩,⟨4,.textOnly .lateStores⟩,⟨5,.textOnly .lateStores⟩,⟨6,.textOnly .lateStores⟩,⟨7,.textOnly .lateStoresUnsure⟩,⟨8,.textOnly .lateStores⟩,⟨9,.textOnly .lateStores⟩,⟨10,.textOnly .lateStores⟩,⟨11,.textOnly .lateStoresUnsure⟩,⟨12,.phase⟩,⟨13,.phase⟩,⟨14,.phase⟩],none⟩
def o16_mla:Oper:=⟨none,.store 29 (.tmp 10) (.tmp 88),0, "law.go:65",#[⟨13,.data⟩,⟨7,.data⟩,⟨15,.chain⟩,⟨0,.phase⟩,⟨1,.phase⟩,⟨2,.phase⟩,⟨3,.phase⟩,⟨4,.phase⟩,⟨5,.phase⟩,⟨6,.phase⟩,⟨7,.phase⟩,⟨8,.textOnly .lateStores⟩,⟨9,.textOnly .lateStores⟩,⟨10,.textOnly .lateStores⟩,⟨11,.textOnly .lateStoresUnsure⟩,⟨12,.phase⟩,⟨13,.phase⟩,⟨14,.phase⟩,⟨15,.phase⟩],none⟩
def o17_mla:Oper:=⟨none,.store 29 (.tmp 11) (.tmp 92),0, "law.go:65",#[⟨14,.data⟩,⟨11,.data⟩,⟨16,.chain⟩,⟨0,.phase⟩,⟨1,.phase⟩,⟨2,.phase⟩,⟨3,.phase⟩,⟨4,.phase⟩,⟨5,.phase⟩,⟨6,.phase⟩,⟨7,.phase⟩,⟨8,.phase⟩,⟨9,.phase⟩,⟨10,.phase⟩,⟨11,.phase⟩,⟨12,.phase⟩,⟨13,.phase⟩,⟨14,.phase⟩,⟨15,.phase⟩,⟨16,.phase⟩],none⟩
theorem rc_gesso_mat_Apply {e:Operand→Value} {x0 x1:Operand} {d:Option Tmp} {y:Nat} {pos:String} {af:Array Edge} {u0 u1:Value} (h0:e x0=u0) (h1:e x1=u1) (hf:e (.func 43)=.func (.func 43) #[] #[]) :
 (execOp e ⟨d,.call ⟨.value (.func 43),#[x0,x1],#[71,29]⟩,y,pos,af,none⟩).run Tryz.prog w=.ok (.enter 43 #[u0,u1]) w:=by
 go_simp
def F_mla (m:MV) (v:AM) (gl:Nat) (s_p:Bool) (t_p:Bool) (A_p:Option Addr) (B_p:Option Addr) (E_p:Option Addr) (F_p:Option Addr) (n_p:Nat) (c_p:Nat) (m_p:Nat) (d_p:Nat) (i_p:Nat) (e_p:Nat) (j_p:Nat) (f_p:Nat) (s_q:Bool) (t_q:Bool) (A_q:Option Addr) (B_q:Option Addr) (E_q:Option Addr) (F_q:Option Addr) (n_q:Nat) (c_q:Nat) (m_q:Nat) (d_q:Nat) (i_q:Nat) (e_q:Nat) (j_q:Nat) (f_q:Nat) (s_r:Bool) (t_r:Bool) (A_r:Option Addr) (B_r:Option Addr) (E_r:Option Addr) (F_r:Option Addr) (n_r:Nat) (c_r:Nat) (m_r:Nat) (d_r:Nat) (i_r:Nat) (e_r:Nat) (j_r:Nat) (f_r:Nat) (px:Rat) (py:Rat) (qx:Rat) (qy:Rat) (rx:Rat) (ry:Rat) (sl:Nat):Value→World→Prop :=
 match sl with
 | 81=>fun x _=>x=Value.agg #[.bool m.a.s,.slice m.a.A m.a.n m.a.c,.slice m.a.B m.a.m m.a.d,.bool m.b.s,.slice m.b.A m.b.n m.b.c,.slice m.b.B m.b.m m.b.d,.bool m.c.s,.slice m.c.A m.c.n m.c.c,.slice m.c.B m.c.m m.c.d,.bool m.d.s,.slice m.d.A m.d.n m.d.c,.slice m.d.B m.d.m m.d.d,.bool m.e.s,.slice m.e.A m.e.n m.e.c,.slice m.e.B m.e.m m.e.d,.bool m.f.s,.slice m.f.A m.f.n m.f.c,.slice m.f.B m.f.m m.f.d]
 | 82=>fun x _=>x=Value.pointer (some ⟨gl,0,none⟩)
 | 83=>fun x _=>x=Value.agg #[.bool s_p,.slice A_p n_p c_p,.slice B_p m_p d_p,.bool t_p,.slice E_p i_p e_p,.slice F_p j_p f_p]
 | 84=>VPG (v.ax px py) (v.ay px py) ((6+6+(6+6)+1+6+1))
 | 85=>fun x _=>x=Value.agg #[.bool m.a.s,.slice m.a.A m.a.n m.a.c,.slice m.a.B m.a.m m.a.d,.bool m.b.s,.slice m.b.A m.b.n m.b.c,.slice m.b.B m.b.m m.b.d,.bool m.c.s,.slice m.c.A m.c.n m.c.c,.slice m.c.B m.c.m m.c.d,.bool m.d.s,.slice m.d.A m.d.n m.d.c,.slice m.d.B m.d.m m.d.d,.bool m.e.s,.slice m.e.A m.e.n m.e.c,.slice m.e.B m.e.m m.e.d,.bool m.f.s,.slice m.f.A m.f.n m.f.c,.slice m.f.B m.f.m m.f.d]
 | 86=>fun x _=>x=Value.pointer (some ⟨gl,6,none⟩)
 | 87=>fun x _=>x=Value.agg #[.bool s_q,.slice A_q n_q c_q,.slice B_q m_q d_q,.bool t_q,.slice E_q i_q e_q,.slice F_q j_q f_q]
 | 88=>VPG (v.ax qx qy) (v.ay qx qy) ((6+6+(6+6)+1+6+1))
 | 89=>fun x _=>x=Value.agg #[.bool m.a.s,.slice m.a.A m.a.n m.a.c,.slice m.a.B m.a.m m.a.d,.bool m.b.s,.slice m.b.A m.b.n m.b.c,.slice m.b.B m.b.m m.b.d,.bool m.c.s,.slice m.c.A m.c.n m.c.c,.slice m.c.B m.c.m m.c.d,.bool m.d.s,.slice m.d.A m.d.n m.d.c,.slice m.d.B m.d.m m.d.d,.bool m.e.s,.slice m.e.A m.e.n m.e.c,.slice m.e.B m.e.m m.e.d,.bool m.f.s,.slice m.f.A m.f.n m.f.c,.slice m.f.B m.f.m m.f.d]
 | 90=>fun x _=>x=Value.pointer (some ⟨gl,12,none⟩)
 | 91=>fun x _=>x=Value.agg #[.bool s_r,.slice A_r n_r c_r,.slice B_r m_r d_r,.bool t_r,.slice E_r i_r e_r,.slice F_r j_r f_r]
 | 92=>VPG (v.ax rx ry) (v.ay rx ry) ((6+6+(6+6)+1+6+1))
 | _=>fun _ _=>True
def B0_mla (v:AM) (px:Rat) (py:Rat):BoxOp :=
 ⟨12,15,9,29,#[.bool false,.slice none 0 0,.slice none 0 0,.bool false,.slice none 0 0,.slice none 0 0],fun cs w=>∃ s A n c B m d t E i e F j f,cs=#[.bool s,.slice A n c,.slice B m d,.bool t,.slice E i e,.slice F j f]∧PG w s A n c B m d t E i e F j f (v.ax px py) (v.ay px py) ((6+6+(6+6)+1+6+1))⟩
def B1_mla (v:AM) (qx:Rat) (qy:Rat):BoxOp :=
 ⟨13,16,10,29,#[.bool false,.slice none 0 0,.slice none 0 0,.bool false,.slice none 0 0,.slice none 0 0],fun cs w=>∃ s A n c B m d t E i e F j f,cs=#[.bool s,.slice A n c,.slice B m d,.bool t,.slice E i e,.slice F j f]∧PG w s A n c B m d t E i e F j f (v.ax qx qy) (v.ay qx qy) ((6+6+(6+6)+1+6+1))⟩
def B2_mla (v:AM) (rx:Rat) (ry:Rat):BoxOp :=
 ⟨14,17,11,29,#[.bool false,.slice none 0 0,.slice none 0 0,.bool false,.slice none 0 0,.slice none 0 0],fun cs w=>∃ s A n c B m d t E i e F j f,cs=#[.bool s,.slice A n c,.slice B m d,.bool t,.slice E i e,.slice F j f]∧PG w s A n c B m d t E i e F j f (v.ax rx ry) (v.ay rx ry) ((6+6+(6+6)+1+6+1))⟩
theorem mla_region {id:Nat} {ac:Act} {Q:Exit→Act→World→Prop} {m:MV} {v:AM} {gm gl:Nat} {px py qx qy rx ry:Rat}
 (hsz:92 < ac.tmps.size) (e3:ac.eval (.tmp 3)=Value.pointer (some ⟨gm,0,none⟩)) (e5:ac.eval (.tmp 5)=Value.pointer (some ⟨gl,0,none⟩)) (XA:B18 w gm (.bool m.a.s) (.slice m.a.A m.a.n m.a.c) (.slice m.a.B m.a.m m.a.d) (.bool m.b.s) (.slice m.b.A m.b.n m.b.c) (.slice m.b.B m.b.m m.b.d) (.bool m.c.s) (.slice m.c.A m.c.n m.c.c) (.slice m.c.B m.c.m m.c.d) (.bool m.d.s) (.slice m.d.A m.d.n m.d.c) (.slice m.d.B m.d.m m.d.d) (.bool m.e.s) (.slice m.e.A m.e.n m.e.c) (.slice m.e.B m.e.m m.e.d) (.bool m.f.s) (.slice m.f.A m.f.n m.f.c) (.slice m.f.B m.f.m m.f.d)) (XL:BA3 w gl (.bool s_p) (.slice A_p n_p c_p) (.slice B_p m_p d_p) (.bool t_p) (.slice E_p i_p e_p) (.slice F_p j_p f_p) (.bool s_q) (.slice A_q n_q c_q) (.slice B_q m_q d_q) (.bool t_q) (.slice E_q i_q e_q) (.slice F_q j_q f_q) (.bool s_r) (.slice A_r n_r c_r) (.slice B_r m_r d_r) (.bool t_r) (.slice E_r i_r e_r) (.slice F_r j_r f_r)) (M:MR w m v 6 6) (p:PR w s_p A_p n_p c_p B_p m_p d_p t_p E_p i_p e_p F_p j_p f_p px py 6) (q:PR w s_q A_q n_q c_q B_q m_q d_q t_q E_q i_q e_q F_q j_q f_q qx qy 6) (r:PR w s_r A_r n_r c_r B_r m_r d_r t_r E_r i_r e_r F_r j_r f_r rx ry 6)
 (hend:∀ (V:Nat→Value) (w':World) (g0:Nat) (s0:Bool) (A0:Option Addr) (n0:Nat) (c0:Nat) (B0:Option Addr) (m0:Nat) (d0:Nat) (t0:Bool) (E0:Option Addr) (i0:Nat) (e0:Nat) (F0:Option Addr) (j0:Nat) (f0:Nat) (g1:Nat) (s1:Bool) (A1:Option Addr) (n1:Nat) (c1:Nat) (B1:Option Addr) (m1:Nat) (d1:Nat) (t1:Bool) (E1:Option Addr) (i1:Nat) (e1:Nat) (F1:Option Addr) (j1:Nat) (f1:Nat) (g2:Nat) (s2:Bool) (A2:Option Addr) (n2:Nat) (c2:Nat) (B2:Option Addr) (m2:Nat) (d2:Nat) (t2:Bool) (E2:Option Addr) (i2:Nat) (e2:Nat) (F2:Option Addr) (j2:Nat) (f2:Nat),PG w' s0 A0 n0 c0 B0 m0 d0 t0 E0 i0 e0 F0 j0 f0 (v.ax px py) (v.ay px py) ((6+6+(6+6)+1+6+1))→B6 w' g0 (.bool s0) (.slice A0 n0 c0) (.slice B0 m0 d0) (.bool t0) (.slice E0 i0 e0) (.slice F0 j0 f0)→w.heap.size≤g0→V 9=.pointer (some ⟨g0,0,none⟩)→PG w' s1 A1 n1 c1 B1 m1 d1 t1 E1 i1 e1 F1 j1 f1 (v.ax qx qy) (v.ay qx qy) ((6+6+(6+6)+1+6+1))→B6 w' g1 (.bool s1) (.slice A1 n1 c1) (.slice B1 m1 d1) (.bool t1) (.slice E1 i1 e1) (.slice F1 j1 f1)→w.heap.size≤g1→V 10=.pointer (some ⟨g1,0,none⟩)→PG w' s2 A2 n2 c2 B2 m2 d2 t2 E2 i2 e2 F2 j2 f2 (v.ax rx ry) (v.ay rx ry) ((6+6+(6+6)+1+6+1))→B6 w' g2 (.bool s2) (.slice A2 n2 c2) (.slice B2 m2 d2) (.bool t2) (.slice E2 i2 e2) (.slice F2 j2 f2)→w.heap.size≤g2→V 11=.pointer (some ⟨g2,0,none⟩)→g1 ≠ g0→g2 ≠ g0→g2 ≠ g1→Below w.heap.size w w'→Q .normal (putAll ac [81,82,83,84,85,86,87,88,89,90,91,92,9,10,11] V) w') :
 (Code.region id #[o0_mla,o1_mla,o2_mla,o3_mla,o4_mla,o5_mla,o6_mla,o7_mla,o8_mla,o9_mla,o10_mla,o11_mla,o12_mla,o13_mla,o14_mla,o15_mla,o16_mla,o17_mla] true).wp Tryz.prog Q ac w:=by
 have hnd:L_mla.Nodup:=by decide
 have G:∀ (sv:Nat→Value) (t:Nat),t ∈ L_mla→t≤92→(putAll ac L_mla sv).eval (.tmp t)=sv t:=fun sv t ht h=>eval_putAll_mem (t:=t) L_mla ac hnd ht (Nat.lt_of_le_of_lt h hsz)
 have E3:∀ sv:Nat→Value,(putAll ac L_mla sv).eval (.tmp 3)=Value.pointer (some ⟨gm,0,none⟩):=fun sv=>(eval_putAll_not (v:=sv) L_mla ac (show 3 ∉ _ by decide)).trans e3
 have E5:∀ sv:Nat→Value,(putAll ac L_mla sv).eval (.tmp 5)=Value.pointer (some ⟨gl,0,none⟩):=fun sv=>(eval_putAll_not (v:=sv) L_mla ac (show 5 ∉ _ by decide)).trans e5
 have NE:∀ t:Nat,(t ≠ 9∧t ≠ 10∧t ≠ 11)→∀ p ∈ [B0_mla v px py,B1_mla v qx qy,B2_mla v rx ry],t ≠ p.tA:=by
  intro t ht p hp
  simp only [List.mem_cons,List.not_mem_nil,or_false] at hp
  rcases hp with rfl | rfl | rfl
  · exact ht.1
  · exact ht.2.1
  · exact ht.2.2
 refine wp_region_flowsT L_mla [B0_mla v px py,B1_mla v qx qy,B2_mla v rx ry] (F_mla m v gl s_p t_p A_p B_p E_p F_p n_p c_p m_p d_p i_p e_p j_p f_p s_q t_q A_q B_q E_q F_q n_q c_q m_q d_q i_q e_q j_q f_q s_r t_r A_r B_r E_r F_r n_r c_r m_r d_r i_r e_r j_r f_r px py qx qy rx ry) (by kernel_rfl) (by kernel_rfl) rfl hnd ?_ ?_ ?_ ?_ ?_ ?_ ?_ ?_
 · intro p hp
   simp only [List.mem_cons,List.not_mem_nil,or_false] at hp
   rcases hp with rfl | rfl | rfl
   · refine ⟨⟨o12_mla,rfl,rfl,rfl,fun e w'=>run_alloc6⟩,⟨o15_mla,rfl,rfl,rfl,⟨12,.data⟩,by simp [o15_mla],rfl,rfl⟩,free6 _ _ _ _ _ _ _ _ _ _ _ _ _ _,?_,?_⟩
     · rintro cs w1 w2 ⟨s_,A_,n_,c_,B_,m_,d_,t_,E_,i_,e_,F_,j_,f_,rfl,h⟩ hb;exact ⟨s_,A_,n_,c_,B_,m_,d_,t_,E_,i_,e_,F_,j_,f_,rfl,h.below hb⟩
     · rintro T cs w1 w2 g c0 ⟨s_,A_,n_,c_,B_,m_,d_,t_,E_,i_,e_,F_,j_,f_,rfl,h⟩ hB ho;exact ⟨s_,A_,n_,c_,B_,m_,d_,t_,E_,i_,e_,F_,j_,f_,rfl,h.box hB ho⟩
   · refine ⟨⟨o13_mla,rfl,rfl,rfl,fun e w'=>run_alloc6⟩,⟨o16_mla,rfl,rfl,rfl,⟨13,.data⟩,by simp [o16_mla],rfl,rfl⟩,free6 _ _ _ _ _ _ _ _ _ _ _ _ _ _,?_,?_⟩
     · rintro cs w1 w2 ⟨s_,A_,n_,c_,B_,m_,d_,t_,E_,i_,e_,F_,j_,f_,rfl,h⟩ hb;exact ⟨s_,A_,n_,c_,B_,m_,d_,t_,E_,i_,e_,F_,j_,f_,rfl,h.below hb⟩
     · rintro T cs w1 w2 g c0 ⟨s_,A_,n_,c_,B_,m_,d_,t_,E_,i_,e_,F_,j_,f_,rfl,h⟩ hB ho;exact ⟨s_,A_,n_,c_,B_,m_,d_,t_,E_,i_,e_,F_,j_,f_,rfl,h.box hB ho⟩
   · refine ⟨⟨o14_mla,rfl,rfl,rfl,fun e w'=>run_alloc6⟩,⟨o17_mla,rfl,rfl,rfl,⟨14,.data⟩,by simp [o17_mla],rfl,rfl⟩,free6 _ _ _ _ _ _ _ _ _ _ _ _ _ _,?_,?_⟩
     · rintro cs w1 w2 ⟨s_,A_,n_,c_,B_,m_,d_,t_,E_,i_,e_,F_,j_,f_,rfl,h⟩ hb;exact ⟨s_,A_,n_,c_,B_,m_,d_,t_,E_,i_,e_,F_,j_,f_,rfl,h.below hb⟩
     · rintro T cs w1 w2 g c0 ⟨s_,A_,n_,c_,B_,m_,d_,t_,E_,i_,e_,F_,j_,f_,rfl,h⟩ hB ho;exact ⟨s_,A_,n_,c_,B_,m_,d_,t_,E_,i_,e_,F_,j_,f_,rfl,h.box hB ho⟩
 · intro p hp q hq h
   simp only [List.mem_cons,List.not_mem_nil,or_false] at hp hq
   rcases hp with rfl | rfl | rfl <;> rcases hq with rfl | rfl | rfl
   · rfl
   · exact absurd (show (9:Nat)=10 from h) (by decide)
   · exact absurd (show (9:Nat)=11 from h) (by decide)
   · exact absurd (show (10:Nat)=9 from h) (by decide)
   · rfl
   · exact absurd (show (10:Nat)=11 from h) (by decide)
   · exact absurd (show (11:Nat)=9 from h) (by decide)
   · exact absurd (show (11:Nat)=10 from h) (by decide)
   · rfl
 · intro p hp q hq h
   simp only [List.mem_cons,List.not_mem_nil,or_false] at hp hq
   rcases hp with rfl | rfl | rfl <;> rcases hq with rfl | rfl | rfl
   · rfl
   · exact absurd (show (15:Nat)=16 from h) (by decide)
   · exact absurd (show (15:Nat)=17 from h) (by decide)
   · exact absurd (show (16:Nat)=15 from h) (by decide)
   · rfl
   · exact absurd (show (16:Nat)=17 from h) (by decide)
   · exact absurd (show (17:Nat)=15 from h) (by decide)
   · exact absurd (show (17:Nat)=16 from h) (by decide)
   · rfl
 · intro i o h1 h2
   match i,h1 with
   | 0,h1=>cases h1;cases h2
   | 1,h1=>cases h1;cases h2
   | 2,h1=>cases h1;cases h2
   | 3,h1=>cases h1;cases h2
   | 4,h1=>cases h1;cases h2
   | 5,h1=>cases h1;cases h2
   | 6,h1=>cases h1;cases h2
   | 7,h1=>cases h1;cases h2
   | 8,h1=>cases h1;cases h2
   | 9,h1=>cases h1;cases h2
   | 10,h1=>cases h1;cases h2
   | 11,h1=>cases h1;cases h2
   | 12,h1=>cases h1;cases h2
   | 13,h1=>cases h1;cases h2
   | 14,h1=>cases h1;cases h2
   | 15,h1=>exact ⟨B0_mla v px py,List.Mem.head _,rfl⟩
   | 16,h1=>exact ⟨B1_mla v qx qy,List.Mem.tail _ (List.Mem.head _),rfl⟩
   | 17,h1=>exact ⟨B2_mla v rx ry,List.Mem.tail _ (List.Mem.tail _ (List.Mem.head _)),rfl⟩
   | i+18,h1=>cases h1
 · intro t
   unfold F_mla
   split <;> first | exact (stays_eq _).inn _ | exact (stays_q _ _).inn _ | exact (stays_z _ _).inn _ | exact (stays_r _ _).inn _ | exact (stays_rq _ _).inn _ | exact (stays_pg _ _ _).inn _ | exact (stays_true).inn _ | exact (stays_k _).inn _
 · intro i o t sv w' ho hia hd J0 hf
   have XA:=XA.below J0;have XL:=XL.below J0;have M:=M.below J0;have p:=p.below J0;have q:=q.below J0;have r:=r.below J0
   match i,ho with
   | 0,ho =>
     obtain rfl:o0_mla=o:=Option.some.inj ho
     cases hd
     refine wpOp_plain' (o:=o0_mla) rfl rfl ?_
     unfold Oper.wp o0_mla
     rw [run_loadM (E3 sv) XA,Oper.upon_value]
     exact ⟨_,rfl,Below.refl _ _,rfl⟩
   | 1,ho =>
     obtain rfl:o1_mla=o:=Option.some.inj ho
     cases hd
     refine wpOp_plain' (o:=o1_mla) rfl rfl ?_
     unfold Oper.wp o1_mla
     rw [run_ia0 (E5 sv) rfl,Oper.upon_value]
     exact ⟨_,rfl,Below.refl _ _,rfl⟩
   | 2,ho =>
     obtain rfl:o2_mla=o:=Option.some.inj ho
     cases hd
     have f82:sv 82=Value.pointer (some ⟨gl,0,none⟩):=hf ⟨1,.data⟩ (by simp [o2_mla]) rfl _ 82 rfl rfl (NE _ (by decide))
     refine wpOp_plain' (o:=o2_mla) rfl rfl ?_
     unfold Oper.wp o2_mla
     rw [run_loadA0 ((G sv 82 (by decide) (by decide)).trans f82) XL,Oper.upon_value]
     exact ⟨_,rfl,Below.refl _ _,rfl⟩
   | 3,ho =>
     obtain rfl:o3_mla=o:=Option.some.inj ho
     cases hd
     have f81:sv 81=Value.agg #[.bool m.a.s,.slice m.a.A m.a.n m.a.c,.slice m.a.B m.a.m m.a.d,.bool m.b.s,.slice m.b.A m.b.n m.b.c,.slice m.b.B m.b.m m.b.d,.bool m.c.s,.slice m.c.A m.c.n m.c.c,.slice m.c.B m.c.m m.c.d,.bool m.d.s,.slice m.d.A m.d.n m.d.c,.slice m.d.B m.d.m m.d.d,.bool m.e.s,.slice m.e.A m.e.n m.e.c,.slice m.e.B m.e.m m.e.d,.bool m.f.s,.slice m.f.A m.f.n m.f.c,.slice m.f.B m.f.m m.f.d]:=hf ⟨0,.data⟩ (by simp [o3_mla]) rfl _ 81 rfl rfl (NE _ (by decide))
     have f83:sv 83=Value.agg #[.bool s_p,.slice A_p n_p c_p,.slice B_p m_p d_p,.bool t_p,.slice E_p i_p e_p,.slice F_p j_p f_p]:=hf ⟨2,.data⟩ (by simp [o3_mla]) rfl _ 83 rfl rfl (NE _ (by decide))
     refine wpOp_plain' (o:=o3_mla) rfl rfl ?_
     unfold Oper.wp o3_mla
     rw [rc_gesso_mat_Apply ((G sv 81 (by decide) (by decide)).trans f81) ((G sv 83 (by decide) (by decide)).trans f83) rfl,Oper.upon_enter]
     refine (mapply_p M p (by decide) (by decide) (by decide) (by decide) (by decide)).mono ?_
     rintro e w1 ⟨s_,A_,n_,c_,B_,m_,d_,t_,E_,i_,e_,F_,j_,f_,rfl,hq,hh⟩
     exact ⟨_,rfl,hh,s_,A_,n_,c_,B_,m_,d_,t_,E_,i_,e_,F_,j_,f_,rfl,hq⟩
   | 4,ho =>
     obtain rfl:o4_mla=o:=Option.some.inj ho
     cases hd
     refine wpOp_plain' (o:=o4_mla) rfl rfl ?_
     unfold Oper.wp o4_mla
     rw [run_loadM (E3 sv) XA,Oper.upon_value]
     exact ⟨_,rfl,Below.refl _ _,rfl⟩
   | 5,ho =>
     obtain rfl:o5_mla=o:=Option.some.inj ho
     cases hd
     refine wpOp_plain' (o:=o5_mla) rfl rfl ?_
     unfold Oper.wp o5_mla
     rw [run_ia1 (E5 sv) rfl,Oper.upon_value]
     exact ⟨_,rfl,Below.refl _ _,rfl⟩
   | 6,ho =>
     obtain rfl:o6_mla=o:=Option.some.inj ho
     cases hd
     have f86:sv 86=Value.pointer (some ⟨gl,6,none⟩):=hf ⟨5,.data⟩ (by simp [o6_mla]) rfl _ 86 rfl rfl (NE _ (by decide))
     refine wpOp_plain' (o:=o6_mla) rfl rfl ?_
     unfold Oper.wp o6_mla
     rw [run_loadA1 ((G sv 86 (by decide) (by decide)).trans f86) XL,Oper.upon_value]
     exact ⟨_,rfl,Below.refl _ _,rfl⟩
   | 7,ho =>
     obtain rfl:o7_mla=o:=Option.some.inj ho
     cases hd
     have f85:sv 85=Value.agg #[.bool m.a.s,.slice m.a.A m.a.n m.a.c,.slice m.a.B m.a.m m.a.d,.bool m.b.s,.slice m.b.A m.b.n m.b.c,.slice m.b.B m.b.m m.b.d,.bool m.c.s,.slice m.c.A m.c.n m.c.c,.slice m.c.B m.c.m m.c.d,.bool m.d.s,.slice m.d.A m.d.n m.d.c,.slice m.d.B m.d.m m.d.d,.bool m.e.s,.slice m.e.A m.e.n m.e.c,.slice m.e.B m.e.m m.e.d,.bool m.f.s,.slice m.f.A m.f.n m.f.c,.slice m.f.B m.f.m m.f.d]:=hf ⟨4,.data⟩ (by simp [o7_mla]) rfl _ 85 rfl rfl (NE _ (by decide))
     have f87:sv 87=Value.agg #[.bool s_q,.slice A_q n_q c_q,.slice B_q m_q d_q,.bool t_q,.slice E_q i_q e_q,.slice F_q j_q f_q]:=hf ⟨6,.data⟩ (by simp [o7_mla]) rfl _ 87 rfl rfl (NE _ (by decide))
     refine wpOp_plain' (o:=o7_mla) rfl rfl ?_
     unfold Oper.wp o7_mla
     rw [rc_gesso_mat_Apply ((G sv 85 (by decide) (by decide)).trans f85) ((G sv 87 (by decide) (by decide)).trans f87) rfl,Oper.upon_enter]
     refine (mapply_p M q (by decide) (by decide) (by decide) (by decide) (by decide)).mono ?_
     rintro e w1 ⟨s_,A_,n_,c_,B_,m_,d_,t_,E_,i_,e_,F_,j_,f_,rfl,hq,hh⟩
     exact ⟨_,rfl,hh,s_,A_,n_,c_,B_,m_,d_,t_,E_,i_,e_,F_,j_,f_,rfl,hq⟩
   | 8,ho =>
     obtain rfl:o8_mla=o:=Option.some.inj ho
     cases hd
     refine wpOp_plain' (o:=o8_mla) rfl rfl ?_
     unfold Oper.wp o8_mla
     rw [run_loadM (E3 sv) XA,Oper.upon_value]
     exact ⟨_,rfl,Below.refl _ _,rfl⟩
   | 9,ho =>
     obtain rfl:o9_mla=o:=Option.some.inj ho
     cases hd
     refine wpOp_plain' (o:=o9_mla) rfl rfl ?_
     unfold Oper.wp o9_mla
     rw [run_ia2 (E5 sv) rfl,Oper.upon_value]
     exact ⟨_,rfl,Below.refl _ _,rfl⟩
   | 10,ho =>
     obtain rfl:o10_mla=o:=Option.some.inj ho
     cases hd
     have f90:sv 90=Value.pointer (some ⟨gl,12,none⟩):=hf ⟨9,.data⟩ (by simp [o10_mla]) rfl _ 90 rfl rfl (NE _ (by decide))
     refine wpOp_plain' (o:=o10_mla) rfl rfl ?_
     unfold Oper.wp o10_mla
     rw [run_loadA2 ((G sv 90 (by decide) (by decide)).trans f90) XL,Oper.upon_value]
     exact ⟨_,rfl,Below.refl _ _,rfl⟩
   | 11,ho =>
     obtain rfl:o11_mla=o:=Option.some.inj ho
     cases hd
     have f89:sv 89=Value.agg #[.bool m.a.s,.slice m.a.A m.a.n m.a.c,.slice m.a.B m.a.m m.a.d,.bool m.b.s,.slice m.b.A m.b.n m.b.c,.slice m.b.B m.b.m m.b.d,.bool m.c.s,.slice m.c.A m.c.n m.c.c,.slice m.c.B m.c.m m.c.d,.bool m.d.s,.slice m.d.A m.d.n m.d.c,.slice m.d.B m.d.m m.d.d,.bool m.e.s,.slice m.e.A m.e.n m.e.c,.slice m.e.B m.e.m m.e.d,.bool m.f.s,.slice m.f.A m.f.n m.f.c,.slice m.f.B m.f.m m.f.d]:=hf ⟨8,.data⟩ (by simp [o11_mla]) rfl _ 89 rfl rfl (NE _ (by decide))
     have f91:sv 91=Value.agg #[.bool s_r,.slice A_r n_r c_r,.slice B_r m_r d_r,.bool t_r,.slice E_r i_r e_r,.slice F_r j_r f_r]:=hf ⟨10,.data⟩ (by simp [o11_mla]) rfl _ 91 rfl rfl (NE _ (by decide))
     refine wpOp_plain' (o:=o11_mla) rfl rfl ?_
     unfold Oper.wp o11_mla
     rw [rc_gesso_mat_Apply ((G sv 89 (by decide) (by decide)).trans f89) ((G sv 91 (by decide) (by decide)).trans f91) rfl,Oper.upon_enter]
     refine (mapply_p M r (by decide) (by decide) (by decide) (by decide) (by decide)).mono ?_
     rintro e w1 ⟨s_,A_,n_,c_,B_,m_,d_,t_,E_,i_,e_,F_,j_,f_,rfl,hq,hh⟩
     exact ⟨_,rfl,hh,s_,A_,n_,c_,B_,m_,d_,t_,E_,i_,e_,F_,j_,f_,rfl,hq⟩
   | 12,ho=>cases ho;cases hd;exact absurd rfl (hia (B0_mla v px py) (List.Mem.head _))
   | 13,ho=>cases ho;cases hd;exact absurd rfl (hia (B1_mla v qx qy) (List.Mem.tail _ (List.Mem.head _)))
   | 14,ho=>cases ho;cases hd;exact absurd rfl (hia (B2_mla v rx ry) (List.Mem.tail _ (List.Mem.tail _ (List.Mem.head _))))
   | 15,ho=>cases ho;cases hd
   | 16,ho=>cases ho;cases hd
   | 17,ho=>cases ho;cases hd
   | i+18,ho=>cases ho
 · intro p hp os sv w' g hos J0 p1 p3 hf
   simp only [List.mem_cons,List.not_mem_nil,or_false] at hp
   rcases hp with rfl | rfl | rfl
   · obtain rfl:o15_mla=os:=Option.some.inj hos
     have h1:VPG (v.ax px py) (v.ay px py) ((6+6+(6+6)+1+6+1)) (sv 84) w':=hf ⟨3,.data⟩ (by simp [o15_mla]) rfl _ 84 rfl rfl (NE _ (by decide))
     rw [← G sv 84 (by decide) (by decide)] at h1
     refine store_pg (x:=v.ax px py) (y:=v.ay px py) (k:=(6+6+(6+6)+1+6+1)) (ac:=putAll ac L_mla sv) (z:=.tmp 84) ?_ ?_ ?_
     · exact (G sv 9 (by decide) (by decide)).trans p1
     · exact h1
     · exact p3
   · obtain rfl:o16_mla=os:=Option.some.inj hos
     have h1:VPG (v.ax qx qy) (v.ay qx qy) ((6+6+(6+6)+1+6+1)) (sv 88) w':=hf ⟨7,.data⟩ (by simp [o16_mla]) rfl _ 88 rfl rfl (NE _ (by decide))
     rw [← G sv 88 (by decide) (by decide)] at h1
     refine store_pg (x:=v.ax qx qy) (y:=v.ay qx qy) (k:=(6+6+(6+6)+1+6+1)) (ac:=putAll ac L_mla sv) (z:=.tmp 88) ?_ ?_ ?_
     · exact (G sv 10 (by decide) (by decide)).trans p1
     · exact h1
     · exact p3
   · obtain rfl:o17_mla=os:=Option.some.inj hos
     have h1:VPG (v.ax rx ry) (v.ay rx ry) ((6+6+(6+6)+1+6+1)) (sv 92) w':=hf ⟨11,.data⟩ (by simp [o17_mla]) rfl _ 92 rfl rfl (NE _ (by decide))
     rw [← G sv 92 (by decide) (by decide)] at h1
     refine store_pg (x:=v.ax rx ry) (y:=v.ay rx ry) (k:=(6+6+(6+6)+1+6+1)) (ac:=putAll ac L_mla sv) (z:=.tmp 92) ?_ ?_ ?_
     · exact (G sv 11 (by decide) (by decide)).trans p1
     · exact h1
     · exact p3
 · intro sv w' J0 hF hB hap
   obtain ⟨g0,cs0,p0,r0,b0,⟨s0,A0,n0,c0,B0,m0,d0,t0,E0,i0,e0,F0,j0,f0,rfl,h0⟩⟩:=hB (B0_mla v px py) (List.Mem.head _)
   obtain ⟨g1,cs1,p1,r1,b1,⟨s1,A1,n1,c1,B1,m1,d1,t1,E1,i1,e1,F1,j1,f1,rfl,h1⟩⟩:=hB (B1_mla v qx qy) (List.Mem.tail _ (List.Mem.head _))
   obtain ⟨g2,cs2,p2,r2,b2,⟨s2,A2,n2,c2,B2,m2,d2,t2,E2,i2,e2,F2,j2,f2,rfl,h2⟩⟩:=hB (B2_mla v rx ry) (List.Mem.tail _ (List.Mem.tail _ (List.Mem.head _)))
   have p0':sv 9=.pointer (some ⟨g0,0,none⟩):=p0
   have p1':sv 10=.pointer (some ⟨g1,0,none⟩):=p1
   have p2':sv 11=.pointer (some ⟨g2,0,none⟩):=p2
   exact hend sv w' g0 _ _ _ _ _ _ _ _ _ _ _ _ _ _ g1 _ _ _ _ _ _ _ _ _ _ _ _ _ _ g2 _ _ _ _ _ _ _ _ _ _ _ _ _ _ h0 b0.at_ r0 p0' h1 b1.at_ r1 p1' h2 b2.at_ r2 p2' (fun q=>hap (B1_mla v qx qy) (List.Mem.tail _ (List.Mem.head _)) (B0_mla v px py) (List.Mem.head _) (show (10:Nat) ≠ 9 by decide) (by rw [show (B1_mla v qx qy).tA=10 from rfl,show (B0_mla v px py).tA=9 from rfl,p1',p0',q])) (fun q=>hap (B2_mla v rx ry) (List.Mem.tail _ (List.Mem.tail _ (List.Mem.head _))) (B0_mla v px py) (List.Mem.head _) (show (11:Nat) ≠ 9 by decide) (by rw [show (B2_mla v rx ry).tA=11 from rfl,show (B0_mla v px py).tA=9 from rfl,p2',p0',q])) (fun q=>hap (B2_mla v rx ry) (List.Mem.tail _ (List.Mem.tail _ (List.Mem.head _))) (B1_mla v qx qy) (List.Mem.tail _ (List.Mem.head _)) (show (11:Nat) ≠ 10 by decide) (by rw [show (B2_mla v rx ry).tA=11 from rfl,show (B1_mla v qx qy).tA=10 from rfl,p2',p1',q]))   J0
abbrev L_mlx:List Nat:=[93,94,95,96,97,98,99,12]
def o0_mlx:Oper:=⟨some 93,.load 29 (.tmp 10),29, "law.go:66",#[],none⟩
def o1_mlx:Oper:=⟨some 94,.load 29 (.tmp 9),29, "law.go:66",#[],none⟩
def o2_mlx:Oper:=⟨some 95,.call ⟨.value (.func 57),#[.tmp 93,.tmp 94],#[29,29]⟩,29, "law.go:66",#[⟨0,.data⟩,⟨1,.data⟩],none⟩
def o3_mlx:Oper:=⟨some 96,.load 29 (.tmp 11),29, "law.go:66",#[],none⟩
def o4_mlx:Oper:=⟨some 97,.load 29 (.tmp 9),29, "law.go:66",#[],none⟩
def o5_mlx:Oper:=⟨some 98,.call ⟨.value (.func 57),#[.tmp 96,.tmp 97],#[29,29]⟩,29, "law.go:66",#[⟨3,.data⟩,⟨4,.data⟩,⟨2,.chain⟩],none⟩
def o6_mlx:Oper:=⟨some 99,.call ⟨.value (.func 56),#[.tmp 95,.tmp 98],#[29,29]⟩,27, "law.go:66",#[⟨2,.data⟩,⟨5,.data⟩,⟨5,.chain⟩],none⟩
def o7_mlx:Oper:=⟨some 12,.alloc 27,0, "law.go:66",#[],none⟩
def o8_mlx:Oper:=⟨none,.store 27 (.tmp 12) (.tmp 99),0, "law.go:66",#[⟨7,.data⟩,⟨6,.data⟩,⟨6,.chain⟩,⟨0,.phase⟩,⟨1,.phase⟩,⟨2,.phase⟩,⟨3,.phase⟩,⟨4,.phase⟩,⟨5,.phase⟩,⟨6,.phase⟩,⟨7,.phase⟩],none⟩
def F_mlx (s_a:Bool) (t_a:Bool) (A_a:Option Addr) (B_a:Option Addr) (E_a:Option Addr) (F_a:Option Addr) (n_a:Nat) (c_a:Nat) (m_a:Nat) (d_a:Nat) (i_a:Nat) (e_a:Nat) (j_a:Nat) (f_a:Nat) (s_b:Bool) (t_b:Bool) (A_b:Option Addr) (B_b:Option Addr) (E_b:Option Addr) (F_b:Option Addr) (n_b:Nat) (c_b:Nat) (m_b:Nat) (d_b:Nat) (i_b:Nat) (e_b:Nat) (j_b:Nat) (f_b:Nat) (s_c:Bool) (t_c:Bool) (A_c:Option Addr) (B_c:Option Addr) (E_c:Option Addr) (F_c:Option Addr) (n_c:Nat) (c_c:Nat) (m_c:Nat) (d_c:Nat) (i_c:Nat) (e_c:Nat) (j_c:Nat) (f_c:Nat) (ax:Rat) (ay:Rat) (bx:Rat) (by_:Rat) (cx:Rat) (cy:Rat) (ka:Nat) (sl:Nat):Value→World→Prop :=
 match sl with
 | 93=>fun x _=>x=Value.agg #[.bool s_b,.slice A_b n_b c_b,.slice B_b m_b d_b,.bool t_b,.slice E_b i_b e_b,.slice F_b j_b f_b]
 | 94=>fun x _=>x=Value.agg #[.bool s_a,.slice A_a n_a c_a,.slice B_a m_a d_a,.bool t_a,.slice E_a i_a e_a,.slice F_a j_a f_a]
 | 95=>VPG (bx - ax) (by_ - ay) (ka+ka+1)
 | 96=>fun x _=>x=Value.agg #[.bool s_c,.slice A_c n_c c_c,.slice B_c m_c d_c,.bool t_c,.slice E_c i_c e_c,.slice F_c j_c f_c]
 | 97=>fun x _=>x=Value.agg #[.bool s_a,.slice A_a n_a c_a,.slice B_a m_a d_a,.bool t_a,.slice E_a i_a e_a,.slice F_a j_a f_a]
 | 98=>VPG (cx - ax) (cy - ay) (ka+ka+1)
 | 99=>VQ ((bx - ax)*(cy - ay) - (by_ - ay)*(cx - ax)) ((ka+ka+1+(ka+ka+1)+(ka+ka+1+(ka+ka+1))+1))
 | _=>fun _ _=>True
def B0_mlx (ax:Rat) (ay:Rat) (bx:Rat) (by_:Rat) (cx:Rat) (cy:Rat) (ka:Nat):BoxOp :=
 ⟨7,8,12,27,#[.bool false,.slice none 0 0,.slice none 0 0],fun cs w=>∃ s A n c B m d,cs=#[.bool s,.slice A n c,.slice B m d]∧QG w s A n c B m d ((bx - ax)*(cy - ay) - (by_ - ay)*(cx - ax)) ((ka+ka+1+(ka+ka+1)+(ka+ka+1+(ka+ka+1))+1))⟩
theorem mlx_region {id:Nat} {ac:Act} {Q:Exit→Act→World→Prop} {ga gb gc:Nat} {ax ay bx by_ cx cy:Rat} {ka:Nat}
 (hsz:99 < ac.tmps.size) (e9:ac.eval (.tmp 9)=Value.pointer (some ⟨ga,0,none⟩)) (e10:ac.eval (.tmp 10)=Value.pointer (some ⟨gb,0,none⟩)) (e11:ac.eval (.tmp 11)=Value.pointer (some ⟨gc,0,none⟩)) (XA:B6 w ga (.bool s_a) (.slice A_a n_a c_a) (.slice B_a m_a d_a) (.bool t_a) (.slice E_a i_a e_a) (.slice F_a j_a f_a)) (XB:B6 w gb (.bool s_b) (.slice A_b n_b c_b) (.slice B_b m_b d_b) (.bool t_b) (.slice E_b i_b e_b) (.slice F_b j_b f_b)) (XC:B6 w gc (.bool s_c) (.slice A_c n_c c_c) (.slice B_c m_c d_c) (.bool t_c) (.slice E_c i_c e_c) (.slice F_c j_c f_c)) (a0:PG w s_a A_a n_a c_a B_a m_a d_a t_a E_a i_a e_a F_a j_a f_a ax ay ka) (b0:PG w s_b A_b n_b c_b B_b m_b d_b t_b E_b i_b e_b F_b j_b f_b bx by_ ka) (c0:PG w s_c A_c n_c c_c B_c m_c d_c t_c E_c i_c e_c F_c j_c f_c cx cy ka) (hk:ka≤40) (h1:1≤ka)
 (hend:∀ (V:Nat→Value) (w':World) (g0:Nat) (s0:Bool) (A0:Option Addr) (n0:Nat) (c0:Nat) (B0:Option Addr) (m0:Nat) (d0:Nat),QG w' s0 A0 n0 c0 B0 m0 d0 ((bx - ax)*(cy - ay) - (by_ - ay)*(cx - ax)) ((ka+ka+1+(ka+ka+1)+(ka+ka+1+(ka+ka+1))+1))→B3 w' g0 (.bool s0) (.slice A0 n0 c0) (.slice B0 m0 d0)→w.heap.size≤g0→V 12=.pointer (some ⟨g0,0,none⟩)→Below w.heap.size w w'→Q .normal (putAll ac [93,94,95,96,97,98,99,12] V) w') :
 (Code.region id #[o0_mlx,o1_mlx,o2_mlx,o3_mlx,o4_mlx,o5_mlx,o6_mlx,o7_mlx,o8_mlx] true).wp Tryz.prog Q ac w:=by
 have hnd:L_mlx.Nodup:=by decide
 have G:∀ (sv:Nat→Value) (t:Nat),t ∈ L_mlx→t≤99→(putAll ac L_mlx sv).eval (.tmp t)=sv t:=fun sv t ht h=>eval_putAll_mem (t:=t) L_mlx ac hnd ht (Nat.lt_of_le_of_lt h hsz)
 have E9:∀ sv:Nat→Value,(putAll ac L_mlx sv).eval (.tmp 9)=Value.pointer (some ⟨ga,0,none⟩):=fun sv=>(eval_putAll_not (v:=sv) L_mlx ac (show 9 ∉ _ by decide)).trans e9
 have E10:∀ sv:Nat→Value,(putAll ac L_mlx sv).eval (.tmp 10)=Value.pointer (some ⟨gb,0,none⟩):=fun sv=>(eval_putAll_not (v:=sv) L_mlx ac (show 10 ∉ _ by decide)).trans e10
 have E11:∀ sv:Nat→Value,(putAll ac L_mlx sv).eval (.tmp 11)=Value.pointer (some ⟨gc,0,none⟩):=fun sv=>(eval_putAll_not (v:=sv) L_mlx ac (show 11 ∉ _ by decide)).trans e11
 have NE:∀ t:Nat,(t ≠ 12)→∀ p ∈ [B0_mlx ax ay bx by_ cx cy ka],t ≠ p.tA:=by
  intro t ht p hp
  simp only [List.mem_cons,List.not_mem_nil,or_false] at hp
  rcases hp with rfl
  · exact ht
 refine wp_region_flowsT L_mlx [B0_mlx ax ay bx by_ cx cy ka] (F_mlx s_a t_a A_a B_a E_a F_a n_a c_a m_a d_a i_a e_a j_a f_a s_b t_b A_b B_b E_b F_b n_b c_b m_b d_b i_b e_b j_b f_b s_c t_c A_c B_c E_c F_c n_c c_c m_c d_c i_c e_c j_c f_c ax ay bx by_ cx cy ka) (by kernel_rfl) (by kernel_rfl) rfl hnd ?_ ?_ ?_ ?_ ?_ ?_ ?_ ?_
 · intro p hp
   simp only [List.mem_cons,List.not_mem_nil,or_false] at hp
   rcases hp with rfl
   · refine ⟨⟨o7_mlx,rfl,rfl,rfl,fun e w'=>run_allocQ⟩,⟨o8_mlx,rfl,rfl,rfl,⟨7,.data⟩,by simp [o8_mlx],rfl,rfl⟩,free3 _ _ _ _ _ _ _,?_,?_⟩
     · rintro cs w1 w2 ⟨s_,A_,n_,c_,B_,m_,d_,rfl,h⟩ hb;exact ⟨s_,A_,n_,c_,B_,m_,d_,rfl,h.below hb⟩
     · rintro T cs w1 w2 g c0 ⟨s_,A_,n_,c_,B_,m_,d_,rfl,h⟩ hB ho;exact ⟨s_,A_,n_,c_,B_,m_,d_,rfl,h.box hB ho⟩
 · intro p hp q hq h
   simp only [List.mem_cons,List.not_mem_nil,or_false] at hp hq
   rcases hp with rfl <;> rcases hq with rfl
   · rfl
 · intro p hp q hq h
   simp only [List.mem_cons,List.not_mem_nil,or_false] at hp hq
   rcases hp with rfl <;> rcases hq with rfl
   · rfl
 · intro i o h1 h2
   match i,h1 with
   | 0,h1=>cases h1;cases h2
   | 1,h1=>cases h1;cases h2
   | 2,h1=>cases h1;cases h2
   | 3,h1=>cases h1;cases h2
   | 4,h1=>cases h1;cases h2
   | 5,h1=>cases h1;cases h2
   | 6,h1=>cases h1;cases h2
   | 7,h1=>cases h1;cases h2
   | 8,h1=>exact ⟨B0_mlx ax ay bx by_ cx cy ka,List.Mem.head _,rfl⟩
   | i+9,h1=>cases h1
 · intro t
   unfold F_mlx
   split <;> first | exact (stays_eq _).inn _ | exact (stays_q _ _).inn _ | exact (stays_z _ _).inn _ | exact (stays_r _ _).inn _ | exact (stays_rq _ _).inn _ | exact (stays_pg _ _ _).inn _ | exact (stays_true).inn _
 · intro i o t sv w' ho hia hd J0 hf
   have XA:=XA.below J0;have XB:=XB.below J0;have XC:=XC.below J0;have a0:=a0.below J0;have b0:=b0.below J0;have c0:=c0.below J0
   match i,ho with
   | 0,ho =>
     obtain rfl:o0_mlx=o:=Option.some.inj ho
     cases hd
     refine wpOp_plain' (o:=o0_mlx) rfl rfl ?_
     unfold Oper.wp o0_mlx
     rw [run_load6 (E10 sv) XB.c0 XB.c1 XB.c2 XB.c3 XB.c4 XB.c5,Oper.upon_value]
     exact ⟨_,rfl,Below.refl _ _,rfl⟩
   | 1,ho =>
     obtain rfl:o1_mlx=o:=Option.some.inj ho
     cases hd
     refine wpOp_plain' (o:=o1_mlx) rfl rfl ?_
     unfold Oper.wp o1_mlx
     rw [run_load6 (E9 sv) XA.c0 XA.c1 XA.c2 XA.c3 XA.c4 XA.c5,Oper.upon_value]
     exact ⟨_,rfl,Below.refl _ _,rfl⟩
   | 2,ho =>
     obtain rfl:o2_mlx=o:=Option.some.inj ho
     cases hd
     have f93:sv 93=Value.agg #[.bool s_b,.slice A_b n_b c_b,.slice B_b m_b d_b,.bool t_b,.slice E_b i_b e_b,.slice F_b j_b f_b]:=hf ⟨0,.data⟩ (by simp [o2_mlx]) rfl _ 93 rfl rfl (NE _ (by decide))
     have f94:sv 94=Value.agg #[.bool s_a,.slice A_a n_a c_a,.slice B_a m_a d_a,.bool t_a,.slice E_a i_a e_a,.slice F_a j_a f_a]:=hf ⟨1,.data⟩ (by simp [o2_mlx]) rfl _ 94 rfl rfl (NE _ (by decide))
     refine wpOp_plain' (o:=o2_mlx) rfl rfl ?_
     unfold Oper.wp o2_mlx
     rw [rc_gesso_pt_Sub ((G sv 93 (by decide) (by decide)).trans f93) ((G sv 94 (by decide) (by decide)).trans f94) rfl,Oper.upon_enter]
     refine (psub_p b0.pr a0.pr (by omega) (by omega) (.inl (by omega)) (by omega) (by omega)).mono ?_
     rintro e w1 ⟨s_,A_,n_,c_,B_,m_,d_,t_,E_,i_,e_,F_,j_,f_,rfl,hq,hh⟩
     exact ⟨_,rfl,hh,s_,A_,n_,c_,B_,m_,d_,t_,E_,i_,e_,F_,j_,f_,rfl,hq⟩
   | 3,ho =>
     obtain rfl:o3_mlx=o:=Option.some.inj ho
     cases hd
     refine wpOp_plain' (o:=o3_mlx) rfl rfl ?_
     unfold Oper.wp o3_mlx
     rw [run_load6 (E11 sv) XC.c0 XC.c1 XC.c2 XC.c3 XC.c4 XC.c5,Oper.upon_value]
     exact ⟨_,rfl,Below.refl _ _,rfl⟩
   | 4,ho =>
     obtain rfl:o4_mlx=o:=Option.some.inj ho
     cases hd
     refine wpOp_plain' (o:=o4_mlx) rfl rfl ?_
     unfold Oper.wp o4_mlx
     rw [run_load6 (E9 sv) XA.c0 XA.c1 XA.c2 XA.c3 XA.c4 XA.c5,Oper.upon_value]
     exact ⟨_,rfl,Below.refl _ _,rfl⟩
   | 5,ho =>
     obtain rfl:o5_mlx=o:=Option.some.inj ho
     cases hd
     have f96:sv 96=Value.agg #[.bool s_c,.slice A_c n_c c_c,.slice B_c m_c d_c,.bool t_c,.slice E_c i_c e_c,.slice F_c j_c f_c]:=hf ⟨3,.data⟩ (by simp [o5_mlx]) rfl _ 96 rfl rfl (NE _ (by decide))
     have f97:sv 97=Value.agg #[.bool s_a,.slice A_a n_a c_a,.slice B_a m_a d_a,.bool t_a,.slice E_a i_a e_a,.slice F_a j_a f_a]:=hf ⟨4,.data⟩ (by simp [o5_mlx]) rfl _ 97 rfl rfl (NE _ (by decide))
     refine wpOp_plain' (o:=o5_mlx) rfl rfl ?_
     unfold Oper.wp o5_mlx
     rw [rc_gesso_pt_Sub ((G sv 96 (by decide) (by decide)).trans f96) ((G sv 97 (by decide) (by decide)).trans f97) rfl,Oper.upon_enter]
     refine (psub_p c0.pr a0.pr (by omega) (by omega) (.inl (by omega)) (by omega) (by omega)).mono ?_
     rintro e w1 ⟨s_,A_,n_,c_,B_,m_,d_,t_,E_,i_,e_,F_,j_,f_,rfl,hq,hh⟩
     exact ⟨_,rfl,hh,s_,A_,n_,c_,B_,m_,d_,t_,E_,i_,e_,F_,j_,f_,rfl,hq⟩
   | 6,ho =>
     obtain rfl:o6_mlx=o:=Option.some.inj ho
     cases hd
     have h95:VPG (bx - ax) (by_ - ay) (ka+ka+1) (sv 95) w':=hf ⟨2,.data⟩ (by simp [o6_mlx]) rfl _ 95 rfl rfl (NE _ (by decide))
     obtain ⟨s95_,A95_,n95_,c95_,B95_,m95_,d95_,t95_,E95_,i95_,e95_,F95_,j95_,f95_,f95,q95⟩:=h95
     have h98:VPG (cx - ax) (cy - ay) (ka+ka+1) (sv 98) w':=hf ⟨5,.data⟩ (by simp [o6_mlx]) rfl _ 98 rfl rfl (NE _ (by decide))
     obtain ⟨s98_,A98_,n98_,c98_,B98_,m98_,d98_,t98_,E98_,i98_,e98_,F98_,j98_,f98_,f98,q98⟩:=h98
     refine wpOp_plain' (o:=o6_mlx) rfl rfl ?_
     unfold Oper.wp o6_mlx
     rw [rc_gesso_pt_Cross ((G sv 95 (by decide) (by decide)).trans f95) ((G sv 98 (by decide) (by decide)).trans f98) rfl,Oper.upon_enter]
     refine (pcross_p q95.pr q98.pr (by omega) (by omega) (by omega)).mono ?_
     rintro e w1 ⟨s_,A_,n_,c_,B_,m_,d_,rfl,hq,hh⟩
     exact ⟨_,rfl,hh,s_,A_,n_,c_,B_,m_,d_,rfl,hq⟩
   | 7,ho=>cases ho;cases hd;exact absurd rfl (hia (B0_mlx ax ay bx by_ cx cy ka) (List.Mem.head _))
   | 8,ho=>cases ho;cases hd
   | i+9,ho=>cases ho
 · intro p hp os sv w' g hos J0 p1 p3 hf
   simp only [List.mem_cons,List.not_mem_nil,or_false] at hp
   rcases hp with rfl
   · obtain rfl:o8_mlx=os:=Option.some.inj hos
     have h1:VQ ((bx - ax)*(cy - ay) - (by_ - ay)*(cx - ax)) ((ka+ka+1+(ka+ka+1)+(ka+ka+1+(ka+ka+1))+1)) (sv 99) w':=hf ⟨6,.data⟩ (by simp [o8_mlx]) rfl _ 99 rfl rfl (NE _ (by decide))
     rw [← G sv 99 (by decide) (by decide)] at h1
     refine store_q (V:=(bx - ax)*(cy - ay) - (by_ - ay)*(cx - ax)) (k:=(ka+ka+1+(ka+ka+1)+(ka+ka+1+(ka+ka+1))+1)) (ac:=putAll ac L_mlx sv) (z:=.tmp 99) ?_ ?_ ?_
     · exact (G sv 12 (by decide) (by decide)).trans p1
     · exact h1
     · exact p3
 · intro sv w' J0 hF hB hap
   obtain ⟨g0,cs0,p0,r0,b0,⟨s0,A0,n0,c0,B0,m0,d0,rfl,h0⟩⟩:=hB (B0_mlx ax ay bx by_ cx cy ka) (List.Mem.head _)
   have p0':sv 12=.pointer (some ⟨g0,0,none⟩):=p0
   exact hend sv w' g0 _ _ _ _ _ _ _ h0 b0.at_ r0 p0'   J0
abbrev L_mly:List Nat:=[100,101,102,103,104,105,106,107,108,109,110,13]
def o0_mly:Oper:=⟨some 100,.indexAddr 63 (.tmp 5) (.const (Value.int IntKind.i64 1)),0, "law.go:67",#[],none⟩
def o1_mly:Oper:=⟨some 101,.load 29 (.tmp 100),29, "law.go:67",#[⟨0,.data⟩],none⟩
def o2_mly:Oper:=⟨some 102,.indexAddr 63 (.tmp 5) (.const (Value.int IntKind.i64 0)),0, "law.go:67",#[],none⟩
def o3_mly:Oper:=⟨some 103,.load 29 (.tmp 102),29, "law.go:67",#[⟨2,.data⟩],none⟩
def o4_mly:Oper:=⟨some 104,.call ⟨.value (.func 57),#[.tmp 101,.tmp 103],#[29,29]⟩,29, "law.go:67",#[⟨1,.data⟩,⟨3,.data⟩],none⟩
def o5_mly:Oper:=⟨some 105,.indexAddr 63 (.tmp 5) (.const (Value.int IntKind.i64 2)),0, "law.go:67",#[],none⟩
def o6_mly:Oper:=⟨some 106,.load 29 (.tmp 105),29, "law.go:67",#[⟨5,.data⟩],none⟩
def o7_mly:Oper:=⟨some 107,.indexAddr 63 (.tmp 5) (.const (Value.int IntKind.i64 0)),0, "law.go:67",#[],none⟩
def o8_mly:Oper:=⟨some 108,.load 29 (.tmp 107),29, "law.go:67",#[⟨7,.data⟩],none⟩
def o9_mly:Oper:=⟨some 109,.call ⟨.value (.func 57),#[.tmp 106,.tmp 108],#[29,29]⟩,29, "law.go:67",#[⟨6,.data⟩,⟨8,.data⟩,⟨4,.chain⟩],none⟩
def o10_mly:Oper:=⟨some 110,.call ⟨.value (.func 56),#[.tmp 104,.tmp 109],#[29,29]⟩,27, "law.go:67",#[⟨4,.data⟩,⟨9,.data⟩,⟨9,.chain⟩],none⟩
def o11_mly:Oper:=⟨some 13,.alloc 27,0, "law.go:67",#[],none⟩
def o12_mly:Oper:=⟨none,.store 27 (.tmp 13) (.tmp 110),0, "law.go:67",#[⟨11,.data⟩,⟨10,.data⟩,⟨10,.chain⟩,⟨0,.phase⟩,⟨1,.phase⟩,⟨2,.phase⟩,⟨3,.phase⟩,⟨4,.phase⟩,⟨5,.phase⟩,⟨6,.phase⟩,⟨7,.phase⟩,⟨8,.phase⟩,⟨9,.phase⟩,⟨10,.phase⟩,⟨11,.phase⟩],none⟩
def F_mly (gl:Nat) (s_p:Bool) (t_p:Bool) (A_p:Option Addr) (B_p:Option Addr) (E_p:Option Addr) (F_p:Option Addr) (n_p:Nat) (c_p:Nat) (m_p:Nat) (d_p:Nat) (i_p:Nat) (e_p:Nat) (j_p:Nat) (f_p:Nat) (s_q:Bool) (t_q:Bool) (A_q:Option Addr) (B_q:Option Addr) (E_q:Option Addr) (F_q:Option Addr) (n_q:Nat) (c_q:Nat) (m_q:Nat) (d_q:Nat) (i_q:Nat) (e_q:Nat) (j_q:Nat) (f_q:Nat) (s_r:Bool) (t_r:Bool) (A_r:Option Addr) (B_r:Option Addr) (E_r:Option Addr) (F_r:Option Addr) (n_r:Nat) (c_r:Nat) (m_r:Nat) (d_r:Nat) (i_r:Nat) (e_r:Nat) (j_r:Nat) (f_r:Nat) (px:Rat) (py:Rat) (qx:Rat) (qy:Rat) (rx:Rat) (ry:Rat) (sl:Nat):Value→World→Prop :=
 match sl with
 | 100=>fun x _=>x=Value.pointer (some ⟨gl,6,none⟩)
 | 101=>fun x _=>x=Value.agg #[.bool s_q,.slice A_q n_q c_q,.slice B_q m_q d_q,.bool t_q,.slice E_q i_q e_q,.slice F_q j_q f_q]
 | 102=>fun x _=>x=Value.pointer (some ⟨gl,0,none⟩)
 | 103=>fun x _=>x=Value.agg #[.bool s_p,.slice A_p n_p c_p,.slice B_p m_p d_p,.bool t_p,.slice E_p i_p e_p,.slice F_p j_p f_p]
 | 104=>VPG (qx - px) (qy - py) (6+6+1)
 | 105=>fun x _=>x=Value.pointer (some ⟨gl,12,none⟩)
 | 106=>fun x _=>x=Value.agg #[.bool s_r,.slice A_r n_r c_r,.slice B_r m_r d_r,.bool t_r,.slice E_r i_r e_r,.slice F_r j_r f_r]
 | 107=>fun x _=>x=Value.pointer (some ⟨gl,0,none⟩)
 | 108=>fun x _=>x=Value.agg #[.bool s_p,.slice A_p n_p c_p,.slice B_p m_p d_p,.bool t_p,.slice E_p i_p e_p,.slice F_p j_p f_p]
 | 109=>VPG (rx - px) (ry - py) (6+6+1)
 | 110=>VQ ((qx - px)*(ry - py) - (qy - py)*(rx - px)) ((6+6+1+(6+6+1)+(6+6+1+(6+6+1))+1))
 | _=>fun _ _=>True
def B0_mly (px:Rat) (py:Rat) (qx:Rat) (qy:Rat) (rx:Rat) (ry:Rat):BoxOp :=
 ⟨11,12,13,27,#[.bool false,.slice none 0 0,.slice none 0 0],fun cs w=>∃ s A n c B m d,cs=#[.bool s,.slice A n c,.slice B m d]∧QG w s A n c B m d ((qx - px)*(ry - py) - (qy - py)*(rx - px)) ((6+6+1+(6+6+1)+(6+6+1+(6+6+1))+1))⟩
theorem mly_region {id:Nat} {ac:Act} {Q:Exit→Act→World→Prop} {gl:Nat} {px py qx qy rx ry:Rat}
 (hsz:110 < ac.tmps.size) (e5:ac.eval (.tmp 5)=Value.pointer (some ⟨gl,0,none⟩)) (XL:BA3 w gl (.bool s_p) (.slice A_p n_p c_p) (.slice B_p m_p d_p) (.bool t_p) (.slice E_p i_p e_p) (.slice F_p j_p f_p) (.bool s_q) (.slice A_q n_q c_q) (.slice B_q m_q d_q) (.bool t_q) (.slice E_q i_q e_q) (.slice F_q j_q f_q) (.bool s_r) (.slice A_r n_r c_r) (.slice B_r m_r d_r) (.bool t_r) (.slice E_r i_r e_r) (.slice F_r j_r f_r)) (p:PR w s_p A_p n_p c_p B_p m_p d_p t_p E_p i_p e_p F_p j_p f_p px py 6) (q:PR w s_q A_q n_q c_q B_q m_q d_q t_q E_q i_q e_q F_q j_q f_q qx qy 6) (r:PR w s_r A_r n_r c_r B_r m_r d_r t_r E_r i_r e_r F_r j_r f_r rx ry 6)
 (hend:∀ (V:Nat→Value) (w':World) (g0:Nat) (s0:Bool) (A0:Option Addr) (n0:Nat) (c0:Nat) (B0:Option Addr) (m0:Nat) (d0:Nat),QG w' s0 A0 n0 c0 B0 m0 d0 ((qx - px)*(ry - py) - (qy - py)*(rx - px)) ((6+6+1+(6+6+1)+(6+6+1+(6+6+1))+1))→B3 w' g0 (.bool s0) (.slice A0 n0 c0) (.slice B0 m0 d0)→w.heap.size≤g0→V 13=.pointer (some ⟨g0,0,none⟩)→Below w.heap.size w w'→Q .normal (putAll ac [100,101,102,103,104,105,106,107,108,109,110,13] V) w') :
 (Code.region id #[o0_mly,o1_mly,o2_mly,o3_mly,o4_mly,o5_mly,o6_mly,o7_mly,o8_mly,o9_mly,o10_mly,o11_mly,o12_mly] true).wp Tryz.prog Q ac w:=by
 have hnd:L_mly.Nodup:=by decide
 have G:∀ (sv:Nat→Value) (t:Nat),t ∈ L_mly→t≤110→(putAll ac L_mly sv).eval (.tmp t)=sv t:=fun sv t ht h=>eval_putAll_mem (t:=t) L_mly ac hnd ht (Nat.lt_of_le_of_lt h hsz)
 have E5:∀ sv:Nat→Value,(putAll ac L_mly sv).eval (.tmp 5)=Value.pointer (some ⟨gl,0,none⟩):=fun sv=>(eval_putAll_not (v:=sv) L_mly ac (show 5 ∉ _ by decide)).trans e5
 have NE:∀ t:Nat,(t ≠ 13)→∀ p ∈ [B0_mly px py qx qy rx ry],t ≠ p.tA:=by
  intro t ht p hp
  simp only [List.mem_cons,List.not_mem_nil,or_false] at hp
  rcases hp with rfl
  · exact ht
 refine wp_region_flowsT L_mly [B0_mly px py qx qy rx ry] (F_mly gl s_p t_p A_p B_p E_p F_p n_p c_p m_p d_p i_p e_p j_p f_p s_q t_q A_q B_q E_q F_q n_q c_q m_q d_q i_q e_q j_q f_q s_r t_r A_r B_r E_r F_r n_r c_r m_r d_r i_r e_r j_r f_r px py qx qy rx ry) (by kernel_rfl) (by kernel_rfl) rfl hnd ?_ ?_ ?_ ?_ ?_ ?_ ?_ ?_
 · intro p hp
   simp only [List.mem_cons,List.not_mem_nil,or_false] at hp
   rcases hp with rfl
   · refine ⟨⟨o11_mly,rfl,rfl,rfl,fun e w'=>run_allocQ⟩,⟨o12_mly,rfl,rfl,rfl,⟨11,.data⟩,by simp [o12_mly],rfl,rfl⟩,free3 _ _ _ _ _ _ _,?_,?_⟩
     · rintro cs w1 w2 ⟨s_,A_,n_,c_,B_,m_,d_,rfl,h⟩ hb;exact ⟨s_,A_,n_,c_,B_,m_,d_,rfl,h.below hb⟩
     · rintro T cs w1 w2 g c0 ⟨s_,A_,n_,c_,B_,m_,d_,rfl,h⟩ hB ho;exact ⟨s_,A_,n_,c_,B_,m_,d_,rfl,h.box hB ho⟩
 · intro p hp q hq h
   simp only [List.mem_cons,List.not_mem_nil,or_false] at hp hq
   rcases hp with rfl <;> rcases hq with rfl
   · rfl
 · intro p hp q hq h
   simp only [List.mem_cons,List.not_mem_nil,or_false] at hp hq
   rcases hp with rfl <;> rcases hq with rfl
   · rfl
 · intro i o h1 h2
   match i,h1 with
   | 0,h1=>cases h1;cases h2
   | 1,h1=>cases h1;cases h2
   | 2,h1=>cases h1;cases h2
   | 3,h1=>cases h1;cases h2
   | 4,h1=>cases h1;cases h2
   | 5,h1=>cases h1;cases h2
   | 6,h1=>cases h1;cases h2
   | 7,h1=>cases h1;cases h2
   | 8,h1=>cases h1;cases h2
   | 9,h1=>cases h1;cases h2
   | 10,h1=>cases h1;cases h2
   | 11,h1=>cases h1;cases h2
   | 12,h1=>exact ⟨B0_mly px py qx qy rx ry,List.Mem.head _,rfl⟩
   | i+13,h1=>cases h1
 · intro t
   unfold F_mly
   split <;> first | exact (stays_eq _).inn _ | exact (stays_q _ _).inn _ | exact (stays_z _ _).inn _ | exact (stays_r _ _).inn _ | exact (stays_rq _ _).inn _ | exact (stays_pg _ _ _).inn _ | exact (stays_true).inn _ | exact (stays_k _).inn _
 · intro i o t sv w' ho hia hd J0 hf
   have XL:=XL.below J0;have p:=p.below J0;have q:=q.below J0;have r:=r.below J0
   match i,ho with
   | 0,ho =>
     obtain rfl:o0_mly=o:=Option.some.inj ho
     cases hd
     refine wpOp_plain' (o:=o0_mly) rfl rfl ?_
     unfold Oper.wp o0_mly
     rw [run_ia1 (E5 sv) rfl,Oper.upon_value]
     exact ⟨_,rfl,Below.refl _ _,rfl⟩
   | 1,ho =>
     obtain rfl:o1_mly=o:=Option.some.inj ho
     cases hd
     have f100:sv 100=Value.pointer (some ⟨gl,6,none⟩):=hf ⟨0,.data⟩ (by simp [o1_mly]) rfl _ 100 rfl rfl (NE _ (by decide))
     refine wpOp_plain' (o:=o1_mly) rfl rfl ?_
     unfold Oper.wp o1_mly
     rw [run_loadA1 ((G sv 100 (by decide) (by decide)).trans f100) XL,Oper.upon_value]
     exact ⟨_,rfl,Below.refl _ _,rfl⟩
   | 2,ho =>
     obtain rfl:o2_mly=o:=Option.some.inj ho
     cases hd
     refine wpOp_plain' (o:=o2_mly) rfl rfl ?_
     unfold Oper.wp o2_mly
     rw [run_ia0 (E5 sv) rfl,Oper.upon_value]
     exact ⟨_,rfl,Below.refl _ _,rfl⟩
   | 3,ho =>
     obtain rfl:o3_mly=o:=Option.some.inj ho
     cases hd
     have f102:sv 102=Value.pointer (some ⟨gl,0,none⟩):=hf ⟨2,.data⟩ (by simp [o3_mly]) rfl _ 102 rfl rfl (NE _ (by decide))
     refine wpOp_plain' (o:=o3_mly) rfl rfl ?_
     unfold Oper.wp o3_mly
     rw [run_loadA0 ((G sv 102 (by decide) (by decide)).trans f102) XL,Oper.upon_value]
     exact ⟨_,rfl,Below.refl _ _,rfl⟩
   | 4,ho =>
     obtain rfl:o4_mly=o:=Option.some.inj ho
     cases hd
     have f101:sv 101=Value.agg #[.bool s_q,.slice A_q n_q c_q,.slice B_q m_q d_q,.bool t_q,.slice E_q i_q e_q,.slice F_q j_q f_q]:=hf ⟨1,.data⟩ (by simp [o4_mly]) rfl _ 101 rfl rfl (NE _ (by decide))
     have f103:sv 103=Value.agg #[.bool s_p,.slice A_p n_p c_p,.slice B_p m_p d_p,.bool t_p,.slice E_p i_p e_p,.slice F_p j_p f_p]:=hf ⟨3,.data⟩ (by simp [o4_mly]) rfl _ 103 rfl rfl (NE _ (by decide))
     refine wpOp_plain' (o:=o4_mly) rfl rfl ?_
     unfold Oper.wp o4_mly
     rw [rc_gesso_pt_Sub ((G sv 101 (by decide) (by decide)).trans f101) ((G sv 103 (by decide) (by decide)).trans f103) rfl,Oper.upon_enter]
     refine (psub_p q p (by decide) (by decide) (.inl (by decide)) (by decide) (by decide)).mono ?_
     rintro e w1 ⟨s_,A_,n_,c_,B_,m_,d_,t_,E_,i_,e_,F_,j_,f_,rfl,hq,hh⟩
     exact ⟨_,rfl,hh,s_,A_,n_,c_,B_,m_,d_,t_,E_,i_,e_,F_,j_,f_,rfl,hq⟩
   | 5,ho =>
     obtain rfl:o5_mly=o:=Option.some.inj ho
     cases hd
     refine wpOp_plain' (o:=o5_mly) rfl rfl ?_
     unfold Oper.wp o5_mly
     rw [run_ia2 (E5 sv) rfl,Oper.upon_value]
     exact ⟨_,rfl,Below.refl _ _,rfl⟩
   | 6,ho =>
     obtain rfl:o6_mly=o:=Option.some.inj ho
     cases hd
     have f105:sv 105=Value.pointer (some ⟨gl,12,none⟩):=hf ⟨5,.data⟩ (by simp [o6_mly]) rfl _ 105 rfl rfl (NE _ (by decide))
     refine wpOp_plain' (o:=o6_mly) rfl rfl ?_
     unfold Oper.wp o6_mly
     rw [run_loadA2 ((G sv 105 (by decide) (by decide)).trans f105) XL,Oper.upon_value]
     exact ⟨_,rfl,Below.refl _ _,rfl⟩
   | 7,ho =>
     obtain rfl:o7_mly=o:=Option.some.inj ho
     cases hd
     refine wpOp_plain' (o:=o7_mly) rfl rfl ?_
     unfold Oper.wp o7_mly
     rw [run_ia0 (E5 sv) rfl,Oper.upon_value]
     exact ⟨_,rfl,Below.refl _ _,rfl⟩
   | 8,ho =>
     obtain rfl:o8_mly=o:=Option.some.inj ho
     cases hd
     have f107:sv 107=Value.pointer (some ⟨gl,0,none⟩):=hf ⟨7,.data⟩ (by simp [o8_mly]) rfl _ 107 rfl rfl (NE _ (by decide))
     refine wpOp_plain' (o:=o8_mly) rfl rfl ?_
     unfold Oper.wp o8_mly
     rw [run_loadA0 ((G sv 107 (by decide) (by decide)).trans f107) XL,Oper.upon_value]
     exact ⟨_,rfl,Below.refl _ _,rfl⟩
   | 9,ho =>
     obtain rfl:o9_mly=o:=Option.some.inj ho
     cases hd
     have f106:sv 106=Value.agg #[.bool s_r,.slice A_r n_r c_r,.slice B_r m_r d_r,.bool t_r,.slice E_r i_r e_r,.slice F_r j_r f_r]:=hf ⟨6,.data⟩ (by simp [o9_mly]) rfl _ 106 rfl rfl (NE _ (by decide))
     have f108:sv 108=Value.agg #[.bool s_p,.slice A_p n_p c_p,.slice B_p m_p d_p,.bool t_p,.slice E_p i_p e_p,.slice F_p j_p f_p]:=hf ⟨8,.data⟩ (by simp [o9_mly]) rfl _ 108 rfl rfl (NE _ (by decide))
     refine wpOp_plain' (o:=o9_mly) rfl rfl ?_
     unfold Oper.wp o9_mly
     rw [rc_gesso_pt_Sub ((G sv 106 (by decide) (by decide)).trans f106) ((G sv 108 (by decide) (by decide)).trans f108) rfl,Oper.upon_enter]
     refine (psub_p r p (by decide) (by decide) (.inl (by decide)) (by decide) (by decide)).mono ?_
     rintro e w1 ⟨s_,A_,n_,c_,B_,m_,d_,t_,E_,i_,e_,F_,j_,f_,rfl,hq,hh⟩
     exact ⟨_,rfl,hh,s_,A_,n_,c_,B_,m_,d_,t_,E_,i_,e_,F_,j_,f_,rfl,hq⟩
   | 10,ho =>
     obtain rfl:o10_mly=o:=Option.some.inj ho
     cases hd
     have h104:VPG (qx - px) (qy - py) (6+6+1) (sv 104) w':=hf ⟨4,.data⟩ (by simp [o10_mly]) rfl _ 104 rfl rfl (NE _ (by decide))
     obtain ⟨s104_,A104_,n104_,c104_,B104_,m104_,d104_,t104_,E104_,i104_,e104_,F104_,j104_,f104_,f104,q104⟩:=h104
     have h109:VPG (rx - px) (ry - py) (6+6+1) (sv 109) w':=hf ⟨9,.data⟩ (by simp [o10_mly]) rfl _ 109 rfl rfl (NE _ (by decide))
     obtain ⟨s109_,A109_,n109_,c109_,B109_,m109_,d109_,t109_,E109_,i109_,e109_,F109_,j109_,f109_,f109,q109⟩:=h109
     refine wpOp_plain' (o:=o10_mly) rfl rfl ?_
     unfold Oper.wp o10_mly
     rw [rc_gesso_pt_Cross ((G sv 104 (by decide) (by decide)).trans f104) ((G sv 109 (by decide) (by decide)).trans f109) rfl,Oper.upon_enter]
     refine (pcross_p q104.pr q109.pr (by decide) (by decide) (by decide)).mono ?_
     rintro e w1 ⟨s_,A_,n_,c_,B_,m_,d_,rfl,hq,hh⟩
     exact ⟨_,rfl,hh,s_,A_,n_,c_,B_,m_,d_,rfl,hq⟩
   | 11,ho=>cases ho;cases hd;exact absurd rfl (hia (B0_mly px py qx qy rx ry) (List.Mem.head _))
   | 12,ho=>cases ho;cases hd
   | i+13,ho=>cases ho
 · intro p hp os sv w' g hos J0 p1 p3 hf
   simp only [List.mem_cons,List.not_mem_nil,or_false] at hp
   rcases hp with rfl
   · obtain rfl:o12_mly=os:=Option.some.inj hos
     have h1:VQ ((qx - px)*(ry - py) - (qy - py)*(rx - px)) ((6+6+1+(6+6+1)+(6+6+1+(6+6+1))+1)) (sv 110) w':=hf ⟨10,.data⟩ (by simp [o12_mly]) rfl _ 110 rfl rfl (NE _ (by decide))
     rw [← G sv 110 (by decide) (by decide)] at h1
     refine store_q (V:=(qx - px)*(ry - py) - (qy - py)*(rx - px)) (k:=(6+6+1+(6+6+1)+(6+6+1+(6+6+1))+1)) (ac:=putAll ac L_mly sv) (z:=.tmp 110) ?_ ?_ ?_
     · exact (G sv 13 (by decide) (by decide)).trans p1
     · exact h1
     · exact p3
 · intro sv w' J0 hF hB hap
   obtain ⟨g0,cs0,p0,r0,b0,⟨s0,A0,n0,c0,B0,m0,d0,rfl,h0⟩⟩:=hB (B0_mly px py qx qy rx ry) (List.Mem.head _)
   have p0':sv 13=.pointer (some ⟨g0,0,none⟩):=p0
   exact hend sv w' g0 _ _ _ _ _ _ _ h0 b0.at_ r0 p0'   J0
end
section
open Go Go.ChangeShapes Go.WideShapes Go.ChangeAt Go.RowKit
theorem open_rat3 {H:Type} {enc:TypeId × Value→H} {base fuel:Nat} {held:Bool} {x0 x1 x2:Value} {y:DataW H × List MemPlace}
 (h:DataW.trod enc Tryz.prog w base (fun _=>true) held fuel 27 [x0,x1,x2]=some y) :
 ∃ (q:QV) (zs ys:List Int),x0=.bool q.s∧x1=.slice q.A q.n q.c∧x2=.slice q.B q.m q.d∧IsRow64 w q.A q.n q.c zs∧IsRow64 w q.B q.m q.d ys:=by
 have e0:Tryz.prog.cellsOf 25=2:=by kernel_rfl
 have e1:Tryz.prog.cellsOf 23=1:=by kernel_rfl
 have e2:Tryz.prog.cellsOf 4=1:=by kernel_rfl
 obtain ⟨z0,z1,m,hx2,_,h2,h3⟩:=trod_struct2 Tryz.underlying27 h
 simp [e0] at h2
 simp [e1] at h3
 obtain ⟨u0,u1,k,hx4,_,h6,h7⟩:=trod_struct2 Tryz.underlying25 h2
 simp [e2] at h6
 simp [e1] at h7
 obtain ⟨b,hb,_⟩:=DataW.trod_bool Tryz.underlying4 h6
 cases hb
 obtain ⟨A1,n1,c1,zs1,rfl,r1⟩:∃ A n c zs,x1=.slice A n c∧IsRow64 w A n c zs:=by
  rcases open_ints Tryz.underlying23 Tryz.underlying161 (by kernel_rfl) h7 with ⟨hcs,_⟩ | ⟨x,l,c,zs,hcs,_,hl,hm,hz,_,hcell,hwz⟩
  · exact ⟨none,0,0,[],by cases hcs;rfl,.inl ⟨rfl,rfl,rfl,rfl⟩⟩
  · exact ⟨some x,l,c,zs,by cases hcs;rfl,.inr ⟨x,rfl,hl,hm,by simpa using hz,hcell,hwz⟩⟩
 obtain ⟨A2,n2,c2,zs2,rfl,r2⟩:∃ A n c zs,x2=.slice A n c∧IsRow64 w A n c zs:=by
  rcases open_ints Tryz.underlying23 Tryz.underlying161 (by kernel_rfl) h3 with ⟨hcs,_⟩ | ⟨x,l,c,zs,hcs,_,hl,hm,hz,_,hcell,hwz⟩
  · exact ⟨none,0,0,[],by cases hcs;rfl,.inl ⟨rfl,rfl,rfl,rfl⟩⟩
  · exact ⟨some x,l,c,zs,by cases hcs;rfl,.inr ⟨x,rfl,hl,hm,by simpa using hz,hcell,hwz⟩⟩
 exact ⟨⟨_,A1,n1,c1,A2,n2,c2⟩,zs1,zs2,rfl,rfl,rfl,r1,r2⟩
def MRows (w:World) (m:MV):Prop:=(∃ zs,IsRow64 w m.a.A m.a.n m.a.c zs)∧(∃ zs,IsRow64 w m.a.B m.a.m m.a.d zs)∧(∃ zs,IsRow64 w m.b.A m.b.n m.b.c zs)∧(∃ zs,IsRow64 w m.b.B m.b.m m.b.d zs)∧(∃ zs,IsRow64 w m.c.A m.c.n m.c.c zs)∧(∃ zs,IsRow64 w m.c.B m.c.m m.c.d zs)∧(∃ zs,IsRow64 w m.d.A m.d.n m.d.c zs)∧(∃ zs,IsRow64 w m.d.B m.d.m m.d.d zs)∧(∃ zs,IsRow64 w m.e.A m.e.n m.e.c zs)∧(∃ zs,IsRow64 w m.e.B m.e.m m.e.d zs)∧(∃ zs,IsRow64 w m.f.A m.f.n m.f.c zs)∧(∃ zs,IsRow64 w m.f.B m.f.m m.f.d zs)
theorem open_zmat {H:Type} {enc:TypeId × Value→H} {base:Nat} {held:Bool} {r:Reach} {b0:Nat} {v:Value} {d:DataW H} {p:List MemPlace}
 (hv:Value.okWide Tryz.prog w r b0 71 v) (h:DataW.Trod enc Tryz.prog w base (fun _=>true) held 71 v d p) :
 ∃ m:MV,v=.agg #[.bool m.a.s,.slice m.a.A m.a.n m.a.c,.slice m.a.B m.a.m m.a.d,.bool m.b.s,.slice m.b.A m.b.n m.b.c,.slice m.b.B m.b.m m.b.d,.bool m.c.s,.slice m.c.A m.c.n m.c.c,.slice m.c.B m.c.m m.c.d,.bool m.d.s,.slice m.d.A m.d.n m.d.c,.slice m.d.B m.d.m m.d.d,.bool m.e.s,.slice m.e.A m.e.n m.e.c,.slice m.e.B m.e.m m.e.d,.bool m.f.s,.slice m.f.A m.f.n m.f.c,.slice m.f.B m.f.m m.f.d]∧MRows w m:=by
 have e3:Tryz.prog.cellsOf 27=3:=by kernel_rfl
 obtain ⟨cs,rfl,hsz⟩:=okWide_struct Tryz.underlying71 hv
 have hsz18:cs.size=18:=hsz.trans (by kernel_rfl)
 obtain ⟨x0,x1,x2,x3,x4,x5,x6,x7,x8,x9,x10,x11,x12,x13,x14,x15,x16,x17,rfl⟩:∃ x0 x1 x2 x3 x4 x5 x6 x7 x8 x9 x10 x11 x12 x13 x14 x15 x16 x17,cs=#[x0,x1,x2,x3,x4,x5,x6,x7,x8,x9,x10,x11,x12,x13,x14,x15,x16,x17]:=by
  obtain ⟨l⟩:=cs
  match l,hsz18 with
  | [x0,x1,x2,x3,x4,x5,x6,x7,x8,x9,x10,x11,x12,x13,x14,x15,x16,x17],_=>exact ⟨x0,x1,x2,x3,x4,x5,x6,x7,x8,x9,x10,x11,x12,x13,x14,x15,x16,x17,rfl⟩
 obtain ⟨fuel,hf⟩:=h
 obtain ⟨xs,n,_,_,_,hlen,hi⟩:=DataW.trod_struct Tryz.underlying71 hf
 match xs,hlen with
 | [y0,y1,y2,y3,y4,y5],_ =>
   have h0:=hi 0 _ rfl
   simp [Value.cells,e3] at h0
   have h1:=hi 1 _ rfl
   simp [Value.cells,e3] at h1
   have h2:=hi 2 _ rfl
   simp [Value.cells,e3] at h2
   have h3:=hi 3 _ rfl
   simp [Value.cells,e3] at h3
   have h4:=hi 4 _ rfl
   simp [Value.cells,e3] at h4
   have h5:=hi 5 _ rfl
   simp [Value.cells,e3] at h5
   obtain ⟨q0,z0,s0,rfl,rfl,rfl,r0,t0⟩:=open_rat3 h0
   obtain ⟨q1,z1,s1,rfl,rfl,rfl,r1,t1⟩:=open_rat3 h1
   obtain ⟨q2,z2,s2,rfl,rfl,rfl,r2,t2⟩:=open_rat3 h2
   obtain ⟨q3,z3,s3,rfl,rfl,rfl,r3,t3⟩:=open_rat3 h3
   obtain ⟨q4,z4,s4,rfl,rfl,rfl,r4,t4⟩:=open_rat3 h4
   obtain ⟨q5,z5,s5,rfl,rfl,rfl,r5,t5⟩:=open_rat3 h5
   exact ⟨⟨q0,q1,q2,q3,q4,q5⟩,rfl,⟨z0,r0⟩,⟨s0,t0⟩,⟨z1,r1⟩,⟨s1,t1⟩,⟨z2,r2⟩,⟨s2,t2⟩,⟨z3,r3⟩,⟨s3,t3⟩,⟨z4,r4⟩,⟨s4,t4⟩,⟨z5,r5⟩,⟨s5,t5⟩⟩
theorem MRows.mr {m:MV} (h:MRows w m):∃ v:AM,((((m.a.n≤6∧m.a.m≤6)∧m.b.n≤6∧m.b.m≤6)∧(((m.c.n≤6∧m.c.m≤6)∧m.d.n≤6∧m.d.m≤6))∧(((m.e.n≤6∧m.e.m≤6)∧m.f.n≤6∧m.f.m≤6)))→MR w m v 6 6):=by
 obtain ⟨⟨_,ra⟩,⟨_,ta⟩,⟨_,rb⟩,⟨_,tb⟩,⟨_,rc⟩,⟨_,tc⟩,⟨_,rd⟩,⟨_,td⟩,⟨_,re⟩,⟨_,te⟩,⟨_,rf⟩,⟨_,tf⟩⟩:=h
 obtain ⟨lia,pa,sa,ea,_⟩:=ra.rd
 obtain ⟨lja,qa,ua,ga,_⟩:=ta.rd
 obtain ⟨lib,pb,sb,eb,_⟩:=rb.rd
 obtain ⟨ljb,qb,ub,gb,_⟩:=tb.rd
 obtain ⟨lic,pc,sc,ec,_⟩:=rc.rd
 obtain ⟨ljc,qc,uc,gc,_⟩:=tc.rd
 obtain ⟨lid,pd,sd,ed,_⟩:=rd.rd
 obtain ⟨ljd,qd,ud,gd,_⟩:=td.rd
 obtain ⟨lie,pe,se,ee,_⟩:=re.rd
 obtain ⟨lje,qe,ue,ge,_⟩:=te.rd
 obtain ⟨lif,pf,sf,ef,_⟩:=rf.rd
 obtain ⟨ljf,qf,uf,gf,_⟩:=tf.rd
 exact ⟨⟨_,_,_,_,_,_⟩,fun k=>⟨⟨QR.of_rd pa sa ea qa ua ga k.1.1.1 k.1.1.2,QR.of_rd pb sb eb qb ub gb k.1.2.1 k.1.2.2⟩,⟨QR.of_rd pc sc ec qc uc gc k.2.1.1.1 k.2.1.1.2,QR.of_rd pd sd ed qd ud gd k.2.1.2.1 k.2.1.2.2⟩,⟨QR.of_rd pe se ee qe ue ge k.2.2.1.1 k.2.2.1.2,QR.of_rd pf sf ef qf uf gf k.2.2.2.1 k.2.2.2.2⟩⟩⟩
end
end Go.Proofs.YtgneghgfpkkkdaaGreat
