/- MatDoes: part 18. -/
import Derived.Test.YtgneghgfpkkkdaaGreatKMatDoes12
import Derived.Test.YtgneghgfpkkkdaaGreatKMatDoes16
import Derived.Test.YtgneghgfpkkkdaaGreatKMatDoes17
set_option linter.unusedVariables false
set_option maxRecDepth 100000
set_option maxHeartbeats 16000000
variable {w:Go.World}
variable {s_o t_o:Bool} {A_o B_o E_o F_o:Option Go.Addr} {n_o c_o m_o d_o i_o e_o j_o f_o:Nat}
variable {s_t:Bool} {A_t B_t:Option Go.Addr} {n_t c_t m_t d_t:Nat}
namespace Go.Proofs.YtgneghgfpkkkdaaGreat
open Go Go.RowKit
attribute [local go_sem ↓] open_LVM open_STM open_LVN open_STN
theorem run_load7m {e1:Operand→Value} {x1:Operand} {d1:Option Tmp} {y1 g:Nat} {pos:String} {af:Array Edge} {a b c d e f:Value} (h:e1 x1=.pointer (some ⟨g,0,none⟩)) (h0:w.cell? ⟨g,0,none⟩=some a) (h1:w.cell? ⟨g,1,none⟩=some b) (h2:w.cell? ⟨g,2,none⟩=some c) (h3:w.cell? ⟨g,3,none⟩=some d) (h4:w.cell? ⟨g,4,none⟩=some e) (h5:w.cell? ⟨g,5,none⟩=some f) :
 (execOp e1 ⟨d1,.load 45 x1,y1,pos,af,none⟩).run Tryz.prog w=.ok (.value (.agg #[a,b,c,d,e,f])) w:=by
 go_simp
def AM.rmul (m n:AM):AM :=
 ⟨m.ax (n.ax (Rat.divInt 1 1) (Rat.divInt 0 1)) (n.ay (Rat.divInt 1 1) (Rat.divInt 0 1)) - m.ax (n.ax (Rat.divInt 0 1) (Rat.divInt 0 1)) (n.ay (Rat.divInt 0 1) (Rat.divInt 0 1)),
  m.ay (n.ax (Rat.divInt 1 1) (Rat.divInt 0 1)) (n.ay (Rat.divInt 1 1) (Rat.divInt 0 1)) - m.ay (n.ax (Rat.divInt 0 1) (Rat.divInt 0 1)) (n.ay (Rat.divInt 0 1) (Rat.divInt 0 1)),
  m.ax (n.ax (Rat.divInt 0 1) (Rat.divInt 1 1)) (n.ay (Rat.divInt 0 1) (Rat.divInt 1 1)) - m.ax (n.ax (Rat.divInt 0 1) (Rat.divInt 0 1)) (n.ay (Rat.divInt 0 1) (Rat.divInt 0 1)),
  m.ay (n.ax (Rat.divInt 0 1) (Rat.divInt 1 1)) (n.ay (Rat.divInt 0 1) (Rat.divInt 1 1)) - m.ay (n.ax (Rat.divInt 0 1) (Rat.divInt 0 1)) (n.ay (Rat.divInt 0 1) (Rat.divInt 0 1)),
  m.ax (n.ax (Rat.divInt 0 1) (Rat.divInt 0 1)) (n.ay (Rat.divInt 0 1) (Rat.divInt 0 1)),m.ay (n.ax (Rat.divInt 0 1) (Rat.divInt 0 1)) (n.ay (Rat.divInt 0 1) (Rat.divInt 0 1))⟩
theorem zero3:Rat.divInt 0 1=0:=by decide +kernel
theorem unit3:Rat.divInt 1 1=1:=by decide +kernel
theorem AM.eq_of3 {v u:AM} (h1:v.a=u.a) (h2:v.b=u.b) (h3:v.c=u.c) (h4:v.d=u.d) (h5:v.e=u.e) (h6:v.f=u.f):v=u:=by
 cases v;cases u;simp only at h1 h2 h3 h4 h5 h6;subst h1 h2 h3 h4 h5 h6;rfl
theorem rmul_eq (m n:AM):m.mul n=m.rmul n:=by
 apply AM.eq_of3
 all_goals simp only [AM.mul,AM.rmul,AM.dx,AM.dy,AM.ax,AM.ay,zero3,unit3]
 all_goals grind
def AM.rundo (v:AM):AM:=⟨v.d / v.det,-v.b / v.det,-v.c / v.det,v.a / v.det,Rat.divInt 0 1,Rat.divInt 0 1⟩
def AM.rinv (v:AM):AM:=⟨v.rundo.a,v.rundo.b,v.rundo.c,v.rundo.d,-(v.rundo.ax v.e v.f),-(v.rundo.ay v.e v.f)⟩
theorem rinv_eq (v:AM):v.inv=v.rinv:=by
 have k:v.ik=v.det⁻¹:=by unfold AM.ik;rw [unit3,Rat.div_def,Rat.one_mul]
 apply AM.eq_of3
 all_goals simp only [AM.inv,AM.rinv,AM.undo,AM.rundo,AM.dx,AM.dy,AM.ax,AM.ay,zero3,Rat.div_def,k]
 all_goals generalize v.det⁻¹=T
 all_goals grind
abbrev L_rmo:List Nat:=[8,9,10,11,12,5]
def o0_rmo:Oper:=⟨some 8,.load 74 (.tmp 2),74, "ref.go:40",#[],none⟩
def o1_rmo:Oper:=⟨some 9,.load 74 (.tmp 3),74, "ref.go:40",#[],none⟩
def o2_rmo:Oper:=⟨some 10,.call ⟨.value (.func 114),#[.const (Value.int IntKind.i64 0),.const (Value.int IntKind.i64 0)],#[2,2]⟩,45, "ref.go:40",#[],none⟩
def o3_rmo:Oper:=⟨some 11,.call ⟨.value (.func 44),#[.tmp 9,.tmp 10],#[74,45]⟩,45, "ref.go:40",#[⟨1,.data⟩,⟨2,.data⟩,⟨2,.chain⟩],none⟩
def o4_rmo:Oper:=⟨some 12,.call ⟨.value (.func 44),#[.tmp 8,.tmp 11],#[74,45]⟩,45, "ref.go:40",#[⟨0,.data⟩,⟨3,.data⟩,⟨3,.chain⟩],none⟩
def o5_rmo:Oper:=⟨some 5,.alloc 45,0, "ref.go:40",#[],none⟩
def o6_rmo:Oper:=⟨none,.store 45 (.tmp 5) (.tmp 12),0, "ref.go:40",#[⟨5,.data⟩,⟨4,.data⟩,⟨4,.chain⟩,⟨0,.phase⟩,⟨1,.phase⟩,⟨2,.phase⟩,⟨3,.phase⟩,⟨4,.phase⟩,⟨5,.phase⟩],none⟩
theorem rc_gesso_gessoref06_Of {e:Operand→Value} {x0 x1:Operand} {d:Option Tmp} {y:Nat} {pos:String} {af:Array Edge} {u0 u1:Value} (h0:e x0=u0) (h1:e x1=u1) (hf:e (.func 114)=.func (.func 114) #[] #[]) :
 (execOp e ⟨d,.call ⟨.value (.func 114),#[x0,x1],#[2,2]⟩,y,pos,af,none⟩).run Tryz.prog w=.ok (.enter 114 #[u0,u1]) w:=by
 go_simp
theorem rc_gesso_gessoref09_Apply {e:Operand→Value} {x0 x1:Operand} {d:Option Tmp} {y:Nat} {pos:String} {af:Array Edge} {u0 u1:Value} (h0:e x0=u0) (h1:e x1=u1) (hf:e (.func 44)=.func (.func 44) #[] #[]) :
 (execOp e ⟨d,.call ⟨.value (.func 44),#[x0,x1],#[74,45]⟩,y,pos,af,none⟩).run Tryz.prog w=.ok (.enter 44 #[u0,u1]) w:=by
 go_simp
def F_rmo (m:MV) (n:MV) (v:AM) (u:AM) (k:Nat) (l:Nat) (k2:Nat) (l2:Nat) (sl:Nat):Value→World→Prop :=
 match sl with
 | 8=>fun x _=>x=Value.agg #[.bool m.a.s,.slice m.a.A m.a.n m.a.c,.slice m.a.B m.a.m m.a.d,.bool m.b.s,.slice m.b.A m.b.n m.b.c,.slice m.b.B m.b.m m.b.d,.bool m.c.s,.slice m.c.A m.c.n m.c.c,.slice m.c.B m.c.m m.c.d,.bool m.d.s,.slice m.d.A m.d.n m.d.c,.slice m.d.B m.d.m m.d.d,.bool m.e.s,.slice m.e.A m.e.n m.e.c,.slice m.e.B m.e.m m.e.d,.bool m.f.s,.slice m.f.A m.f.n m.f.c,.slice m.f.B m.f.m m.f.d]
 | 9=>fun x _=>x=Value.agg #[.bool n.a.s,.slice n.a.A n.a.n n.a.c,.slice n.a.B n.a.m n.a.d,.bool n.b.s,.slice n.b.A n.b.n n.b.c,.slice n.b.B n.b.m n.b.d,.bool n.c.s,.slice n.c.A n.c.n n.c.c,.slice n.c.B n.c.m n.c.d,.bool n.d.s,.slice n.d.A n.d.n n.d.c,.slice n.d.B n.d.m n.d.d,.bool n.e.s,.slice n.e.A n.e.n n.e.c,.slice n.e.B n.e.m n.e.d,.bool n.f.s,.slice n.f.A n.f.n n.f.c,.slice n.f.B n.f.m n.f.d]
 | 10=>VRP (Rat.divInt 0 1) (Rat.divInt 0 1) (2)
 | 11=>VRP (u.ax (Rat.divInt 0 1) (Rat.divInt 0 1)) (u.ay (Rat.divInt 0 1) (Rat.divInt 0 1)) ((k2+2+(k2+2)+1+l2+1))
 | 12=>VRP ((v.ax (u.ax (Rat.divInt 0 1) (Rat.divInt 0 1)) (u.ay (Rat.divInt 0 1) (Rat.divInt 0 1)))) ((v.ay (u.ax (Rat.divInt 0 1) (Rat.divInt 0 1)) (u.ay (Rat.divInt 0 1) (Rat.divInt 0 1)))) ((k+(k2+2+(k2+2)+1+l2+1)+(k+(k2+2+(k2+2)+1+l2+1))+1+l+1))
 | _=>fun _ _=>True
def B0_rmo (v:AM) (u:AM) (k:Nat) (l:Nat) (k2:Nat) (l2:Nat):BoxOp :=
 ⟨5,6,5,45,#[.bool false,.slice none 0 0,.slice none 0 0,.bool false,.slice none 0 0,.slice none 0 0],fun cs w=>∃ s A n c B m d t E i e F j f,cs=#[.bool s,.slice A n c,.slice B m d,.bool t,.slice E i e,.slice F j f]∧RP w s A n c B m d t E i e F j f ((v.ax (u.ax (Rat.divInt 0 1) (Rat.divInt 0 1)) (u.ay (Rat.divInt 0 1) (Rat.divInt 0 1)))) ((v.ay (u.ax (Rat.divInt 0 1) (Rat.divInt 0 1)) (u.ay (Rat.divInt 0 1) (Rat.divInt 0 1)))) ((k+(k2+2+(k2+2)+1+l2+1)+(k+(k2+2+(k2+2)+1+l2+1))+1+l+1))⟩
theorem rmo_region {id:Nat} {ac:Act} {Q:Exit→Act→World→Prop} {m n:MV} {v u:AM} {k l k2 l2 gm gn:Nat}
 (hsz:12 < ac.tmps.size) (e2:ac.eval (.tmp 2)=Value.pointer (some ⟨gm,0,none⟩)) (e3:ac.eval (.tmp 3)=Value.pointer (some ⟨gn,0,none⟩)) (XA:B18R w gm (.bool m.a.s) (.slice m.a.A m.a.n m.a.c) (.slice m.a.B m.a.m m.a.d) (.bool m.b.s) (.slice m.b.A m.b.n m.b.c) (.slice m.b.B m.b.m m.b.d) (.bool m.c.s) (.slice m.c.A m.c.n m.c.c) (.slice m.c.B m.c.m m.c.d) (.bool m.d.s) (.slice m.d.A m.d.n m.d.c) (.slice m.d.B m.d.m m.d.d) (.bool m.e.s) (.slice m.e.A m.e.n m.e.c) (.slice m.e.B m.e.m m.e.d) (.bool m.f.s) (.slice m.f.A m.f.n m.f.c) (.slice m.f.B m.f.m m.f.d)) (XB:B18R w gn (.bool n.a.s) (.slice n.a.A n.a.n n.a.c) (.slice n.a.B n.a.m n.a.d) (.bool n.b.s) (.slice n.b.A n.b.n n.b.c) (.slice n.b.B n.b.m n.b.d) (.bool n.c.s) (.slice n.c.A n.c.n n.c.c) (.slice n.c.B n.c.m n.c.d) (.bool n.d.s) (.slice n.d.A n.d.n n.d.c) (.slice n.d.B n.d.m n.d.d) (.bool n.e.s) (.slice n.e.A n.e.n n.e.c) (.slice n.e.B n.e.m n.e.d) (.bool n.f.s) (.slice n.f.A n.f.n n.f.c) (.slice n.f.B n.f.m n.f.d)) (M:RM w m v k l) (N:RM w n u k2 l2) (hk:k≤100) (hl:l≤100) (hk2:k2≤100) (hl2:l2≤100)
 (hend:∀ (V:Nat→Value) (w':World) (g0:Nat) (s0:Bool) (A0:Option Addr) (n0:Nat) (c0:Nat) (B0:Option Addr) (m0:Nat) (d0:Nat) (t0:Bool) (E0:Option Addr) (i0:Nat) (e0:Nat) (F0:Option Addr) (j0:Nat) (f0:Nat),RP w' s0 A0 n0 c0 B0 m0 d0 t0 E0 i0 e0 F0 j0 f0 ((v.ax (u.ax (Rat.divInt 0 1) (Rat.divInt 0 1)) (u.ay (Rat.divInt 0 1) (Rat.divInt 0 1)))) ((v.ay (u.ax (Rat.divInt 0 1) (Rat.divInt 0 1)) (u.ay (Rat.divInt 0 1) (Rat.divInt 0 1)))) ((k+(k2+2+(k2+2)+1+l2+1)+(k+(k2+2+(k2+2)+1+l2+1))+1+l+1))→B6R w' g0 (.bool s0) (.slice A0 n0 c0) (.slice B0 m0 d0) (.bool t0) (.slice E0 i0 e0) (.slice F0 j0 f0)→w.heap.size≤g0→V 5=.pointer (some ⟨g0,0,none⟩)→Below w.heap.size w w'→Q .normal (putAll ac [8,9,10,11,12,5] V) w') :
 (Code.region id #[o0_rmo,o1_rmo,o2_rmo,o3_rmo,o4_rmo,o5_rmo,o6_rmo] true).wp Tryz.prog Q ac w:=by
 have hnd:L_rmo.Nodup:=by decide
 have G:∀ (sv:Nat→Value) (t:Nat),t ∈ L_rmo→t≤12→(putAll ac L_rmo sv).eval (.tmp t)=sv t:=fun sv t ht h=>eval_putAll_mem (t:=t) L_rmo ac hnd ht (Nat.lt_of_le_of_lt h hsz)
 have E2:∀ sv:Nat→Value,(putAll ac L_rmo sv).eval (.tmp 2)=Value.pointer (some ⟨gm,0,none⟩):=fun sv=>(eval_putAll_not (v:=sv) L_rmo ac (show 2 ∉ _ by decide)).trans e2
 have E3:∀ sv:Nat→Value,(putAll ac L_rmo sv).eval (.tmp 3)=Value.pointer (some ⟨gn,0,none⟩):=fun sv=>(eval_putAll_not (v:=sv) L_rmo ac (show 3 ∉ _ by decide)).trans e3
 have NE:∀ t:Nat,(t ≠ 5)→∀ p ∈ [B0_rmo v u k l k2 l2],t ≠ p.tA:=by
  intro t ht p hp
  simp only [List.mem_cons,List.not_mem_nil,or_false] at hp
  rcases hp with rfl
  · exact ht
 refine wp_region_flowsT L_rmo [B0_rmo v u k l k2 l2] (F_rmo m n v u k l k2 l2) (by kernel_rfl) (by kernel_rfl) rfl hnd ?_ ?_ ?_ ?_ ?_ ?_ ?_ ?_
 · intro p hp
   simp only [List.mem_cons,List.not_mem_nil,or_false] at hp
   rcases hp with rfl
   · refine ⟨⟨o5_rmo,rfl,rfl,rfl,fun e w'=>run_alloc7⟩,⟨o6_rmo,rfl,rfl,rfl,⟨5,.data⟩,by simp [o6_rmo],rfl,rfl⟩,free6 _ _ _ _ _ _ _ _ _ _ _ _ _ _,?_,?_⟩
     · rintro cs w1 w2 ⟨s_,A_,n_,c_,B_,m_,d_,t_,E_,i_,e_,F_,j_,f_,rfl,h⟩ hb;exact ⟨s_,A_,n_,c_,B_,m_,d_,t_,E_,i_,e_,F_,j_,f_,rfl,h.below hb⟩
     · rintro T cs w1 w2 g c0 ⟨s_,A_,n_,c_,B_,m_,d_,t_,E_,i_,e_,F_,j_,f_,rfl,h⟩ hB ho;exact ⟨s_,A_,n_,c_,B_,m_,d_,t_,E_,i_,e_,F_,j_,f_,rfl,h.box hB ho⟩
 · intro p hp q hq h
   simp only [List.mem_cons,List.not_mem_nil,or_false] at hp hq
   rcases hp with rfl <;> rcases hq with rfl
   · rfl
 · intro p hp q hq h
   simp only [List.mem_cons,List.not_mem_nil,or_false] at hp hq
   rcases hp with rfl <;> rcases hq with rfl
   · rfl
 · intro i o h1 h2
   match i,h1 with
   | 0,h1=>cases h1;cases h2
   | 1,h1=>cases h1;cases h2
   | 2,h1=>cases h1;cases h2
   | 3,h1=>cases h1;cases h2
   | 4,h1=>cases h1;cases h2
   | 5,h1=>cases h1;cases h2
   | 6,h1=>exact ⟨B0_rmo v u k l k2 l2,List.Mem.head _,rfl⟩
   | i+7,h1=>cases h1
 · intro t
   unfold F_rmo
   split <;> first | exact (stays_eq _).inn _ | exact (stays_q _ _).inn _ | exact (stays_z _ _).inn _ | exact (stays_r _ _).inn _ | exact (stays_rq _ _).inn _ | exact (stays_pg _ _ _).inn _ | exact (stays_true).inn _ | exact (stays_rp _ _ _).inn _
 · intro i o t sv w' ho hia hd J0 hf
   have XA:=XA.below J0;have XB:=XB.below J0;have M:=M.below J0;have N:=N.below J0
   match i,ho with
   | 0,ho =>
     obtain rfl:o0_rmo=o:=Option.some.inj ho
     cases hd
     refine wpOp_plain' (o:=o0_rmo) rfl rfl ?_
     unfold Oper.wp o0_rmo
     rw [run_loadN (E2 sv) XA,Oper.upon_value]
     exact ⟨_,rfl,Below.refl _ _,rfl⟩
   | 1,ho =>
     obtain rfl:o1_rmo=o:=Option.some.inj ho
     cases hd
     refine wpOp_plain' (o:=o1_rmo) rfl rfl ?_
     unfold Oper.wp o1_rmo
     rw [run_loadN (E3 sv) XB,Oper.upon_value]
     exact ⟨_,rfl,Below.refl _ _,rfl⟩
   | 2,ho =>
     obtain rfl:o2_rmo=o:=Option.some.inj ho
     cases hd
     refine wpOp_plain' (o:=o2_rmo) rfl rfl ?_
     unfold Oper.wp o2_rmo
     rw [rc_gesso_gessoref06_Of (show (putAll ac L_rmo sv).eval (.const (Value.int IntKind.i64 0))=(Value.int IntKind.i64 0) from rfl) (show (putAll ac L_rmo sv).eval (.const (Value.int IntKind.i64 0))=(Value.int IntKind.i64 0) from rfl) rfl,Oper.upon_enter]
     refine (rof6 0 0 (by decide) (by decide) (by decide) (by decide) _).mono ?_
     rintro e w1 ⟨s_,A_,n_,c_,B_,m_,d_,t_,E_,i_,e_,F_,j_,f_,rfl,hq,hh⟩
     exact ⟨_,rfl,hh,s_,A_,n_,c_,B_,m_,d_,t_,E_,i_,e_,F_,j_,f_,rfl,hq⟩
   | 3,ho =>
     obtain rfl:o3_rmo=o:=Option.some.inj ho
     cases hd
     have f9:sv 9=Value.agg #[.bool n.a.s,.slice n.a.A n.a.n n.a.c,.slice n.a.B n.a.m n.a.d,.bool n.b.s,.slice n.b.A n.b.n n.b.c,.slice n.b.B n.b.m n.b.d,.bool n.c.s,.slice n.c.A n.c.n n.c.c,.slice n.c.B n.c.m n.c.d,.bool n.d.s,.slice n.d.A n.d.n n.d.c,.slice n.d.B n.d.m n.d.d,.bool n.e.s,.slice n.e.A n.e.n n.e.c,.slice n.e.B n.e.m n.e.d,.bool n.f.s,.slice n.f.A n.f.n n.f.c,.slice n.f.B n.f.m n.f.d]:=hf ⟨1,.data⟩ (by simp [o3_rmo]) rfl _ 9 rfl rfl (NE _ (by decide))
     have h10:VRP (Rat.divInt 0 1) (Rat.divInt 0 1) (2) (sv 10) w':=hf ⟨2,.data⟩ (by simp [o3_rmo]) rfl _ 10 rfl rfl (NE _ (by decide))
     obtain ⟨s10_,A10_,n10_,c10_,B10_,m10_,d10_,t10_,E10_,i10_,e10_,F10_,j10_,f10_,f10,q10⟩:=h10
     refine wpOp_plain' (o:=o3_rmo) rfl rfl ?_
     unfold Oper.wp o3_rmo
     rw [rc_gesso_gessoref09_Apply ((G sv 9 (by decide) (by decide)).trans f9) ((G sv 10 (by decide) (by decide)).trans f10) rfl,Oper.upon_enter]
     refine (rapply9 N q10 (by omega) (by omega)).mono ?_
     rintro e w1 ⟨s_,A_,n_,c_,B_,m_,d_,t_,E_,i_,e_,F_,j_,f_,rfl,hq,hh⟩
     exact ⟨_,rfl,hh,s_,A_,n_,c_,B_,m_,d_,t_,E_,i_,e_,F_,j_,f_,rfl,hq⟩
   | 4,ho =>
     obtain rfl:o4_rmo=o:=Option.some.inj ho
     cases hd
     have f8:sv 8=Value.agg #[.bool m.a.s,.slice m.a.A m.a.n m.a.c,.slice m.a.B m.a.m m.a.d,.bool m.b.s,.slice m.b.A m.b.n m.b.c,.slice m.b.B m.b.m m.b.d,.bool m.c.s,.slice m.c.A m.c.n m.c.c,.slice m.c.B m.c.m m.c.d,.bool m.d.s,.slice m.d.A m.d.n m.d.c,.slice m.d.B m.d.m m.d.d,.bool m.e.s,.slice m.e.A m.e.n m.e.c,.slice m.e.B m.e.m m.e.d,.bool m.f.s,.slice m.f.A m.f.n m.f.c,.slice m.f.B m.f.m m.f.d]:=hf ⟨0,.data⟩ (by simp [o4_rmo]) rfl _ 8 rfl rfl (NE _ (by decide))
     have h11:VRP (u.ax (Rat.divInt 0 1) (Rat.divInt 0 1)) (u.ay (Rat.divInt 0 1) (Rat.divInt 0 1)) ((k2+2+(k2+2)+1+l2+1)) (sv 11) w':=hf ⟨3,.data⟩ (by simp [o4_rmo]) rfl _ 11 rfl rfl (NE _ (by decide))
     obtain ⟨s11_,A11_,n11_,c11_,B11_,m11_,d11_,t11_,E11_,i11_,e11_,F11_,j11_,f11_,f11,q11⟩:=h11
     refine wpOp_plain' (o:=o4_rmo) rfl rfl ?_
     unfold Oper.wp o4_rmo
     rw [rc_gesso_gessoref09_Apply ((G sv 8 (by decide) (by decide)).trans f8) ((G sv 11 (by decide) (by decide)).trans f11) rfl,Oper.upon_enter]
     refine (rapply9 M q11 (by omega) (by omega)).mono ?_
     rintro e w1 ⟨s_,A_,n_,c_,B_,m_,d_,t_,E_,i_,e_,F_,j_,f_,rfl,hq,hh⟩
     exact ⟨_,rfl,hh,s_,A_,n_,c_,B_,m_,d_,t_,E_,i_,e_,F_,j_,f_,rfl,hq⟩
   | 5,ho=>cases ho;cases hd;exact absurd rfl (hia (B0_rmo v u k l k2 l2) (List.Mem.head _))
   | 6,ho=>cases ho;cases hd
   | i+7,ho=>cases ho
 · intro p hp os sv w' g hos J0 p1 p3 hf
   simp only [List.mem_cons,List.not_mem_nil,or_false] at hp
   rcases hp with rfl
   · obtain rfl:o6_rmo=os:=Option.some.inj hos
     have h1:VRP ((v.ax (u.ax (Rat.divInt 0 1) (Rat.divInt 0 1)) (u.ay (Rat.divInt 0 1) (Rat.divInt 0 1)))) ((v.ay (u.ax (Rat.divInt 0 1) (Rat.divInt 0 1)) (u.ay (Rat.divInt 0 1) (Rat.divInt 0 1)))) ((k+(k2+2+(k2+2)+1+l2+1)+(k+(k2+2+(k2+2)+1+l2+1))+1+l+1)) (sv 12) w':=hf ⟨4,.data⟩ (by simp [o6_rmo]) rfl _ 12 rfl rfl (NE _ (by decide))
     rw [← G sv 12 (by decide) (by decide)] at h1
     refine store_rp (x:=(v.ax (u.ax (Rat.divInt 0 1) (Rat.divInt 0 1)) (u.ay (Rat.divInt 0 1) (Rat.divInt 0 1)))) (y:=(v.ay (u.ax (Rat.divInt 0 1) (Rat.divInt 0 1)) (u.ay (Rat.divInt 0 1) (Rat.divInt 0 1)))) (k:=(k+(k2+2+(k2+2)+1+l2+1)+(k+(k2+2+(k2+2)+1+l2+1))+1+l+1)) (ac:=putAll ac L_rmo sv) (z:=.tmp 12) ?_ ?_ ?_
     · exact (G sv 5 (by decide) (by decide)).trans p1
     · exact h1
     · exact p3
 · intro sv w' J0 hF hB hap
   obtain ⟨g0,cs0,p0,r0,b0,⟨s0,A0,n0,c0,B0,m0,d0,t0,E0,i0,e0,F0,j0,f0,rfl,h0⟩⟩:=hB (B0_rmo v u k l k2 l2) (List.Mem.head _)
   have p0':sv 5=.pointer (some ⟨g0,0,none⟩):=p0
   exact hend sv w' g0 _ _ _ _ _ _ _ _ _ _ _ _ _ _ h0 b0.at_ r0 p0'   J0
abbrev L_rmx:List Nat:=[13,14,15,16,17,18,19,6]
def o0_rmx:Oper:=⟨some 13,.load 74 (.tmp 2),74, "ref.go:41",#[],none⟩
def o1_rmx:Oper:=⟨some 14,.load 74 (.tmp 3),74, "ref.go:41",#[],none⟩
def o2_rmx:Oper:=⟨some 15,.call ⟨.value (.func 114),#[.const (Value.int IntKind.i64 1),.const (Value.int IntKind.i64 0)],#[2,2]⟩,45, "ref.go:41",#[],none⟩
def o3_rmx:Oper:=⟨some 16,.call ⟨.value (.func 44),#[.tmp 14,.tmp 15],#[74,45]⟩,45, "ref.go:41",#[⟨1,.data⟩,⟨2,.data⟩,⟨2,.chain⟩],none⟩
def o4_rmx:Oper:=⟨some 17,.call ⟨.value (.func 44),#[.tmp 13,.tmp 16],#[74,45]⟩,45, "ref.go:41",#[⟨0,.data⟩,⟨3,.data⟩,⟨3,.chain⟩],none⟩
def o5_rmx:Oper:=⟨some 18,.load 45 (.tmp 5),45, "ref.go:41",#[],none⟩
def o6_rmx:Oper:=⟨some 19,.call ⟨.value (.func 92),#[.tmp 17,.tmp 18],#[45,45]⟩,45, "ref.go:41",#[⟨4,.data⟩,⟨5,.data⟩,⟨4,.chain⟩],none⟩
def o7_rmx:Oper:=⟨some 6,.alloc 45,0, "ref.go:41",#[],none⟩
def o8_rmx:Oper:=⟨none,.store 45 (.tmp 6) (.tmp 19),0, "ref.go:41",#[⟨7,.data⟩,⟨6,.data⟩,⟨6,.chain⟩,⟨0,.phase⟩,⟨1,.phase⟩,⟨2,.phase⟩,⟨3,.phase⟩,⟨4,.phase⟩,⟨5,.phase⟩,⟨6,.phase⟩,⟨7,.phase⟩],none⟩
theorem rc_gesso_gessoref06_Sub {e:Operand→Value} {x0 x1:Operand} {d:Option Tmp} {y:Nat} {pos:String} {af:Array Edge} {u0 u1:Value} (h0:e x0=u0) (h1:e x1=u1) (hf:e (.func 92)=.func (.func 92) #[] #[]) :
 (execOp e ⟨d,.call ⟨.value (.func 92),#[x0,x1],#[45,45]⟩,y,pos,af,none⟩).run Tryz.prog w=.ok (.enter 92 #[u0,u1]) w:=by
 go_simp
def F_rmx (m:MV) (n:MV) (v:AM) (u:AM) (k:Nat) (l:Nat) (k2:Nat) (l2:Nat) (s_o:Bool) (t_o:Bool) (A_o:Option Addr) (B_o:Option Addr) (E_o:Option Addr) (F_o:Option Addr) (n_o:Nat) (c_o:Nat) (m_o:Nat) (d_o:Nat) (i_o:Nat) (e_o:Nat) (j_o:Nat) (f_o:Nat) (ox:Rat) (oy:Rat) (sl:Nat):Value→World→Prop :=
 match sl with
 | 13=>fun x _=>x=Value.agg #[.bool m.a.s,.slice m.a.A m.a.n m.a.c,.slice m.a.B m.a.m m.a.d,.bool m.b.s,.slice m.b.A m.b.n m.b.c,.slice m.b.B m.b.m m.b.d,.bool m.c.s,.slice m.c.A m.c.n m.c.c,.slice m.c.B m.c.m m.c.d,.bool m.d.s,.slice m.d.A m.d.n m.d.c,.slice m.d.B m.d.m m.d.d,.bool m.e.s,.slice m.e.A m.e.n m.e.c,.slice m.e.B m.e.m m.e.d,.bool m.f.s,.slice m.f.A m.f.n m.f.c,.slice m.f.B m.f.m m.f.d]
 | 14=>fun x _=>x=Value.agg #[.bool n.a.s,.slice n.a.A n.a.n n.a.c,.slice n.a.B n.a.m n.a.d,.bool n.b.s,.slice n.b.A n.b.n n.b.c,.slice n.b.B n.b.m n.b.d,.bool n.c.s,.slice n.c.A n.c.n n.c.c,.slice n.c.B n.c.m n.c.d,.bool n.d.s,.slice n.d.A n.d.n n.d.c,.slice n.d.B n.d.m n.d.d,.bool n.e.s,.slice n.e.A n.e.n n.e.c,.slice n.e.B n.e.m n.e.d,.bool n.f.s,.slice n.f.A n.f.n n.f.c,.slice n.f.B n.f.m n.f.d]
 | 15=>VRP (Rat.divInt 1 1) (Rat.divInt 0 1) (2)
 | 16=>VRP (u.ax (Rat.divInt 1 1) (Rat.divInt 0 1)) (u.ay (Rat.divInt 1 1) (Rat.divInt 0 1)) ((k2+2+(k2+2)+1+l2+1))
 | 17=>VRP ((v.ax (u.ax (Rat.divInt 1 1) (Rat.divInt 0 1)) (u.ay (Rat.divInt 1 1) (Rat.divInt 0 1)))) ((v.ay (u.ax (Rat.divInt 1 1) (Rat.divInt 0 1)) (u.ay (Rat.divInt 1 1) (Rat.divInt 0 1)))) ((k+(k2+2+(k2+2)+1+l2+1)+(k+(k2+2+(k2+2)+1+l2+1))+1+l+1))
 | 18=>fun x _=>x=Value.agg #[.bool s_o,.slice A_o n_o c_o,.slice B_o m_o d_o,.bool t_o,.slice E_o i_o e_o,.slice F_o j_o f_o]
 | 19=>VRP ((v.ax (u.ax (Rat.divInt 1 1) (Rat.divInt 0 1)) (u.ay (Rat.divInt 1 1) (Rat.divInt 0 1))) - ox) ((v.ay (u.ax (Rat.divInt 1 1) (Rat.divInt 0 1)) (u.ay (Rat.divInt 1 1) (Rat.divInt 0 1))) - oy) ((k+(k2+2+(k2+2)+1+l2+1)+(k+(k2+2+(k2+2)+1+l2+1))+1+l+1)+(k+(k2+2+(k2+2)+1+l2+1)+(k+(k2+2+(k2+2)+1+l2+1))+1+l+1)+1)
 | _=>fun _ _=>True
def B0_rmx (v:AM) (u:AM) (k:Nat) (l:Nat) (k2:Nat) (l2:Nat) (ox:Rat) (oy:Rat):BoxOp :=
 ⟨7,8,6,45,#[.bool false,.slice none 0 0,.slice none 0 0,.bool false,.slice none 0 0,.slice none 0 0],fun cs w=>∃ s A n c B m d t E i e F j f,cs=#[.bool s,.slice A n c,.slice B m d,.bool t,.slice E i e,.slice F j f]∧RP w s A n c B m d t E i e F j f ((v.ax (u.ax (Rat.divInt 1 1) (Rat.divInt 0 1)) (u.ay (Rat.divInt 1 1) (Rat.divInt 0 1))) - ox) ((v.ay (u.ax (Rat.divInt 1 1) (Rat.divInt 0 1)) (u.ay (Rat.divInt 1 1) (Rat.divInt 0 1))) - oy) ((k+(k2+2+(k2+2)+1+l2+1)+(k+(k2+2+(k2+2)+1+l2+1))+1+l+1)+(k+(k2+2+(k2+2)+1+l2+1)+(k+(k2+2+(k2+2)+1+l2+1))+1+l+1)+1)⟩
theorem rmx_region {id:Nat} {ac:Act} {Q:Exit→Act→World→Prop} {m n:MV} {v u:AM} {k l k2 l2 gm gn:Nat} {ox oy:Rat} {go:Nat}
 (hsz:19 < ac.tmps.size) (e2:ac.eval (.tmp 2)=Value.pointer (some ⟨gm,0,none⟩)) (e3:ac.eval (.tmp 3)=Value.pointer (some ⟨gn,0,none⟩)) (e5:ac.eval (.tmp 5)=Value.pointer (some ⟨go,0,none⟩)) (XA:B18R w gm (.bool m.a.s) (.slice m.a.A m.a.n m.a.c) (.slice m.a.B m.a.m m.a.d) (.bool m.b.s) (.slice m.b.A m.b.n m.b.c) (.slice m.b.B m.b.m m.b.d) (.bool m.c.s) (.slice m.c.A m.c.n m.c.c) (.slice m.c.B m.c.m m.c.d) (.bool m.d.s) (.slice m.d.A m.d.n m.d.c) (.slice m.d.B m.d.m m.d.d) (.bool m.e.s) (.slice m.e.A m.e.n m.e.c) (.slice m.e.B m.e.m m.e.d) (.bool m.f.s) (.slice m.f.A m.f.n m.f.c) (.slice m.f.B m.f.m m.f.d)) (XB:B18R w gn (.bool n.a.s) (.slice n.a.A n.a.n n.a.c) (.slice n.a.B n.a.m n.a.d) (.bool n.b.s) (.slice n.b.A n.b.n n.b.c) (.slice n.b.B n.b.m n.b.d) (.bool n.c.s) (.slice n.c.A n.c.n n.c.c) (.slice n.c.B n.c.m n.c.d) (.bool n.d.s) (.slice n.d.A n.d.n n.d.c) (.slice n.d.B n.d.m n.d.d) (.bool n.e.s) (.slice n.e.A n.e.n n.e.c) (.slice n.e.B n.e.m n.e.d) (.bool n.f.s) (.slice n.f.A n.f.n n.f.c) (.slice n.f.B n.f.m n.f.d)) (M:RM w m v k l) (N:RM w n u k2 l2) (hk:k≤100) (hl:l≤100) (hk2:k2≤100) (hl2:l2≤100) (XO:B6R w go (.bool s_o) (.slice A_o n_o c_o) (.slice B_o m_o d_o) (.bool t_o) (.slice E_o i_o e_o) (.slice F_o j_o f_o)) (o0:RP w s_o A_o n_o c_o B_o m_o d_o t_o E_o i_o e_o F_o j_o f_o ox oy (k+(k2+2+(k2+2)+1+l2+1)+(k+(k2+2+(k2+2)+1+l2+1))+1+l+1))
 (hend:∀ (V:Nat→Value) (w':World) (g0:Nat) (s0:Bool) (A0:Option Addr) (n0:Nat) (c0:Nat) (B0:Option Addr) (m0:Nat) (d0:Nat) (t0:Bool) (E0:Option Addr) (i0:Nat) (e0:Nat) (F0:Option Addr) (j0:Nat) (f0:Nat),RP w' s0 A0 n0 c0 B0 m0 d0 t0 E0 i0 e0 F0 j0 f0 ((v.ax (u.ax (Rat.divInt 1 1) (Rat.divInt 0 1)) (u.ay (Rat.divInt 1 1) (Rat.divInt 0 1))) - ox) ((v.ay (u.ax (Rat.divInt 1 1) (Rat.divInt 0 1)) (u.ay (Rat.divInt 1 1) (Rat.divInt 0 1))) - oy) ((k+(k2+2+(k2+2)+1+l2+1)+(k+(k2+2+(k2+2)+1+l2+1))+1+l+1)+(k+(k2+2+(k2+2)+1+l2+1)+(k+(k2+2+(k2+2)+1+l2+1))+1+l+1)+1)→B6R w' g0 (.bool s0) (.slice A0 n0 c0) (.slice B0 m0 d0) (.bool t0) (.slice E0 i0 e0) (.slice F0 j0 f0)→w.heap.size≤g0→V 6=.pointer (some ⟨g0,0,none⟩)→Below w.heap.size w w'→Q .normal (putAll ac [13,14,15,16,17,18,19,6] V) w') :
 (Code.region id #[o0_rmx,o1_rmx,o2_rmx,o3_rmx,o4_rmx,o5_rmx,o6_rmx,o7_rmx,o8_rmx] true).wp Tryz.prog Q ac w:=by
 have hnd:L_rmx.Nodup:=by decide
 have G:∀ (sv:Nat→Value) (t:Nat),t ∈ L_rmx→t≤19→(putAll ac L_rmx sv).eval (.tmp t)=sv t:=fun sv t ht h=>eval_putAll_mem (t:=t) L_rmx ac hnd ht (Nat.lt_of_le_of_lt h hsz)
 have E2:∀ sv:Nat→Value,(putAll ac L_rmx sv).eval (.tmp 2)=Value.pointer (some ⟨gm,0,none⟩):=fun sv=>(eval_putAll_not (v:=sv) L_rmx ac (show 2 ∉ _ by decide)).trans e2
 have E3:∀ sv:Nat→Value,(putAll ac L_rmx sv).eval (.tmp 3)=Value.pointer (some ⟨gn,0,none⟩):=fun sv=>(eval_putAll_not (v:=sv) L_rmx ac (show 3 ∉ _ by decide)).trans e3
 have E5:∀ sv:Nat→Value,(putAll ac L_rmx sv).eval (.tmp 5)=Value.pointer (some ⟨go,0,none⟩):=fun sv=>(eval_putAll_not (v:=sv) L_rmx ac (show 5 ∉ _ by decide)).trans e5
 have NE:∀ t:Nat,(t ≠ 6)→∀ p ∈ [B0_rmx v u k l k2 l2 ox oy],t ≠ p.tA:=by
  intro t ht p hp
  simp only [List.mem_cons,List.not_mem_nil,or_false] at hp
  rcases hp with rfl
  · exact ht
 refine wp_region_flowsT L_rmx [B0_rmx v u k l k2 l2 ox oy] (F_rmx m n v u k l k2 l2 s_o t_o A_o B_o E_o F_o n_o c_o m_o d_o i_o e_o j_o f_o ox oy) (by kernel_rfl) (by kernel_rfl) rfl hnd ?_ ?_ ?_ ?_ ?_ ?_ ?_ ?_
 · intro p hp
   simp only [List.mem_cons,List.not_mem_nil,or_false] at hp
   rcases hp with rfl
   · refine ⟨⟨o7_rmx,rfl,rfl,rfl,fun e w'=>run_alloc7⟩,⟨o8_rmx,rfl,rfl,rfl,⟨7,.data⟩,by simp [o8_rmx],rfl,rfl⟩,free6 _ _ _ _ _ _ _ _ _ _ _ _ _ _,?_,?_⟩
     · rintro cs w1 w2 ⟨s_,A_,n_,c_,B_,m_,d_,t_,E_,i_,e_,F_,j_,f_,rfl,h⟩ hb;exact ⟨s_,A_,n_,c_,B_,m_,d_,t_,E_,i_,e_,F_,j_,f_,rfl,h.below hb⟩
     · rintro T cs w1 w2 g c0 ⟨s_,A_,n_,c_,B_,m_,d_,t_,E_,i_,e_,F_,j_,f_,rfl,h⟩ hB ho;exact ⟨s_,A_,n_,c_,B_,m_,d_,t_,E_,i_,e_,F_,j_,f_,rfl,h.box hB ho⟩
 · intro p hp q hq h
   simp only [List.mem_cons,List.not_mem_nil,or_false] at hp hq
   rcases hp with rfl <;> rcases hq with rfl
   · rfl
 · intro p hp q hq h
   simp only [List.mem_cons,List.not_mem_nil,or_false] at hp hq
   rcases hp with rfl <;> rcases hq with rfl
   · rfl
 · intro i o h1 h2
   match i,h1 with
   | 0,h1=>cases h1;cases h2
   | 1,h1=>cases h1;cases h2
   | 2,h1=>cases h1;cases h2
   | 3,h1=>cases h1;cases h2
   | 4,h1=>cases h1;cases h2
   | 5,h1=>cases h1;cases h2
   | 6,h1=>cases h1;cases h2
   | 7,h1=>cases h1;cases h2
   | 8,h1=>exact ⟨B0_rmx v u k l k2 l2 ox oy,List.Mem.head _,rfl⟩
   | i+9,h1=>cases h1
 · intro t
   unfold F_rmx
   split <;> first | exact (stays_eq _).inn _ | exact (stays_q _ _).inn _ | exact (stays_z _ _).inn _ | exact (stays_r _ _).inn _ | exact (stays_rq _ _).inn _ | exact (stays_pg _ _ _).inn _ | exact (stays_true).inn _ | exact (stays_rp _ _ _).inn _
 · intro i o t sv w' ho hia hd J0 hf
   have XA:=XA.below J0;have XB:=XB.below J0;have XO:=XO.below J0;have M:=M.below J0;have N:=N.below J0;have o0:=o0.below J0
   match i,ho with
   | 0,ho =>
     obtain rfl:o0_rmx=o:=Option.some.inj ho
     cases hd
     refine wpOp_plain' (o:=o0_rmx) rfl rfl ?_
     unfold Oper.wp o0_rmx
     rw [run_loadN (E2 sv) XA,Oper.upon_value]
     exact ⟨_,rfl,Below.refl _ _,rfl⟩
   | 1,ho =>
     obtain rfl:o1_rmx=o:=Option.some.inj ho
     cases hd
     refine wpOp_plain' (o:=o1_rmx) rfl rfl ?_
     unfold Oper.wp o1_rmx
     rw [run_loadN (E3 sv) XB,Oper.upon_value]
     exact ⟨_,rfl,Below.refl _ _,rfl⟩
   | 2,ho =>
     obtain rfl:o2_rmx=o:=Option.some.inj ho
     cases hd
     refine wpOp_plain' (o:=o2_rmx) rfl rfl ?_
     unfold Oper.wp o2_rmx
     rw [rc_gesso_gessoref06_Of (show (putAll ac L_rmx sv).eval (.const (Value.int IntKind.i64 1))=(Value.int IntKind.i64 1) from rfl) (show (putAll ac L_rmx sv).eval (.const (Value.int IntKind.i64 0))=(Value.int IntKind.i64 0) from rfl) rfl,Oper.upon_enter]
     refine (rof6 1 0 (by decide) (by decide) (by decide) (by decide) _).mono ?_
     rintro e w1 ⟨s_,A_,n_,c_,B_,m_,d_,t_,E_,i_,e_,F_,j_,f_,rfl,hq,hh⟩
     exact ⟨_,rfl,hh,s_,A_,n_,c_,B_,m_,d_,t_,E_,i_,e_,F_,j_,f_,rfl,hq⟩
   | 3,ho =>
     obtain rfl:o3_rmx=o:=Option.some.inj ho
     cases hd
     have f14:sv 14=Value.agg #[.bool n.a.s,.slice n.a.A n.a.n n.a.c,.slice n.a.B n.a.m n.a.d,.bool n.b.s,.slice n.b.A n.b.n n.b.c,.slice n.b.B n.b.m n.b.d,.bool n.c.s,.slice n.c.A n.c.n n.c.c,.slice n.c.B n.c.m n.c.d,.bool n.d.s,.slice n.d.A n.d.n n.d.c,.slice n.d.B n.d.m n.d.d,.bool n.e.s,.slice n.e.A n.e.n n.e.c,.slice n.e.B n.e.m n.e.d,.bool n.f.s,.slice n.f.A n.f.n n.f.c,.slice n.f.B n.f.m n.f.d]:=hf ⟨1,.data⟩ (by simp [o3_rmx]) rfl _ 14 rfl rfl (NE _ (by decide))
     have h15:VRP (Rat.divInt 1 1) (Rat.divInt 0 1) (2) (sv 15) w':=hf ⟨2,.data⟩ (by simp [o3_rmx]) rfl _ 15 rfl rfl (NE _ (by decide))
     obtain ⟨s15_,A15_,n15_,c15_,B15_,m15_,d15_,t15_,E15_,i15_,e15_,F15_,j15_,f15_,f15,q15⟩:=h15
     refine wpOp_plain' (o:=o3_rmx) rfl rfl ?_
     unfold Oper.wp o3_rmx
     rw [rc_gesso_gessoref09_Apply ((G sv 14 (by decide) (by decide)).trans f14) ((G sv 15 (by decide) (by decide)).trans f15) rfl,Oper.upon_enter]
     refine (rapply9 N q15 (by omega) (by omega)).mono ?_
     rintro e w1 ⟨s_,A_,n_,c_,B_,m_,d_,t_,E_,i_,e_,F_,j_,f_,rfl,hq,hh⟩
     exact ⟨_,rfl,hh,s_,A_,n_,c_,B_,m_,d_,t_,E_,i_,e_,F_,j_,f_,rfl,hq⟩
   | 4,ho =>
     obtain rfl:o4_rmx=o:=Option.some.inj ho
     cases hd
     have f13:sv 13=Value.agg #[.bool m.a.s,.slice m.a.A m.a.n m.a.c,.slice m.a.B m.a.m m.a.d,.bool m.b.s,.slice m.b.A m.b.n m.b.c,.slice m.b.B m.b.m m.b.d,.bool m.c.s,.slice m.c.A m.c.n m.c.c,.slice m.c.B m.c.m m.c.d,.bool m.d.s,.slice m.d.A m.d.n m.d.c,.slice m.d.B m.d.m m.d.d,.bool m.e.s,.slice m.e.A m.e.n m.e.c,.slice m.e.B m.e.m m.e.d,.bool m.f.s,.slice m.f.A m.f.n m.f.c,.slice m.f.B m.f.m m.f.d]:=hf ⟨0,.data⟩ (by simp [o4_rmx]) rfl _ 13 rfl rfl (NE _ (by decide))
     have h16:VRP (u.ax (Rat.divInt 1 1) (Rat.divInt 0 1)) (u.ay (Rat.divInt 1 1) (Rat.divInt 0 1)) ((k2+2+(k2+2)+1+l2+1)) (sv 16) w':=hf ⟨3,.data⟩ (by simp [o4_rmx]) rfl _ 16 rfl rfl (NE _ (by decide))
     obtain ⟨s16_,A16_,n16_,c16_,B16_,m16_,d16_,t16_,E16_,i16_,e16_,F16_,j16_,f16_,f16,q16⟩:=h16
     refine wpOp_plain' (o:=o4_rmx) rfl rfl ?_
     unfold Oper.wp o4_rmx
     rw [rc_gesso_gessoref09_Apply ((G sv 13 (by decide) (by decide)).trans f13) ((G sv 16 (by decide) (by decide)).trans f16) rfl,Oper.upon_enter]
     refine (rapply9 M q16 (by omega) (by omega)).mono ?_
     rintro e w1 ⟨s_,A_,n_,c_,B_,m_,d_,t_,E_,i_,e_,F_,j_,f_,rfl,hq,hh⟩
     exact ⟨_,rfl,hh,s_,A_,n_,c_,B_,m_,d_,t_,E_,i_,e_,F_,j_,f_,rfl,hq⟩
   | 5,ho =>
     obtain rfl:o5_rmx=o:=Option.some.inj ho
     cases hd
     refine wpOp_plain' (o:=o5_rmx) rfl rfl ?_
     unfold Oper.wp o5_rmx
     rw [run_load7m (E5 sv) XO.c0 XO.c1 XO.c2 XO.c3 XO.c4 XO.c5,Oper.upon_value]
     exact ⟨_,rfl,Below.refl _ _,rfl⟩
   | 6,ho =>
     obtain rfl:o6_rmx=o:=Option.some.inj ho
     cases hd
     have h17:VRP ((v.ax (u.ax (Rat.divInt 1 1) (Rat.divInt 0 1)) (u.ay (Rat.divInt 1 1) (Rat.divInt 0 1)))) ((v.ay (u.ax (Rat.divInt 1 1) (Rat.divInt 0 1)) (u.ay (Rat.divInt 1 1) (Rat.divInt 0 1)))) ((k+(k2+2+(k2+2)+1+l2+1)+(k+(k2+2+(k2+2)+1+l2+1))+1+l+1)) (sv 17) w':=hf ⟨4,.data⟩ (by simp [o6_rmx]) rfl _ 17 rfl rfl (NE _ (by decide))
     obtain ⟨s17_,A17_,n17_,c17_,B17_,m17_,d17_,t17_,E17_,i17_,e17_,F17_,j17_,f17_,f17,q17⟩:=h17
     have f18:sv 18=Value.agg #[.bool s_o,.slice A_o n_o c_o,.slice B_o m_o d_o,.bool t_o,.slice E_o i_o e_o,.slice F_o j_o f_o]:=hf ⟨5,.data⟩ (by simp [o6_rmx]) rfl _ 18 rfl rfl (NE _ (by decide))
     refine wpOp_plain' (o:=o6_rmx) rfl rfl ?_
     unfold Oper.wp o6_rmx
     rw [rc_gesso_gessoref06_Sub ((G sv 17 (by decide) (by decide)).trans f17) ((G sv 18 (by decide) (by decide)).trans f18) rfl,Oper.upon_enter]
     refine (rsub6 q17 o0 (by omega) (by omega)).mono ?_
     rintro e w1 ⟨s_,A_,n_,c_,B_,m_,d_,t_,E_,i_,e_,F_,j_,f_,rfl,hq,hh⟩
     exact ⟨_,rfl,hh,s_,A_,n_,c_,B_,m_,d_,t_,E_,i_,e_,F_,j_,f_,rfl,hq⟩
   | 7,ho=>cases ho;cases hd;exact absurd rfl (hia (B0_rmx v u k l k2 l2 ox oy) (List.Mem.head _))
   | 8,ho=>cases ho;cases hd
   | i+9,ho=>cases ho
 · intro p hp os sv w' g hos J0 p1 p3 hf
   simp only [List.mem_cons,List.not_mem_nil,or_false] at hp
   rcases hp with rfl
   · obtain rfl:o8_rmx=os:=Option.some.inj hos
     have h1:VRP ((v.ax (u.ax (Rat.divInt 1 1) (Rat.divInt 0 1)) (u.ay (Rat.divInt 1 1) (Rat.divInt 0 1))) - ox) ((v.ay (u.ax (Rat.divInt 1 1) (Rat.divInt 0 1)) (u.ay (Rat.divInt 1 1) (Rat.divInt 0 1))) - oy) ((k+(k2+2+(k2+2)+1+l2+1)+(k+(k2+2+(k2+2)+1+l2+1))+1+l+1)+(k+(k2+2+(k2+2)+1+l2+1)+(k+(k2+2+(k2+2)+1+l2+1))+1+l+1)+1) (sv 19) w':=hf ⟨6,.data⟩ (by simp [o8_rmx]) rfl _ 19 rfl rfl (NE _ (by decide))
     rw [← G sv 19 (by decide) (by decide)] at h1
     refine store_rp (x:=(v.ax (u.ax (Rat.divInt 1 1) (Rat.divInt 0 1)) (u.ay (Rat.divInt 1 1) (Rat.divInt 0 1))) - ox) (y:=(v.ay (u.ax (Rat.divInt 1 1) (Rat.divInt 0 1)) (u.ay (Rat.divInt 1 1) (Rat.divInt 0 1))) - oy) (k:=(k+(k2+2+(k2+2)+1+l2+1)+(k+(k2+2+(k2+2)+1+l2+1))+1+l+1)+(k+(k2+2+(k2+2)+1+l2+1)+(k+(k2+2+(k2+2)+1+l2+1))+1+l+1)+1) (ac:=putAll ac L_rmx sv) (z:=.tmp 19) ?_ ?_ ?_
     · exact (G sv 6 (by decide) (by decide)).trans p1
     · exact h1
     · exact p3
 · intro sv w' J0 hF hB hap
   obtain ⟨g0,cs0,p0,r0,b0,⟨s0,A0,n0,c0,B0,m0,d0,t0,E0,i0,e0,F0,j0,f0,rfl,h0⟩⟩:=hB (B0_rmx v u k l k2 l2 ox oy) (List.Mem.head _)
   have p0':sv 6=.pointer (some ⟨g0,0,none⟩):=p0
   exact hend sv w' g0 _ _ _ _ _ _ _ _ _ _ _ _ _ _ h0 b0.at_ r0 p0'   J0
abbrev L_rmy:List Nat:=[20,21,22,23,24,25,26,7]
def o0_rmy:Oper:=⟨some 20,.load 74 (.tmp 2),74, "ref.go:42",#[],none⟩
def o1_rmy:Oper:=⟨some 21,.load 74 (.tmp 3),74, "ref.go:42",#[],none⟩
def o2_rmy:Oper:=⟨some 22,.call ⟨.value (.func 114),#[.const (Value.int IntKind.i64 0),.const (Value.int IntKind.i64 1)],#[2,2]⟩,45, "ref.go:42",#[],none⟩
def o3_rmy:Oper:=⟨some 23,.call ⟨.value (.func 44),#[.tmp 21,.tmp 22],#[74,45]⟩,45, "ref.go:42",#[⟨1,.data⟩,⟨2,.data⟩,⟨2,.chain⟩],none⟩
def o4_rmy:Oper:=⟨some 24,.call ⟨.value (.func 44),#[.tmp 20,.tmp 23],#[74,45]⟩,45, "ref.go:42",#[⟨0,.data⟩,⟨3,.data⟩,⟨3,.chain⟩],none⟩
def o5_rmy:Oper:=⟨some 25,.load 45 (.tmp 5),45, "ref.go:42",#[],none⟩
def o6_rmy:Oper:=⟨some 26,.call ⟨.value (.func 92),#[.tmp 24,.tmp 25],#[45,45]⟩,45, "ref.go:42",#[⟨4,.data⟩,⟨5,.data⟩,⟨4,.chain⟩],none⟩
def o7_rmy:Oper:=⟨some 7,.alloc 45,0, "ref.go:42",#[],none⟩
def o8_rmy:Oper:=⟨none,.store 45 (.tmp 7) (.tmp 26),0, "ref.go:42",#[⟨7,.data⟩,⟨6,.data⟩,⟨6,.chain⟩,⟨0,.phase⟩,⟨1,.phase⟩,⟨2,.phase⟩,⟨3,.phase⟩,⟨4,.phase⟩,⟨5,.phase⟩,⟨6,.phase⟩,⟨7,.phase⟩],none⟩
def F_rmy (m:MV) (n:MV) (v:AM) (u:AM) (k:Nat) (l:Nat) (k2:Nat) (l2:Nat) (s_o:Bool) (t_o:Bool) (A_o:Option Addr) (B_o:Option Addr) (E_o:Option Addr) (F_o:Option Addr) (n_o:Nat) (c_o:Nat) (m_o:Nat) (d_o:Nat) (i_o:Nat) (e_o:Nat) (j_o:Nat) (f_o:Nat) (ox:Rat) (oy:Rat) (sl:Nat):Value→World→Prop :=
 match sl with
 | 20=>fun x _=>x=Value.agg #[.bool m.a.s,.slice m.a.A m.a.n m.a.c,.slice m.a.B m.a.m m.a.d,.bool m.b.s,.slice m.b.A m.b.n m.b.c,.slice m.b.B m.b.m m.b.d,.bool m.c.s,.slice m.c.A m.c.n m.c.c,.slice m.c.B m.c.m m.c.d,.bool m.d.s,.slice m.d.A m.d.n m.d.c,.slice m.d.B m.d.m m.d.d,.bool m.e.s,.slice m.e.A m.e.n m.e.c,.slice m.e.B m.e.m m.e.d,.bool m.f.s,.slice m.f.A m.f.n m.f.c,.slice m.f.B m.f.m m.f.d]
 | 21=>fun x _=>x=Value.agg #[.bool n.a.s,.slice n.a.A n.a.n n.a.c,.slice n.a.B n.a.m n.a.d,.bool n.b.s,.slice n.b.A n.b.n n.b.c,.slice n.b.B n.b.m n.b.d,.bool n.c.s,.slice n.c.A n.c.n n.c.c,.slice n.c.B n.c.m n.c.d,.bool n.d.s,.slice n.d.A n.d.n n.d.c,.slice n.d.B n.d.m n.d.d,.bool n.e.s,.slice n.e.A n.e.n n.e.c,.slice n.e.B n.e.m n.e.d,.bool n.f.s,.slice n.f.A n.f.n n.f.c,.slice n.f.B n.f.m n.f.d]
 | 22=>VRP (Rat.divInt 0 1) (Rat.divInt 1 1) (2)
 | 23=>VRP (u.ax (Rat.divInt 0 1) (Rat.divInt 1 1)) (u.ay (Rat.divInt 0 1) (Rat.divInt 1 1)) ((k2+2+(k2+2)+1+l2+1))
 | 24=>VRP ((v.ax (u.ax (Rat.divInt 0 1) (Rat.divInt 1 1)) (u.ay (Rat.divInt 0 1) (Rat.divInt 1 1)))) ((v.ay (u.ax (Rat.divInt 0 1) (Rat.divInt 1 1)) (u.ay (Rat.divInt 0 1) (Rat.divInt 1 1)))) ((k+(k2+2+(k2+2)+1+l2+1)+(k+(k2+2+(k2+2)+1+l2+1))+1+l+1))
 | 25=>fun x _=>x=Value.agg #[.bool s_o,.slice A_o n_o c_o,.slice B_o m_o d_o,.bool t_o,.slice E_o i_o e_o,.slice F_o j_o f_o]
 | 26=>VRP ((v.ax (u.ax (Rat.divInt 0 1) (Rat.divInt 1 1)) (u.ay (Rat.divInt 0 1) (Rat.divInt 1 1))) - ox) ((v.ay (u.ax (Rat.divInt 0 1) (Rat.divInt 1 1)) (u.ay (Rat.divInt 0 1) (Rat.divInt 1 1))) - oy) ((k+(k2+2+(k2+2)+1+l2+1)+(k+(k2+2+(k2+2)+1+l2+1))+1+l+1)+(k+(k2+2+(k2+2)+1+l2+1)+(k+(k2+2+(k2+2)+1+l2+1))+1+l+1)+1)
 | _=>fun _ _=>True
def B0_rmy (v:AM) (u:AM) (k:Nat) (l:Nat) (k2:Nat) (l2:Nat) (ox:Rat) (oy:Rat):BoxOp :=
 ⟨7,8,7,45,#[.bool false,.slice none 0 0,.slice none 0 0,.bool false,.slice none 0 0,.slice none 0 0],fun cs w=>∃ s A n c B m d t E i e F j f,cs=#[.bool s,.slice A n c,.slice B m d,.bool t,.slice E i e,.slice F j f]∧RP w s A n c B m d t E i e F j f ((v.ax (u.ax (Rat.divInt 0 1) (Rat.divInt 1 1)) (u.ay (Rat.divInt 0 1) (Rat.divInt 1 1))) - ox) ((v.ay (u.ax (Rat.divInt 0 1) (Rat.divInt 1 1)) (u.ay (Rat.divInt 0 1) (Rat.divInt 1 1))) - oy) ((k+(k2+2+(k2+2)+1+l2+1)+(k+(k2+2+(k2+2)+1+l2+1))+1+l+1)+(k+(k2+2+(k2+2)+1+l2+1)+(k+(k2+2+(k2+2)+1+l2+1))+1+l+1)+1)⟩
theorem rmy_region {id:Nat} {ac:Act} {Q:Exit→Act→World→Prop} {m n:MV} {v u:AM} {k l k2 l2 gm gn:Nat} {ox oy:Rat} {go:Nat}
 (hsz:26 < ac.tmps.size) (e2:ac.eval (.tmp 2)=Value.pointer (some ⟨gm,0,none⟩)) (e3:ac.eval (.tmp 3)=Value.pointer (some ⟨gn,0,none⟩)) (e5:ac.eval (.tmp 5)=Value.pointer (some ⟨go,0,none⟩)) (XA:B18R w gm (.bool m.a.s) (.slice m.a.A m.a.n m.a.c) (.slice m.a.B m.a.m m.a.d) (.bool m.b.s) (.slice m.b.A m.b.n m.b.c) (.slice m.b.B m.b.m m.b.d) (.bool m.c.s) (.slice m.c.A m.c.n m.c.c) (.slice m.c.B m.c.m m.c.d) (.bool m.d.s) (.slice m.d.A m.d.n m.d.c) (.slice m.d.B m.d.m m.d.d) (.bool m.e.s) (.slice m.e.A m.e.n m.e.c) (.slice m.e.B m.e.m m.e.d) (.bool m.f.s) (.slice m.f.A m.f.n m.f.c) (.slice m.f.B m.f.m m.f.d)) (XB:B18R w gn (.bool n.a.s) (.slice n.a.A n.a.n n.a.c) (.slice n.a.B n.a.m n.a.d) (.bool n.b.s) (.slice n.b.A n.b.n n.b.c) (.slice n.b.B n.b.m n.b.d) (.bool n.c.s) (.slice n.c.A n.c.n n.c.c) (.slice n.c.B n.c.m n.c.d) (.bool n.d.s) (.slice n.d.A n.d.n n.d.c) (.slice n.d.B n.d.m n.d.d) (.bool n.e.s) (.slice n.e.A n.e.n n.e.c) (.slice n.e.B n.e.m n.e.d) (.bool n.f.s) (.slice n.f.A n.f.n n.f.c) (.slice n.f.B n.f.m n.f.d)) (M:RM w m v k l) (N:RM w n u k2 l2) (hk:k≤100) (hl:l≤100) (hk2:k2≤100) (hl2:l2≤100) (XO:B6R w go (.bool s_o) (.slice A_o n_o c_o) (.slice B_o m_o d_o) (.bool t_o) (.slice E_o i_o e_o) (.slice F_o j_o f_o)) (o0:RP w s_o A_o n_o c_o B_o m_o d_o t_o E_o i_o e_o F_o j_o f_o ox oy (k+(k2+2+(k2+2)+1+l2+1)+(k+(k2+2+(k2+2)+1+l2+1))+1+l+1))
 (hend:∀ (V:Nat→Value) (w':World) (g0:Nat) (s0:Bool) (A0:Option Addr) (n0:Nat) (c0:Nat) (B0:Option Addr) (m0:Nat) (d0:Nat) (t0:Bool) (E0:Option Addr) (i0:Nat) (e0:Nat) (F0:Option Addr) (j0:Nat) (f0:Nat),RP w' s0 A0 n0 c0 B0 m0 d0 t0 E0 i0 e0 F0 j0 f0 ((v.ax (u.ax (Rat.divInt 0 1) (Rat.divInt 1 1)) (u.ay (Rat.divInt 0 1) (Rat.divInt 1 1))) - ox) ((v.ay (u.ax (Rat.divInt 0 1) (Rat.divInt 1 1)) (u.ay (Rat.divInt 0 1) (Rat.divInt 1 1))) - oy) ((k+(k2+2+(k2+2)+1+l2+1)+(k+(k2+2+(k2+2)+1+l2+1))+1+l+1)+(k+(k2+2+(k2+2)+1+l2+1)+(k+(k2+2+(k2+2)+1+l2+1))+1+l+1)+1)→B6R w' g0 (.bool s0) (.slice A0 n0 c0) (.slice B0 m0 d0) (.bool t0) (.slice E0 i0 e0) (.slice F0 j0 f0)→w.heap.size≤g0→V 7=.pointer (some ⟨g0,0,none⟩)→Below w.heap.size w w'→Q .normal (putAll ac [20,21,22,23,24,25,26,7] V) w') :
 (Code.region id #[o0_rmy,o1_rmy,o2_rmy,o3_rmy,o4_rmy,o5_rmy,o6_rmy,o7_rmy,o8_rmy] true).wp Tryz.prog Q ac w:=by
 have hnd:L_rmy.Nodup:=by decide
 have G:∀ (sv:Nat→Value) (t:Nat),t ∈ L_rmy→t≤26→(putAll ac L_rmy sv).eval (.tmp t)=sv t:=fun sv t ht h=>eval_putAll_mem (t:=t) L_rmy ac hnd ht (Nat.lt_of_le_of_lt h hsz)
 have E2:∀ sv:Nat→Value,(putAll ac L_rmy sv).eval (.tmp 2)=Value.pointer (some ⟨gm,0,none⟩):=fun sv=>(eval_putAll_not (v:=sv) L_rmy ac (show 2 ∉ _ by decide)).trans e2
 have E3:∀ sv:Nat→Value,(putAll ac L_rmy sv).eval (.tmp 3)=Value.pointer (some ⟨gn,0,none⟩):=fun sv=>(eval_putAll_not (v:=sv) L_rmy ac (show 3 ∉ _ by decide)).trans e3
 have E5:∀ sv:Nat→Value,(putAll ac L_rmy sv).eval (.tmp 5)=Value.pointer (some ⟨go,0,none⟩):=fun sv=>(eval_putAll_not (v:=sv) L_rmy ac (show 5 ∉ _ by decide)).trans e5
 have NE:∀ t:Nat,(t ≠ 7)→∀ p ∈ [B0_rmy v u k l k2 l2 ox oy],t ≠ p.tA:=by
  intro t ht p hp
  simp only [List.mem_cons,List.not_mem_nil,or_false] at hp
  rcases hp with rfl
  · exact ht
 refine wp_region_flowsT L_rmy [B0_rmy v u k l k2 l2 ox oy] (F_rmy m n v u k l k2 l2 s_o t_o A_o B_o E_o F_o n_o c_o m_o d_o i_o e_o j_o f_o ox oy) (by kernel_rfl) (by kernel_rfl) rfl hnd ?_ ?_ ?_ ?_ ?_ ?_ ?_ ?_
 · intro p hp
   simp only [List.mem_cons,List.not_mem_nil,or_false] at hp
   rcases hp with rfl
   · refine ⟨⟨o7_rmy,rfl,rfl,rfl,fun e w'=>run_alloc7⟩,⟨o8_rmy,rfl,rfl,rfl,⟨7,.data⟩,by simp [o8_rmy],rfl,rfl⟩,free6 _ _ _ _ _ _ _ _ _ _ _ _ _ _,?_,?_⟩
     · rintro cs w1 w2 ⟨s_,A_,n_,c_,B_,m_,d_,t_,E_,i_,e_,F_,j_,f_,rfl,h⟩ hb;exact ⟨s_,A_,n_,c_,B_,m_,d_,t_,E_,i_,e_,F_,j_,f_,rfl,h.below hb⟩
     · rintro T cs w1 w2 g c0 ⟨s_,A_,n_,c_,B_,m_,d_,t_,E_,i_,e_,F_,j_,f_,rfl,h⟩ hB ho;exact ⟨s_,A_,n_,c_,B_,m_,d_,t_,E_,i_,e_,F_,j_,f_,rfl,h.box hB ho⟩
 · intro p hp q hq h
   simp only [List.mem_cons,List.not_mem_nil,or_false] at hp hq
   rcases hp with rfl <;> rcases hq with rfl
   · rfl
 · intro p hp q hq h
   simp only [List.mem_cons,List.not_mem_nil,or_false] at hp hq
   rcases hp with rfl <;> rcases hq with rfl
   · rfl
 · intro i o h1 h2
   match i,h1 with
   | 0,h1=>cases h1;cases h2
   | 1,h1=>cases h1;cases h2
   | 2,h1=>cases h1;cases h2
   | 3,h1=>cases h1;cases h2
   | 4,h1=>cases h1;cases h2
   | 5,h1=>cases h1;cases h2
   | 6,h1=>cases h1;cases h2
   | 7,h1=>cases h1;cases h2
   | 8,h1=>exact ⟨B0_rmy v u k l k2 l2 ox oy,List.Mem.head _,rfl⟩
   | i+9,h1=>cases h1
 · intro t
   unfold F_rmy
   split <;> first | exact (stays_eq _).inn _ | exact (stays_q _ _).inn _ | exact (stays_z _ _).inn _ | exact (stays_r _ _).inn _ | exact (stays_rq _ _).inn _ | exact (stays_pg _ _ _).inn _ | exact (stays_true).inn _ | exact (stays_rp _ _ _).inn _
 · intro i o t sv w' ho hia hd J0 hf
   have XA:=XA.below J0;have XB:=XB.below J0;have XO:=XO.below J0;have M:=M.below J0;have N:=N.below J0;have o0:=o0.below J0
   match i,ho with
   | 0,ho =>
     obtain rfl:o0_rmy=o:=Option.some.inj ho
     cases hd
     refine wpOp_plain' (o:=o0_rmy) rfl rfl ?_
     unfold Oper.wp o0_rmy
     rw [run_loadN (E2 sv) XA,Oper.upon_value]
     exact ⟨_,rfl,Below.refl _ _,rfl⟩
   | 1,ho =>
     obtain rfl:o1_rmy=o:=Option.some.inj ho
     cases hd
     refine wpOp_plain' (o:=o1_rmy) rfl rfl ?_
     unfold Oper.wp o1_rmy
     rw [run_loadN (E3 sv) XB,Oper.upon_value]
     exact ⟨_,rfl,Below.refl _ _,rfl⟩
   | 2,ho =>
     obtain rfl:o2_rmy=o:=Option.some.inj ho
     cases hd
     refine wpOp_plain' (o:=o2_rmy) rfl rfl ?_
     unfold Oper.wp o2_rmy
     rw [rc_gesso_gessoref06_Of (show (putAll ac L_rmy sv).eval (.const (Value.int IntKind.i64 0))=(Value.int IntKind.i64 0) from rfl) (show (putAll ac L_rmy sv).eval (.const (Value.int IntKind.i64 1))=(Value.int IntKind.i64 1) from rfl) rfl,Oper.upon_enter]
     refine (rof6 0 1 (by decide) (by decide) (by decide) (by decide) _).mono ?_
     rintro e w1 ⟨s_,A_,n_,c_,B_,m_,d_,t_,E_,i_,e_,F_,j_,f_,rfl,hq,hh⟩
     exact ⟨_,rfl,hh,s_,A_,n_,c_,B_,m_,d_,t_,E_,i_,e_,F_,j_,f_,rfl,hq⟩
   | 3,ho =>
     obtain rfl:o3_rmy=o:=Option.some.inj ho
     cases hd
     have f21:sv 21=Value.agg #[.bool n.a.s,.slice n.a.A n.a.n n.a.c,.slice n.a.B n.a.m n.a.d,.bool n.b.s,.slice n.b.A n.b.n n.b.c,.slice n.b.B n.b.m n.b.d,.bool n.c.s,.slice n.c.A n.c.n n.c.c,.slice n.c.B n.c.m n.c.d,.bool n.d.s,.slice n.d.A n.d.n n.d.c,.slice n.d.B n.d.m n.d.d,.bool n.e.s,.slice n.e.A n.e.n n.e.c,.slice n.e.B n.e.m n.e.d,.bool n.f.s,.slice n.f.A n.f.n n.f.c,.slice n.f.B n.f.m n.f.d]:=hf ⟨1,.data⟩ (by simp [o3_rmy]) rfl _ 21 rfl rfl (NE _ (by decide))
     have h22:VRP (Rat.divInt 0 1) (Rat.divInt 1 1) (2) (sv 22) w':=hf ⟨2,.data⟩ (by simp [o3_rmy]) rfl _ 22 rfl rfl (NE _ (by decide))
     obtain ⟨s22_,A22_,n22_,c22_,B22_,m22_,d22_,t22_,E22_,i22_,e22_,F22_,j22_,f22_,f22,q22⟩:=h22
     refine wpOp_plain' (o:=o3_rmy) rfl rfl ?_
     unfold Oper.wp o3_rmy
     rw [rc_gesso_gessoref09_Apply ((G sv 21 (by decide) (by decide)).trans f21) ((G sv 22 (by decide) (by decide)).trans f22) rfl,Oper.upon_enter]
     refine (rapply9 N q22 (by omega) (by omega)).mono ?_
     rintro e w1 ⟨s_,A_,n_,c_,B_,m_,d_,t_,E_,i_,e_,F_,j_,f_,rfl,hq,hh⟩
     exact ⟨_,rfl,hh,s_,A_,n_,c_,B_,m_,d_,t_,E_,i_,e_,F_,j_,f_,rfl,hq⟩
   | 4,ho =>
     obtain rfl:o4_rmy=o:=Option.some.inj ho
     cases hd
     have f20:sv 20=Value.agg #[.bool m.a.s,.slice m.a.A m.a.n m.a.c,.slice m.a.B m.a.m m.a.d,.bool m.b.s,.slice m.b.A m.b.n m.b.c,.slice m.b.B m.b.m m.b.d,.bool m.c.s,.slice m.c.A m.c.n m.c.c,.slice m.c.B m.c.m m.c.d,.bool m.d.s,.slice m.d.A m.d.n m.d.c,.slice m.d.B m.d.m m.d.d,.bool m.e.s,.slice m.e.A m.e.n m.e.c,.slice m.e.B m.e.m m.e.d,.bool m.f.s,.slice m.f.A m.f.n m.f.c,.slice m.f.B m.f.m m.f.d]:=hf ⟨0,.data⟩ (by simp [o4_rmy]) rfl _ 20 rfl rfl (NE _ (by decide))
     have h23:VRP (u.ax (Rat.divInt 0 1) (Rat.divInt 1 1)) (u.ay (Rat.divInt 0 1) (Rat.divInt 1 1)) ((k2+2+(k2+2)+1+l2+1)) (sv 23) w':=hf ⟨3,.data⟩ (by simp [o4_rmy]) rfl _ 23 rfl rfl (NE _ (by decide))
     obtain ⟨s23_,A23_,n23_,c23_,B23_,m23_,d23_,t23_,E23_,i23_,e23_,F23_,j23_,f23_,f23,q23⟩:=h23
     refine wpOp_plain' (o:=o4_rmy) rfl rfl ?_
     unfold Oper.wp o4_rmy
     rw [rc_gesso_gessoref09_Apply ((G sv 20 (by decide) (by decide)).trans f20) ((G sv 23 (by decide) (by decide)).trans f23) rfl,Oper.upon_enter]
     refine (rapply9 M q23 (by omega) (by omega)).mono ?_
     rintro e w1 ⟨s_,A_,n_,c_,B_,m_,d_,t_,E_,i_,e_,F_,j_,f_,rfl,hq,hh⟩
     exact ⟨_,rfl,hh,s_,A_,n_,c_,B_,m_,d_,t_,E_,i_,e_,F_,j_,f_,rfl,hq⟩
   | 5,ho =>
     obtain rfl:o5_rmy=o:=Option.some.inj ho
     cases hd
     refine wpOp_plain' (o:=o5_rmy) rfl rfl ?_
     unfold Oper.wp o5_rmy
     rw [run_load7m (E5 sv) XO.c0 XO.c1 XO.c2 XO.c3 XO.c4 XO.c5,Oper.upon_value]
     exact ⟨_,rfl,Below.refl _ _,rfl⟩
   | 6,ho =>
     obtain rfl:o6_rmy=o:=Option.some.inj ho
     cases hd
     have h24:VRP ((v.ax (u.ax (Rat.divInt 0 1) (Rat.divInt 1 1)) (u.ay (Rat.divInt 0 1) (Rat.divInt 1 1)))) ((v.ay (u.ax (Rat.divInt 0 1) (Rat.divInt 1 1)) (u.ay (Rat.divInt 0 1) (Rat.divInt 1 1)))) ((k+(k2+2+(k2+2)+1+l2+1)+(k+(k2+2+(k2+2)+1+l2+1))+1+l+1)) (sv 24) w':=hf ⟨4,.data⟩ (by simp [o6_rmy]) rfl _ 24 rfl rfl (NE _ (by decide))
     obtain ⟨s24_,A24_,n24_,c24_,B24_,m24_,d24_,t24_,E24_,i24_,e24_,F24_,j24_,f24_,f24,q24⟩:=h24
     have f25:sv 25=Value.agg #[.bool s_o,.slice A_o n_o c_o,.slice B_o m_o d_o,.bool t_o,.slice E_o i_o e_o,.slice F_o j_o f_o]:=hf ⟨5,.data⟩ (by simp [o6_rmy]) rfl _ 25 rfl rfl (NE _ (by decide))
     refine wpOp_plain' (o:=o6_rmy) rfl rfl ?_
     unfold Oper.wp o6_rmy
     rw [rc_gesso_gessoref06_Sub ((G sv 24 (by decide) (by decide)).trans f24) ((G sv 25 (by decide) (by decide)).trans f25) rfl,Oper.upon_enter]
     refine (rsub6 q24 o0 (by omega) (by omega)).mono ?_
     rintro e w1 ⟨s_,A_,n_,c_,B_,m_,d_,t_,E_,i_,e_,F_,j_,f_,rfl,hq,hh⟩
     exact ⟨_,rfl,hh,s_,A_,n_,c_,B_,m_,d_,t_,E_,i_,e_,F_,j_,f_,rfl,hq⟩
   | 7,ho=>cases ho;cases hd;exact absurd rfl (hia (B0_rmy v u k l k2 l2 ox oy) (List.Mem.head _))
   | 8,ho=>cases ho;cases hd
   | i+9,ho=>cases ho
 · intro p hp os sv w' g hos J0 p1 p3 hf
   simp only [List.mem_cons,List.not_mem_nil,or_false] at hp
   rcases hp with rfl
   · obtain rfl:o8_rmy=os:=Option.some.inj hos
     have h1:VRP ((v.ax (u.ax (Rat.divInt 0 1) (Rat.divInt 1 1)) (u.ay (Rat.divInt 0 1) (Rat.divInt 1 1))) - ox) ((v.ay (u.ax (Rat.divInt 0 1) (Rat.divInt 1 1)) (u.ay (Rat.divInt 0 1) (Rat.divInt 1 1))) - oy) ((k+(k2+2+(k2+2)+1+l2+1)+(k+(k2+2+(k2+2)+1+l2+1))+1+l+1)+(k+(k2+2+(k2+2)+1+l2+1)+(k+(k2+2+(k2+2)+1+l2+1))+1+l+1)+1) (sv 26) w':=hf ⟨6,.data⟩ (by simp [o8_rmy]) rfl _ 26 rfl rfl (NE _ (by decide))
     rw [← G sv 26 (by decide) (by decide)] at h1
     refine store_rp (x:=(v.ax (u.ax (Rat.divInt 0 1) (Rat.divInt 1 1)) (u.ay (Rat.divInt 0 1) (Rat.divInt 1 1))) - ox) (y:=(v.ay (u.ax (Rat.divInt 0 1) (Rat.divInt 1 1)) (u.ay (Rat.divInt 0 1) (Rat.divInt 1 1))) - oy) (k:=(k+(k2+2+(k2+2)+1+l2+1)+(k+(k2+2+(k2+2)+1+l2+1))+1+l+1)+(k+(k2+2+(k2+2)+1+l2+1)+(k+(k2+2+(k2+2)+1+l2+1))+1+l+1)+1) (ac:=putAll ac L_rmy sv) (z:=.tmp 26) ?_ ?_ ?_
     · exact (G sv 7 (by decide) (by decide)).trans p1
     · exact h1
     · exact p3
 · intro sv w' J0 hF hB hap
   obtain ⟨g0,cs0,p0,r0,b0,⟨s0,A0,n0,c0,B0,m0,d0,t0,E0,i0,e0,F0,j0,f0,rfl,h0⟩⟩:=hB (B0_rmy v u k l k2 l2 ox oy) (List.Mem.head _)
   have p0':sv 7=.pointer (some ⟨g0,0,none⟩):=p0
   exact hend sv w' g0 _ _ _ _ _ _ _ _ _ _ _ _ _ _ h0 b0.at_ r0 p0'   J0
theorem run_buildN {e1:Operand→Value} {x0 x1 x2 x3 x4 x5:Operand} {d1:Option Tmp} {y1:Nat} {pos:String} {af:Array Edge} {a0 a1 a2 a3 a4 a5 a6 a7 a8 a9 a10 a11 a12 a13 a14 a15 a16 a17:Value} (h0:e1 x0=.agg #[a0,a1,a2]) (h1:e1 x1=.agg #[a3,a4,a5]) (h2:e1 x2=.agg #[a6,a7,a8]) (h3:e1 x3=.agg #[a9,a10,a11]) (h4:e1 x4=.agg #[a12,a13,a14]) (h5:e1 x5=.agg #[a15,a16,a17]) :
 (execOp e1 ⟨d1,.build 74 #[(0,x0),(1,x1),(2,x2),(3,x3),(4,x4),(5,x5)],y1,pos,af,none⟩).run Tryz.prog w=.ok (.value (.agg #[a0,a1,a2,a3,a4,a5,a6,a7,a8,a9,a10,a11,a12,a13,a14,a15,a16,a17])) w:=by
 go_simp
abbrev L_rvu:List Nat:=[8,9,10,11,12,13,14,15,16,17,18,19,20,21,22,23,24,25,26,27,28,4]
def o0_rvu:Oper:=⟨some 8,.fieldAddr 74 (.tmp 1) 3,0, "ref.go:53",#[],none⟩
def o1_rvu:Oper:=⟨some 9,.load 43 (.tmp 8),43, "ref.go:53",#[⟨0,.data⟩],none⟩
def o2_rvu:Oper:=⟨some 10,.load 43 (.tmp 3),43, "ref.go:53",#[],none⟩
def o3_rvu:Oper:=⟨some 11,.call ⟨.value (.func 94),#[.tmp 9,.tmp 10],#[43,43]⟩,43, "ref.go:53",#[⟨1,.data⟩,⟨2,.data⟩],none⟩
def o4_rvu:Oper:=⟨some 12,.fieldAddr 74 (.tmp 1) 1,0, "ref.go:53",#[],none⟩
def o5_rvu:Oper:=⟨some 13,.load 43 (.tmp 12),43, "ref.go:53",#[⟨4,.data⟩],none⟩
def o6_rvu:Oper:=⟨some 14,.call ⟨.value (.func 110),#[.tmp 13],#[43]⟩,43, "ref.go:53",#[⟨5,.data⟩,⟨3,.chain⟩],none⟩
def o7_rvu:Oper:=⟨some 15,.load 43 (.tmp 3),43, "ref.go:53",#[],none⟩
def o8_rvu:Oper:=⟨some 16,.call ⟨.value (.func 94),#[.tmp 14,.tmp 15],#[43,43]⟩,43, "ref.go:53",#[⟨6,.data⟩,⟨7,.data⟩,⟨6,.chain⟩],none⟩
def o9_rvu:Oper:=⟨some 17,.fieldAddr 74 (.tmp 1) 2,0, "ref.go:53",#[],none⟩
def o10_rvu:Oper:=⟨some 18,.load 43 (.tmp 17),43, "ref.go:53",#[⟨9,.data⟩],none⟩
def o11_rvu:Oper:=⟨some 19,.call ⟨.value (.func 110),#[.tmp 18],#[43]⟩,43, "ref.go:53",#[⟨10,.data⟩,⟨8,.chain⟩],none⟩
def o12_rvu:Oper:=⟨some 20,.load 43 (.tmp 3),43, "ref.go:53",#[],none⟩
def o13_rvu:Oper:=⟨some 21,.call ⟨.value (.func 94),#[.tmp 19,.tmp 20],#[43,43]⟩,43, "ref.go:53",#[⟨11,.data⟩,⟨12,.data⟩,⟨11,.chain⟩],none⟩
def o14_rvu:Oper:=⟨some 22,.fieldAddr 74 (.tmp 1) 0,0, "ref.go:53",#[],none⟩
def o15_rvu:Oper:=⟨some 23,.load 43 (.tmp 22),43, "ref.go:53",#[⟨14,.data⟩],none⟩
def o16_rvu:Oper:=⟨some 24,.load 43 (.tmp 3),43, "ref.go:53",#[],none⟩
def o17_rvu:Oper:=⟨some 25,.call ⟨.value (.func 94),#[.tmp 23,.tmp 24],#[43,43]⟩,43, "ref.go:53",#[⟨15,.data⟩,⟨16,.data⟩,⟨13,.chain⟩],none⟩
def o18_rvu:Oper:=⟨some 26,.call ⟨.value (.func 80),#[.const (Value.int IntKind.i64 0),.const (Value.int IntKind.i64 1)],#[2,2]⟩,43, "ref.go:53",#[⟨17,.chain⟩],none⟩
def o19_rvu:Oper:=⟨some 27,.call ⟨.value (.func 80),#[.const (Value.int IntKind.i64 0),.const (Value.int IntKind.i64 1)],#[2,2]⟩,43, "ref.go:53",#[⟨18,.chain⟩],none⟩
def o20_rvu:Oper:=⟨some 28,.build 74 #[(0,.tmp 11),(1,.tmp 16),(2,.tmp 21),(3,.tmp 25),(4,.tmp 26),(5,.tmp 27)],74, "ref.go:53",#[⟨3,.data⟩,⟨8,.data⟩,⟨13,.data⟩,⟨17,.data⟩,⟨18,.data⟩,⟨19,.data⟩],none⟩
def o21_rvu:Oper:=⟨some 4,.alloc 74,0, "ref.go:53",#[],none⟩
def o22_rvu:Oper:=⟨none,.store 74 (.tmp 4) (.tmp 28),0, "ref.go:53",#[⟨21,.data⟩,⟨20,.data⟩,⟨19,.chain⟩,⟨0,.phase⟩,⟨1,.phase⟩,⟨2,.phase⟩,⟨3,.phase⟩,⟨4,.phase⟩,⟨5,.phase⟩,⟨6,.phase⟩,⟨7,.phase⟩,⟨8,.phase⟩,⟨9,.phase⟩,⟨10,.phase⟩,⟨11,.phase⟩,⟨12,.phase⟩,⟨13,.phase⟩,⟨14,.phase⟩,⟨15,.phase⟩,⟨16,.phase⟩,⟨17,.phase⟩,⟨18,.phase⟩,⟨19,.phase⟩,⟨20,.phase⟩,⟨21,.phase⟩],none⟩
theorem rc_gesso_gessoref03_Div {e:Operand→Value} {x0 x1:Operand} {d:Option Tmp} {y:Nat} {pos:String} {af:Array Edge} {u0 u1:Value} (h0:e x0=u0) (h1:e x1=u1) (hf:e (.func 94)=.func (.func 94) #[] #[]) :
 (execOp e ⟨d,.call ⟨.value (.func 94),#[x0,x1],#[43,43]⟩,y,pos,af,none⟩).run Tryz.prog w=.ok (.enter 94 #[u0,u1]) w:=by
 go_simp
theorem rc__gesso_gessoref03_Rat__Minus {e:Operand→Value} {x0:Operand} {d:Option Tmp} {y:Nat} {pos:String} {af:Array Edge} {u0:Value} (h0:e x0=u0) (hf:e (.func 110)=.func (.func 110) #[] #[]) :
 (execOp e ⟨d,.call ⟨.value (.func 110),#[x0],#[43]⟩,y,pos,af,none⟩).run Tryz.prog w=.ok (.enter 110 #[u0]) w:=by
 go_simp
theorem rc_gesso_gessoref03_Of {e:Operand→Value} {x0 x1:Operand} {d:Option Tmp} {y:Nat} {pos:String} {af:Array Edge} {u0 u1:Value} (h0:e x0=u0) (h1:e x1=u1) (hf:e (.func 80)=.func (.func 80) #[] #[]) :
 (execOp e ⟨d,.call ⟨.value (.func 80),#[x0,x1],#[2,2]⟩,y,pos,af,none⟩).run Tryz.prog w=.ok (.enter 80 #[u0,u1]) w:=by
 go_simp
def F_rvu (m:MV) (v:AM) (k:Nat) (kt:Nat) (gm:Nat) (s_t:Bool) (A_t:Option Addr) (B_t:Option Addr) (n_t:Nat) (c_t:Nat) (m_t:Nat) (d_t:Nat) (sl:Nat):Value→World→Prop :=
 match sl with
 | 8=>fun x _=>x=Value.pointer (some ⟨gm,9,none⟩)
 | 9=>fun x _=>x=Value.agg #[.bool m.d.s,.slice m.d.A m.d.n m.d.c,.slice m.d.B m.d.m m.d.d]
 | 10=>fun x _=>x=Value.agg #[.bool s_t,.slice A_t n_t c_t,.slice B_t m_t d_t]
 | 11=>VRQ (v.d / v.det) (k+kt)
 | 12=>fun x _=>x=Value.pointer (some ⟨gm,3,none⟩)
 | 13=>fun x _=>x=Value.agg #[.bool m.b.s,.slice m.b.A m.b.n m.b.c,.slice m.b.B m.b.m m.b.d]
 | 14=>VRQ (-v.b) (k)
 | 15=>fun x _=>x=Value.agg #[.bool s_t,.slice A_t n_t c_t,.slice B_t m_t d_t]
 | 16=>VRQ (-v.b / v.det) (k+kt)
 | 17=>fun x _=>x=Value.pointer (some ⟨gm,6,none⟩)
 | 18=>fun x _=>x=Value.agg #[.bool m.c.s,.slice m.c.A m.c.n m.c.c,.slice m.c.B m.c.m m.c.d]
 | 19=>VRQ (-v.c) (k)
 | 20=>fun x _=>x=Value.agg #[.bool s_t,.slice A_t n_t c_t,.slice B_t m_t d_t]
 | 21=>VRQ (-v.c / v.det) (k+kt)
 | 22=>fun x _=>x=Value.pointer (some ⟨gm,0,none⟩)
 | 23=>fun x _=>x=Value.agg #[.bool m.a.s,.slice m.a.A m.a.n m.a.c,.slice m.a.B m.a.m m.a.d]
 | 24=>fun x _=>x=Value.agg #[.bool s_t,.slice A_t n_t c_t,.slice B_t m_t d_t]
 | 25=>VRQ (v.a / v.det) (k+kt)
 | 26=>VRQ (Rat.divInt 0 1) (2)
 | 27=>VRQ (Rat.divInt 0 1) (2)
 | 28=>VRM (v.rundo) (k+kt) (k+kt)
 | _=>fun _ _=>True
def B0_rvu (v:AM) (k:Nat) (kt:Nat):BoxOp :=
 ⟨21,22,4,74,#[.bool false,.slice none 0 0,.slice none 0 0,.bool false,.slice none 0 0,.slice none 0 0,.bool false,.slice none 0 0,.slice none 0 0,.bool false,.slice none 0 0,.slice none 0 0,.bool false,.slice none 0 0,.slice none 0 0,.bool false,.slice none 0 0,.slice none 0 0],fun cs w=>∃ u,cs=#[.bool u.a.s,.slice u.a.A u.a.n u.a.c,.slice u.a.B u.a.m u.a.d,.bool u.b.s,.slice u.b.A u.b.n u.b.c,.slice u.b.B u.b.m u.b.d,.bool u.c.s,.slice u.c.A u.c.n u.c.c,.slice u.c.B u.c.m u.c.d,.bool u.d.s,.slice u.d.A u.d.n u.d.c,.slice u.d.B u.d.m u.d.d,.bool u.e.s,.slice u.e.A u.e.n u.e.c,.slice u.e.B u.e.m u.e.d,.bool u.f.s,.slice u.f.A u.f.n u.f.c,.slice u.f.B u.f.m u.f.d]∧RM w u (v.rundo) (k+kt) (k+kt)⟩
theorem rvu_region {id:Nat} {ac:Act} {Q:Exit→Act→World→Prop} {m:MV} {v:AM} {k l kt gm gt:Nat} 
 (hsz:28 < ac.tmps.size) (e1:ac.eval (.tmp 1)=Value.pointer (some ⟨gm,0,none⟩)) (e3:ac.eval (.tmp 3)=Value.pointer (some ⟨gt,0,none⟩)) (XA:B18R w gm (.bool m.a.s) (.slice m.a.A m.a.n m.a.c) (.slice m.a.B m.a.m m.a.d) (.bool m.b.s) (.slice m.b.A m.b.n m.b.c) (.slice m.b.B m.b.m m.b.d) (.bool m.c.s) (.slice m.c.A m.c.n m.c.c) (.slice m.c.B m.c.m m.c.d) (.bool m.d.s) (.slice m.d.A m.d.n m.d.c) (.slice m.d.B m.d.m m.d.d) (.bool m.e.s) (.slice m.e.A m.e.n m.e.c) (.slice m.e.B m.e.m m.e.d) (.bool m.f.s) (.slice m.f.A m.f.n m.f.c) (.slice m.f.B m.f.m m.f.d)) (XT:B3R w gt (.bool s_t) (.slice A_t n_t c_t) (.slice B_t m_t d_t)) (M:RM w m v k l) (tq:RQ w s_t A_t n_t c_t B_t m_t d_t v.det kt) (hk:k≤1000) (hkt:kt≤5000) (h2:2≤k+kt) (h0:v.det ≠ 0)
 (hend:∀ (V:Nat→Value) (w':World) (g0:Nat) (u0:MV),RM w' u0 (v.rundo) (k+kt) (k+kt)→B18R w' g0 (.bool u0.a.s) (.slice u0.a.A u0.a.n u0.a.c) (.slice u0.a.B u0.a.m u0.a.d) (.bool u0.b.s) (.slice u0.b.A u0.b.n u0.b.c) (.slice u0.b.B u0.b.m u0.b.d) (.bool u0.c.s) (.slice u0.c.A u0.c.n u0.c.c) (.slice u0.c.B u0.c.m u0.c.d) (.bool u0.d.s) (.slice u0.d.A u0.d.n u0.d.c) (.slice u0.d.B u0.d.m u0.d.d) (.bool u0.e.s) (.slice u0.e.A u0.e.n u0.e.c) (.slice u0.e.B u0.e.m u0.e.d) (.bool u0.f.s) (.slice u0.f.A u0.f.n u0.f.c) (.slice u0.f.B u0.f.m u0.f.d)→w.heap.size≤g0→V 4=.pointer (some ⟨g0,0,none⟩)→Below w.heap.size w w'→Q .normal (putAll ac [8,9,10,11,12,13,14,15,16,17,18,19,20,21,22,23,24,25,26,27,28,4] V) w') :
 (Code.region id #[o0_rvu,o1_rvu,o2_rvu,o3_rvu,o4_rvu,o5_rvu,o6_rvu,o7_rvu,o8_rvu,o9_rvu,o10_rvu,o11_rvu,o12_rvu,o13_rvu,o14_rvu,o15_rvu,o16_rvu,o17_rvu,o18_rvu,o19_rvu,o20_rvu,o21_rvu,o22_rvu] true).wp Tryz.prog Q ac w:=by
 have hnd:L_rvu.Nodup:=by decide
 have G:∀ (sv:Nat→Value) (t:Nat),t ∈ L_rvu→t≤28→(putAll ac L_rvu sv).eval (.tmp t)=sv t:=fun sv t ht h=>eval_putAll_mem (t:=t) L_rvu ac hnd ht (Nat.lt_of_le_of_lt h hsz)
 have E1:∀ sv:Nat→Value,(putAll ac L_rvu sv).eval (.tmp 1)=Value.pointer (some ⟨gm,0,none⟩):=fun sv=>(eval_putAll_not (v:=sv) L_rvu ac (show 1 ∉ _ by decide)).trans e1
 have E3:∀ sv:Nat→Value,(putAll ac L_rvu sv).eval (.tmp 3)=Value.pointer (some ⟨gt,0,none⟩):=fun sv=>(eval_putAll_not (v:=sv) L_rvu ac (show 3 ∉ _ by decide)).trans e3
 have NE:∀ t:Nat,(t ≠ 4)→∀ p ∈ [B0_rvu v k kt],t ≠ p.tA:=by
  intro t ht p hp
  simp only [List.mem_cons,List.not_mem_nil,or_false] at hp
  rcases hp with rfl
  · exact ht
 refine wp_region_flowsT L_rvu [B0_rvu v k kt] (F_rvu m v k kt gm s_t A_t B_t n_t c_t m_t d_t) (by kernel_rfl) (by kernel_rfl) rfl hnd ?_ ?_ ?_ ?_ ?_ ?_ ?_ ?_
 · intro p hp
   simp only [List.mem_cons,List.not_mem_nil,or_false] at hp
   rcases hp with rfl
   · refine ⟨⟨o21_rvu,rfl,rfl,rfl,fun e w'=>run_allocN⟩,⟨o22_rvu,rfl,rfl,rfl,⟨21,.data⟩,by simp [o22_rvu],rfl,rfl⟩,free18z,?_,?_⟩
     · rintro cs w1 w2 ⟨u_,rfl,h⟩ hb;exact ⟨u_,rfl,h.below hb⟩
     · rintro T cs w1 w2 g c0 ⟨u_,rfl,h⟩ hB ho;exact ⟨u_,rfl,h.box hB ho⟩
 · intro p hp q hq h
   simp only [List.mem_cons,List.not_mem_nil,or_false] at hp hq
   rcases hp with rfl <;> rcases hq with rfl
   · rfl
 · intro p hp q hq h
   simp only [List.mem_cons,List.not_mem_nil,or_false] at hp hq
   rcases hp with rfl <;> rcases hq with rfl
   · rfl
 · intro i o h1 h2
   match i,h1 with
   | 0,h1=>cases h1;cases h2
   | 1,h1=>cases h1;cases h2
   | 2,h1=>cases h1;cases h2
   | 3,h1=>cases h1;cases h2
   | 4,h1=>cases h1;cases h2
   | 5,h1=>cases h1;cases h2
   | 6,h1=>cases h1;cases h2
   | 7,h1=>cases h1;cases h2
   | 8,h1=>cases h1;cases h2
   | 9,h1=>cases h1;cases h2
   | 10,h1=>cases h1;cases h2
   | 11,h1=>cases h1;cases h2
   | 12,h1=>cases h1;cases h2
   | 13,h1=>cases h1;cases h2
   | 14,h1=>cases h1;cases h2
   | 15,h1=>cases h1;cases h2
   | 16,h1=>cases h1;cases h2
   | 17,h1=>cases h1;cases h2
   | 18,h1=>cases h1;cases h2
   | 19,h1=>cases h1;cases h2
   | 20,h1=>cases h1;cases h2
   | 21,h1=>cases h1;cases h2
   | 22,h1=>exact ⟨B0_rvu v k kt,List.Mem.head _,rfl⟩
   | i+23,h1=>cases h1
 · intro t
   unfold F_rvu
   split <;> first | exact (stays_eq _).inn _ | exact (stays_q _ _).inn _ | exact (stays_z _ _).inn _ | exact (stays_r _ _).inn _ | exact (stays_rq _ _).inn _ | exact (stays_pg _ _ _).inn _ | exact (stays_true).inn _ | exact (stays_rm _ _ _).inn _
 · intro i o t sv w' ho hia hd J0 hf
   have XA:=XA.below J0;have XT:=XT.below J0;have M:=M.below J0;have tq:=tq.below J0
   match i,ho with
   | 0,ho =>
     obtain rfl:o0_rvu=o:=Option.some.inj ho
     cases hd
     refine wpOp_plain' (o:=o0_rvu) rfl rfl ?_
     unfold Oper.wp o0_rvu
     rw [run_fN3 (E1 sv),Oper.upon_value]
     exact ⟨_,rfl,Below.refl _ _,rfl⟩
   | 1,ho =>
     obtain rfl:o1_rvu=o:=Option.some.inj ho
     cases hd
     have f8:sv 8=Value.pointer (some ⟨gm,9,none⟩):=hf ⟨0,.data⟩ (by simp [o1_rvu]) rfl _ 8 rfl rfl (NE _ (by decide))
     refine wpOp_plain' (o:=o1_rvu) rfl rfl ?_
     unfold Oper.wp o1_rvu
     rw [run_loadN3 ((G sv 8 (by decide) (by decide)).trans f8) XA,Oper.upon_value]
     exact ⟨_,rfl,Below.refl _ _,rfl⟩
   | 2,ho =>
     obtain rfl:o2_rvu=o:=Option.some.inj ho
     cases hd
     refine wpOp_plain' (o:=o2_rvu) rfl rfl ?_
     unfold Oper.wp o2_rvu
     rw [run_load3 (E3 sv) XT.c0 XT.c1 XT.c2,Oper.upon_value]
     exact ⟨_,rfl,Below.refl _ _,rfl⟩
   | 3,ho =>
     obtain rfl:o3_rvu=o:=Option.some.inj ho
     cases hd
     have f9:sv 9=Value.agg #[.bool m.d.s,.slice m.d.A m.d.n m.d.c,.slice m.d.B m.d.m m.d.d]:=hf ⟨1,.data⟩ (by simp [o3_rvu]) rfl _ 9 rfl rfl (NE _ (by decide))
     have f10:sv 10=Value.agg #[.bool s_t,.slice A_t n_t c_t,.slice B_t m_t d_t]:=hf ⟨2,.data⟩ (by simp [o3_rvu]) rfl _ 10 rfl rfl (NE _ (by decide))
     refine wpOp_plain' (o:=o3_rvu) rfl rfl ?_
     unfold Oper.wp o3_rvu
     rw [rc_gesso_gessoref03_Div ((G sv 9 (by decide) (by decide)).trans f9) ((G sv 10 (by decide) (by decide)).trans f10) rfl,Oper.upon_enter]
     refine (rdiv3 M.cd.qy tq (by omega) (by omega) h0).mono ?_
     rintro e w1 ⟨s_,A_,n_,c_,B_,m_,d_,rfl,hq,hh⟩
     exact ⟨_,rfl,hh,s_,A_,n_,c_,B_,m_,d_,rfl,hq⟩
   | 4,ho =>
     obtain rfl:o4_rvu=o:=Option.some.inj ho
     cases hd
     refine wpOp_plain' (o:=o4_rvu) rfl rfl ?_
     unfold Oper.wp o4_rvu
     rw [run_fN1 (E1 sv),Oper.upon_value]
     exact ⟨_,rfl,Below.refl _ _,rfl⟩
   | 5,ho =>
     obtain rfl:o5_rvu=o:=Option.some.inj ho
     cases hd
     have f12:sv 12=Value.pointer (some ⟨gm,3,none⟩):=hf ⟨4,.data⟩ (by simp [o5_rvu]) rfl _ 12 rfl rfl (NE _ (by decide))
     refine wpOp_plain' (o:=o5_rvu) rfl rfl ?_
     unfold Oper.wp o5_rvu
     rw [run_loadN1 ((G sv 12 (by decide) (by decide)).trans f12) XA,Oper.upon_value]
     exact ⟨_,rfl,Below.refl _ _,rfl⟩
   | 6,ho =>
     obtain rfl:o6_rvu=o:=Option.some.inj ho
     cases hd
     have f13:sv 13=Value.agg #[.bool m.b.s,.slice m.b.A m.b.n m.b.c,.slice m.b.B m.b.m m.b.d]:=hf ⟨5,.data⟩ (by simp [o6_rvu]) rfl _ 13 rfl rfl (NE _ (by decide))
     refine wpOp_plain' (o:=o6_rvu) rfl rfl ?_
     unfold Oper.wp o6_rvu
     rw [rc__gesso_gessoref03_Rat__Minus ((G sv 13 (by decide) (by decide)).trans f13) rfl,Oper.upon_enter]
     refine (rminus3 M.ab.qy).mono ?_
     rintro e w1 ⟨s_,A_,n_,c_,B_,m_,d_,rfl,hq,hh⟩
     exact ⟨_,rfl,hh,s_,A_,n_,c_,B_,m_,d_,rfl,hq⟩
   | 7,ho =>
     obtain rfl:o7_rvu=o:=Option.some.inj ho
     cases hd
     refine wpOp_plain' (o:=o7_rvu) rfl rfl ?_
     unfold Oper.wp o7_rvu
     rw [run_load3 (E3 sv) XT.c0 XT.c1 XT.c2,Oper.upon_value]
     exact ⟨_,rfl,Below.refl _ _,rfl⟩
   | 8,ho =>
     obtain rfl:o8_rvu=o:=Option.some.inj ho
     cases hd
     have h14:VRQ (-v.b) (k) (sv 14) w':=hf ⟨6,.data⟩ (by simp [o8_rvu]) rfl _ 14 rfl rfl (NE _ (by decide))
     obtain ⟨s14_,A14_,n14_,c14_,B14_,m14_,d14_,f14,q14⟩:=h14
     have f15:sv 15=Value.agg #[.bool s_t,.slice A_t n_t c_t,.slice B_t m_t d_t]:=hf ⟨7,.data⟩ (by simp [o8_rvu]) rfl _ 15 rfl rfl (NE _ (by decide))
     refine wpOp_plain' (o:=o8_rvu) rfl rfl ?_
     unfold Oper.wp o8_rvu
     rw [rc_gesso_gessoref03_Div ((G sv 14 (by decide) (by decide)).trans f14) ((G sv 15 (by decide) (by decide)).trans f15) rfl,Oper.upon_enter]
     refine (rdiv3 q14 tq (by omega) (by omega) h0).mono ?_
     rintro e w1 ⟨s_,A_,n_,c_,B_,m_,d_,rfl,hq,hh⟩
     exact ⟨_,rfl,hh,s_,A_,n_,c_,B_,m_,d_,rfl,hq⟩
   | 9,ho =>
     obtain rfl:o9_rvu=o:=Option.some.inj ho
     cases hd
     refine wpOp_plain' (o:=o9_rvu) rfl rfl ?_
     unfold Oper.wp o9_rvu
     rw [run_fN2 (E1 sv),Oper.upon_value]
     exact ⟨_,rfl,Below.refl _ _,rfl⟩
   | 10,ho =>
     obtain rfl:o10_rvu=o:=Option.some.inj ho
     cases hd
     have f17:sv 17=Value.pointer (some ⟨gm,6,none⟩):=hf ⟨9,.data⟩ (by simp [o10_rvu]) rfl _ 17 rfl rfl (NE _ (by decide))
     refine wpOp_plain' (o:=o10_rvu) rfl rfl ?_
     unfold Oper.wp o10_rvu
     rw [run_loadN2 ((G sv 17 (by decide) (by decide)).trans f17) XA,Oper.upon_value]
     exact ⟨_,rfl,Below.refl _ _,rfl⟩
   | 11,ho =>
     obtain rfl:o11_rvu=o:=Option.some.inj ho
     cases hd
     have f18:sv 18=Value.agg #[.bool m.c.s,.slice m.c.A m.c.n m.c.c,.slice m.c.B m.c.m m.c.d]:=hf ⟨10,.data⟩ (by simp [o11_rvu]) rfl _ 18 rfl rfl (NE _ (by decide))
     refine wpOp_plain' (o:=o11_rvu) rfl rfl ?_
     unfold Oper.wp o11_rvu
     rw [rc__gesso_gessoref03_Rat__Minus ((G sv 18 (by decide) (by decide)).trans f18) rfl,Oper.upon_enter]
     refine (rminus3 M.cd.qx).mono ?_
     rintro e w1 ⟨s_,A_,n_,c_,B_,m_,d_,rfl,hq,hh⟩
     exact ⟨_,rfl,hh,s_,A_,n_,c_,B_,m_,d_,rfl,hq⟩
   | 12,ho =>
     obtain rfl:o12_rvu=o:=Option.some.inj ho
     cases hd
     refine wpOp_plain' (o:=o12_rvu) rfl rfl ?_
     unfold Oper.wp o12_rvu
     rw [run_load3 (E3 sv) XT.c0 XT.c1 XT.c2,Oper.upon_value]
     exact ⟨_,rfl,Below.refl _ _,rfl⟩
   | 13,ho =>
     obtain rfl:o13_rvu=o:=Option.some.inj ho
     cases hd
     have h19:VRQ (-v.c) (k) (sv 19) w':=hf ⟨11,.data⟩ (by simp [o13_rvu]) rfl _ 19 rfl rfl (NE _ (by decide))
     obtain ⟨s19_,A19_,n19_,c19_,B19_,m19_,d19_,f19,q19⟩:=h19
     have f20:sv 20=Value.agg #[.bool s_t,.slice A_t n_t c_t,.slice B_t m_t d_t]:=hf ⟨12,.data⟩ (by simp [o13_rvu]) rfl _ 20 rfl rfl (NE _ (by decide))
     refine wpOp_plain' (o:=o13_rvu) rfl rfl ?_
     unfold Oper.wp o13_rvu
     rw [rc_gesso_gessoref03_Div ((G sv 19 (by decide) (by decide)).trans f19) ((G sv 20 (by decide) (by decide)).trans f20) rfl,Oper.upon_enter]
     refine (rdiv3 q19 tq (by omega) (by omega) h0).mono ?_
     rintro e w1 ⟨s_,A_,n_,c_,B_,m_,d_,rfl,hq,hh⟩
     exact ⟨_,rfl,hh,s_,A_,n_,c_,B_,m_,d_,rfl,hq⟩
   | 14,ho =>
     obtain rfl:o14_rvu=o:=Option.some.inj ho
     cases hd
     refine wpOp_plain' (o:=o14_rvu) rfl rfl ?_
     unfold Oper.wp o14_rvu
     rw [run_fN0 (E1 sv),Oper.upon_value]
     exact ⟨_,rfl,Below.refl _ _,rfl⟩
   | 15,ho =>
     obtain rfl:o15_rvu=o:=Option.some.inj ho
     cases hd
     have f22:sv 22=Value.pointer (some ⟨gm,0,none⟩):=hf ⟨14,.data⟩ (by simp [o15_rvu]) rfl _ 22 rfl rfl (NE _ (by decide))
     refine wpOp_plain' (o:=o15_rvu) rfl rfl ?_
     unfold Oper.wp o15_rvu
     rw [run_loadN0 ((G sv 22 (by decide) (by decide)).trans f22) XA,Oper.upon_value]
     exact ⟨_,rfl,Below.refl _ _,rfl⟩
   | 16,ho =>
     obtain rfl:o16_rvu=o:=Option.some.inj ho
     cases hd
     refine wpOp_plain' (o:=o16_rvu) rfl rfl ?_
     unfold Oper.wp o16_rvu
     rw [run_load3 (E3 sv) XT.c0 XT.c1 XT.c2,Oper.upon_value]
     exact ⟨_,rfl,Below.refl _ _,rfl⟩
   | 17,ho =>
     obtain rfl:o17_rvu=o:=Option.some.inj ho
     cases hd
     have f23:sv 23=Value.agg #[.bool m.a.s,.slice m.a.A m.a.n m.a.c,.slice m.a.B m.a.m m.a.d]:=hf ⟨15,.data⟩ (by simp [o17_rvu]) rfl _ 23 rfl rfl (NE _ (by decide))
     have f24:sv 24=Value.agg #[.bool s_t,.slice A_t n_t c_t,.slice B_t m_t d_t]:=hf ⟨16,.data⟩ (by simp [o17_rvu]) rfl _ 24 rfl rfl (NE _ (by decide))
     refine wpOp_plain' (o:=o17_rvu) rfl rfl ?_
     unfold Oper.wp o17_rvu
     rw [rc_gesso_gessoref03_Div ((G sv 23 (by decide) (by decide)).trans f23) ((G sv 24 (by decide) (by decide)).trans f24) rfl,Oper.upon_enter]
     refine (rdiv3 M.ab.qx tq (by omega) (by omega) h0).mono ?_
     rintro e w1 ⟨s_,A_,n_,c_,B_,m_,d_,rfl,hq,hh⟩
     exact ⟨_,rfl,hh,s_,A_,n_,c_,B_,m_,d_,rfl,hq⟩
   | 18,ho =>
     obtain rfl:o18_rvu=o:=Option.some.inj ho
     cases hd
     refine wpOp_plain' (o:=o18_rvu) rfl rfl ?_
     unfold Oper.wp o18_rvu
     rw [rc_gesso_gessoref03_Of (show (putAll ac L_rvu sv).eval (.const (Value.int IntKind.i64 0))=(Value.int IntKind.i64 0) from rfl) (show (putAll ac L_rvu sv).eval (.const (Value.int IntKind.i64 1))=(Value.int IntKind.i64 1) from rfl) rfl,Oper.upon_enter]
     refine (rof3 0 1 (by decide) (by decide) (by decide) (by decide) (by decide) _).mono ?_
     rintro e w1 ⟨s_,A_,n_,c_,B_,m_,d_,rfl,hq,hh⟩
     exact ⟨_,rfl,hh,s_,A_,n_,c_,B_,m_,d_,rfl,hq⟩
   | 19,ho =>
     obtain rfl:o19_rvu=o:=Option.some.inj ho
     cases hd
     refine wpOp_plain' (o:=o19_rvu) rfl rfl ?_
     unfold Oper.wp o19_rvu
     rw [rc_gesso_gessoref03_Of (show (putAll ac L_rvu sv).eval (.const (Value.int IntKind.i64 0))=(Value.int IntKind.i64 0) from rfl) (show (putAll ac L_rvu sv).eval (.const (Value.int IntKind.i64 1))=(Value.int IntKind.i64 1) from rfl) rfl,Oper.upon_enter]
     refine (rof3 0 1 (by decide) (by decide) (by decide) (by decide) (by decide) _).mono ?_
     rintro e w1 ⟨s_,A_,n_,c_,B_,m_,d_,rfl,hq,hh⟩
     exact ⟨_,rfl,hh,s_,A_,n_,c_,B_,m_,d_,rfl,hq⟩
   | 20,ho =>
     obtain rfl:o20_rvu=o:=Option.some.inj ho
     cases hd
     have h11:VRQ (v.d / v.det) (k+kt) (sv 11) w':=hf ⟨3,.data⟩ (by simp [o20_rvu]) rfl _ 11 rfl rfl (NE _ (by decide))
     obtain ⟨s11_,A11_,n11_,c11_,B11_,m11_,d11_,f11,q11⟩:=h11
     have h16:VRQ (-v.b / v.det) (k+kt) (sv 16) w':=hf ⟨8,.data⟩ (by simp [o20_rvu]) rfl _ 16 rfl rfl (NE _ (by decide))
     obtain ⟨s16_,A16_,n16_,c16_,B16_,m16_,d16_,f16,q16⟩:=h16
     have h21:VRQ (-v.c / v.det) (k+kt) (sv 21) w':=hf ⟨13,.data⟩ (by simp [o20_rvu]) rfl _ 21 rfl rfl (NE _ (by decide))
     obtain ⟨s21_,A21_,n21_,c21_,B21_,m21_,d21_,f21,q21⟩:=h21
     have h25:VRQ (v.a / v.det) (k+kt) (sv 25) w':=hf ⟨17,.data⟩ (by simp [o20_rvu]) rfl _ 25 rfl rfl (NE _ (by decide))
     obtain ⟨s25_,A25_,n25_,c25_,B25_,m25_,d25_,f25,q25⟩:=h25
     have h26:VRQ (Rat.divInt 0 1) (2) (sv 26) w':=hf ⟨18,.data⟩ (by simp [o20_rvu]) rfl _ 26 rfl rfl (NE _ (by decide))
     obtain ⟨s26_,A26_,n26_,c26_,B26_,m26_,d26_,f26,q26⟩:=h26
     have h27:VRQ (Rat.divInt 0 1) (2) (sv 27) w':=hf ⟨19,.data⟩ (by simp [o20_rvu]) rfl _ 27 rfl rfl (NE _ (by decide))
     obtain ⟨s27_,A27_,n27_,c27_,B27_,m27_,d27_,f27,q27⟩:=h27
     refine wpOp_plain' (o:=o20_rvu) rfl rfl ?_
     unfold Oper.wp o20_rvu
     rw [run_buildN ((G sv 11 (by decide) (by decide)).trans f11) ((G sv 16 (by decide) (by decide)).trans f16) ((G sv 21 (by decide) (by decide)).trans f21) ((G sv 25 (by decide) (by decide)).trans f25) ((G sv 26 (by decide) (by decide)).trans f26) ((G sv 27 (by decide) (by decide)).trans f27) ,Oper.upon_value]
     exact ⟨_,rfl,Below.refl _ _,⟨⟨s11_,A11_,n11_,c11_,B11_,m11_,d11_⟩,⟨s16_,A16_,n16_,c16_,B16_,m16_,d16_⟩,⟨s21_,A21_,n21_,c21_,B21_,m21_,d21_⟩,⟨s25_,A25_,n25_,c25_,B25_,m25_,d25_⟩,⟨s26_,A26_,n26_,c26_,B26_,m26_,d26_⟩,⟨s27_,A27_,n27_,c27_,B27_,m27_,d27_⟩⟩,rfl,⟨q11,q16⟩,⟨q21,q25⟩,⟨q26.more h2,q27.more h2⟩⟩
   | 21,ho=>cases ho;cases hd;exact absurd rfl (hia (B0_rvu v k kt) (List.Mem.head _))
   | 22,ho=>cases ho;cases hd
   | i+23,ho=>cases ho
 · intro p hp os sv w' g hos J0 p1 p3 hf
   simp only [List.mem_cons,List.not_mem_nil,or_false] at hp
   rcases hp with rfl
   · obtain rfl:o22_rvu=os:=Option.some.inj hos
     have h1:VRM (v.rundo) (k+kt) (k+kt) (sv 28) w':=hf ⟨20,.data⟩ (by simp [o22_rvu]) rfl _ 28 rfl rfl (NE _ (by decide))
     rw [← G sv 28 (by decide) (by decide)] at h1
     refine store_rm (v:=v.rundo) (k:=k+kt) (l:=k+kt) (ac:=putAll ac L_rvu sv) (z:=.tmp 28) ?_ ?_ ?_
     · exact (G sv 4 (by decide) (by decide)).trans p1
     · exact h1
     · exact p3
 · intro sv w' J0 hF hB hap
   obtain ⟨g0,cs0,p0,r0,b0,⟨u0,rfl,h0⟩⟩:=hB (B0_rvu v k kt) (List.Mem.head _)
   have p0':sv 4=.pointer (some ⟨g0,0,none⟩):=p0
   exact hend sv w' g0 _ h0 b0.at_ r0 p0'   J0
end Go.Proofs.YtgneghgfpkkkdaaGreat
