/- AreaHalves: part 16. -/
import Derived.Test.YtlogpjeoapeojaaGreatKAreaHalves15
set_option linter.unusedVariables false
set_option maxRecDepth 100000
set_option maxHeartbeats 16000000
variable {w:Go.World}
variable {s_a t_a:Bool} {A_a B_a E_a F_a:Option Go.Addr} {n_a c_a m_a d_a i_a e_a j_a f_a:Nat}
variable {s_b t_b:Bool} {A_b B_b E_b F_b:Option Go.Addr} {n_b c_b m_b d_b i_b e_b j_b f_b:Nat}
variable {s_p t_p:Bool} {A_p B_p E_p F_p:Option Go.Addr} {n_p c_p m_p d_p i_p e_p j_p f_p:Nat}
variable {s_q t_q:Bool} {A_q B_q E_q F_q:Option Go.Addr} {n_q c_q m_q d_q i_q e_q j_q f_q:Nat}
namespace Go.Proofs.YtlogpjeoapeojaaGreat
section
open Go Go.RowKit
theorem run_ixp {e1:Operand→Value} {d1:Option Tmp} {y1:Nat} {pos:String} {af:Array Edge} {x1 x2:Operand} {A:Option Addr} {n c g o:Nat} {M:Int} (h:e1 x1=.slice A n c) (h2:e1 x2=.int .i64 M) (hx:∀ w',(Instr.indexAt 22 (.slice A n c) (.int .i64 M)).run Tryz.prog w'=.ok (.pointer (some ⟨g,o,none⟩)) w') :
 (execOp e1 ⟨d1,.indexAddr 22 x1 x2,y1,pos,af,none⟩).run Tryz.prog w=.ok (.value (.pointer (some ⟨g,o,none⟩))) w:=by
 have h1:=hx w
 go_simp
theorem run_ldp {e1:Operand→Value} {d1:Option Tmp} {y1:Nat} {pos:String} {af:Array Edge} {x1:Operand} {g o:Nat} {p:PV} (h:e1 x1=.pointer (some ⟨g,o,none⟩)) (E:E6x w g o p) :
 (execOp e1 ⟨d1,.load 29 x1,y1,pos,af,none⟩).run Tryz.prog w=.ok (.value (.agg #[.bool p.s,.slice p.A p.n p.c,.slice p.B p.m p.d,.bool p.t,.slice p.E p.i p.e,.slice p.F p.j p.f])) w:=by
 obtain ⟨e0,e1,e2,e3,e4,e5⟩:=E.all
 go_simp
theorem run_add1 {e1:Operand→Value} {d1:Option Tmp} {y1:Nat} {pos:String} {af:Array Edge} {x1:Operand} {M:Int} (h:e1 x1=.int .i64 M) (hc:e1 (.const (Value.int IntKind.i64 1))=.int .i64 1) (hw:IntKind.i64.wrap (M+1)=M+1) :
 (execOp e1 ⟨d1,.binOp BinOp.add 3 x1 (.const (Value.int IntKind.i64 1)) 3,y1,pos,af,none⟩).run Tryz.prog w=.ok (.value (.int .i64 (M+1))) w:=by
 go_simp
def lowsW (r:List (Rat × Rat)):Nat→Nat
 | 0=>0
 | m+1=>lowsW r m+if (r.getD m (0,0)).2 < 0∧¬ (r.getD (m+1) (0,0)).2 < 0 then 1 else 0
theorem lowsW_le (r:List (Rat × Rat)) (m:Nat):lowsW r m≤m:=by
 induction m with
 | zero=>exact Nat.le_refl _
 | succ m ih=>rw [lowsW];split <;> omega
theorem lowsW_at {r:List (Rat × Rat)} {m:Nat} {u v:Rat × Rat} (hu:r[m]?=some u) (hv:r[m+1]?=some v):lowsW r (m+1)=lowsW r m+if u.2 < 0∧¬ v.2 < 0 then 1 else 0:=by
 rw [lowsW,List.getD_eq_getElem?_getD,List.getD_eq_getElem?_getD,hu,hv];rfl
def ConvQ (l:List (Rat × Rat)):Prop:=(∀ (i:Nat) (u v:Rat × Rat),(ringL (waysL l))[i]?=some u→(ringL (waysL l))[i+1]?=some v→LeftV u.1 u.2 v.1 v.2)∧lowsW (ringL (waysL l)) l.length=1
abbrev L_conv5:List Nat:=[16,17,18,19,20,21,22,23,24,6,7]
def o0_conv5:Oper:=⟨some 16,.move (.tmp 3),22, "convex.go:18",#[],none⟩
def o1_conv5:Oper:=⟨some 17,.move (.tmp 5),3, "convex.go:18",#[],none⟩
def o2_conv5:Oper:=⟨some 18,.indexAddr 22 (.tmp 16) (.tmp 17),0, "convex.go:18",#[⟨0,.data⟩,⟨1,.data⟩],none⟩
def o3_conv5:Oper:=⟨some 19,.load 29 (.tmp 18),29, "convex.go:18",#[⟨2,.data⟩],none⟩
def o4_conv5:Oper:=⟨some 20,.move (.tmp 3),22, "convex.go:18",#[⟨11,.gcOnly .lateStores⟩],none⟩
def o5_conv5:Oper:=⟨some 21,.move (.tmp 5),3, "convex.go:18",#[⟨11,.gcOnly .lateStores⟩],none⟩
def o6_conv5:Oper:=⟨some 22,.binOp BinOp.add 3 (.tmp 21) (.const (Value.int IntKind.i64 1)) 3,3, "convex.go:18",#[⟨5,.data⟩,⟨11,.gcOnly .lateStores⟩],none⟩
def o7_conv5:Oper:=⟨some 23,.indexAddr 22 (.tmp 20) (.tmp 22),0, "convex.go:18",#[⟨4,.data⟩,⟨6,.data⟩,⟨11,.gcOnly .lateStores⟩],none⟩
def o8_conv5:Oper:=⟨some 24,.load 29 (.tmp 23),29, "convex.go:18",#[⟨7,.data⟩,⟨11,.gcOnly .lateStores⟩],none⟩
def o9_conv5:Oper:=⟨some 6,.alloc 29,0, "convex.go:18",#[],none⟩
def o10_conv5:Oper:=⟨some 7,.alloc 29,0, "convex.go:18",#[],none⟩
def o11_conv5:Oper:=⟨none,.store 29 (.tmp 6) (.tmp 19),0, "convex.go:18",#[⟨9,.data⟩,⟨3,.data⟩,⟨0,.phase⟩,⟨1,.phase⟩,⟨2,.phase⟩,⟨3,.phase⟩,⟨4,.textOnly .lateStores⟩,⟨5,.textOnly .lateStores⟩,⟨6,.textOnly .lateStores⟩,⟨7,.textOnly .lateStores⟩,⟨8,.textOnly .lateStores⟩,⟨9,.phase⟩,⟨10,.phase⟩],none⟩
def o12_conv5:Oper:=⟨none,.store 29 (.tmp 7) (.tmp 24),0, "convex.go:18",#[⟨10,.data⟩,⟨8,.data⟩,⟨11,.chain⟩,⟨0,.phase⟩,⟨1,.phase⟩,⟨2,.phase⟩,⟨3,.phase⟩,⟨4,.phase⟩,⟨5,.phase⟩,⟨6,.phase⟩,⟨7,.phase⟩,⟨8,.phase⟩,⟨9,.phase⟩,⟨10,.phase⟩,⟨11,.phase⟩],none⟩
def F_conv5 (A1:Option Addr) (N1:Nat) (c1:Nat) (m:Nat) (g0:Nat) (o0:Nat) (g1:Nat) (o1:Nat) (s_p:Bool) (t_p:Bool) (A_p:Option Addr) (B_p:Option Addr) (E_p:Option Addr) (F_p:Option Addr) (n_p:Nat) (c_p:Nat) (m_p:Nat) (d_p:Nat) (i_p:Nat) (e_p:Nat) (j_p:Nat) (f_p:Nat) (s_q:Bool) (t_q:Bool) (A_q:Option Addr) (B_q:Option Addr) (E_q:Option Addr) (F_q:Option Addr) (n_q:Nat) (c_q:Nat) (m_q:Nat) (d_q:Nat) (i_q:Nat) (e_q:Nat) (j_q:Nat) (f_q:Nat) (sl:Nat):Value→World→Prop :=
 match sl with
 | 16=>fun x _=>x=Value.slice A1 N1 c1
 | 17=>fun x _=>x=Value.int .i64 (m:Int)
 | 18=>fun x _=>x=Value.pointer (some ⟨g0,o0,none⟩)
 | 19=>VK (#[.bool s_p,.slice A_p n_p c_p,.slice B_p m_p d_p,.bool t_p,.slice E_p i_p e_p,.slice F_p j_p f_p])
 | 20=>fun x _=>x=Value.slice A1 N1 c1
 | 21=>fun x _=>x=Value.int .i64 (m:Int)
 | 22=>fun x _=>x=Value.int .i64 ((m:Int)+1)
 | 23=>fun x _=>x=Value.pointer (some ⟨g1,o1,none⟩)
 | 24=>VK (#[.bool s_q,.slice A_q n_q c_q,.slice B_q m_q d_q,.bool t_q,.slice E_q i_q e_q,.slice F_q j_q f_q])
 | _=>fun _ _=>True
def B0_conv5 (s_p:Bool) (t_p:Bool) (A_p:Option Addr) (B_p:Option Addr) (E_p:Option Addr) (F_p:Option Addr) (n_p:Nat) (c_p:Nat) (m_p:Nat) (d_p:Nat) (i_p:Nat) (e_p:Nat) (j_p:Nat) (f_p:Nat):BoxOp :=
 ⟨9,11,6,29,#[.bool false,.slice none 0 0,.slice none 0 0,.bool false,.slice none 0 0,.slice none 0 0],fun cs _=>cs=#[.bool s_p,.slice A_p n_p c_p,.slice B_p m_p d_p,.bool t_p,.slice E_p i_p e_p,.slice F_p j_p f_p]⟩
def B1_conv5 (s_q:Bool) (t_q:Bool) (A_q:Option Addr) (B_q:Option Addr) (E_q:Option Addr) (F_q:Option Addr) (n_q:Nat) (c_q:Nat) (m_q:Nat) (d_q:Nat) (i_q:Nat) (e_q:Nat) (j_q:Nat) (f_q:Nat):BoxOp :=
 ⟨10,12,7,29,#[.bool false,.slice none 0 0,.slice none 0 0,.bool false,.slice none 0 0,.slice none 0 0],fun cs _=>cs=#[.bool s_q,.slice A_q n_q c_q,.slice B_q m_q d_q,.bool t_q,.slice E_q i_q e_q,.slice F_q j_q f_q]⟩
theorem conv5_region {id:Nat} {ac:Act} {Q:Exit→Act→World→Prop} {A1:Option Addr} {N1 c1 m g0 o0 g1 o1:Nat} 
 (hsz:24 < ac.tmps.size) (e3:ac.eval (.tmp 3)=Value.slice A1 N1 c1) (e5:ac.eval (.tmp 5)=Value.int .i64 (m:Int)) (Ep:E6x w g0 o0 (PV.mk s_p A_p n_p c_p B_p m_p d_p t_p E_p i_p e_p F_p j_p f_p)) (Eq:E6x w g1 o1 (PV.mk s_q A_q n_q c_q B_q m_q d_q t_q E_q i_q e_q F_q j_q f_q)) (hixa:∀ w',(Instr.indexAt 22 (.slice A1 N1 c1) (.int .i64 (m:Int))).run Tryz.prog w'=.ok (.pointer (some ⟨g0,o0,none⟩)) w') (hixb:∀ w',(Instr.indexAt 22 (.slice A1 N1 c1) (.int .i64 ((m:Int)+1))).run Tryz.prog w'=.ok (.pointer (some ⟨g1,o1,none⟩)) w') (hwr:IntKind.i64.wrap ((m:Int)+1)=(m:Int)+1)
 (hend:∀ (V:Nat→Value) (w':World) (g0:Nat) (g1:Nat),B6 w' g0 (.bool s_p) (.slice A_p n_p c_p) (.slice B_p m_p d_p) (.bool t_p) (.slice E_p i_p e_p) (.slice F_p j_p f_p)→w.heap.size≤g0→V 6=.pointer (some ⟨g0,0,none⟩)→B6 w' g1 (.bool s_q) (.slice A_q n_q c_q) (.slice B_q m_q d_q) (.bool t_q) (.slice E_q i_q e_q) (.slice F_q j_q f_q)→w.heap.size≤g1→V 7=.pointer (some ⟨g1,0,none⟩)→g1 ≠ g0→Below w.heap.size w w'→Q .normal (putAll ac [16,17,18,19,20,21,22,23,24,6,7] V) w') :
 (Code.region id #[o0_conv5,o1_conv5,o2_conv5,o3_conv5,o4_conv5,o5_conv5,o6_conv5,o7_conv5,o8_conv5,o9_conv5,o10_conv5,o11_conv5,o12_conv5] true).wp Tryz.prog Q ac w:=by
 have hnd:L_conv5.Nodup:=by decide
 have G:∀ (sv:Nat→Value) (t:Nat),t ∈ L_conv5→t≤24→(putAll ac L_conv5 sv).eval (.tmp t)=sv t:=fun sv t ht h=>eval_putAll_mem (t:=t) L_conv5 ac hnd ht (Nat.lt_of_le_of_lt h hsz)
 have E3:∀ sv:Nat→Value,(putAll ac L_conv5 sv).eval (.tmp 3)=Value.slice A1 N1 c1:=fun sv=>(eval_putAll_not (v:=sv) L_conv5 ac (show 3 ∉ _ by decide)).trans e3
 have E5:∀ sv:Nat→Value,(putAll ac L_conv5 sv).eval (.tmp 5)=Value.int .i64 (m:Int):=fun sv=>(eval_putAll_not (v:=sv) L_conv5 ac (show 5 ∉ _ by decide)).trans e5
 have NE:∀ t:Nat,(t ≠ 6∧t ≠ 7)→∀ p ∈ [B0_conv5 s_p t_p A_p B_p E_p F_p n_p c_p m_p d_p i_p e_p j_p f_p,B1_conv5 s_q t_q A_q B_q E_q F_q n_q c_q m_q d_q i_q e_q j_q f_q],t ≠ p.tA:=by
  intro t ht p hp
  simp only [List.mem_cons,List.not_mem_nil,or_false] at hp
  rcases hp with rfl | rfl
  · exact ht.1
  · exact ht.2
 refine wp_region_flowsT L_conv5 [B0_conv5 s_p t_p A_p B_p E_p F_p n_p c_p m_p d_p i_p e_p j_p f_p,B1_conv5 s_q t_q A_q B_q E_q F_q n_q c_q m_q d_q i_q e_q j_q f_q] (F_conv5 A1 N1 c1 m g0 o0 g1 o1 s_p t_p A_p B_p E_p F_p n_p c_p m_p d_p i_p e_p j_p f_p s_q t_q A_q B_q E_q F_q n_q c_q m_q d_q i_q e_q j_q f_q) (by kernel_rfl) (by kernel_rfl) rfl hnd ?_ ?_ ?_ ?_ ?_ ?_ ?_ ?_
 · intro p hp
   simp only [List.mem_cons,List.not_mem_nil,or_false] at hp
   rcases hp with rfl | rfl
   · refine ⟨⟨o9_conv5,rfl,rfl,rfl,fun e w'=>run_alloc6⟩,⟨o11_conv5,rfl,rfl,rfl,⟨9,.data⟩,by simp [o11_conv5],rfl,rfl⟩,free6 _ _ _ _ _ _ _ _ _ _ _ _ _ _,?_,?_⟩
     · rintro cs w1 w2 rfl hb;rfl
     · rintro T cs w1 w2 g c0 rfl hB ho;rfl
   · refine ⟨⟨o10_conv5,rfl,rfl,rfl,fun e w'=>run_alloc6⟩,⟨o12_conv5,rfl,rfl,rfl,⟨10,.data⟩,by simp [o12_conv5],rfl,rfl⟩,free6 _ _ _ _ _ _ _ _ _ _ _ _ _ _,?_,?_⟩
     · rintro cs w1 w2 rfl hb;rfl
     · rintro T cs w1 w2 g c0 rfl hB ho;rfl
 · intro p hp q hq h
   simp only [List.mem_cons,List.not_mem_nil,or_false] at hp hq
   rcases hp with rfl | rfl <;> rcases hq with rfl | rfl
   · rfl
   · exact absurd (show (6:Nat)=7 from h) (by decide)
   · exact absurd (show (7:Nat)=6 from h) (by decide)
   · rfl
 · intro p hp q hq h
   simp only [List.mem_cons,List.not_mem_nil,or_false] at hp hq
   rcases hp with rfl | rfl <;> rcases hq with rfl | rfl
   · rfl
   · exact absurd (show (11:Nat)=12 from h) (by decide)
   · exact absurd (show (12:Nat)=11 from h) (by decide)
   · rfl
 · intro i o h1 h2
   match i,h1 with
   | 0,h1=>cases h1;cases h2
   | 1,h1=>cases h1;cases h2
   | 2,h1=>cases h1;cases h2
   | 3,h1=>cases h1;cases h2
   | 4,h1=>cases h1;cases h2
   | 5,h1=>cases h1;cases h2
   | 6,h1=>cases h1;cases h2
   | 7,h1=>cases h1;cases h2
   | 8,h1=>cases h1;cases h2
   | 9,h1=>cases h1;cases h2
   | 10,h1=>cases h1;cases h2
   | 11,h1=>exact ⟨B0_conv5 s_p t_p A_p B_p E_p F_p n_p c_p m_p d_p i_p e_p j_p f_p,List.Mem.head _,rfl⟩
   | 12,h1=>exact ⟨B1_conv5 s_q t_q A_q B_q E_q F_q n_q c_q m_q d_q i_q e_q j_q f_q,List.Mem.tail _ (List.Mem.head _),rfl⟩
   | i+13,h1=>cases h1
 · intro t
   unfold F_conv5
   split <;> first | exact (stays_eq _).inn _ | exact (stays_q _ _).inn _ | exact (stays_z _ _).inn _ | exact (stays_r _ _).inn _ | exact (stays_rq _ _).inn _ | exact (stays_pg _ _ _).inn _ | exact (stays_true).inn _ | exact (stays_k _).inn _
 · intro i o t sv w' ho hia hd J0 hf
   have Ep:=Ep.below J0;have Eq:=Eq.below J0
   match i,ho with
   | 0,ho =>
     obtain rfl:o0_conv5=o:=Option.some.inj ho
     cases hd
     refine wpOp_plain' (o:=o0_conv5) rfl rfl ?_
     unfold Oper.wp o0_conv5
     rw [run_move (E3 sv),Oper.upon_value]
     exact ⟨_,rfl,Below.refl _ _,rfl⟩
   | 1,ho =>
     obtain rfl:o1_conv5=o:=Option.some.inj ho
     cases hd
     refine wpOp_plain' (o:=o1_conv5) rfl rfl ?_
     unfold Oper.wp o1_conv5
     rw [run_move (E5 sv),Oper.upon_value]
     exact ⟨_,rfl,Below.refl _ _,rfl⟩
   | 2,ho =>
     obtain rfl:o2_conv5=o:=Option.some.inj ho
     cases hd
     have f16:sv 16=Value.slice A1 N1 c1:=hf ⟨0,.data⟩ (by simp [o2_conv5]) rfl _ 16 rfl rfl (NE _ (by decide))
     have f17:sv 17=Value.int .i64 (m:Int):=hf ⟨1,.data⟩ (by simp [o2_conv5]) rfl _ 17 rfl rfl (NE _ (by decide))
     refine wpOp_plain' (o:=o2_conv5) rfl rfl ?_
     unfold Oper.wp o2_conv5
     rw [run_ixp ((G sv 16 (by decide) (by decide)).trans f16) ((G sv 17 (by decide) (by decide)).trans f17) hixa,Oper.upon_value]
     exact ⟨_,rfl,Below.refl _ _,rfl⟩
   | 3,ho =>
     obtain rfl:o3_conv5=o:=Option.some.inj ho
     cases hd
     have f18:sv 18=Value.pointer (some ⟨g0,o0,none⟩):=hf ⟨2,.data⟩ (by simp [o3_conv5]) rfl _ 18 rfl rfl (NE _ (by decide))
     refine wpOp_plain' (o:=o3_conv5) rfl rfl ?_
     unfold Oper.wp o3_conv5
     rw [run_ldp ((G sv 18 (by decide) (by decide)).trans f18) Ep,Oper.upon_value]
     exact ⟨_,rfl,Below.refl _ _,rfl⟩
   | 4,ho =>
     obtain rfl:o4_conv5=o:=Option.some.inj ho
     cases hd
     refine wpOp_plain' (o:=o4_conv5) rfl rfl ?_
     unfold Oper.wp o4_conv5
     rw [run_move (E3 sv),Oper.upon_value]
     exact ⟨_,rfl,Below.refl _ _,rfl⟩
   | 5,ho =>
     obtain rfl:o5_conv5=o:=Option.some.inj ho
     cases hd
     refine wpOp_plain' (o:=o5_conv5) rfl rfl ?_
     unfold Oper.wp o5_conv5
     rw [run_move (E5 sv),Oper.upon_value]
     exact ⟨_,rfl,Below.refl _ _,rfl⟩
   | 6,ho =>
     obtain rfl:o6_conv5=o:=Option.some.inj ho
     cases hd
     have f21:sv 21=Value.int .i64 (m:Int):=hf ⟨5,.data⟩ (by simp [o6_conv5]) rfl _ 21 rfl rfl (NE _ (by decide))
     refine wpOp_plain' (o:=o6_conv5) rfl rfl ?_
     unfold Oper.wp o6_conv5
     rw [run_add1 ((G sv 21 (by decide) (by decide)).trans f21) (show (putAll ac L_conv5 sv).eval (.const (Value.int IntKind.i64 1))=(Value.int IntKind.i64 1) from rfl) hwr,Oper.upon_value]
     exact ⟨_,rfl,Below.refl _ _,rfl⟩
   | 7,ho =>
     obtain rfl:o7_conv5=o:=Option.some.inj ho
     cases hd
     have f20:sv 20=Value.slice A1 N1 c1:=hf ⟨4,.data⟩ (by simp [o7_conv5]) rfl _ 20 rfl rfl (NE _ (by decide))
     have f22:sv 22=Value.int .i64 ((m:Int)+1):=hf ⟨6,.data⟩ (by simp [o7_conv5]) rfl _ 22 rfl rfl (NE _ (by decide))
     refine wpOp_plain' (o:=o7_conv5) rfl rfl ?_
     unfold Oper.wp o7_conv5
     rw [run_ixp ((G sv 20 (by decide) (by decide)).trans f20) ((G sv 22 (by decide) (by decide)).trans f22) hixb,Oper.upon_value]
     exact ⟨_,rfl,Below.refl _ _,rfl⟩
   | 8,ho =>
     obtain rfl:o8_conv5=o:=Option.some.inj ho
     cases hd
     have f23:sv 23=Value.pointer (some ⟨g1,o1,none⟩):=hf ⟨7,.data⟩ (by simp [o8_conv5]) rfl _ 23 rfl rfl (NE _ (by decide))
     refine wpOp_plain' (o:=o8_conv5) rfl rfl ?_
     unfold Oper.wp o8_conv5
     rw [run_ldp ((G sv 23 (by decide) (by decide)).trans f23) Eq,Oper.upon_value]
     exact ⟨_,rfl,Below.refl _ _,rfl⟩
   | 9,ho=>cases ho;cases hd;exact absurd rfl (hia (B0_conv5 s_p t_p A_p B_p E_p F_p n_p c_p m_p d_p i_p e_p j_p f_p) (List.Mem.head _))
   | 10,ho=>cases ho;cases hd;exact absurd rfl (hia (B1_conv5 s_q t_q A_q B_q E_q F_q n_q c_q m_q d_q i_q e_q j_q f_q) (List.Mem.tail _ (List.Mem.head _)))
   | 11,ho=>cases ho;cases hd
   | 12,ho=>cases ho;cases hd
   | i+13,ho=>cases ho
 · intro p hp os sv w' g hos J0 p1 p3 hf
   simp only [List.mem_cons,List.not_mem_nil,or_false] at hp
   rcases hp with rfl | rfl
   · obtain rfl:o11_conv5=os:=Option.some.inj hos
     have h1:VK (#[.bool s_p,.slice A_p n_p c_p,.slice B_p m_p d_p,.bool t_p,.slice E_p i_p e_p,.slice F_p j_p f_p]) (sv 19) w':=hf ⟨3,.data⟩ (by simp [o11_conv5]) rfl _ 19 rfl rfl (NE _ (by decide))
     rw [← G sv 19 (by decide) (by decide)] at h1
     refine store_k  (ac:=putAll ac L_conv5 sv) (z:=.tmp 19) ?_ ?_ ?_
     · exact (G sv 6 (by decide) (by decide)).trans p1
     · exact h1
     · exact p3
   · obtain rfl:o12_conv5=os:=Option.some.inj hos
     have h1:VK (#[.bool s_q,.slice A_q n_q c_q,.slice B_q m_q d_q,.bool t_q,.slice E_q i_q e_q,.slice F_q j_q f_q]) (sv 24) w':=hf ⟨8,.data⟩ (by simp [o12_conv5]) rfl _ 24 rfl rfl (NE _ (by decide))
     rw [← G sv 24 (by decide) (by decide)] at h1
     refine store_k  (ac:=putAll ac L_conv5 sv) (z:=.tmp 24) ?_ ?_ ?_
     · exact (G sv 7 (by decide) (by decide)).trans p1
     · exact h1
     · exact p3
 · intro sv w' J0 hF hB hap
   obtain ⟨g0,cs0,p0,r0,b0,rfl⟩:=hB (B0_conv5 s_p t_p A_p B_p E_p F_p n_p c_p m_p d_p i_p e_p j_p f_p) (List.Mem.head _)
   obtain ⟨g1,cs1,p1,r1,b1,rfl⟩:=hB (B1_conv5 s_q t_q A_q B_q E_q F_q n_q c_q m_q d_q i_q e_q j_q f_q) (List.Mem.tail _ (List.Mem.head _))
   have p0':sv 6=.pointer (some ⟨g0,0,none⟩):=p0
   have p1':sv 7=.pointer (some ⟨g1,0,none⟩):=p1
   exact hend sv w' g0 g1 b0.at_ r0 p0' b1.at_ r1 p1' (fun q=>hap (B1_conv5 s_q t_q A_q B_q E_q F_q n_q c_q m_q d_q i_q e_q j_q f_q) (List.Mem.tail _ (List.Mem.head _)) (B0_conv5 s_p t_p A_p B_p E_p F_p n_p c_p m_p d_p i_p e_p j_p f_p) (List.Mem.head _) (show (7:Nat) ≠ 6 by decide) (by rw [show (B1_conv5 s_q t_q A_q B_q E_q F_q n_q c_q m_q d_q i_q e_q j_q f_q).tA=7 from rfl,show (B0_conv5 s_p t_p A_p B_p E_p F_p n_p c_p m_p d_p i_p e_p j_p f_p).tA=6 from rfl,p1',p0',q]))   J0
theorem convex_p {A:Option Addr} {n c k:Nat} {L:List PV} {l:List (Rat × Rat)} (hL:SV w A (pvs L)) (hE:Each PV.PR w L l k) (hn:L.length=n) (hm:n≤1000) (hnc:n≤c) (h1:1≤k) (hk:k+k+1+(k+k+1)≤200) (R:Bool) (hR0:R=true ↔ ConvQ l) :
 Calls Tryz.prog 17 #[.slice A n c] w fun e w'=>e=.returned (.bool R)∧Below w.heap.size w w':=by
 have HN:=Lib.hid hn;have HR0:=Lib.hid hR0
 have HNl:Hid (l.length=n):=hE.1.symm.trans hn
 clear hR0
 have hb:Below w.heap.size w w:=Below.refl _ _
 go_enter Tryz.func17,Tryz.ntmps17
 go_upto_region 3 with (first
  | (go_at_call 56;(with_reducible refine (ways_p hL hE hn hm hnc h1 (by omega)).mono ?_);rintro e w_y ⟨gW,M,rfl,hgW,hW,hM,hQ,hb1⟩
     have hWS:=hW.sv)
  | (go_at_call 47;(with_reducible refine (closed_p hWS hM (by omega) (Nat.le_refl _) hb1.size).mono ?_);rintro e w_z ⟨A1,c1,rfl,hR1_,hh⟩
     replace hb:=bend hb1 hh))
 have E0:Hid (Each PV.PG w_z M (waysL l) (k+k+1)):=Each.below hQ hh
 have HM:=Lib.hid hM
 rw [show n+min 1 n=(ringL M).length by unfold ringL;rw [List.length_append,List.length_take,hM,Nat.min_comm]]
 have HR1:Hid ((ringL M).length=n+min 1 n):=by show _=_;unfold ringL;rw [List.length_append,List.length_take,hM,Nat.min_comm]
 generalize hN1:(ringL M).length=N1 at HR1 ⊢
 have HR2:=Lib.hid hN1
 have hR0:SNr 29 w.heap.size n (pvs (ringL M)) w_z A1:=hR1_
 clear hN1 hL hE hWS hW hQ hb1 hh hR1_ hM
 go_loopg [4,13] n (fun gk rr ix wr=>∃ (m:Nat),Hid (gk+m=n)∧rr=.int .i64 (lowsW (ringL (waysL l)) m:Int)∧ix=.int .i64 (m:Int)∧Hid (∀ i,i < m→∀ u v,(ringL (waysL l))[i]?=some u→(ringL (waysL l))[i+1]?=some v→LeftV u.1 u.2 v.1 v.2)∧Below w_z.heap.size w_z wr)
 case atStart=>exact ⟨0,Nat.add_zero _,rfl,rfl,fun i hi=>absurd hi (by omega),Below.refl _ _⟩
 case round =>
  obtain ⟨m,HG,rfl,rfl,HS,hB⟩:=hrel
  replace hb:=bend hb hB;have hR:=hR0.below hB
  by_cases hmn:m < n
  · have HMN:=Lib.hid hmn
    obtain ⟨P,u,hP1,hu1,p⟩:=(E0.out.below hB).ring.at_ (i:=m) (by have h:=HR1.out;have h2:=HR2.out;rw [h2,h];omega)
    obtain ⟨Q,v,hP2,hu2,q⟩:=(E0.out.below hB).ring.at_ (i:=m+1) (by have h:=HR1.out;have h2:=HR2.out;rw [h2,h];omega)
    obtain ⟨g0,o0,hix0,Ep,_⟩:=(hR.sv (by omega)).pt hP1
    obtain ⟨g1,o1,hix1,Eq,_⟩:=(hR.sv (by omega)).pt hP2
    have hixa:∀ w',(Instr.indexAt 22 (.slice A1 N1 c1) (.int .i64 (m:Int))).run Tryz.prog w'=.ok (.pointer (some ⟨g0,o0,none⟩)) w':=fun w'=>hix0 N1 c1 w' (by have:=HR1.out;omega)
    have hixb:∀ w',(Instr.indexAt 22 (.slice A1 N1 c1) (.int .i64 ((m:Int)+1))).run Tryz.prog w'=.ok (.pointer (some ⟨g1,o1,none⟩)) w':=fun w'=>hix1 N1 c1 w' (by have:=HR1.out;omega)
    have hwr:IntKind.i64.wrap ((m:Int)+1)=(m:Int)+1:=IntWalk.i64_in _ (by omega)
    have hlt:(m:Int) < (n:Int):=by omega
    have HU:=Lib.hid hu1;have HV:=Lib.hid hu2
    have HC:=Lib.hid (lowsW_at hu1 hu2)
    have hcl:=lowsW_le (ringL (waysL l)) m
    obtain ⟨ct,hct⟩:∃ ct,lowsW (ringL (waysL l)) m=ct:=⟨_,rfl⟩
    rw [hct] at hcl ⊢
    have HCT:=Lib.hid hct
    have hwc:IntKind.i64.wrap ((ct:Int)+1)=(ct:Int)+1:=IntWalk.i64_in _ (by omega)
    obtain ⟨ux,uy⟩:=u
    obtain ⟨vx,vy⟩:=v
    obtain ⟨s_p,A_p,n_p,c_p,B_p,m_p,d_p,t_p,E_p,i_p,e_p,F_p,j_p,f_p⟩:=P
    obtain ⟨s_q,A_q,n_q,c_q,B_q,m_q,d_q,t_q,E_q,i_q,e_q,F_q,j_q,f_q⟩:=Q
    replace p:PG wr s_p A_p n_p c_p B_p m_p d_p t_p E_p i_p e_p F_p j_p f_p ux uy (k+k+1):=p
    replace q:PG wr s_q A_q n_q c_q B_q m_q d_q t_q E_q i_q e_q F_q j_q f_q vx vy (k+k+1):=q
    clear hP1 hP2 hu1 hu2 hix0 hix1 hmn hct
    go_upto_region 5 with (fail)
    refine conv5_region (by simp) rfl rfl Ep Eq hixa hixb hwr ?_
    intro V w_b gX gY X hgX hv6 Y hgY hv7 hXY hh
    simp only [putAll,Act.put,List.setIfInBounds_toArray,List.set_cons_zero,List.set_cons_succ,hv6,hv7]
    clear hv6 hv7 Ep Eq hixa hixb;replace p:=p.below hh;replace q:=q.below hh;replace hb:=bend hb hh;replace hB:=bend hB hh;have x0:=X.c0;have y0:=Y.c0;have x1:=X.c1;have y1:=Y.c1;have x2:=X.c2;have y2:=Y.c2;have x3:=X.c3;have y3:=Y.c3;have x4:=X.c4;have y4:=Y.c4;have x5:=X.c5;have y5:=Y.c5
    by_cases hlv:LeftV ux uy vx vy
    · have HLV:Hid (decide (LeftV ux uy vx vy)=true):=decide_eq_true hlv
      clear hlv
      go_upto_region 8 with (first
       | (go_at_call 57;(with_reducible refine (left_p p.pr q.pr hk (by omega) true HLV.out).mono ?_);rintro e w_z ⟨rfl,hh⟩
          (try replace p:=p.below hh);(try replace q:=q.below hh);(try replace X:=X.below hh);(try replace Y:=Y.below hh);replace hb:=bend hb hh;replace hB:=bend hB hh;have x0:=X.c0;have y0:=Y.c0;have x1:=X.c1;have y1:=Y.c1;have x2:=X.c2;have y2:=Y.c2;have x3:=X.c3;have y3:=Y.c3;have x4:=X.c4;have y4:=Y.c4;have x5:=X.c5;have y5:=Y.c5))
      by_cases hd1:uy < 0
      · have HD1:Hid (decide (uy < 0)=true):=decide_eq_true hd1
        have HE1:=Lib.hid hd1;clear hd1
        by_cases hd2:vy < 0
        · have HD2:Hid (decide (vy < 0)=true):=decide_eq_true hd2
          have HE2:=Lib.hid hd2;clear hd2
          go_wp2_with (first
          | (go_at_call 58;(with_reducible refine (down_p p.pr (by omega) (by omega) true HD1.out).mono ?_);rintro e w_z ⟨rfl,hh⟩
             (try replace p:=p.below hh);(try replace q:=q.below hh);(try replace X:=X.below hh);(try replace Y:=Y.below hh);replace hb:=bend hb hh;replace hB:=bend hB hh;have x0:=X.c0;have y0:=Y.c0;have x1:=X.c1;have y1:=Y.c1;have x2:=X.c2;have y2:=Y.c2;have x3:=X.c3;have y3:=Y.c3;have x4:=X.c4;have y4:=Y.c4;have x5:=X.c5;have y5:=Y.c5)
          | (go_at_call 58;(with_reducible refine (down_p q.pr (by omega) (by omega) true HD2.out).mono ?_);rintro e w_z ⟨rfl,hh⟩
             (try replace p:=p.below hh);(try replace q:=q.below hh);(try replace X:=X.below hh);(try replace Y:=Y.below hh);replace hb:=bend hb hh;replace hB:=bend hB hh;have x0:=X.c0;have y0:=Y.c0;have x1:=X.c1;have y1:=Y.c1;have x2:=X.c2;have y2:=Y.c2;have x3:=X.c3;have y3:=Y.c3;have x4:=X.c4;have y4:=Y.c4;have x5:=X.c5;have y5:=Y.c5))
          go_roundg (gk - 1)
          case measure=>have:=HG.out;have:=HMN.out;omega
          case rel =>
           refine ⟨m+1,by have:=HG.out;have:=HMN.out;show _=_;omega,?_,by go_num,fun i hi u v h5 h6=>?_,hB⟩
           · have:=HC.out
             rw [HCT.out,if_neg (fun e=>e.2 HE2.out)] at this
             rw [this];go_num
           · rcases Nat.lt_or_ge i m with h | h
             · exact HS.out i h u v h5 h6
             · obtain rfl:i=m:=by omega
               rw [HU.out] at h5;rw [HV.out] at h6
               cases h5;cases h6
               exact of_decide_eq_true HLV.out
        · have HD2:Hid (decide (vy < 0)=false):=decide_eq_false hd2
          have HE2:=Lib.hid hd2;clear hd2
          go_wp2_with (first
          | (go_at_call 58;(with_reducible refine (down_p p.pr (by omega) (by omega) true HD1.out).mono ?_);rintro e w_z ⟨rfl,hh⟩
             (try replace p:=p.below hh);(try replace q:=q.below hh);(try replace X:=X.below hh);(try replace Y:=Y.below hh);replace hb:=bend hb hh;replace hB:=bend hB hh;have x0:=X.c0;have y0:=Y.c0;have x1:=X.c1;have y1:=Y.c1;have x2:=X.c2;have y2:=Y.c2;have x3:=X.c3;have y3:=Y.c3;have x4:=X.c4;have y4:=Y.c4;have x5:=X.c5;have y5:=Y.c5)
          | (go_at_call 58;(with_reducible refine (down_p q.pr (by omega) (by omega) false HD2.out).mono ?_);rintro e w_z ⟨rfl,hh⟩
             (try replace p:=p.below hh);(try replace q:=q.below hh);(try replace X:=X.below hh);(try replace Y:=Y.below hh);replace hb:=bend hb hh;replace hB:=bend hB hh;have x0:=X.c0;have y0:=Y.c0;have x1:=X.c1;have y1:=Y.c1;have x2:=X.c2;have y2:=Y.c2;have x3:=X.c3;have y3:=Y.c3;have x4:=X.c4;have y4:=Y.c4;have x5:=X.c5;have y5:=Y.c5))
          go_roundg (gk - 1)
          case measure=>have:=HG.out;have:=HMN.out;omega
          case rel =>
           refine ⟨m+1,by have:=HG.out;have:=HMN.out;show _=_;omega,?_,by go_num,fun i hi u v h5 h6=>?_,hB⟩
           · have:=HC.out
             rw [HCT.out,if_pos ⟨HE1.out,HE2.out⟩] at this
             rw [this];go_num
           · rcases Nat.lt_or_ge i m with h | h
             · exact HS.out i h u v h5 h6
             · obtain rfl:i=m:=by omega
               rw [HU.out] at h5;rw [HV.out] at h6
               cases h5;cases h6
               exact of_decide_eq_true HLV.out
      · have HD1:Hid (decide (uy < 0)=false):=decide_eq_false hd1
        have HE1:=Lib.hid hd1;clear hd1
        go_wp2_with (first
         | (go_at_call 58;(with_reducible refine (down_p p.pr (by omega) (by omega) false HD1.out).mono ?_);rintro e w_z ⟨rfl,hh⟩
            (try replace p:=p.below hh);(try replace q:=q.below hh);(try replace X:=X.below hh);(try replace Y:=Y.below hh);replace hb:=bend hb hh;replace hB:=bend hB hh;have x0:=X.c0;have y0:=Y.c0;have x1:=X.c1;have y1:=Y.c1;have x2:=X.c2;have y2:=Y.c2;have x3:=X.c3;have y3:=Y.c3;have x4:=X.c4;have y4:=Y.c4;have x5:=X.c5;have y5:=Y.c5))
        go_roundg (gk - 1)
        case measure=>have:=HG.out;have:=HMN.out;omega
        case rel =>
         refine ⟨m+1,by have:=HG.out;have:=HMN.out;show _=_;omega,?_,by go_num,fun i hi u v h5 h6=>?_,hB⟩
         · have:=HC.out
           rw [HCT.out,if_neg (fun e=>HE1.out e.1)] at this
           rw [this];go_num
         · rcases Nat.lt_or_ge i m with h | h
           · exact HS.out i h u v h5 h6
           · obtain rfl:i=m:=by omega
             rw [HU.out] at h5;rw [HV.out] at h6
             cases h5;cases h6
             exact of_decide_eq_true HLV.out
    · have HLV:Hid (decide (LeftV ux uy vx vy)=false):=decide_eq_false hlv
      have HF:Hid (false=R):=by
       show _=_
       cases R with
       | false=>rfl
       | true=>exact absurd ((HR0.out.1 rfl).1 m _ _ HU.out HV.out) hlv
      clear hlv
      go_wp2_with (first
       | (go_at_call 57;(with_reducible refine (left_p p.pr q.pr hk (by omega) false HLV.out).mono ?_);rintro e w_z ⟨rfl,hh⟩
          (try replace p:=p.below hh);(try replace q:=q.below hh);(try replace X:=X.below hh);(try replace Y:=Y.below hh);replace hb:=bend hb hh;replace hB:=bend hB hh;have x0:=X.c0;have y0:=Y.c0;have x1:=X.c1;have y1:=Y.c1;have x2:=X.c2;have y2:=Y.c2;have x3:=X.c3;have y3:=Y.c3;have x4:=X.c4;have y4:=Y.c4;have x5:=X.c5;have y5:=Y.c5))
      (try rw [Exit.noGoto_ret])
      go_ret
      exact ⟨by rw [← HF.out];rfl,hb⟩
  · have hlt:¬ (m:Int) < (n:Int):=by omega
    obtain rfl:m=n:=by have:=HG.out;omega
    obtain ⟨ct,hct⟩:∃ ct,lowsW (ringL (waysL l)) m=ct:=⟨_,rfl⟩
    rw [hct]
    have HT:Hid (((ct:Int) == 1)=R):=by
     show _=_
     rw [Bool.eq_iff_iff,beq_iff_eq,HR0.out]
     constructor
     · intro h
       refine ⟨fun i u v h5 h6=>HS.out i ?_ u v h5 h6,by rw [HNl.out,hct];omega⟩
       have h7:=(List.getElem?_eq_some_iff.1 h6).1
       have h8:=waysL_len l;rw [HNl.out] at h8
       rcases Nat.eq_zero_or_pos m with h9 | h9
       · subst h9
         rw [show lowsW (ringL (waysL l)) 0=0 from rfl] at hct;omega
       · rw [ringL_len _ (by rw [h8];exact h9),h8] at h7
         omega
     · intro h
       have h2:=h.2
       rw [HNl.out,hct] at h2;omega
    clear hmn hct
    go_wp2_with fail
    (try rw [Exit.noGoto_ret])
    go_ret
    exact ⟨by rw [← HT.out];first | rfl | simp,hb⟩
end
section
open Go Go.RowKit
def B9 (W:World) (g:Nat) (v0 v1 v2 v3 v4 v5 v6 v7 v8:Value):Prop:=W.heap[g]?=some (.cells #[v0,v1,v2,v3,v4,v5,v6,v7,v8] 92 (0,0))
section
variable {W W':World} {g:Nat} {v0 v1 v2 v3 v4 v5 v6 v7 v8:Value}
theorem B9.c0 (h:B9 W g v0 v1 v2 v3 v4 v5 v6 v7 v8):W.cell? ⟨g,0,none⟩=some v0:=by rw [cell_of_row W g 0 _ _ (0,0) h];rfl
theorem B9.c1 (h:B9 W g v0 v1 v2 v3 v4 v5 v6 v7 v8):W.cell? ⟨g,1,none⟩=some v1:=by rw [cell_of_row W g 1 _ _ (0,0) h];rfl
theorem B9.c2 (h:B9 W g v0 v1 v2 v3 v4 v5 v6 v7 v8):W.cell? ⟨g,2,none⟩=some v2:=by rw [cell_of_row W g 2 _ _ (0,0) h];rfl
theorem B9.c3 (h:B9 W g v0 v1 v2 v3 v4 v5 v6 v7 v8):W.cell? ⟨g,3,none⟩=some v3:=by rw [cell_of_row W g 3 _ _ (0,0) h];rfl
theorem B9.c4 (h:B9 W g v0 v1 v2 v3 v4 v5 v6 v7 v8):W.cell? ⟨g,4,none⟩=some v4:=by rw [cell_of_row W g 4 _ _ (0,0) h];rfl
theorem B9.c5 (h:B9 W g v0 v1 v2 v3 v4 v5 v6 v7 v8):W.cell? ⟨g,5,none⟩=some v5:=by rw [cell_of_row W g 5 _ _ (0,0) h];rfl
theorem B9.c6 (h:B9 W g v0 v1 v2 v3 v4 v5 v6 v7 v8):W.cell? ⟨g,6,none⟩=some v6:=by rw [cell_of_row W g 6 _ _ (0,0) h];rfl
theorem B9.c7 (h:B9 W g v0 v1 v2 v3 v4 v5 v6 v7 v8):W.cell? ⟨g,7,none⟩=some v7:=by rw [cell_of_row W g 7 _ _ (0,0) h];rfl
theorem B9.c8 (h:B9 W g v0 v1 v2 v3 v4 v5 v6 v7 v8):W.cell? ⟨g,8,none⟩=some v8:=by rw [cell_of_row W g 8 _ _ (0,0) h];rfl
theorem B9.all (h:B9 W g v0 v1 v2 v3 v4 v5 v6 v7 v8):W.cell? ⟨g,0,none⟩=some v0∧W.cell? ⟨g,1,none⟩=some v1∧W.cell? ⟨g,2,none⟩=some v2∧W.cell? ⟨g,3,none⟩=some v3∧W.cell? ⟨g,4,none⟩=some v4∧W.cell? ⟨g,5,none⟩=some v5∧W.cell? ⟨g,6,none⟩=some v6∧W.cell? ⟨g,7,none⟩=some v7∧W.cell? ⟨g,8,none⟩=some v8:=⟨h.c0,h.c1,h.c2,h.c3,h.c4,h.c5,h.c6,h.c7,h.c8⟩
theorem B9.f0 (h:B9 W g v0 v1 v2 v3 v4 v5 v6 v7 v8):W.frozen? ⟨g,0,none⟩=false:=frozen_of_row W g 0 _ _ h
theorem B9.f1 (h:B9 W g v0 v1 v2 v3 v4 v5 v6 v7 v8):W.frozen? ⟨g,1,none⟩=false:=frozen_of_row W g 1 _ _ h
theorem B9.f2 (h:B9 W g v0 v1 v2 v3 v4 v5 v6 v7 v8):W.frozen? ⟨g,2,none⟩=false:=frozen_of_row W g 2 _ _ h
theorem B9.f3 (h:B9 W g v0 v1 v2 v3 v4 v5 v6 v7 v8):W.frozen? ⟨g,3,none⟩=false:=frozen_of_row W g 3 _ _ h
theorem B9.f4 (h:B9 W g v0 v1 v2 v3 v4 v5 v6 v7 v8):W.frozen? ⟨g,4,none⟩=false:=frozen_of_row W g 4 _ _ h
theorem B9.f5 (h:B9 W g v0 v1 v2 v3 v4 v5 v6 v7 v8):W.frozen? ⟨g,5,none⟩=false:=frozen_of_row W g 5 _ _ h
theorem B9.f6 (h:B9 W g v0 v1 v2 v3 v4 v5 v6 v7 v8):W.frozen? ⟨g,6,none⟩=false:=frozen_of_row W g 6 _ _ h
theorem B9.f7 (h:B9 W g v0 v1 v2 v3 v4 v5 v6 v7 v8):W.frozen? ⟨g,7,none⟩=false:=frozen_of_row W g 7 _ _ h
theorem B9.f8 (h:B9 W g v0 v1 v2 v3 v4 v5 v6 v7 v8):W.frozen? ⟨g,8,none⟩=false:=frozen_of_row W g 8 _ _ h
theorem B9.lt (h:B9 W g v0 v1 v2 v3 v4 v5 v6 v7 v8):g < W.heap.size:=World.block_lt_of_cell? W _ h.c0
theorem B9.below (h:B9 W g v0 v1 v2 v3 v4 v5 v6 v7 v8) (hb:Below W.heap.size W W'):B9 W' g v0 v1 v2 v3 v4 v5 v6 v7 v8:=(hb.block g h.lt).trans h
theorem B9.alloc (h:B9 W g v0 v1 v2 v3 v4 v5 v6 v7 v8) (o:Obj):B9 (W.alloc o) g v0 v1 v2 v3 v4 v5 v6 v7 v8:=(Below.heap_alloc W o g h.lt).trans h
end
theorem B9.new' (W:World) (v0 v1 v2 v3 v4 v5 v6 v7 v8:Value) (g:Nat) (hg:g=W.heap.size):B9 (W.alloc (.cells #[v0,v1,v2,v3,v4,v5,v6,v7,v8] 92)) g v0 v1 v2 v3 v4 v5 v6 v7 v8:=by subst hg;exact heap_alloc_new W _
theorem run_fc1 {e1:Operand→Value} {d1:Option Tmp} {y1:Nat} {pos:String} {af:Array Edge} {x1:Operand} {g:Nat} (h:e1 x1=.pointer (some ⟨g,0,none⟩)) :
 (execOp e1 ⟨d1,.fieldAddr 92 x1 1,y1,pos,af,none⟩).run Tryz.prog w=.ok (.value (.pointer (some ⟨g,6,none⟩))) w:=by
 go_simp
theorem run_lc1 {e1:Operand→Value} {d1:Option Tmp} {y1:Nat} {pos:String} {af:Array Edge} {x1:Operand} {g:Nat} {v0 v1 v2 v3 v4 v5 v6 v7 v8:Value} (h:e1 x1=.pointer (some ⟨g,6,none⟩)) (Z:B9 w g v0 v1 v2 v3 v4 v5 v6 v7 v8) :
 (execOp e1 ⟨d1,.load 27 x1,y1,pos,af,none⟩).run Tryz.prog w=.ok (.value (.agg #[v6,v7,v8])) w:=by
 have c6:=Z.c6;have c7:=Z.c7;have c8:=Z.c8
 go_simp
def VQEa (V:Rat) (k:Nat) (x:Value) (w:World):Prop:=∃ s A n c B m d,x=.tuple #[.agg #[.bool s,.slice A n c,.slice B m d],.int .i64 0]∧QG w s A n c B m d V k
theorem stays_qea (v:Rat) (k:Nat):Stays (VQEa v k) :=
 ⟨fun _ _ _ ⟨s,A,n,c,B,m,d,h1,h2⟩ hb=>⟨s,A,n,c,B,m,d,h1,h2.below hb⟩,fun _ _ _ _ _ _ ⟨s,A,n,c,B,m,d,h1,h2⟩ hB ho=>⟨s,A,n,c,B,m,d,h1,h2.box hB ho⟩⟩
abbrev L_betw1:List Nat:=[8,9,10,11,12,13,14,15,7,16,17,5,6]
def o0_betw1:Oper:=⟨some 8,.fieldAddr 92 (.tmp 2) 1,0, "half.go:47",#[],none⟩
def o1_betw1:Oper:=⟨some 9,.load 27 (.tmp 8),27, "half.go:47",#[⟨0,.data⟩],none⟩
def o2_betw1:Oper:=⟨some 10,.fieldAddr 92 (.tmp 2) 1,0, "half.go:47",#[],none⟩
def o3_betw1:Oper:=⟨some 11,.load 27 (.tmp 10),27, "half.go:47",#[⟨2,.data⟩],none⟩
def o4_betw1:Oper:=⟨some 12,.fieldAddr 92 (.tmp 3) 1,0, "half.go:47",#[],none⟩
def o5_betw1:Oper:=⟨some 13,.load 27 (.tmp 12),27, "half.go:47",#[⟨4,.data⟩],none⟩
def o6_betw1:Oper:=⟨some 14,.call ⟨.value (.func 89),#[.tmp 11,.tmp 13],#[27,27]⟩,27, "half.go:47",#[⟨3,.data⟩,⟨5,.data⟩],none⟩
def o7_betw1:Oper:=⟨some 15,.call ⟨.value (.func 103),#[.tmp 9,.tmp 14],#[27,27]⟩,121, "half.go:47",#[⟨1,.data⟩,⟨6,.data⟩,⟨6,.chain⟩],none⟩
def o8_betw1:Oper:=⟨some 7,.move (.tmp 15),121, "half.go:47",#[⟨7,.data⟩],none⟩
def o9_betw1:Oper:=⟨some 16,.extract (.tmp 7) 0,27, "half.go:47",#[⟨8,.data⟩],none⟩
def o10_betw1:Oper:=⟨some 17,.extract (.tmp 7) 1,120, "half.go:47",#[⟨8,.data⟩,⟨12,.gcOnly .lateStores⟩],none⟩
def o11_betw1:Oper:=⟨some 5,.alloc 27,0, "half.go:47",#[],none⟩
def o12_betw1:Oper:=⟨none,.store 27 (.tmp 5) (.tmp 16),0, "half.go:47",#[⟨11,.data⟩,⟨9,.data⟩,⟨7,.chain⟩,⟨0,.phase⟩,⟨1,.phase⟩,⟨2,.phase⟩,⟨3,.phase⟩,⟨4,.phase⟩,⟨5,.phase⟩,⟨6,.phase⟩,⟨7,.phase⟩,⟨8,.phase⟩,⟨9,.phase⟩,⟨10,.textOnly .lateStores⟩,⟨11,.phase⟩],none⟩
def o13_betw1:Oper:=⟨some 6,.assign (.tmp 17),120, "half.go:47",#[⟨10,.data⟩,⟨12,.chain⟩,⟨0,.phase⟩,⟨1,.phase⟩,⟨2,.phase⟩,⟨3,.phase⟩,⟨4,.phase⟩,⟨5,.phase⟩,⟨6,.phase⟩,⟨7,.phase⟩,⟨8,.phase⟩,⟨9,.phase⟩,⟨10,.phase⟩,⟨11,.phase⟩,⟨12,.phase⟩],none⟩
def F_betw1 (gx:Nat) (gy:Nat) (ka:Nat) (xa:Rat) (ya:Rat) (s_a:Bool) (A_a:Option Addr) (B_a:Option Addr) (n_a:Nat) (c_a:Nat) (m_a:Nat) (d_a:Nat) (s_b:Bool) (A_b:Option Addr) (B_b:Option Addr) (n_b:Nat) (c_b:Nat) (m_b:Nat) (d_b:Nat) (sl:Nat):Value→World→Prop :=
 match sl with
 | 8=>fun x _=>x=Value.pointer (some ⟨gx,6,none⟩)
 | 9=>fun x _=>x=Value.agg #[.bool s_a,.slice A_a n_a c_a,.slice B_a m_a d_a]
 | 10=>fun x _=>x=Value.pointer (some ⟨gx,6,none⟩)
 | 11=>fun x _=>x=Value.agg #[.bool s_a,.slice A_a n_a c_a,.slice B_a m_a d_a]
 | 12=>fun x _=>x=Value.pointer (some ⟨gy,6,none⟩)
 | 13=>fun x _=>x=Value.agg #[.bool s_b,.slice A_b n_b c_b,.slice B_b m_b d_b]
 | 14=>VQ (xa - ya) (ka+ka+1)
 | 15=>VQEa (xa / (xa - ya)) (ka+(ka+ka+1))
 | 7=>VQEa (xa / (xa - ya)) (ka+(ka+ka+1))
 | 16=>VQ (xa / (xa - ya)) (ka+(ka+ka+1))
 | 17=>fun x _=>x=Value.int .i64 0
 | 6=>fun x _=>x=Value.int .i64 0
 | _=>fun _ _=>True
def B0_betw1 (ka:Nat) (xa:Rat) (ya:Rat):BoxOp :=
 ⟨11,12,5,27,#[.bool false,.slice none 0 0,.slice none 0 0],fun cs w=>∃ s A n c B m d,cs=#[.bool s,.slice A n c,.slice B m d]∧QG w s A n c B m d (xa / (xa - ya)) (ka+(ka+ka+1))⟩
theorem betw1_region {id:Nat} {ac:Act} {Q:Exit→Act→World→Prop} {gx gy ka:Nat} {xa ya:Rat} 
 (hsz:17 < ac.tmps.size) (e2:ac.eval (.tmp 2)=Value.pointer (some ⟨gx,0,none⟩)) (e3:ac.eval (.tmp 3)=Value.pointer (some ⟨gy,0,none⟩)) (X:B9 w gx (.bool s_p) (.slice A_p n_p c_p) (.slice B_p m_p d_p) (.bool t_p) (.slice E_p i_p e_p) (.slice F_p j_p f_p) (.bool s_a) (.slice A_a n_a c_a) (.slice B_a m_a d_a)) (Y:B9 w gy (.bool s_q) (.slice A_q n_q c_q) (.slice B_q m_q d_q) (.bool t_q) (.slice E_q i_q e_q) (.slice F_q j_q f_q) (.bool s_b) (.slice A_b n_b c_b) (.slice B_b m_b d_b)) (a:QR w s_a A_a n_a c_a B_a m_a d_a xa ka) (b:QR w s_b A_b n_b c_b B_b m_b d_b ya ka) (hk:ka≤190) (h1:1≤ka) (hne:xa - ya ≠ 0)
 (hend:∀ (V:Nat→Value) (w':World) (g0:Nat) (s0:Bool) (A0:Option Addr) (n0:Nat) (c0:Nat) (B0:Option Addr) (m0:Nat) (d0:Nat),QG w' s0 A0 n0 c0 B0 m0 d0 (xa / (xa - ya)) (ka+(ka+ka+1))→B3 w' g0 (.bool s0) (.slice A0 n0 c0) (.slice B0 m0 d0)→w.heap.size≤g0→V 5=.pointer (some ⟨g0,0,none⟩)→Below w.heap.size w w'→Q .normal (putAll ac [8,9,10,11,12,13,14,15,7,16,17,5,6] V) w') :
 (Code.region id #[o0_betw1,o1_betw1,o2_betw1,o3_betw1,o4_betw1,o5_betw1,o6_betw1,o7_betw1,o8_betw1,o9_betw1,o10_betw1,o11_betw1,o12_betw1,o13_betw1] true).wp Tryz.prog Q ac w:=by
 have hnd:L_betw1.Nodup:=by decide
 have G:∀ (sv:Nat→Value) (t:Nat),t ∈ L_betw1→t≤17→(putAll ac L_betw1 sv).eval (.tmp t)=sv t:=fun sv t ht h=>eval_putAll_mem (t:=t) L_betw1 ac hnd ht (Nat.lt_of_le_of_lt h hsz)
 have E2:∀ sv:Nat→Value,(putAll ac L_betw1 sv).eval (.tmp 2)=Value.pointer (some ⟨gx,0,none⟩):=fun sv=>(eval_putAll_not (v:=sv) L_betw1 ac (show 2 ∉ _ by decide)).trans e2
 have E3:∀ sv:Nat→Value,(putAll ac L_betw1 sv).eval (.tmp 3)=Value.pointer (some ⟨gy,0,none⟩):=fun sv=>(eval_putAll_not (v:=sv) L_betw1 ac (show 3 ∉ _ by decide)).trans e3
 have NE:∀ t:Nat,(t ≠ 5)→∀ p ∈ [B0_betw1 ka xa ya],t ≠ p.tA:=by
  intro t ht p hp
  simp only [List.mem_cons,List.not_mem_nil,or_false] at hp
  rcases hp with rfl
  · exact ht
 refine wp_region_flowsT L_betw1 [B0_betw1 ka xa ya] (F_betw1 gx gy ka xa ya s_a A_a B_a n_a c_a m_a d_a s_b A_b B_b n_b c_b m_b d_b) (by kernel_rfl) (by kernel_rfl) rfl hnd ?_ ?_ ?_ ?_ ?_ ?_ ?_ ?_
 · intro p hp
   simp only [List.mem_cons,List.not_mem_nil,or_false] at hp
   rcases hp with rfl
   · refine ⟨⟨o11_betw1,rfl,rfl,rfl,fun e w'=>run_allocQ⟩,⟨o12_betw1,rfl,rfl,rfl,⟨11,.data⟩,by simp [o12_betw1],rfl,rfl⟩,free3 _ _ _ _ _ _ _,?_,?_⟩
     · rintro cs w1 w2 ⟨s_,A_,n_,c_,B_,m_,d_,rfl,h⟩ hb;exact ⟨s_,A_,n_,c_,B_,m_,d_,rfl,h.below hb⟩
     · rintro T cs w1 w2 g c0 ⟨s_,A_,n_,c_,B_,m_,d_,rfl,h⟩ hB ho;exact ⟨s_,A_,n_,c_,B_,m_,d_,rfl,h.box hB ho⟩
 · intro p hp q hq h
   simp only [List.mem_cons,List.not_mem_nil,or_false] at hp hq
   rcases hp with rfl <;> rcases hq with rfl
   · rfl
 · intro p hp q hq h
   simp only [List.mem_cons,List.not_mem_nil,or_false] at hp hq
   rcases hp with rfl <;> rcases hq with rfl
   · rfl
 · intro i o h1 h2
   match i,h1 with
   | 0,h1=>cases h1;cases h2
   | 1,h1=>cases h1;cases h2
   | 2,h1=>cases h1;cases h2
   | 3,h1=>cases h1;cases h2
   | 4,h1=>cases h1;cases h2
   | 5,h1=>cases h1;cases h2
   | 6,h1=>cases h1;cases h2
   | 7,h1=>cases h1;cases h2
   | 8,h1=>cases h1;cases h2
   | 9,h1=>cases h1;cases h2
   | 10,h1=>cases h1;cases h2
   | 11,h1=>cases h1;cases h2
   | 12,h1=>exact ⟨B0_betw1 ka xa ya,List.Mem.head _,rfl⟩
   | 13,h1=>cases h1;cases h2
   | i+14,h1=>cases h1
 · intro t
   unfold F_betw1
   split <;> first | exact (stays_eq _).inn _ | exact (stays_q _ _).inn _ | exact (stays_z _ _).inn _ | exact (stays_r _ _).inn _ | exact (stays_rq _ _).inn _ | exact (stays_pg _ _ _).inn _ | exact (stays_true).inn _ | exact (stays_qea _ _).inn _
 · intro i o t sv w' ho hia hd J0 hf
   have X:=X.below J0;have Y:=Y.below J0;have a:=a.below J0;have b:=b.below J0
   match i,ho with
   | 0,ho =>
     obtain rfl:o0_betw1=o:=Option.some.inj ho
     cases hd
     refine wpOp_plain' (o:=o0_betw1) rfl rfl ?_
     unfold Oper.wp o0_betw1
     rw [run_fc1 (E2 sv) ,Oper.upon_value]
     exact ⟨_,rfl,Below.refl _ _,rfl⟩
   | 1,ho =>
     obtain rfl:o1_betw1=o:=Option.some.inj ho
     cases hd
     have f8:sv 8=Value.pointer (some ⟨gx,6,none⟩):=hf ⟨0,.data⟩ (by simp [o1_betw1]) rfl _ 8 rfl rfl (NE _ (by decide))
     refine wpOp_plain' (o:=o1_betw1) rfl rfl ?_
     unfold Oper.wp o1_betw1
     rw [run_lc1 ((G sv 8 (by decide) (by decide)).trans f8) X,Oper.upon_value]
     exact ⟨_,rfl,Below.refl _ _,rfl⟩
   | 2,ho =>
     obtain rfl:o2_betw1=o:=Option.some.inj ho
     cases hd
     refine wpOp_plain' (o:=o2_betw1) rfl rfl ?_
     unfold Oper.wp o2_betw1
     rw [run_fc1 (E2 sv) ,Oper.upon_value]
     exact ⟨_,rfl,Below.refl _ _,rfl⟩
   | 3,ho =>
     obtain rfl:o3_betw1=o:=Option.some.inj ho
     cases hd
     have f10:sv 10=Value.pointer (some ⟨gx,6,none⟩):=hf ⟨2,.data⟩ (by simp [o3_betw1]) rfl _ 10 rfl rfl (NE _ (by decide))
     refine wpOp_plain' (o:=o3_betw1) rfl rfl ?_
     unfold Oper.wp o3_betw1
     rw [run_lc1 ((G sv 10 (by decide) (by decide)).trans f10) X,Oper.upon_value]
     exact ⟨_,rfl,Below.refl _ _,rfl⟩
   | 4,ho =>
     obtain rfl:o4_betw1=o:=Option.some.inj ho
     cases hd
     refine wpOp_plain' (o:=o4_betw1) rfl rfl ?_
     unfold Oper.wp o4_betw1
     rw [run_fc1 (E3 sv) ,Oper.upon_value]
     exact ⟨_,rfl,Below.refl _ _,rfl⟩
   | 5,ho =>
     obtain rfl:o5_betw1=o:=Option.some.inj ho
     cases hd
     have f12:sv 12=Value.pointer (some ⟨gy,6,none⟩):=hf ⟨4,.data⟩ (by simp [o5_betw1]) rfl _ 12 rfl rfl (NE _ (by decide))
     refine wpOp_plain' (o:=o5_betw1) rfl rfl ?_
     unfold Oper.wp o5_betw1
     rw [run_lc1 ((G sv 12 (by decide) (by decide)).trans f12) Y,Oper.upon_value]
     exact ⟨_,rfl,Below.refl _ _,rfl⟩
   | 6,ho =>
     obtain rfl:o6_betw1=o:=Option.some.inj ho
     cases hd
     have f11:sv 11=Value.agg #[.bool s_a,.slice A_a n_a c_a,.slice B_a m_a d_a]:=hf ⟨3,.data⟩ (by simp [o6_betw1]) rfl _ 11 rfl rfl (NE _ (by decide))
     have f13:sv 13=Value.agg #[.bool s_b,.slice A_b n_b c_b,.slice B_b m_b d_b]:=hf ⟨5,.data⟩ (by simp [o6_betw1]) rfl _ 13 rfl rfl (NE _ (by decide))
     refine wpOp_plain' (o:=o6_betw1) rfl rfl ?_
     unfold Oper.wp o6_betw1
     rw [rc_gesso_rat_Sub ((G sv 11 (by decide) (by decide)).trans f11) ((G sv 13 (by decide) (by decide)).trans f13) rfl,Oper.upon_enter]
     refine (rsub_q a b (by omega) (by omega) (.inl (by omega)) h1 h1).mono ?_
     rintro e w1 ⟨s_,A_,n_,c_,B_,m_,d_,rfl,hq,hh⟩
     exact ⟨_,rfl,hh,s_,A_,n_,c_,B_,m_,d_,rfl,hq⟩
   | 7,ho =>
     obtain rfl:o7_betw1=o:=Option.some.inj ho
     cases hd
     have f9:sv 9=Value.agg #[.bool s_a,.slice A_a n_a c_a,.slice B_a m_a d_a]:=hf ⟨1,.data⟩ (by simp [o7_betw1]) rfl _ 9 rfl rfl (NE _ (by decide))
     have h14:VQ (xa - ya) (ka+ka+1) (sv 14) w':=hf ⟨6,.data⟩ (by simp [o7_betw1]) rfl _ 14 rfl rfl (NE _ (by decide))
     obtain ⟨s14_,A14_,n14_,c14_,B14_,m14_,d14_,f14,q14⟩:=h14
     refine wpOp_plain' (o:=o7_betw1) rfl rfl ?_
     unfold Oper.wp o7_betw1
     rw [rc_gesso_rat_Div ((G sv 9 (by decide) (by decide)).trans f9) ((G sv 14 (by decide) (by decide)).trans f14) rfl,Oper.upon_enter]
     refine (rdiv_q a q14.qr (by omega) (by omega) (.inl (by omega)) h1 (by omega) hne).mono ?_
     rintro e w1 ⟨s_,A_,n_,c_,B_,m_,d_,rfl,hq,hh⟩
     exact ⟨_,rfl,hh,s_,A_,n_,c_,B_,m_,d_,rfl,hq⟩
   | 8,ho =>
     obtain rfl:o8_betw1=o:=Option.some.inj ho
     cases hd
     have f:=hf ⟨7,.data⟩ (by simp [o8_betw1]) rfl _ 15 rfl rfl (NE _ (by decide))
     refine wpOp_plain' (o:=o8_betw1) rfl rfl ?_
     unfold Oper.wp o8_betw1
     rw [run_move (G sv 15 (by decide) (by decide)),Oper.upon_value]
     exact ⟨_,rfl,Below.refl _ _,f⟩
   | 9,ho =>
     obtain rfl:o9_betw1=o:=Option.some.inj ho
     cases hd
     have h7:VQEa (xa / (xa - ya)) (ka+(ka+ka+1)) (sv 7) w':=hf ⟨8,.data⟩ (by simp [o9_betw1]) rfl _ 7 rfl rfl (NE _ (by decide))
     obtain ⟨s7_,A7_,n7_,c7_,B7_,m7_,d7_,f7,q7⟩:=h7
     refine wpOp_plain' (o:=o9_betw1) rfl rfl ?_
     unfold Oper.wp o9_betw1
     rw [run_ext0 ((G sv 7 (by decide) (by decide)).trans f7),Oper.upon_value]
     exact ⟨_,rfl,Below.refl _ _,s7_,A7_,n7_,c7_,B7_,m7_,d7_,rfl,q7⟩
   | 10,ho =>
     obtain rfl:o10_betw1=o:=Option.some.inj ho
     cases hd
     have h7:VQEa (xa / (xa - ya)) (ka+(ka+ka+1)) (sv 7) w':=hf ⟨8,.data⟩ (by simp [o10_betw1]) rfl _ 7 rfl rfl (NE _ (by decide))
     obtain ⟨s7_,A7_,n7_,c7_,B7_,m7_,d7_,f7,q7⟩:=h7
     refine wpOp_plain' (o:=o10_betw1) rfl rfl ?_
     unfold Oper.wp o10_betw1
     rw [run_ext1 ((G sv 7 (by decide) (by decide)).trans f7),Oper.upon_value]
     exact ⟨_,rfl,Below.refl _ _,rfl⟩
   | 11,ho=>cases ho;cases hd;exact absurd rfl (hia (B0_betw1 ka xa ya) (List.Mem.head _))
   | 12,ho=>cases ho;cases hd
   | 13,ho =>
     obtain rfl:o13_betw1=o:=Option.some.inj ho
     cases hd
     have f:=hf ⟨10,.data⟩ (by simp [o13_betw1]) rfl _ 17 rfl rfl (NE _ (by decide))
     refine wpOp_plain' (o:=o13_betw1) rfl rfl ?_
     unfold Oper.wp o13_betw1
     rw [run_assign (G sv 17 (by decide) (by decide)),Oper.upon_value]
     exact ⟨_,rfl,Below.refl _ _,f⟩
   | i+14,ho=>cases ho
 · intro p hp os sv w' g hos J0 p1 p3 hf
   simp only [List.mem_cons,List.not_mem_nil,or_false] at hp
   rcases hp with rfl
   · obtain rfl:o12_betw1=os:=Option.some.inj hos
     have h1:VQ (xa / (xa - ya)) (ka+(ka+ka+1)) (sv 16) w':=hf ⟨9,.data⟩ (by simp [o12_betw1]) rfl _ 16 rfl rfl (NE _ (by decide))
     rw [← G sv 16 (by decide) (by decide)] at h1
     refine store_q (V:=xa / (xa - ya)) (k:=ka+(ka+ka+1)) (ac:=putAll ac L_betw1 sv) (z:=.tmp 16) ?_ ?_ ?_
     · exact (G sv 5 (by decide) (by decide)).trans p1
     · exact h1
     · exact p3
 · intro sv w' J0 hF hB hap
   obtain ⟨g0,cs0,p0,r0,b0,⟨s0,A0,n0,c0,B0,m0,d0,rfl,h0⟩⟩:=hB (B0_betw1 ka xa ya) (List.Mem.head _)
   have p0':sv 5=.pointer (some ⟨g0,0,none⟩):=p0
   exact hend sv w' g0 _ _ _ _ _ _ _ h0 b0.at_ r0 p0'   J0
theorem mkbx41_16 {w W:World} {x0 x1 x2 x3 x4 x5 x6 x7 x8 x9 x10 x11 x12 x13 x14 x15 x16 x17 x18 x19 x20 x21 x22 x23:Value} (h:(((w.alloc (Obj.cells #[x0,x1,x2,x3,x4,x5,x6,x7,x8] 92)).alloc (Obj.cells #[x9,x10,x11,x12,x13,x14,x15,x16,x17] 92)).alloc (Obj.cells #[x18,x19,x20,x21,x22,x23] 29))=W):Below w.heap.size w W∧B9 W (w.heap.size) x0 x1 x2 x3 x4 x5 x6 x7 x8∧B9 W (w.heap.size+1) x9 x10 x11 x12 x13 x14 x15 x16 x17∧B6 W (w.heap.size+1+1) x18 x19 x20 x21 x22 x23∧W.heap.size=w.heap.size+3:=by subst h;exact ⟨by exact ((((Below.refl _ _).alloc (Nat.le_refl _) _).alloc (by simp) _).alloc (by simp;omega) _),by exact ((B9.new' _ _ _ _ _ _ _ _ _ _ _ rfl).alloc _).alloc _,by exact (B9.new' _ _ _ _ _ _ _ _ _ _ _ (by simp)).alloc _,by exact B6.new' _ _ _ _ _ _ _ _ (by simp),by simp⟩
theorem between_p {k ka:Nat} {px py qx qy xa ya:Rat} (p:PR w s_p A_p n_p c_p B_p m_p d_p t_p E_p i_p e_p F_p j_p f_p px py k) (q:PR w s_q A_q n_q c_q B_q m_q d_q t_q E_q i_q e_q F_q j_q f_q qx qy k) (a:QR w s_a A_a n_a c_a B_a m_a d_a xa ka) (b:QR w s_b A_b n_b c_b B_b m_b d_b ya ka) (hk:k≤60) (h1:1≤k) (hka:ka+(ka+ka+1)≤170) (h2:1≤ka) (hne:xa - ya ≠ 0) :
 Calls Tryz.prog 63 #[.agg #[.bool s_p,.slice A_p n_p c_p,.slice B_p m_p d_p,.bool t_p,.slice E_p i_p e_p,.slice F_p j_p f_p,.bool s_a,.slice A_a n_a c_a,.slice B_a m_a d_a],.agg #[.bool s_q,.slice A_q n_q c_q,.slice B_q m_q d_q,.bool t_q,.slice E_q i_q e_q,.slice F_q j_q f_q,.bool s_b,.slice A_b n_b c_b,.slice B_b m_b d_b]] w (GivesPt w (px+(qx - px)*(xa / (xa - ya))) (py+(qy - py)*(xa / (xa - ya))) (k+(k+k+1+(ka+(ka+ka+1)))+1)):=by
 go_enter Tryz.func63,Tryz.ntmps63
 go_upto_region 1 with (fail)
 generalize hW:World.alloc _ _=W
 obtain ⟨hb,XA,XB,Z,hzW⟩:=mkbx41_16 hW;clear hW;replace p:=p.below hb;replace q:=q.below hb;replace a:=a.below hb;replace b:=b.below hb
 refine betw1_region (by simp) rfl rfl XA XB a b (by omega) h2 hne ?_
 intro V w_s g_y s_y A_y n_y c_y B_y m_y d_y y XY hg_y hvy hh
 simp only [putAll,Act.put,List.setIfInBounds_toArray,List.set_cons_zero,List.set_cons_succ,hvy]
 clear hvy;replace p:=p.below hh;replace q:=q.below hh;replace a:=a.below hh;replace b:=b.below hh;replace XA:=XA.below hh;replace XB:=XB.below hh;replace Z:=Z.below hh;replace hb:=bend hb hh;obtain ⟨xa0,xa1,xa2,xa3,xa4,xa5,xa6,xa7,xa8⟩:=XA.all;obtain ⟨xb0,xb1,xb2,xb3,xb4,xb5,xb6,xb7,xb8⟩:=XB.all;obtain ⟨xy0,xy1,xy2⟩:=XY.all;have zg0:=Z.f0;have zg1:=Z.f1;have zg2:=Z.f2;have zg3:=Z.f3;have zg4:=Z.f4;have zg5:=Z.f5;obtain ⟨zc0,zc1,zc2,zc3,zc4,zc5⟩:=Z.all
 go_wp2_with (first
  | (go_at_call 104;(with_reducible refine (pmix_p p q y.qr hk hk hka h1 h1 (by omega)).mono ?_);rintro e w_r ⟨s_r,A_r,n_r,c_r,B_r,m_r,d_r,t_r,E_r,i_r,e_r,F_r,j_r,f_r,rfl,r,hh⟩
     (try replace Z:=Z.below hh);replace hb:=bend hb hh;have zg0:=Z.f0;have zg1:=Z.f1;have zg2:=Z.f2;have zg3:=Z.f3;have zg4:=Z.f4;have zg5:=Z.f5;obtain ⟨zc0,zc1,zc2,zc3,zc4,zc5⟩:=Z.all))
 have Z2:=Z.set6 (.bool s_r) (.slice A_r n_r c_r) (.slice B_r m_r d_r) (.bool t_r) (.slice E_r i_r e_r) (.slice F_r j_r f_r)
 obtain ⟨g0,g1,g2,g3,g4,g5⟩:=Z2.all
 refine bodyPost_ret (v:=.agg #[.bool s_r,.slice A_r n_r c_r,.slice B_r m_r d_r,.bool t_r,.slice E_r i_r e_r,.slice F_r j_r f_r]) (by simp [results,Tryz.results63,go_sem,g0,g1,g2,g3,g4,g5]) rfl ?_
 exact ⟨s_r,A_r,n_r,c_r,B_r,m_r,d_r,t_r,E_r,i_r,e_r,F_r,j_r,f_r,rfl,r.set6 Z _ _ _ _ _ _,below_set6 hb (by omega) _ _ _ _ _ _⟩
end
section
open Go Go.RowKit
def EachC (w:World) (M:List CV) (l:List (Rat × Rat)) (f:Rat × Rat→Rat) (k ka:Nat):Prop:=M.length=l.length∧∀ (i:Nat) (c:CV) (u:Rat × Rat),M[i]?=some c→l[i]?=some u→PV.PR w c.p u k∧QG w c.q.s c.q.A c.q.n c.q.c c.q.B c.q.m c.q.d (f u) ka
section
variable {w w':World} {M:List CV} {l:List (Rat × Rat)} {f:Rat × Rat→Rat} {k ka:Nat}
theorem EachC.nil:EachC w [] [] f k ka:=⟨rfl,fun i c u h=>by cases h⟩
theorem EachC.below (h:EachC w M l f k ka) (hb:Below w.heap.size w w'):EachC w' M l f k ka:=⟨h.1,fun i c u h1 h2=>⟨PR.below (h.2 i c u h1 h2).1 hb,(h.2 i c u h1 h2).2.below hb⟩⟩
theorem EachC.box {T:TypeId} {g:Nat} {cs:Array Value} (h:EachC w M l f k ka) (B:BoxAt T w g cs) (ho:Only g w w'):EachC w' M l f k ka:=⟨h.1,fun i c u h1 h2=>⟨PR.box (h.2 i c u h1 h2).1 B ho,(h.2 i c u h1 h2).2.box B ho⟩⟩
theorem EachC.push {c:CV} {u:Rat × Rat} (h:EachC w M l f k ka) (hp:PV.PR w c.p u k) (hq:QG w c.q.s c.q.A c.q.n c.q.c c.q.B c.q.m c.q.d (f u) ka):EachC w (M ++ [c]) (l ++ [u]) f k ka:=by
 refine ⟨by rw [List.length_append,List.length_append,h.1];rfl,fun i q v h1 h2=>?_⟩
 rcases Nat.lt_or_ge i M.length with hi | hi
 · rw [List.getElem?_append_left hi] at h1
   rw [List.getElem?_append_left (by rw [← h.1];exact hi)] at h2
   exact h.2 i q v h1 h2
 · rw [List.getElem?_append_right hi] at h1
   rw [List.getElem?_append_right (by rw [← h.1];exact hi),← h.1] at h2
   obtain ⟨j,hj⟩:∃ j,i - M.length=j:=⟨_,rfl⟩
   rw [hj] at h1 h2
   match j,h1,h2 with
   | 0,h1,h2=>cases h1;cases h2;exact ⟨hp,hq⟩
   | j+1,h1,h2=>simp at h1
theorem EachC.ring (h:EachC w M l f k ka):EachC w (ringL M) (ringL l) f k ka:=by
 refine ⟨by unfold ringL;rw [List.length_append,List.length_append,List.length_take,List.length_take,h.1],fun i p u hp hu=>?_⟩
 unfold ringL at hp hu
 rcases Nat.lt_or_ge i M.length with hi | hi
 · rw [List.getElem?_append_left hi] at hp
   rw [List.getElem?_append_left (by rw [← h.1];exact hi)] at hu
   exact h.2 i p u hp hu
 · rw [List.getElem?_append_right hi] at hp
   rw [List.getElem?_append_right (by rw [← h.1];exact hi),← h.1] at hu
   rw [List.getElem?_take] at hp hu
   split at hp
   · rename_i q;rw [if_pos q] at hu;exact h.2 _ p u hp hu
   · cases hp
theorem EachC.at_ (h:EachC w M l f k ka) {i:Nat} (hi:i < M.length):∃ c u,M[i]?=some c∧l[i]?=some u∧PV.PR w c.p u k∧QG w c.q.s c.q.A c.q.n c.q.c c.q.B c.q.m c.q.d (f u) ka :=
 ⟨_,_,List.getElem?_eq_getElem hi,List.getElem?_eq_getElem (by rw [← h.1];exact hi),h.2 i _ _ (List.getElem?_eq_getElem hi) (List.getElem?_eq_getElem (by rw [← h.1];exact hi))⟩
end
theorem BoxAt.setc {T:TypeId} {g m:Nat} {M:List CV} (h:BoxAt T w g (cvs M).toArray) (hm:m < M.length) (x:CV) :
 BoxAt T (((((((((w.setCell ⟨g,m*9,none⟩ (.bool x.p.s)).setCell ⟨g,m*9+1,none⟩ (.slice x.p.A x.p.n x.p.c)).setCell ⟨g,m*9+2,none⟩ (.slice x.p.B x.p.m x.p.d)).setCell ⟨g,m*9+3,none⟩ (.bool x.p.t)).setCell ⟨g,m*9+4,none⟩ (.slice x.p.E x.p.i x.p.e)).setCell ⟨g,m*9+5,none⟩ (.slice x.p.F x.p.j x.p.f)).setCell ⟨g,m*9+6,none⟩ (.bool x.q.s)).setCell ⟨g,m*9+7,none⟩ (.slice x.q.A x.q.n x.q.c)).setCell ⟨g,m*9+8,none⟩ (.slice x.q.B x.q.m x.q.d)) g (cvs (M.set m x)).toArray:=by
 refine ⟨?_,arr_free (cvs_free _)⟩
 have h0:=h.at_
 have e2:((((((((((cvs M).set (m*9) (.bool x.p.s)).set (m*9+1) (.slice x.p.A x.p.n x.p.c)).set (m*9+2) (.slice x.p.B x.p.m x.p.d)).set (m*9+3) (.bool x.p.t)).set (m*9+4) (.slice x.p.E x.p.i x.p.e)).set (m*9+5) (.slice x.p.F x.p.j x.p.f)).set (m*9+6) (.bool x.q.s)).set (m*9+7) (.slice x.q.A x.q.n x.q.c)).set (m*9+8) (.slice x.q.B x.q.m x.q.d))=cvs (M.set m x):=by
  apply List.ext_getElem?
  intro j
  have hl:(cvs M).length=M.length*9:=rows_length cvc_len M
  have:=rows_set cvc_len hm x j
  rw [show (cvs (M.set m x))[j]?=_ from this]
  simp only [List.getElem?_set,List.length_set,hl]
  by_cases h0:m*9≤j∧j < m*9+9
  · rw [if_pos h0]
    obtain ⟨a,rfl,ha⟩:∃ a,j=m*9+a∧a < 9:=⟨j - m*9,by omega,by omega⟩
    rw [Nat.add_sub_cancel_left]
    match a,ha with
    | 0,_=>rw [if_neg (by omega),if_neg (by omega),if_neg (by omega),if_neg (by omega),if_neg (by omega),if_neg (by omega),if_neg (by omega),if_neg (by omega),if_pos (by omega),if_pos (by omega)];rfl
    | 1,_=>rw [if_neg (by omega),if_neg (by omega),if_neg (by omega),if_neg (by omega),if_neg (by omega),if_neg (by omega),if_neg (by omega),if_pos (by omega),if_pos (by omega)];rfl
    | 2,_=>rw [if_neg (by omega),if_neg (by omega),if_neg (by omega),if_neg (by omega),if_neg (by omega),if_neg (by omega),if_pos (by omega),if_pos (by omega)];rfl
    | 3,_=>rw [if_neg (by omega),if_neg (by omega),if_neg (by omega),if_neg (by omega),if_neg (by omega),if_pos (by omega),if_pos (by omega)];rfl
    | 4,_=>rw [if_neg (by omega),if_neg (by omega),if_neg (by omega),if_neg (by omega),if_pos (by omega),if_pos (by omega)];rfl
    | 5,_=>rw [if_neg (by omega),if_neg (by omega),if_neg (by omega),if_pos (by omega),if_pos (by omega)];rfl
    | 6,_=>rw [if_neg (by omega),if_neg (by omega),if_pos (by omega),if_pos (by omega)];rfl
    | 7,_=>rw [if_neg (by omega),if_pos (by omega),if_pos (by omega)];rfl
    | 8,_=>rw [if_pos (by omega),if_pos (by omega)];rfl
    | a+9,ha=>omega
  · rw [if_neg h0,if_neg (by omega),if_neg (by omega),if_neg (by omega),if_neg (by omega),if_neg (by omega),if_neg (by omega),if_neg (by omega),if_neg (by omega),if_neg (by omega)];rfl
 simp [World.setCell,Array.getElem?_modify,h0,e2]
theorem onlyc (w:World) (gg o:Nat) (a b c d e f g h i:Value):Only gg w (((((((((w.setCell ⟨gg,o,none⟩ (a)).setCell ⟨gg,o+1,none⟩ (b)).setCell ⟨gg,o+2,none⟩ (c)).setCell ⟨gg,o+3,none⟩ (d)).setCell ⟨gg,o+4,none⟩ (e)).setCell ⟨gg,o+5,none⟩ (f)).setCell ⟨gg,o+6,none⟩ (g)).setCell ⟨gg,o+7,none⟩ (h)).setCell ⟨gg,o+8,none⟩ (i)):=((((((((((Only.refl gg w).setCell (o) a).setCell (o+1) b).setCell (o+2) c).setCell (o+3) d).setCell (o+4) e).setCell (o+5) f).setCell (o+6) g).setCell (o+7) h).setCell (o+8) i)
theorem setc_cell (W:World) (gg k o p:Nat) (a b c d e f g h i:Value) (hh:k ≠ gg):(((((((((W.setCell ⟨gg,o,none⟩ (a)).setCell ⟨gg,o+1,none⟩ (b)).setCell ⟨gg,o+2,none⟩ (c)).setCell ⟨gg,o+3,none⟩ (d)).setCell ⟨gg,o+4,none⟩ (e)).setCell ⟨gg,o+5,none⟩ (f)).setCell ⟨gg,o+6,none⟩ (g)).setCell ⟨gg,o+7,none⟩ (h)).setCell ⟨gg,o+8,none⟩ (i)).cell? ⟨k,p,none⟩=W.cell? ⟨k,p,none⟩:=by
 rw [World.cell?_of_block (Below.heap_setCell _ _ _ _ hh),World.cell?_of_block (Below.heap_setCell _ _ _ _ hh),World.cell?_of_block (Below.heap_setCell _ _ _ _ hh),World.cell?_of_block (Below.heap_setCell _ _ _ _ hh),World.cell?_of_block (Below.heap_setCell _ _ _ _ hh),World.cell?_of_block (Below.heap_setCell _ _ _ _ hh),World.cell?_of_block (Below.heap_setCell _ _ _ _ hh),World.cell?_of_block (Below.heap_setCell _ _ _ _ hh),World.cell?_of_block (Below.heap_setCell _ _ _ _ hh)]
theorem BoxAt.c9 {T:TypeId} {g m:Nat} {M:List CV} {p:CV} (h:BoxAt T w g (cvs M).toArray) (hp:M[m]?=some p):E9x w g (m*9) p:=by
 have key:∀ j,j < 9→∀ u,p.cells[j]?=some u→w.cell? ⟨g,m*9+j,none⟩=some u:=fun j hj u hu=>by
  rw [cell_of_row w g (m*9+j) _ _ (0,0) h.at_,← hu,← rows_get cvc_len hp hj];simp [cvs]
 exact ⟨h.lt,key 0 (by decide) _ rfl,key 1 (by decide) _ rfl,key 2 (by decide) _ rfl,key 3 (by decide) _ rfl,key 4 (by decide) _ rfl,key 5 (by decide) _ rfl,key 6 (by decide) _ rfl,key 7 (by decide) _ rfl,key 8 (by decide) _ rfl⟩
theorem idx_ct {g n c i:Nat} (h:i < n) (w:World):(Instr.indexAt 89 (.slice (some ⟨g,0,none⟩) n c) (.int .i64 (i:Int))).run Tryz.prog w=.ok (.pointer (some ⟨g,i*9,none⟩)) w:=by
 have ha:∀ j,(⟨g,0,none⟩:Addr).add j=⟨g,j,none⟩:=fun j=>by unfold Addr.add;split <;> simp_all
 obtain ⟨i0,hi,hz,hs,hby⟩:=info_parts (show (Tryz.prog.info? 92).map (fun i=>(i.zero,i.size,i.bytes))=some (some (.agg #[.bool false,.slice none 0 0,.slice none 0 0,.bool false,.slice none 0 0,.slice none 0 0,.bool false,.slice none 0 0,.slice none 0 0]),9,168) by kernel_rfl)
 have h1:(0:Int)≤(i:Int):=by omega
 have h2:(i:Int) < (n:Int):=by omega
 simp [Instr.indexAt,asIntOf,run_underlying Tryz.underlying89,h1,sizeOf,typeInfo,hi,hs,ha]
 exact fun e=>absurd h (by omega)
def asideP (ax ay bx by_:Rat) (u:Rat × Rat):Rat:=(bx - ax)*(u.2 - ay) - (by_ - ay)*(u.1 - ax)
def GivesCs (w:World) (n:Nat) (l:List (Rat × Rat)) (f:Rat × Rat→Rat) (k ka:Nat) (e:Ending) (w':World):Prop:=∃ g M,e=.returned (.slice (some ⟨g,0,none⟩) n n)∧w.heap.size≤g∧BoxAt 92 w' g (cvs M).toArray∧M.length=n∧EachC w' M l f k ka∧Below w.heap.size w w'
abbrev L_bes1:List Nat:=[11,12,13,14,15,16,7,8]
def o0_bes1:Oper:=⟨some 11,.load 29 (.tmp 5),29, "half.go:36",#[],none⟩
def o1_bes1:Oper:=⟨some 12,.load 29 (.tmp 4),29, "half.go:36",#[],none⟩
def o2_bes1:Oper:=⟨some 13,.call ⟨.value (.func 77),#[.tmp 11,.tmp 12],#[29,29]⟩,29, "half.go:36",#[⟨0,.data⟩,⟨1,.data⟩],none⟩
def o3_bes1:Oper:=⟨some 14,.move (.tmp 0),22, "half.go:36",#[],none⟩
def o4_bes1:Oper:=⟨some 15,.call ⟨.builtin Builtin.len,#[.tmp 14],#[22]⟩,3, "half.go:36",#[⟨3,.data⟩],none⟩
def o5_bes1:Oper:=⟨some 16,.makeSlice 89 (.tmp 15) (.tmp 15),89, "half.go:36",#[⟨4,.data⟩,⟨4,.data⟩],none⟩
def o6_bes1:Oper:=⟨some 7,.alloc 29,0, "half.go:36",#[],none⟩
def o7_bes1:Oper:=⟨none,.store 29 (.tmp 7) (.tmp 13),0, "half.go:36",#[⟨6,.data⟩,⟨2,.data⟩,⟨2,.chain⟩,⟨0,.phase⟩,⟨1,.phase⟩,⟨2,.phase⟩,⟨3,.textOnly .lateStores⟩,⟨4,.textOnly .lateStoresUnsure⟩,⟨5,.textOnly .lateStoresUnsure⟩,⟨6,.phase⟩],none⟩
def o8_bes1:Oper:=⟨some 8,.assign (.tmp 16),89, "half.go:36",#[⟨5,.data⟩,⟨7,.chain⟩,⟨0,.phase⟩,⟨1,.phase⟩,⟨2,.phase⟩,⟨3,.phase⟩,⟨4,.phase⟩,⟨5,.phase⟩,⟨6,.phase⟩,⟨7,.phase⟩],none⟩
def F_bes1 (A:Option Addr) (n:Nat) (c:Nat) (base:Nat) (k2:Nat) (ax:Rat) (ay:Rat) (bx:Rat) (by_:Rat) (s_a:Bool) (t_a:Bool) (A_a:Option Addr) (B_a:Option Addr) (E_a:Option Addr) (F_a:Option Addr) (n_a:Nat) (c_a:Nat) (m_a:Nat) (d_a:Nat) (i_a:Nat) (e_a:Nat) (j_a:Nat) (f_a:Nat) (s_b:Bool) (t_b:Bool) (A_b:Option Addr) (B_b:Option Addr) (E_b:Option Addr) (F_b:Option Addr) (n_b:Nat) (c_b:Nat) (m_b:Nat) (d_b:Nat) (i_b:Nat) (e_b:Nat) (j_b:Nat) (f_b:Nat) (sl:Nat):Value→World→Prop :=
 match sl with
 | 11=>fun x _=>x=Value.agg #[.bool s_b,.slice A_b n_b c_b,.slice B_b m_b d_b,.bool t_b,.slice E_b i_b e_b,.slice F_b j_b f_b]
 | 12=>fun x _=>x=Value.agg #[.bool s_a,.slice A_a n_a c_a,.slice B_a m_a d_a,.bool t_a,.slice E_a i_a e_a,.slice F_a j_a f_a]
 | 13=>VPG (bx - ax) (by_ - ay) (k2+k2+1)
 | 14=>fun x _=>x=Value.slice A n c
 | 15=>fun x _=>x=Value.int .i64 (n:Int)
 | 16=>VMK (92) ((cvs (List.replicate n zcv)).toArray) (n) (base)
 | 8=>VMK (92) ((cvs (List.replicate n zcv)).toArray) (n) (base)
 | _=>fun _ _=>True
def B0_bes1 (k2:Nat) (ax:Rat) (ay:Rat) (bx:Rat) (by_:Rat):BoxOp :=
 ⟨6,7,7,29,#[.bool false,.slice none 0 0,.slice none 0 0,.bool false,.slice none 0 0,.slice none 0 0],fun cs w=>∃ s A n c B m d t E i e F j f,cs=#[.bool s,.slice A n c,.slice B m d,.bool t,.slice E i e,.slice F j f]∧PG w s A n c B m d t E i e F j f (bx - ax) (by_ - ay) (k2+k2+1)⟩
theorem bes1_region {id:Nat} {ac:Act} {Q:Exit→Act→World→Prop} {A:Option Addr} {n c base ga gb k2:Nat} {ax ay bx by_:Rat} 
 (hsz:16 < ac.tmps.size) (e0:ac.eval (.tmp 0)=Value.slice A n c) (e4:ac.eval (.tmp 4)=Value.pointer (some ⟨ga,0,none⟩)) (e5:ac.eval (.tmp 5)=Value.pointer (some ⟨gb,0,none⟩)) (XA:B6 w ga (.bool s_a) (.slice A_a n_a c_a) (.slice B_a m_a d_a) (.bool t_a) (.slice E_a i_a e_a) (.slice F_a j_a f_a)) (XB:B6 w gb (.bool s_b) (.slice A_b n_b c_b) (.slice B_b m_b d_b) (.bool t_b) (.slice E_b i_b e_b) (.slice F_b j_b f_b)) (a:PR w s_a A_a n_a c_a B_a m_a d_a t_a E_a i_a e_a F_a j_a f_a ax ay k2) (b:PR w s_b A_b n_b c_b B_b m_b d_b t_b E_b i_b e_b F_b j_b f_b bx by_ k2) (hk:k2≤300) (h1:1≤k2) (hm:n≤100000) (hbs:base≤w.heap.size)
 (hend:∀ (V:Nat→Value) (w':World) (g0:Nat) (s0:Bool) (A0:Option Addr) (n0:Nat) (c0:Nat) (B0:Option Addr) (m0:Nat) (d0:Nat) (t0:Bool) (E0:Option Addr) (i0:Nat) (e0:Nat) (F0:Option Addr) (j0:Nat) (f0:Nat),PG w' s0 A0 n0 c0 B0 m0 d0 t0 E0 i0 e0 F0 j0 f0 (bx - ax) (by_ - ay) (k2+k2+1)→B6 w' g0 (.bool s0) (.slice A0 n0 c0) (.slice B0 m0 d0) (.bool t0) (.slice E0 i0 e0) (.slice F0 j0 f0)→w.heap.size≤g0→V 7=.pointer (some ⟨g0,0,none⟩)→(VMK (92) ((cvs (List.replicate n zcv)).toArray) (n) (base)) (V 8) w'→Below w.heap.size w w'→Q .normal (putAll ac [11,12,13,14,15,16,7,8] V) w') :
 (Code.region id #[o0_bes1,o1_bes1,o2_bes1,o3_bes1,o4_bes1,o5_bes1,o6_bes1,o7_bes1,o8_bes1] true).wp Tryz.prog Q ac w:=by
 have hnd:L_bes1.Nodup:=by decide
 have G:∀ (sv:Nat→Value) (t:Nat),t ∈ L_bes1→t≤16→(putAll ac L_bes1 sv).eval (.tmp t)=sv t:=fun sv t ht h=>eval_putAll_mem (t:=t) L_bes1 ac hnd ht (Nat.lt_of_le_of_lt h hsz)
 have E0:∀ sv:Nat→Value,(putAll ac L_bes1 sv).eval (.tmp 0)=Value.slice A n c:=fun sv=>(eval_putAll_not (v:=sv) L_bes1 ac (show 0 ∉ _ by decide)).trans e0
 have E4:∀ sv:Nat→Value,(putAll ac L_bes1 sv).eval (.tmp 4)=Value.pointer (some ⟨ga,0,none⟩):=fun sv=>(eval_putAll_not (v:=sv) L_bes1 ac (show 4 ∉ _ by decide)).trans e4
 have E5:∀ sv:Nat→Value,(putAll ac L_bes1 sv).eval (.tmp 5)=Value.pointer (some ⟨gb,0,none⟩):=fun sv=>(eval_putAll_not (v:=sv) L_bes1 ac (show 5 ∉ _ by decide)).trans e5
 have NE:∀ t:Nat,(t ≠ 7)→∀ p ∈ [B0_bes1 k2 ax ay bx by_],t ≠ p.tA:=by
  intro t ht p hp
  simp only [List.mem_cons,List.not_mem_nil,or_false] at hp
  rcases hp with rfl
  · exact ht
 refine wp_region_flowsT L_bes1 [B0_bes1 k2 ax ay bx by_] (F_bes1 A n c base k2 ax ay bx by_ s_a t_a A_a B_a E_a F_a n_a c_a m_a d_a i_a e_a j_a f_a s_b t_b A_b B_b E_b F_b n_b c_b m_b d_b i_b e_b j_b f_b) (by kernel_rfl) (by kernel_rfl) rfl hnd ?_ ?_ ?_ ?_ ?_ ?_ ?_ ?_
 · intro p hp
   simp only [List.mem_cons,List.not_mem_nil,or_false] at hp
   rcases hp with rfl
   · refine ⟨⟨o6_bes1,rfl,rfl,rfl,fun e w'=>run_alloc6⟩,⟨o7_bes1,rfl,rfl,rfl,⟨6,.data⟩,by simp [o7_bes1],rfl,rfl⟩,free6 _ _ _ _ _ _ _ _ _ _ _ _ _ _,?_,?_⟩
     · rintro cs w1 w2 ⟨s_,A_,n_,c_,B_,m_,d_,t_,E_,i_,e_,F_,j_,f_,rfl,h⟩ hb;exact ⟨s_,A_,n_,c_,B_,m_,d_,t_,E_,i_,e_,F_,j_,f_,rfl,h.below hb⟩
     · rintro T cs w1 w2 g c0 ⟨s_,A_,n_,c_,B_,m_,d_,t_,E_,i_,e_,F_,j_,f_,rfl,h⟩ hB ho;exact ⟨s_,A_,n_,c_,B_,m_,d_,t_,E_,i_,e_,F_,j_,f_,rfl,h.box hB ho⟩
 · intro p hp q hq h
   simp only [List.mem_cons,List.not_mem_nil,or_false] at hp hq
   rcases hp with rfl <;> rcases hq with rfl
   · rfl
 · intro p hp q hq h
   simp only [List.mem_cons,List.not_mem_nil,or_false] at hp hq
   rcases hp with rfl <;> rcases hq with rfl
   · rfl
 · intro i o h1 h2
   match i,h1 with
   | 0,h1=>cases h1;cases h2
   | 1,h1=>cases h1;cases h2
   | 2,h1=>cases h1;cases h2
   | 3,h1=>cases h1;cases h2
   | 4,h1=>cases h1;cases h2
   | 5,h1=>cases h1;cases h2
   | 6,h1=>cases h1;cases h2
   | 7,h1=>exact ⟨B0_bes1 k2 ax ay bx by_,List.Mem.head _,rfl⟩
   | 8,h1=>cases h1;cases h2
   | i+9,h1=>cases h1
 · intro t
   unfold F_bes1
   split <;> first | exact (stays_eq _).inn _ | exact (stays_q _ _).inn _ | exact (stays_z _ _).inn _ | exact (stays_r _ _).inn _ | exact (stays_rq _ _).inn _ | exact (stays_pg _ _ _).inn _ | exact (stays_true).inn _ | exact stays_mk _ _ _ _ _ (fun p hp=>by rw [List.mem_singleton.1 hp];exact (by decide:(29:Nat) ≠ 92))
 · intro i o t sv w' ho hia hd J0 hf
   have XA:=XA.below J0;have XB:=XB.below J0;have a:=a.below J0;have b:=b.below J0
   match i,ho with
   | 0,ho =>
     obtain rfl:o0_bes1=o:=Option.some.inj ho
     cases hd
     refine wpOp_plain' (o:=o0_bes1) rfl rfl ?_
     unfold Oper.wp o0_bes1
     rw [run_load6 (E5 sv) XB.c0 XB.c1 XB.c2 XB.c3 XB.c4 XB.c5,Oper.upon_value]
     exact ⟨_,rfl,Below.refl _ _,rfl⟩
   | 1,ho =>
     obtain rfl:o1_bes1=o:=Option.some.inj ho
     cases hd
     refine wpOp_plain' (o:=o1_bes1) rfl rfl ?_
     unfold Oper.wp o1_bes1
     rw [run_load6 (E4 sv) XA.c0 XA.c1 XA.c2 XA.c3 XA.c4 XA.c5,Oper.upon_value]
     exact ⟨_,rfl,Below.refl _ _,rfl⟩
   | 2,ho =>
     obtain rfl:o2_bes1=o:=Option.some.inj ho
     cases hd
     have f11:sv 11=Value.agg #[.bool s_b,.slice A_b n_b c_b,.slice B_b m_b d_b,.bool t_b,.slice E_b i_b e_b,.slice F_b j_b f_b]:=hf ⟨0,.data⟩ (by simp [o2_bes1]) rfl _ 11 rfl rfl (NE _ (by decide))
     have f12:sv 12=Value.agg #[.bool s_a,.slice A_a n_a c_a,.slice B_a m_a d_a,.bool t_a,.slice E_a i_a e_a,.slice F_a j_a f_a]:=hf ⟨1,.data⟩ (by simp [o2_bes1]) rfl _ 12 rfl rfl (NE _ (by decide))
     refine wpOp_plain' (o:=o2_bes1) rfl rfl ?_
     unfold Oper.wp o2_bes1
     rw [rc_gesso_pt_Sub ((G sv 11 (by decide) (by decide)).trans f11) ((G sv 12 (by decide) (by decide)).trans f12) rfl,Oper.upon_enter]
     refine (psub_p b a hk hk (.inl (by omega)) h1 h1).mono ?_
     rintro e w1 ⟨s_,A_,n_,c_,B_,m_,d_,t_,E_,i_,e_,F_,j_,f_,rfl,hq,hh⟩
     exact ⟨_,rfl,hh,s_,A_,n_,c_,B_,m_,d_,t_,E_,i_,e_,F_,j_,f_,rfl,hq⟩
   | 3,ho =>
     obtain rfl:o3_bes1=o:=Option.some.inj ho
     cases hd
     refine wpOp_plain' (o:=o3_bes1) rfl rfl ?_
     unfold Oper.wp o3_bes1
     rw [run_move (E0 sv),Oper.upon_value]
     exact ⟨_,rfl,Below.refl _ _,rfl⟩
   | 4,ho =>
     obtain rfl:o4_bes1=o:=Option.some.inj ho
     cases hd
     have f14:sv 14=Value.slice A n c:=hf ⟨3,.data⟩ (by simp [o4_bes1]) rfl _ 14 rfl rfl (NE _ (by decide))
     refine wpOp_plain' (o:=o4_bes1) rfl rfl ?_
     unfold Oper.wp o4_bes1
     rw [run_len_p ((G sv 14 (by decide) (by decide)).trans f14) ,Oper.upon_value]
     exact ⟨_,rfl,Below.refl _ _,rfl⟩
   | 5,ho =>
     obtain rfl:o5_bes1=o:=Option.some.inj ho
     cases hd
     have f15:sv 15=Value.int .i64 (n:Int):=hf ⟨4,.data⟩ (by simp [o5_bes1]) rfl _ 15 rfl rfl (NE _ (by decide))
     refine wpOp_plain' (o:=o5_bes1) rfl rfl ?_
     unfold Oper.wp o5_bes1
     rw [run_make_c ((G sv 15 (by decide) (by decide)).trans f15) ((G sv 15 (by decide) (by decide)).trans f15) hm,Oper.upon_value]
     exact ⟨_,rfl,(Below.refl _ _).alloc (Nat.le_refl _) _,_,rfl,made_c w' n base (Nat.le_trans hbs J0.size)⟩
   | 6,ho=>cases ho;cases hd;exact absurd rfl (hia (B0_bes1 k2 ax ay bx by_) (List.Mem.head _))
   | 7,ho=>cases ho;cases hd
   | 8,ho =>
     obtain rfl:o8_bes1=o:=Option.some.inj ho
     cases hd
     have f:=hf ⟨5,.data⟩ (by simp [o8_bes1]) rfl _ 16 rfl rfl (NE _ (by decide))
     refine wpOp_plain' (o:=o8_bes1) rfl rfl ?_
     unfold Oper.wp o8_bes1
     rw [run_assign (G sv 16 (by decide) (by decide)),Oper.upon_value]
     exact ⟨_,rfl,Below.refl _ _,f⟩
   | i+9,ho=>cases ho
 · intro p hp os sv w' g hos J0 p1 p3 hf
   simp only [List.mem_cons,List.not_mem_nil,or_false] at hp
   rcases hp with rfl
   · obtain rfl:o7_bes1=os:=Option.some.inj hos
     have h1:VPG (bx - ax) (by_ - ay) (k2+k2+1) (sv 13) w':=hf ⟨2,.data⟩ (by simp [o7_bes1]) rfl _ 13 rfl rfl (NE _ (by decide))
     rw [← G sv 13 (by decide) (by decide)] at h1
     refine store_pg (x:=bx - ax) (y:=by_ - ay) (k:=k2+k2+1) (ac:=putAll ac L_bes1 sv) (z:=.tmp 13) ?_ ?_ ?_
     · exact (G sv 7 (by decide) (by decide)).trans p1
     · exact h1
     · exact p3
 · intro sv w' J0 hF hB hap
   obtain ⟨g0,cs0,p0,r0,b0,⟨s0,A0,n0,c0,B0,m0,d0,t0,E0,i0,e0,F0,j0,f0,rfl,h0⟩⟩:=hB (B0_bes1 k2 ax ay bx by_) (List.Mem.head _)
   have p0':sv 7=.pointer (some ⟨g0,0,none⟩):=p0
   exact hend sv w' g0 _ _ _ _ _ _ _ _ _ _ _ _ _ _ h0 b0.at_ r0 p0'  (hF 8 _ 8 rfl rfl (NE _ (by decide))) J0
theorem beside_p {A:Option Addr} {n c k k2:Nat} {L:List PV} {l:List (Rat × Rat)} {ax ay bx by_:Rat} (hL:SV w A (pvs L)) (hE:Each PV.PR w L l k) (a:PR w s_a A_a n_a c_a B_a m_a d_a t_a E_a i_a e_a F_a j_a f_a ax ay k2) (b:PR w s_b A_b n_b c_b B_b m_b d_b t_b E_b i_b e_b F_b j_b f_b bx by_ k2) (hn:L.length=n) (hm:n≤1000) (h1:1≤k) (h2:1≤k2) (hk:k2+k2+1+(k+k2+1)≤200) :
 Calls Tryz.prog 62 #[.slice A n c,.agg #[.bool s_a,.slice A_a n_a c_a,.slice B_a m_a d_a,.bool t_a,.slice E_a i_a e_a,.slice F_a j_a f_a],.agg #[.bool s_b,.slice A_b n_b c_b,.slice B_b m_b d_b,.bool t_b,.slice E_b i_b e_b,.slice F_b j_b f_b]] w (GivesCs w n l (asideP ax ay bx by_) k (k2+k2+1+(k+k2+1)+(k2+k2+1+(k+k2+1))+1)):=by
 have HN:=Lib.hid hn;have HL0:=Lib.hid hL;have E0:=Lib.hid hE;have RA:=Lib.hid a
 go_enter Tryz.func62,Tryz.ntmps62
 go_upto_region 1 with (fail)
 generalize hW:World.alloc _ _=W
 obtain ⟨hb,XA,XB,hzW⟩:=mkbx24_10 hW;clear hW;replace a:=a.below hb;replace b:=b.below hb
 refine bes1_region (by simp) rfl rfl rfl XA XB a b (by omega) h2 (by omega) (Nat.le_refl _) ?_
 intro V w1 gW s_y A_y n_y c_y B_y m_y d_y t_y E_y i_y e_y F_y j_y f_y y XW hgW hvW hF8 hh
 obtain ⟨gP,hv8,hgP,hP0⟩:=hF8
 simp only [putAll,Act.put,List.setIfInBounds_toArray,List.set_cons_zero,List.set_cons_succ,hvW,hv8]
 clear hvW hv8;replace XA:=XA.below hh;replace hb:=bend hb hh
 have hgWP:gW ≠ gP:=BoxAt.ne (cs:=#[.bool s_y,.slice A_y n_y c_y,.slice B_y m_y d_y,.bool t_y,.slice E_y i_y e_y,.slice F_y j_y f_y]) ⟨XW,free6 _ _ _ _ _ _ _ _ _ _ _ _ _ _⟩ hP0 (.inl (by decide))
 have hgAP:w.heap.size ≠ gP:=by omega
 clear hL hE a b XB hh
 go_wp2_with fail
 go_loopg [19] n (fun gk ix wr=>∃ (M:List CV) (m:Nat),Hid (gk+m=n)∧ix=.int .i64 (m:Int)∧Hid (M.length=n)∧BoxAt 92 wr gP (cvs M).toArray∧Hid (EachC wr (M.take m) (l.take m) (asideP ax ay bx by_) k (k2+k2+1+(k+k2+1)+(k2+k2+1+(k+k2+1))+1))∧B6 wr gW (.bool s_y) (.slice A_y n_y c_y) (.slice B_y m_y d_y) (.bool t_y) (.slice E_y i_y e_y) (.slice F_y j_y f_y)∧B6 wr w.heap.size (.bool s_a) (.slice A_a n_a c_a) (.slice B_a m_a d_a) (.bool t_a) (.slice E_a i_a e_a) (.slice F_a j_a f_a)∧Hid (PG wr s_y A_y n_y c_y B_y m_y d_y t_y E_y i_y e_y F_y j_y f_y (bx - ax) (by_ - ay) (k2+k2+1))∧Below w.heap.size w wr)
 case atStart=>exact ⟨List.replicate n zcv,0,Nat.add_zero _,rfl,by show _=_;rw [List.length_replicate],hP0,EachC.nil,XW,XA,y,hb⟩
 case round =>
  clear hP0 XW XA y
  obtain ⟨M,m,HG,rfl,HM,hP,HQ,XW,XA,HY,hb⟩:=hrel
  by_cases hmn:m < n
  · have hmn':m < M.length:=by rw [HM.out];exact hmn
    obtain ⟨pm,hpm⟩:∃ pm,M[m]?=some pm:=⟨_,List.getElem?_eq_getElem hmn'⟩
    have HPM:=Lib.hid hpm
    have HL1:=Lib.hid hmn'
    have hixq:∀ w',(Instr.indexAt 89 (.slice (some ⟨gP,0,none⟩) n n) (.int .i64 (m:Int))).run Tryz.prog w'=.ok (.pointer (some ⟨gP,m*9,none⟩)) w':=idx_ct hmn
    obtain ⟨P,u,hP1,hu1,p⟩:=(E0.out.imp (fun p u h=>PR.below h hb)).at_ (i:=m) (by rw [HN.out];exact hmn)
    obtain ⟨g0,o0,hix0,E,_⟩:=(HL0.out.below hb).pt hP1
    have hixa:∀ w',(Instr.indexAt 22 (.slice A n c) (.int .i64 (m:Int))).run Tryz.prog w'=.ok (.pointer (some ⟨g0,o0,none⟩)) w':=fun w'=>hix0 n c w' hmn
    have hlt:(m:Int) < (n:Int):=by omega
    have a:=PR.below RA.out hb;have y:=HY.out;have HU:=Lib.hid hu1
    obtain ⟨ux,uy⟩:=u
    obtain ⟨s_p,A_p,n_p,c_p,B_p,m_p,d_p,t_p,E_p,i_p,e_p,F_p,j_p,f_p⟩:=P
    replace p:PR wr s_p A_p n_p c_p B_p m_p d_p t_p E_p i_p e_p F_p j_p f_p ux uy k:=p
    replace HQ:=HQ.out
    have hx1:wr.heap.size ≠ gP:=by have:=hP.lt;omega
    obtain ⟨e0,e1,e2,e3,e4,e5⟩:=E.all
    simp only at e0 e1 e2 e3 e4 e5
    clear hpm hP1 hu1 hix0 hmn' hmn HY
    go_upto_region 5 with (fail)
    generalize hW:World.alloc _ _=W2
    obtain ⟨hh,X,hzW2⟩:=mkbx18_10 hW;clear hW;(try replace p:=p.below hh);(try replace a:=a.below hh);(try replace y:=y.below hh);(try replace hP:=hP.below hh);(try replace HQ:=HQ.below hh);(try replace XW:=XW.below hh);(try replace XA:=XA.below hh);replace hb:=bend hb hh
    replace p:=p.below (Below.refl _ _).drew
    replace a:=a.below (Below.refl _ _).drew
    replace y:=y.below (Below.refl _ _).drew
    replace hP:=hP.below (Below.refl _ _).drew
    replace HQ:=HQ.below (Below.refl _ _).drew
    replace XW:=XW.below (Below.refl _ _).drew
    replace XA:=XA.below (Below.refl _ _).drew
    replace X:=X.below (Below.refl _ _).drew
    replace hb:=hb.drew
    go_region_held3 (fun w'=>w'.cell? ⟨wr.heap.size,0,none⟩=some (.bool s_p)∧w'.cell? ⟨wr.heap.size,1,none⟩=some (.slice A_p n_p c_p)∧w'.cell? ⟨wr.heap.size,2,none⟩=some (.slice B_p m_p d_p)∧w'.cell? ⟨wr.heap.size,3,none⟩=some (.bool t_p)∧w'.cell? ⟨wr.heap.size,4,none⟩=some (.slice E_p i_p e_p)∧w'.cell? ⟨wr.heap.size,5,none⟩=some (.slice F_p j_p f_p)∧w'.cell? ⟨gW,0,none⟩=some (.bool s_y)∧w'.cell? ⟨gW,1,none⟩=some (.slice A_y n_y c_y)∧w'.cell? ⟨gW,2,none⟩=some (.slice B_y m_y d_y)∧w'.cell? ⟨gW,3,none⟩=some (.bool t_y)∧w'.cell? ⟨gW,4,none⟩=some (.slice E_y i_y e_y)∧w'.cell? ⟨gW,5,none⟩=some (.slice F_y j_y f_y)∧w'.cell? ⟨w.heap.size,0,none⟩=some (.bool s_a)∧w'.cell? ⟨w.heap.size,1,none⟩=some (.slice A_a n_a c_a)∧w'.cell? ⟨w.heap.size,2,none⟩=some (.slice B_a m_a d_a)∧w'.cell? ⟨w.heap.size,3,none⟩=some (.bool t_a)∧w'.cell? ⟨w.heap.size,4,none⟩=some (.slice E_a i_a e_a)∧w'.cell? ⟨w.heap.size,5,none⟩=some (.slice F_a j_a f_a))
     (first | with_reducible exact ⟨X.c0,X.c1,X.c2,X.c3,X.c4,X.c5,XW.c0,XW.c1,XW.c2,XW.c3,XW.c4,XW.c5,XA.c0,XA.c1,XA.c2,XA.c3,XA.c4,XA.c5⟩ | with_reducible exact ⟨(setc_cell _ _ _ _ _ _ _ _ _ _ _ _ _ _ hx1).trans X.c0,(setc_cell _ _ _ _ _ _ _ _ _ _ _ _ _ _ hx1).trans X.c1,(setc_cell _ _ _ _ _ _ _ _ _ _ _ _ _ _ hx1).trans X.c2,(setc_cell _ _ _ _ _ _ _ _ _ _ _ _ _ _ hx1).trans X.c3,(setc_cell _ _ _ _ _ _ _ _ _ _ _ _ _ _ hx1).trans X.c4,(setc_cell _ _ _ _ _ _ _ _ _ _ _ _ _ _ hx1).trans X.c5,(setc_cell _ _ _ _ _ _ _ _ _ _ _ _ _ _ hgWP).trans XW.c0,(setc_cell _ _ _ _ _ _ _ _ _ _ _ _ _ _ hgWP).trans XW.c1,(setc_cell _ _ _ _ _ _ _ _ _ _ _ _ _ _ hgWP).trans XW.c2,(setc_cell _ _ _ _ _ _ _ _ _ _ _ _ _ _ hgWP).trans XW.c3,(setc_cell _ _ _ _ _ _ _ _ _ _ _ _ _ _ hgWP).trans XW.c4,(setc_cell _ _ _ _ _ _ _ _ _ _ _ _ _ _ hgWP).trans XW.c5,(setc_cell _ _ _ _ _ _ _ _ _ _ _ _ _ _ hgAP).trans XA.c0,(setc_cell _ _ _ _ _ _ _ _ _ _ _ _ _ _ hgAP).trans XA.c1,(setc_cell _ _ _ _ _ _ _ _ _ _ _ _ _ _ hgAP).trans XA.c2,(setc_cell _ _ _ _ _ _ _ _ _ _ _ _ _ _ hgAP).trans XA.c3,(setc_cell _ _ _ _ _ _ _ _ _ _ _ _ _ _ hgAP).trans XA.c4,(setc_cell _ _ _ _ _ _ _ _ _ _ _ _ _ _ hgAP).trans XA.c5⟩)
     (first
     | (go_at_call 77;(with_reducible refine (psub_p p a (by omega) (by omega) (.inl (by omega)) h1 h2).mono ?_);rintro e w_s ⟨s_s,A_s,n_s,c_s,B_s,m_s,d_s,t_s,E_s,i_s,e_s,F_s,j_s,f_s,rfl,s,hh⟩
        (try replace p:=p.below hh);(try replace a:=a.below hh);(try replace y:=y.below hh);(try replace hP:=hP.below hh);(try replace HQ:=HQ.below hh);(try replace XW:=XW.below hh);(try replace XA:=XA.below hh);(try replace X:=X.below hh);replace hb:=bend hb hh;have Eq:=hP.c9 HPM.out;obtain ⟨q0,q1,q2,q3,q4,q5,q6,q7,q8⟩:=Eq.all
        have qf0:=hP.frz (j:=m*9)
        have qf1:=hP.frz (j:=m*9+1)
        have qf2:=hP.frz (j:=m*9+2)
        have qf3:=hP.frz (j:=m*9+3)
        have qf4:=hP.frz (j:=m*9+4)
        have qf5:=hP.frz (j:=m*9+5)
        have qf6:=hP.frz (j:=m*9+6)
        have qf7:=hP.frz (j:=m*9+7)
        have qf8:=hP.frz (j:=m*9+8))
     | (go_at_call 48;(with_reducible refine (pcross_p y.pr s.pr hk (by omega) (by omega)).mono ?_);rintro e w_x ⟨s_x,A_x,n_x,c_x,B_x,m_x,d_x,rfl,x,hh⟩
        (try replace p:=p.below hh);(try replace a:=a.below hh);(try replace y:=y.below hh);(try replace hP:=hP.below hh);(try replace HQ:=HQ.below hh);(try replace XW:=XW.below hh);(try replace XA:=XA.below hh);(try replace X:=X.below hh);replace hb:=bend hb hh;have Eq:=hP.c9 HPM.out;obtain ⟨q0,q1,q2,q3,q4,q5,q6,q7,q8⟩:=Eq.all
        have qf0:=hP.frz (j:=m*9)
        have qf1:=hP.frz (j:=m*9+1)
        have qf2:=hP.frz (j:=m*9+2)
        have qf3:=hP.frz (j:=m*9+3)
        have qf4:=hP.frz (j:=m*9+4)
        have qf5:=hP.frz (j:=m*9+5)
        have qf6:=hP.frz (j:=m*9+6)
        have qf7:=hP.frz (j:=m*9+7)
        have qf8:=hP.frz (j:=m*9+8)))
    have ho:=onlyc w_x gP (m*9) (.bool s_p) (.slice A_p n_p c_p) (.slice B_p m_p d_p) (.bool t_p) (.slice E_p i_p e_p) (.slice F_p j_p f_p) (.bool s_x) (.slice A_x n_x c_x) (.slice B_x m_x d_x)
    have hP2:=hP.setc HL1.out (CV.mk (PV.mk s_p A_p n_p c_p B_p m_p d_p t_p E_p i_p e_p F_p j_p f_p) (QV.mk s_x A_x n_x c_x B_x m_x d_x))
    replace x:=x.box hP ho;replace p:=PR.box p hP ho;replace y:=PG.box y hP ho
    replace HQ:=(HQ.box hP ho).push (c:=(CV.mk (PV.mk s_p A_p n_p c_p B_p m_p d_p t_p E_p i_p e_p F_p j_p f_p) (QV.mk s_x A_x n_x c_x B_x m_x d_x))) (u:=(ux,uy)) p x
    replace XW:B6 (((((((((w_x.setCell ⟨gP,m*9,none⟩ (.bool s_p)).setCell ⟨gP,m*9+1,none⟩ (.slice A_p n_p c_p)).setCell ⟨gP,m*9+2,none⟩ (.slice B_p m_p d_p)).setCell ⟨gP,m*9+3,none⟩ (.bool t_p)).setCell ⟨gP,m*9+4,none⟩ (.slice E_p i_p e_p)).setCell ⟨gP,m*9+5,none⟩ (.slice F_p j_p f_p)).setCell ⟨gP,m*9+6,none⟩ (.bool s_x)).setCell ⟨gP,m*9+7,none⟩ (.slice A_x n_x c_x)).setCell ⟨gP,m*9+8,none⟩ (.slice B_x m_x d_x)) gW (.bool s_y) (.slice A_y n_y c_y) (.slice B_y m_y d_y) (.bool t_y) (.slice E_y i_y e_y) (.slice F_y j_y f_y):=(ho.block _ XW.lt hgWP).trans XW
    replace XA:B6 (((((((((w_x.setCell ⟨gP,m*9,none⟩ (.bool s_p)).setCell ⟨gP,m*9+1,none⟩ (.slice A_p n_p c_p)).setCell ⟨gP,m*9+2,none⟩ (.slice B_p m_p d_p)).setCell ⟨gP,m*9+3,none⟩ (.bool t_p)).setCell ⟨gP,m*9+4,none⟩ (.slice E_p i_p e_p)).setCell ⟨gP,m*9+5,none⟩ (.slice F_p j_p f_p)).setCell ⟨gP,m*9+6,none⟩ (.bool s_x)).setCell ⟨gP,m*9+7,none⟩ (.slice A_x n_x c_x)).setCell ⟨gP,m*9+8,none⟩ (.slice B_x m_x d_x)) w.heap.size (.bool s_a) (.slice A_a n_a c_a) (.slice B_a m_a d_a) (.bool t_a) (.slice E_a i_a e_a) (.slice F_a j_a f_a):=(ho.block _ XA.lt hgAP).trans XA
    replace hb:=Below.only hb (by omega) hb.size ho
    rw [← take_snoc HU.out,← take_set HL1.out (CV.mk (PV.mk s_p A_p n_p c_p B_p m_p d_p t_p E_p i_p e_p F_p j_p f_p) (QV.mk s_x A_x n_x c_x B_x m_x d_x))] at HQ
    have HQ2:=Lib.hid HQ;have HY2:=Lib.hid y;clear hP ho Eq q0 qf0 q1 qf1 q2 qf2 q3 qf3 q4 qf4 q5 qf5 q6 qf6 q7 qf7 q8 qf8 X p a x y HQ s
    generalize (((((((((w_x.setCell ⟨gP,m*9,none⟩ (.bool s_p)).setCell ⟨gP,m*9+1,none⟩ (.slice A_p n_p c_p)).setCell ⟨gP,m*9+2,none⟩ (.slice B_p m_p d_p)).setCell ⟨gP,m*9+3,none⟩ (.bool t_p)).setCell ⟨gP,m*9+4,none⟩ (.slice E_p i_p e_p)).setCell ⟨gP,m*9+5,none⟩ (.slice F_p j_p f_p)).setCell ⟨gP,m*9+6,none⟩ (.bool s_x)).setCell ⟨gP,m*9+7,none⟩ (.slice A_x n_x c_x)).setCell ⟨gP,m*9+8,none⟩ (.slice B_x m_x d_x))=W3 at *
    go_wp2_with fail
    go_roundg (gk - 1)
    case measure=>have:=HG.out;omega
    case rel=>exact ⟨M.set m (CV.mk (PV.mk s_p A_p n_p c_p B_p m_p d_p t_p E_p i_p e_p F_p j_p f_p) (QV.mk s_x A_x n_x c_x B_x m_x d_x)),m+1,by have:=HG.out;show _=_;omega,by go_num,by show _=_;rw [List.length_set];exact HM.out,hP2,HQ2.out,XW,XA,HY2,hb⟩
  · have hlt:¬ (m:Int) < (n:Int):=by omega
    obtain rfl:m=n:=by have:=HG.out;omega
    replace HQ:=HQ.out
    rw [List.take_of_length_le (by rw [HM.out];exact Nat.le_refl _),List.take_of_length_le (by rw [← E0.out.1,HN.out];exact Nat.le_refl _)] at HQ
    clear hmn
    go_wp2_with fail
    (try rw [Exit.noGoto_ret])
    go_ret
    exact ⟨gP,M,rfl,by omega,hP,HM.out,HQ,hb⟩
end
end Go.Proofs.YtlogpjeoapeojaaGreat
