/- FlatTells: part 18. -/
import Derived.Test.YtlpogecpdfdggaaGreatKFlatTells15
import Derived.Test.YtlpogecpdfdggaaGreatKFlatTells17
set_option linter.unusedVariables false
set_option maxRecDepth 100000
set_option maxHeartbeats 16000000
variable {w:Go.World}
namespace Go.Proofs.YtlpogecpdfdggaaGreat
section
open Go Go.RowKit
attribute [local go_sem ↓] open_LVH open_STH open_LVJ open_STJ
theorem rpoint_p {k:Nat} {v:AH} {h:HV} (H:RH w h v k) (hk:k≤9000) (h0:v.w ≠ 0) :
 Calls Tryz.prog 40 #[.agg #[.bool h.x.s,.slice h.x.A h.x.n h.x.c,.slice h.x.B h.x.m h.x.d,.bool h.y.s,.slice h.y.A h.y.n h.y.c,.slice h.y.B h.y.m h.y.d,.bool h.w.s,.slice h.w.A h.w.n h.w.c,.slice h.w.B h.w.m h.w.d]] w (GivesRP w v.px v.py (k+k)):=by
 have h1:=rpoint13 H hk h0
 have ex:v.x / v.w=v.px:=by unfold AH.px;grind
 have ey:v.y / v.w=v.py:=by unfold AH.py;grind
 rwa [ex,ey] at h1
theorem run_ixj {e1:Operand→Value} {d1:Option Tmp} {y1:Nat} {pos:String} {af:Array Edge} {x1 x2:Operand} {A:Option Addr} {n c g o:Nat} {M:Int} (h:e1 x1=.slice A n c) (h2:e1 x2=.int .i64 M) (hx:∀ w',(Instr.indexAt 31 (.slice A n c) (.int .i64 M)).run Tryz.prog w'=.ok (.pointer (some ⟨g,o,none⟩)) w') :
 (execOp e1 ⟨d1,.indexAddr 31 x1 x2,y1,pos,af,none⟩).run Tryz.prog w=.ok (.value (.pointer (some ⟨g,o,none⟩))) w:=by
 have hx2:=hx w
 go_simp
theorem run_ldj {e1:Operand→Value} {d1:Option Tmp} {y1:Nat} {pos:String} {af:Array Edge} {x1:Operand} {g o:Nat} {p:HV} (h:e1 x1=.pointer (some ⟨g,o,none⟩)) (E:EH w g o p) :
 (execOp e1 ⟨d1,.load 65 x1,y1,pos,af,none⟩).run Tryz.prog w=.ok (.value (.agg #[.bool p.x.s,.slice p.x.A p.x.n p.x.c,.slice p.x.B p.x.m p.x.d,.bool p.y.s,.slice p.y.A p.y.n p.y.c,.slice p.y.B p.y.m p.y.d,.bool p.w.s,.slice p.w.A p.w.n p.w.c,.slice p.w.B p.w.m p.w.d])) w:=by
 have hl:=E.ldJ
 go_simp
theorem run_lenj {e1:Operand→Value} {d1:Option Tmp} {y1:Nat} {pos:String} {af:Array Edge} {x1:Operand} {A:Option Addr} {n c:Nat} (h:e1 x1=.slice A n c) :
 (execOp e1 ⟨d1,.call ⟨.builtin Builtin.len,#[x1],#[31]⟩,y1,pos,af,none⟩).run Tryz.prog w=.ok (.value (.int .i64 (n:Int))) w:=by
 go_simp
theorem run_sub1 {e1:Operand→Value} {d1:Option Tmp} {y1:Nat} {pos:String} {af:Array Edge} {x1:Operand} {M N:Int} (h:e1 x1=.int .i64 M) (hc:e1 (.const (Value.int IntKind.i64 1))=.int .i64 1) (hw:IntKind.i64.wrap (M - 1)=N) :
 (execOp e1 ⟨d1,.binOp BinOp.sub 3 x1 (.const (Value.int IntKind.i64 1)) 3,y1,pos,af,none⟩).run Tryz.prog w=.ok (.value (.int .i64 N)) w:=by
 go_simp
abbrev L_rends:List Nat:=[7,8,9,10,11,12,13,14,15,16,17,3,4]
def o0_rends:Oper:=⟨some 7,.move (.tmp 0),31, "ref.go:12",#[],none⟩
def o1_rends:Oper:=⟨some 8,.indexAddr 31 (.tmp 7) (.const (Value.int IntKind.i64 0)),0, "ref.go:12",#[⟨0,.data⟩],none⟩
def o2_rends:Oper:=⟨some 9,.load 65 (.tmp 8),65, "ref.go:12",#[⟨1,.data⟩],none⟩
def o3_rends:Oper:=⟨some 10,.call ⟨.value (.func 40),#[.tmp 9],#[65]⟩,80, "ref.go:12",#[⟨2,.data⟩],none⟩
def o4_rends:Oper:=⟨some 11,.move (.tmp 0),31, "ref.go:12",#[],none⟩
def o5_rends:Oper:=⟨some 12,.move (.tmp 0),31, "ref.go:12",#[],none⟩
def o6_rends:Oper:=⟨some 13,.call ⟨.builtin Builtin.len,#[.tmp 12],#[31]⟩,3, "ref.go:12",#[⟨5,.data⟩],none⟩
def o7_rends:Oper:=⟨some 14,.binOp BinOp.sub 3 (.tmp 13) (.const (Value.int IntKind.i64 1)) 3,3, "ref.go:12",#[⟨6,.data⟩],none⟩
def o8_rends:Oper:=⟨some 15,.indexAddr 31 (.tmp 11) (.tmp 14),0, "ref.go:12",#[⟨4,.data⟩,⟨7,.data⟩],none⟩
def o9_rends:Oper:=⟨some 16,.load 65 (.tmp 15),65, "ref.go:12",#[⟨8,.data⟩],none⟩
def o10_rends:Oper:=⟨some 17,.call ⟨.value (.func 40),#[.tmp 16],#[65]⟩,80, "ref.go:12",#[⟨9,.data⟩,⟨3,.chain⟩],none⟩
def o11_rends:Oper:=⟨some 3,.alloc 80,0, "ref.go:12",#[],none⟩
def o12_rends:Oper:=⟨some 4,.alloc 80,0, "ref.go:12",#[],none⟩
def o13_rends:Oper:=⟨none,.store 80 (.tmp 3) (.tmp 10),0, "ref.go:12",#[⟨11,.data⟩,⟨3,.data⟩,⟨10,.chain⟩,⟨0,.phase⟩,⟨1,.phase⟩,⟨2,.phase⟩,⟨3,.phase⟩,⟨4,.textOnly .lateStores⟩,⟨5,.textOnly .lateStores⟩,⟨6,.textOnly .lateStoresUnsure⟩,⟨7,.textOnly .lateStores⟩,⟨8,.textOnly .lateStores⟩,⟨9,.textOnly .lateStores⟩,⟨10,.textOnly .lateStoresUnsure⟩,⟨11,.phase⟩,⟨12,.phase⟩],none⟩
def o14_rends:Oper:=⟨none,.store 80 (.tmp 4) (.tmp 17),0, "ref.go:12",#[⟨12,.data⟩,⟨10,.data⟩,⟨13,.chain⟩,⟨0,.phase⟩,⟨1,.phase⟩,⟨2,.phase⟩,⟨3,.phase⟩,⟨4,.phase⟩,⟨5,.phase⟩,⟨6,.phase⟩,⟨7,.phase⟩,⟨8,.phase⟩,⟨9,.phase⟩,⟨10,.phase⟩,⟨11,.phase⟩,⟨12,.phase⟩,⟨13,.phase⟩],none⟩
theorem rc_gesso_gessoref13_Point {e:Operand→Value} {x0:Operand} {d:Option Tmp} {y:Nat} {pos:String} {af:Array Edge} {u0:Value} (h0:e x0=u0) (hf:e (.func 40)=.func (.func 40) #[] #[]) :
 (execOp e ⟨d,.call ⟨.value (.func 40),#[x0],#[65]⟩,y,pos,af,none⟩).run Tryz.prog w=.ok (.enter 40 #[u0]) w:=by
 go_simp
def F_rends (A:Option Addr) (n:Nat) (c:Nat) (l:Nat) (ga:Nat) (oa:Nat) (gb:Nat) (ob:Nat) (k:Nat) (P:HV) (R:HV) (va:AH) (vb:AH) (sl:Nat):Value→World→Prop :=
 match sl with
 | 7=>fun x _=>x=Value.slice A n c
 | 8=>fun x _=>x=Value.pointer (some ⟨ga,oa,none⟩)
 | 9=>fun x _=>x=Value.agg #[.bool P.x.s,.slice P.x.A P.x.n P.x.c,.slice P.x.B P.x.m P.x.d,.bool P.y.s,.slice P.y.A P.y.n P.y.c,.slice P.y.B P.y.m P.y.d,.bool P.w.s,.slice P.w.A P.w.n P.w.c,.slice P.w.B P.w.m P.w.d]
 | 10=>VRP (va.px) (va.py) (k+k)
 | 11=>fun x _=>x=Value.slice A n c
 | 12=>fun x _=>x=Value.slice A n c
 | 13=>fun x _=>x=Value.int .i64 (n:Int)
 | 14=>fun x _=>x=Value.int .i64 (l:Int)
 | 15=>fun x _=>x=Value.pointer (some ⟨gb,ob,none⟩)
 | 16=>fun x _=>x=Value.agg #[.bool R.x.s,.slice R.x.A R.x.n R.x.c,.slice R.x.B R.x.m R.x.d,.bool R.y.s,.slice R.y.A R.y.n R.y.c,.slice R.y.B R.y.m R.y.d,.bool R.w.s,.slice R.w.A R.w.n R.w.c,.slice R.w.B R.w.m R.w.d]
 | 17=>VRP (vb.px) (vb.py) (k+k)
 | _=>fun _ _=>True
def B0_rends (k:Nat) (va:AH):BoxOp :=
 ⟨11,13,3,80,#[.bool false,.slice none 0 0,.slice none 0 0,.bool false,.slice none 0 0,.slice none 0 0],fun cs w=>∃ s A n c B m d t E i e F j f,cs=#[.bool s,.slice A n c,.slice B m d,.bool t,.slice E i e,.slice F j f]∧RP w s A n c B m d t E i e F j f (va.px) (va.py) (k+k)⟩
def B1_rends (k:Nat) (vb:AH):BoxOp :=
 ⟨12,14,4,80,#[.bool false,.slice none 0 0,.slice none 0 0,.bool false,.slice none 0 0,.slice none 0 0],fun cs w=>∃ s A n c B m d t E i e F j f,cs=#[.bool s,.slice A n c,.slice B m d,.bool t,.slice E i e,.slice F j f]∧RP w s A n c B m d t E i e F j f (vb.px) (vb.py) (k+k)⟩
theorem rends_region {id:Nat} {ac:Act} {Q:Exit→Act→World→Prop} {A:Option Addr} {n c l ga oa gb ob k:Nat} {P R:HV} {va vb:AH}
 (hsz:17 < ac.tmps.size) (e0:ac.eval (.tmp 0)=Value.slice A n c) (EP:EH w ga oa P) (EQ:EH w gb ob R) (pa:RH w P va k) (pb:RH w R vb k) (hixa:∀ w',(Instr.indexAt 31 (.slice A n c) (.int .i64 0)).run Tryz.prog w'=.ok (.pointer (some ⟨ga,oa,none⟩)) w') (hixb:∀ w',(Instr.indexAt 31 (.slice A n c) (.int .i64 (l:Int))).run Tryz.prog w'=.ok (.pointer (some ⟨gb,ob,none⟩)) w') (hwl:IntKind.i64.wrap ((n:Int) - 1)=(l:Int)) (hk:k≤9000) (ha0:va.w ≠ 0) (hb0:vb.w ≠ 0)
 (hend:∀ (V:Nat→Value) (w':World) (g0:Nat) (s0:Bool) (A0:Option Addr) (n0:Nat) (c0:Nat) (B0:Option Addr) (m0:Nat) (d0:Nat) (t0:Bool) (E0:Option Addr) (i0:Nat) (e0:Nat) (F0:Option Addr) (j0:Nat) (f0:Nat) (g1:Nat) (s1:Bool) (A1:Option Addr) (n1:Nat) (c1:Nat) (B1:Option Addr) (m1:Nat) (d1:Nat) (t1:Bool) (E1:Option Addr) (i1:Nat) (e1:Nat) (F1:Option Addr) (j1:Nat) (f1:Nat),RP w' s0 A0 n0 c0 B0 m0 d0 t0 E0 i0 e0 F0 j0 f0 (va.px) (va.py) (k+k)→B6R w' g0 (.bool s0) (.slice A0 n0 c0) (.slice B0 m0 d0) (.bool t0) (.slice E0 i0 e0) (.slice F0 j0 f0)→w.heap.size≤g0→V 3=.pointer (some ⟨g0,0,none⟩)→RP w' s1 A1 n1 c1 B1 m1 d1 t1 E1 i1 e1 F1 j1 f1 (vb.px) (vb.py) (k+k)→B6R w' g1 (.bool s1) (.slice A1 n1 c1) (.slice B1 m1 d1) (.bool t1) (.slice E1 i1 e1) (.slice F1 j1 f1)→w.heap.size≤g1→V 4=.pointer (some ⟨g1,0,none⟩)→g1 ≠ g0→Below w.heap.size w w'→Q .normal (putAll ac [7,8,9,10,11,12,13,14,15,16,17,3,4] V) w') :
 (Code.region id #[o0_rends,o1_rends,o2_rends,o3_rends,o4_rends,o5_rends,o6_rends,o7_rends,o8_rends,o9_rends,o10_rends,o11_rends,o12_rends,o13_rends,o14_rends] true).wp Tryz.prog Q ac w:=by
 have hnd:L_rends.Nodup:=by decide
 have G:∀ (sv:Nat→Value) (t:Nat),t ∈ L_rends→t≤17→(putAll ac L_rends sv).eval (.tmp t)=sv t:=fun sv t ht h=>eval_putAll_mem (t:=t) L_rends ac hnd ht (Nat.lt_of_le_of_lt h hsz)
 have E0:∀ sv:Nat→Value,(putAll ac L_rends sv).eval (.tmp 0)=Value.slice A n c:=fun sv=>(eval_putAll_not (v:=sv) L_rends ac (show 0 ∉ _ by decide)).trans e0
 have NE:∀ t:Nat,(t ≠ 3∧t ≠ 4)→∀ p ∈ [B0_rends k va,B1_rends k vb],t ≠ p.tA:=by
  intro t ht p hp
  simp only [List.mem_cons,List.not_mem_nil,or_false] at hp
  rcases hp with rfl | rfl
  · exact ht.1
  · exact ht.2
 refine wp_region_flowsT L_rends [B0_rends k va,B1_rends k vb] (F_rends A n c l ga oa gb ob k P R va vb) (by kernel_rfl) (by kernel_rfl) rfl hnd ?_ ?_ ?_ ?_ ?_ ?_ ?_ ?_
 · intro p hp
   simp only [List.mem_cons,List.not_mem_nil,or_false] at hp
   rcases hp with rfl | rfl
   · refine ⟨⟨o11_rends,rfl,rfl,rfl,fun e w'=>run_alloc7⟩,⟨o13_rends,rfl,rfl,rfl,⟨11,.data⟩,by simp [o13_rends],rfl,rfl⟩,free6 _ _ _ _ _ _ _ _ _ _ _ _ _ _,?_,?_⟩
     · rintro cs w1 w2 ⟨s_,A_,n_,c_,B_,m_,d_,t_,E_,i_,e_,F_,j_,f_,rfl,h⟩ hb;exact ⟨s_,A_,n_,c_,B_,m_,d_,t_,E_,i_,e_,F_,j_,f_,rfl,h.below hb⟩
     · rintro T cs w1 w2 g c0 ⟨s_,A_,n_,c_,B_,m_,d_,t_,E_,i_,e_,F_,j_,f_,rfl,h⟩ hB ho;exact ⟨s_,A_,n_,c_,B_,m_,d_,t_,E_,i_,e_,F_,j_,f_,rfl,h.box hB ho⟩
   · refine ⟨⟨o12_rends,rfl,rfl,rfl,fun e w'=>run_alloc7⟩,⟨o14_rends,rfl,rfl,rfl,⟨12,.data⟩,by simp [o14_rends],rfl,rfl⟩,free6 _ _ _ _ _ _ _ _ _ _ _ _ _ _,?_,?_⟩
     · rintro cs w1 w2 ⟨s_,A_,n_,c_,B_,m_,d_,t_,E_,i_,e_,F_,j_,f_,rfl,h⟩ hb;exact ⟨s_,A_,n_,c_,B_,m_,d_,t_,E_,i_,e_,F_,j_,f_,rfl,h.below hb⟩
     · rintro T cs w1 w2 g c0 ⟨s_,A_,n_,c_,B_,m_,d_,t_,E_,i_,e_,F_,j_,f_,rfl,h⟩ hB ho;exact ⟨s_,A_,n_,c_,B_,m_,d_,t_,E_,i_,e_,F_,j_,f_,rfl,h.box hB ho⟩
 · intro p hp q hq h
   simp only [List.mem_cons,List.not_mem_nil,or_false] at hp hq
   rcases hp with rfl | rfl <;> rcases hq with rfl | rfl
   · rfl
   · exact absurd (show (3:Nat)=4 from h) (by decide)
   · exact absurd (show (4:Nat)=3 from h) (by decide)
   · rfl
 · intro p hp q hq h
   simp only [List.mem_cons,List.not_mem_nil,or_false] at hp hq
   rcases hp with rfl | rfl <;> rcases hq with rfl | rfl
   · rfl
   · exact absurd (show (13:Nat)=14 from h) (by decide)
   · exact absurd (show (14:Nat)=13 from h) (by decide)
   · rfl
 · intro i o h1 h2
   match i,h1 with
   | 0,h1=>cases h1;cases h2
   | 1,h1=>cases h1;cases h2
   | 2,h1=>cases h1;cases h2
   | 3,h1=>cases h1;cases h2
   | 4,h1=>cases h1;cases h2
   | 5,h1=>cases h1;cases h2
   | 6,h1=>cases h1;cases h2
   | 7,h1=>cases h1;cases h2
   | 8,h1=>cases h1;cases h2
   | 9,h1=>cases h1;cases h2
   | 10,h1=>cases h1;cases h2
   | 11,h1=>cases h1;cases h2
   | 12,h1=>cases h1;cases h2
   | 13,h1=>exact ⟨B0_rends k va,List.Mem.head _,rfl⟩
   | 14,h1=>exact ⟨B1_rends k vb,List.Mem.tail _ (List.Mem.head _),rfl⟩
   | i+15,h1=>cases h1
 · intro t
   unfold F_rends
   split <;> first | exact (stays_eq _).inn _ | exact (stays_q _ _).inn _ | exact (stays_z _ _).inn _ | exact (stays_r _ _).inn _ | exact (stays_rq _ _).inn _ | exact (stays_pg _ _ _).inn _ | exact (stays_true).inn _ | exact (stays_rp _ _ _).inn _
 · intro i o t sv w' ho hia hd J0 hf
   have EP:=EP.below J0;have EQ:=EQ.below J0;have pa:=pa.below J0;have pb:=pb.below J0
   match i,ho with
   | 0,ho =>
     obtain rfl:o0_rends=o:=Option.some.inj ho
     cases hd
     refine wpOp_plain' (o:=o0_rends) rfl rfl ?_
     unfold Oper.wp o0_rends
     rw [run_move (E0 sv),Oper.upon_value]
     exact ⟨_,rfl,Below.refl _ _,rfl⟩
   | 1,ho =>
     obtain rfl:o1_rends=o:=Option.some.inj ho
     cases hd
     have f7:sv 7=Value.slice A n c:=hf ⟨0,.data⟩ (by simp [o1_rends]) rfl _ 7 rfl rfl (NE _ (by decide))
     refine wpOp_plain' (o:=o1_rends) rfl rfl ?_
     unfold Oper.wp o1_rends
     rw [run_ixj ((G sv 7 (by decide) (by decide)).trans f7) (show (putAll ac L_rends sv).eval (.const (Value.int IntKind.i64 0))=(Value.int IntKind.i64 0) from rfl) hixa,Oper.upon_value]
     exact ⟨_,rfl,Below.refl _ _,rfl⟩
   | 2,ho =>
     obtain rfl:o2_rends=o:=Option.some.inj ho
     cases hd
     have f8:sv 8=Value.pointer (some ⟨ga,oa,none⟩):=hf ⟨1,.data⟩ (by simp [o2_rends]) rfl _ 8 rfl rfl (NE _ (by decide))
     refine wpOp_plain' (o:=o2_rends) rfl rfl ?_
     unfold Oper.wp o2_rends
     rw [run_ldj ((G sv 8 (by decide) (by decide)).trans f8) EP,Oper.upon_value]
     exact ⟨_,rfl,Below.refl _ _,rfl⟩
   | 3,ho =>
     obtain rfl:o3_rends=o:=Option.some.inj ho
     cases hd
     have f9:sv 9=Value.agg #[.bool P.x.s,.slice P.x.A P.x.n P.x.c,.slice P.x.B P.x.m P.x.d,.bool P.y.s,.slice P.y.A P.y.n P.y.c,.slice P.y.B P.y.m P.y.d,.bool P.w.s,.slice P.w.A P.w.n P.w.c,.slice P.w.B P.w.m P.w.d]:=hf ⟨2,.data⟩ (by simp [o3_rends]) rfl _ 9 rfl rfl (NE _ (by decide))
     refine wpOp_plain' (o:=o3_rends) rfl rfl ?_
     unfold Oper.wp o3_rends
     rw [rc_gesso_gessoref13_Point ((G sv 9 (by decide) (by decide)).trans f9) rfl,Oper.upon_enter]
     refine (rpoint_p pa hk ha0).mono ?_
     rintro e w1 ⟨s_,A_,n_,c_,B_,m_,d_,t_,E_,i_,e_,F_,j_,f_,rfl,hq,hh⟩
     exact ⟨_,rfl,hh,s_,A_,n_,c_,B_,m_,d_,t_,E_,i_,e_,F_,j_,f_,rfl,hq⟩
   | 4,ho =>
     obtain rfl:o4_rends=o:=Option.some.inj ho
     cases hd
     refine wpOp_plain' (o:=o4_rends) rfl rfl ?_
     unfold Oper.wp o4_rends
     rw [run_move (E0 sv),Oper.upon_value]
     exact ⟨_,rfl,Below.refl _ _,rfl⟩
   | 5,ho =>
     obtain rfl:o5_rends=o:=Option.some.inj ho
     cases hd
     refine wpOp_plain' (o:=o5_rends) rfl rfl ?_
     unfold Oper.wp o5_rends
     rw [run_move (E0 sv),Oper.upon_value]
     exact ⟨_,rfl,Below.refl _ _,rfl⟩
   | 6,ho =>
     obtain rfl:o6_rends=o:=Option.some.inj ho
     cases hd
     have f12:sv 12=Value.slice A n c:=hf ⟨5,.data⟩ (by simp [o6_rends]) rfl _ 12 rfl rfl (NE _ (by decide))
     refine wpOp_plain' (o:=o6_rends) rfl rfl ?_
     unfold Oper.wp o6_rends
     rw [run_lenj ((G sv 12 (by decide) (by decide)).trans f12) ,Oper.upon_value]
     exact ⟨_,rfl,Below.refl _ _,rfl⟩
   | 7,ho =>
     obtain rfl:o7_rends=o:=Option.some.inj ho
     cases hd
     have f13:sv 13=Value.int .i64 (n:Int):=hf ⟨6,.data⟩ (by simp [o7_rends]) rfl _ 13 rfl rfl (NE _ (by decide))
     refine wpOp_plain' (o:=o7_rends) rfl rfl ?_
     unfold Oper.wp o7_rends
     rw [run_sub1 ((G sv 13 (by decide) (by decide)).trans f13) (show (putAll ac L_rends sv).eval (.const (Value.int IntKind.i64 1))=(Value.int IntKind.i64 1) from rfl) hwl,Oper.upon_value]
     exact ⟨_,rfl,Below.refl _ _,rfl⟩
   | 8,ho =>
     obtain rfl:o8_rends=o:=Option.some.inj ho
     cases hd
     have f11:sv 11=Value.slice A n c:=hf ⟨4,.data⟩ (by simp [o8_rends]) rfl _ 11 rfl rfl (NE _ (by decide))
     have f14:sv 14=Value.int .i64 (l:Int):=hf ⟨7,.data⟩ (by simp [o8_rends]) rfl _ 14 rfl rfl (NE _ (by decide))
     refine wpOp_plain' (o:=o8_rends) rfl rfl ?_
     unfold Oper.wp o8_rends
     rw [run_ixj ((G sv 11 (by decide) (by decide)).trans f11) ((G sv 14 (by decide) (by decide)).trans f14) hixb,Oper.upon_value]
     exact ⟨_,rfl,Below.refl _ _,rfl⟩
   | 9,ho =>
     obtain rfl:o9_rends=o:=Option.some.inj ho
     cases hd
     have f15:sv 15=Value.pointer (some ⟨gb,ob,none⟩):=hf ⟨8,.data⟩ (by simp [o9_rends]) rfl _ 15 rfl rfl (NE _ (by decide))
     refine wpOp_plain' (o:=o9_rends) rfl rfl ?_
     unfold Oper.wp o9_rends
     rw [run_ldj ((G sv 15 (by decide) (by decide)).trans f15) EQ,Oper.upon_value]
     exact ⟨_,rfl,Below.refl _ _,rfl⟩
   | 10,ho =>
     obtain rfl:o10_rends=o:=Option.some.inj ho
     cases hd
     have f16:sv 16=Value.agg #[.bool R.x.s,.slice R.x.A R.x.n R.x.c,.slice R.x.B R.x.m R.x.d,.bool R.y.s,.slice R.y.A R.y.n R.y.c,.slice R.y.B R.y.m R.y.d,.bool R.w.s,.slice R.w.A R.w.n R.w.c,.slice R.w.B R.w.m R.w.d]:=hf ⟨9,.data⟩ (by simp [o10_rends]) rfl _ 16 rfl rfl (NE _ (by decide))
     refine wpOp_plain' (o:=o10_rends) rfl rfl ?_
     unfold Oper.wp o10_rends
     rw [rc_gesso_gessoref13_Point ((G sv 16 (by decide) (by decide)).trans f16) rfl,Oper.upon_enter]
     refine (rpoint_p pb hk hb0).mono ?_
     rintro e w1 ⟨s_,A_,n_,c_,B_,m_,d_,t_,E_,i_,e_,F_,j_,f_,rfl,hq,hh⟩
     exact ⟨_,rfl,hh,s_,A_,n_,c_,B_,m_,d_,t_,E_,i_,e_,F_,j_,f_,rfl,hq⟩
   | 11,ho=>cases ho;cases hd;exact absurd rfl (hia (B0_rends k va) (List.Mem.head _))
   | 12,ho=>cases ho;cases hd;exact absurd rfl (hia (B1_rends k vb) (List.Mem.tail _ (List.Mem.head _)))
   | 13,ho=>cases ho;cases hd
   | 14,ho=>cases ho;cases hd
   | i+15,ho=>cases ho
 · intro p hp os sv w' g hos J0 p1 p3 hf
   simp only [List.mem_cons,List.not_mem_nil,or_false] at hp
   rcases hp with rfl | rfl
   · obtain rfl:o13_rends=os:=Option.some.inj hos
     have h1:VRP (va.px) (va.py) (k+k) (sv 10) w':=hf ⟨3,.data⟩ (by simp [o13_rends]) rfl _ 10 rfl rfl (NE _ (by decide))
     rw [← G sv 10 (by decide) (by decide)] at h1
     refine store_rp (x:=va.px) (y:=va.py) (k:=k+k) (ac:=putAll ac L_rends sv) (z:=.tmp 10) ?_ ?_ ?_
     · exact (G sv 3 (by decide) (by decide)).trans p1
     · exact h1
     · exact p3
   · obtain rfl:o14_rends=os:=Option.some.inj hos
     have h1:VRP (vb.px) (vb.py) (k+k) (sv 17) w':=hf ⟨10,.data⟩ (by simp [o14_rends]) rfl _ 17 rfl rfl (NE _ (by decide))
     rw [← G sv 17 (by decide) (by decide)] at h1
     refine store_rp (x:=vb.px) (y:=vb.py) (k:=k+k) (ac:=putAll ac L_rends sv) (z:=.tmp 17) ?_ ?_ ?_
     · exact (G sv 4 (by decide) (by decide)).trans p1
     · exact h1
     · exact p3
 · intro sv w' J0 hF hB hap
   obtain ⟨g0,cs0,p0,r0,b0,⟨s0,A0,n0,c0,B0,m0,d0,t0,E0,i0,e0,F0,j0,f0,rfl,h0⟩⟩:=hB (B0_rends k va) (List.Mem.head _)
   obtain ⟨g1,cs1,p1,r1,b1,⟨s1,A1,n1,c1,B1,m1,d1,t1,E1,i1,e1,F1,j1,f1,rfl,h1⟩⟩:=hB (B1_rends k vb) (List.Mem.tail _ (List.Mem.head _))
   have p0':sv 3=.pointer (some ⟨g0,0,none⟩):=p0
   have p1':sv 4=.pointer (some ⟨g1,0,none⟩):=p1
   exact hend sv w' g0 _ _ _ _ _ _ _ _ _ _ _ _ _ _ g1 _ _ _ _ _ _ _ _ _ _ _ _ _ _ h0 b0.at_ r0 p0' h1 b1.at_ r1 p1' (fun q=>hap (B1_rends k vb) (List.Mem.tail _ (List.Mem.head _)) (B0_rends k va) (List.Mem.head _) (show (4:Nat) ≠ 3 by decide) (by rw [show (B1_rends k vb).tA=4 from rfl,show (B0_rends k va).tA=3 from rfl,p1',p0',q]))   J0
theorem rgap15 {A:Option Addr} {n c k:Nat} {L:List HV} {V:List AH} (hL:SV w A (hvs L)) (hE:EachH RH w L V k) (hn:L.length=n) (hk:k≤20) (hG:GoodH V) :
 Calls Tryz.prog 16 #[.slice A n c] w (GivesRQ w (gapQ V) (4*(k+k+(2*(k+k)+17*(k+k)+12)+1)+1)):=by
 have HN:=Lib.hid hn
 have hvn:V.length=n:=hE.1.symm.trans hn
 obtain ⟨l,hl⟩:∃ l,n=l+1:=⟨n - 1,by have:=hG.1;omega⟩
 have hn4:n≤4:=by have:=hG.1;omega
 have HVn:=Lib.hid hvn
 have HVl:Hid (V.length=l+1):=by show _=_;omega
 obtain ⟨P0,u0,hP0,hu0,p0⟩:=hE.at_ (i:=0) (by rw [hn];omega)
 obtain ⟨R0,v0,hR0,hv0,q0⟩:=hE.at_ (i:=l) (by rw [hn];omega)
 obtain ⟨ga,oa,hix0,E0,_⟩:=hL.jt hP0
 obtain ⟨gb,ob,hix1,E1,_⟩:=hL.jt hR0
 have hixa:∀ w',(Instr.indexAt 31 (.slice A n c) (.int .i64 0)).run Tryz.prog w'=.ok (.pointer (some ⟨ga,oa,none⟩)) w':=fun w'=>hix0 n c w' (by omega)
 have hixb:∀ w',(Instr.indexAt 31 (.slice A n c) (.int .i64 (l:Int))).run Tryz.prog w'=.ok (.pointer (some ⟨gb,ob,none⟩)) w':=fun w'=>hix1 n c w' (by omega)
 have hw0:u0.w ≠ 0:=by have:=hG.2 _ (List.mem_of_getElem? hu0);grind
 have hw1:v0.w ≠ 0:=by have:=hG.2 _ (List.mem_of_getElem? hv0);grind
 obtain rfl:u0=fstH V:=Option.some.inj (hu0.symm.trans (fst_get (by rw [HVl.out];omega)))
 obtain rfl:v0=lstH V:=Option.some.inj (hv0.symm.trans (lst_get HVl.out))
 have HW0:=Lib.hid hw0;have HW1:=Lib.hid hw1;have HG:=Lib.hid hG
 have hwl:IntKind.i64.wrap ((n:Int) - 1)=(l:Int):=by rw [IntWalk.i64_in _ (by omega)];omega
 have HL9:=Lib.hid hL;have HE9:=Lib.hid hE;clear hL hE hn hG hvn hP0 hu0 hR0 hv0 hix0 hix1 hw0 hw1 hl
 go_enter Tryz.func16,Tryz.ntmps16
 go_upto_region 1 with (fail)
 generalize hW:World.alloc _ _=W
 obtain ⟨hb,Z,hzW⟩:=mkbx27_11 hW;clear hW;replace E0:=E0.below hb;replace E1:=E1.below hb;replace p0:=p0.below hb;replace q0:=q0.below hb
 refine rends_region (by simp) rfl E0 E1 p0 q0 hixa hixb hwl (by omega) HW0.out HW1.out ?_
 intro V1 w_s g_a s_a A_a n_a c_a B_a m_a d_a t_a E_a i_a e_a F_a j_a f_a g_b s_b A_b n_b c_b B_b m_b d_b t_b E_b i_b e_b F_b j_b f_b a XA hg_a hva b XB hg_b hvb hne hh
 simp only [putAll,Act.put,List.setIfInBounds_toArray,List.set_cons_zero,List.set_cons_succ,hva,hvb]
 clear hva hvb hne E0 E1 p0 q0 hixa hixb hwl;replace Z:=Z.below hh
 have HS3:Hid (SV w_s A (hvs L)):=(HL9.out.below hb).below hh
 have HE3:Hid (EachH RH w_s L V k):=(HE9.out.belowJ hb).belowJ hh
 replace hb:=bend hb hh;clear HL9 HE9 hh
 go_upto_region 3 with (first
  | (go_at_call 41;(with_reducible refine (rof3 0 1 (by decide) (by decide) (by decide) (by decide) (by decide) _).mono ?_);rintro e w_z ⟨s_z,A_z,n_z,c_z,B_z,m_z,d_z,rfl,z,hh⟩
     (try replace a:=a.below hh);(try replace b:=b.below hh);(try replace XA:=XA.below hh);(try replace XB:=XB.below hh);(try replace Z:=Z.below hh);replace hb:=bend hb hh
     replace HS3:=Lib.hid (HS3.out.below hh)
     replace HE3:=Lib.hid (HE3.out.belowJ hh)))
 have X5:=B3R.new' w_z (Value.bool s_z) (Value.slice A_z n_z c_z) (Value.slice B_z m_z d_z) w_z.heap.size rfl
 have hh:Below w_z.heap.size w_z (w_z.alloc (Obj.cells #[Value.bool s_z,Value.slice A_z n_z c_z,Value.slice B_z m_z d_z] 43)):=(Below.refl _ _).alloc (Nat.le_refl _) _
 have hzq:Rat.divInt 0 1=0:=by decide +kernel
 rw [hzq] at z
 have HQ0:Hid (RQ (w_z.alloc (Obj.cells #[Value.bool s_z,Value.slice A_z n_z c_z,Value.slice B_z m_z d_z] 43)) (⟨s_z,A_z,n_z,c_z,B_z,m_z,d_z⟩:QV).s (⟨s_z,A_z,n_z,c_z,B_z,m_z,d_z⟩:QV).A (⟨s_z,A_z,n_z,c_z,B_z,m_z,d_z⟩:QV).n (⟨s_z,A_z,n_z,c_z,B_z,m_z,d_z⟩:QV).c (⟨s_z,A_z,n_z,c_z,B_z,m_z,d_z⟩:QV).B (⟨s_z,A_z,n_z,c_z,B_z,m_z,d_z⟩:QV).m (⟨s_z,A_z,n_z,c_z,B_z,m_z,d_z⟩:QV).d (topQ ((V.map (AH.far (fstH V) (lstH V))).take 0)) (4*(k+k+(2*(k+k)+17*(k+k)+12)+1)+1)):=(z.below hh).more (by omega)
 have HH:=Lib.hid hh
 have HZz:=Lib.hid (Z.below hh)
 have hga:g_a < w_z.heap.size:=XA.lt
 have hgb:g_b < w_z.heap.size:=XB.lt
 have hgz:w.heap.size < w_z.heap.size:=Z.lt
 generalize (w_z.alloc (Obj.cells #[Value.bool s_z,Value.slice A_z n_z c_z,Value.slice B_z m_z d_z] 43))=W2 at *
 have HX0:=Lib.hid X5;have HXA:=Lib.hid XA;have HXB:=Lib.hid XB;have Ha:=Lib.hid a;have Hb:=Lib.hid b;have HB0:=Lib.hid hb;clear hzq z hh X5 XA XB a b Z hb
 go_wp2_with fail
 go_loopg [6] n (fun gk ix wr=>∃ (i:Nat) (q:QV),Hid (gk+i=n)∧ix=.int .i64 (i:Int)∧Hid (B3R wr w_z.heap.size (.bool q.s) (.slice q.A q.n q.c) (.slice q.B q.m q.d))∧Hid (RQ wr q.s q.A q.n q.c q.B q.m q.d (topQ ((V.map (AH.far (fstH V) (lstH V))).take i)) (4*(k+k+(2*(k+k)+17*(k+k)+12)+1)+1))∧Hid (B3R wr w.heap.size (.bool false) (.slice none 0 0) (.slice none 0 0))∧Below w_z.heap.size w_z wr)
 case atStart=>exact ⟨0,⟨s_z,A_z,n_z,c_z,B_z,m_z,d_z⟩,Nat.add_zero _,rfl,HX0.out,HQ0.out,HZz.out,HH.out⟩
 case round =>
  obtain ⟨i,q,HG9,rfl,HX,HQ,HZ,hB⟩:=hrel
  by_cases hin:i < n
  · obtain ⟨P,u,hP1,hu1,p9⟩:=HE3.out.at_ (i:=i) (by rw [HN.out];exact hin)
    obtain ⟨g0,o0,hix2,EP0,_⟩:=HS3.out.jt hP1
    have hixc:∀ w',(Instr.indexAt 31 (.slice A n c) (.int .i64 (i:Int))).run Tryz.prog w'=.ok (.pointer (some ⟨g0,o0,none⟩)) w':=fun w'=>hix2 n c w' hin
    have hlt:(i:Int) < (n:Int):=by omega
    have hwr:IntKind.i64.wrap ((i:Int)+1)=(i:Int)+1:=IntWalk.i64_in _ (by omega)
    have HWU:Hid (u.w ≠ 0):=by have:=HG.out.2 _ (List.mem_of_getElem? hu1);show _ ≠ _;grind
    have HT:Hid (topQ ((V.map (AH.far (fstH V) (lstH V))).take (i+1))=maxQ (topQ ((V.map (AH.far (fstH V) (lstH V))).take i)) (segQ u.px u.py (fstH V).px (fstH V).py (lstH V).px (lstH V).py)):=by
     show _=_
     rw [take_step (v:=AH.far (fstH V) (lstH V) u) (by rw [List.getElem?_map,hu1];rfl),topQ_push];rfl
    have HIN:=Lib.hid hin;have EP:=EP0.below hB;have p:=p9.below hB;have XA:=HXA.out.below hB;have XB:=HXB.out.below hB;have a:=Ha.out.below hB;have b:=Hb.out.below hB;have X5:=HX.out;have Z:=HZ.out;have qq:=HQ.out;clear hP1 hu1 hix2 hin EP0 p9 HX HZ HQ
    go_upto_region 6 with (fail)
    replace EP:=EP.below (Below.refl _ _).drew
    replace p:=p.below (Below.refl _ _).drew
    replace XA:=XA.below (Below.refl _ _).drew
    replace XB:=XB.below (Below.refl _ _).drew
    replace a:=a.below (Below.refl _ _).drew
    replace b:=b.below (Below.refl _ _).drew
    replace X5:=X5.below (Below.refl _ _).drew
    replace Z:=Z.below (Below.refl _ _).drew
    replace qq:=qq.below (Below.refl _ _).drew
    replace hB:=hB.drew
    refine wp_region_last _ (o:=⟨none,.store 43 (.tmp 5) (.tmp 34),0, "ref.go:15",#[⟨9,.data⟩,⟨9,.chain⟩,⟨0,.phase⟩,⟨1,.phase⟩,⟨2,.phase⟩,⟨3,.phase⟩,⟨4,.phase⟩,⟨5,.phase⟩,⟨6,.phase⟩,⟨7,.phase⟩,⟨8,.phase⟩,⟨9,.phase⟩],none⟩) rfl (by kernel_rfl) (by kernel_rfl) (by kernel_rfl) rfl ?_
    refine held_go (S:=(fun w'=>(LVJ ⟨g0,o0,none⟩).run Tryz.prog w'=.ok (.agg #[.bool P.x.s,.slice P.x.A P.x.n P.x.c,.slice P.x.B P.x.m P.x.d,.bool P.y.s,.slice P.y.A P.y.n P.y.c,.slice P.y.B P.y.m P.y.d,.bool P.w.s,.slice P.w.A P.w.n P.w.c,.slice P.w.B P.w.m P.w.d]) w'∧w'.cell? ⟨w_z.heap.size,0,none⟩=some (.bool q.s)∧w'.cell? ⟨w_z.heap.size,1,none⟩=some (.slice q.A q.n q.c)∧w'.cell? ⟨w_z.heap.size,2,none⟩=some (.slice q.B q.m q.d)∧w'.cell? ⟨g_a,0,none⟩=some (.bool s_a)∧w'.cell? ⟨g_a,1,none⟩=some (.slice A_a n_a c_a)∧w'.cell? ⟨g_a,2,none⟩=some (.slice B_a m_a d_a)∧w'.cell? ⟨g_a,3,none⟩=some (.bool t_a)∧w'.cell? ⟨g_a,4,none⟩=some (.slice E_a i_a e_a)∧w'.cell? ⟨g_a,5,none⟩=some (.slice F_a j_a f_a)∧w'.cell? ⟨g_b,0,none⟩=some (.bool s_b)∧w'.cell? ⟨g_b,1,none⟩=some (.slice A_b n_b c_b)∧w'.cell? ⟨g_b,2,none⟩=some (.slice B_b m_b d_b)∧w'.cell? ⟨g_b,3,none⟩=some (.bool t_b)∧w'.cell? ⟨g_b,4,none⟩=some (.slice E_b i_b e_b)∧w'.cell? ⟨g_b,5,none⟩=some (.slice F_b j_b f_b))) ⟨EP.ldJ,X5.c0,X5.c1,X5.c2,XA.c0,XA.c1,XA.c2,XA.c3,XA.c4,XA.c5,XB.c0,XB.c1,XB.c2,XB.c3,XB.c4,XB.c5⟩ (fun hHeld=>?_)
    refine wpAnyH_take (i:=0) (v:=?_) rfl (by kernel_rfl) (by kernel_rfl) (by kernel_rfl) (fun _ _ _ h=>h) (Or.inl ⟨by rfl,?_⟩) hHeld ?_
    rotate_left
    · (intro w hSw;(try dsimp only at hSw);go_simp;try with_reducible rfl)
    simp only [Act.put,List.setIfInBounds_toArray]
    refine wpAnyH_take (i:=1) (v:=?_) rfl (by kernel_rfl) (by kernel_rfl) (by kernel_rfl) (fun _ _ _ h=>h) (Or.inl ⟨by rfl,?_⟩) hHeld ?_
    rotate_left
    · (intro w hSw;(try dsimp only at hSw);go_simp;try with_reducible rfl)
    simp only [Act.put]
    refine wpAnyH_take (i:=2) (v:=?_) rfl (by kernel_rfl) (by kernel_rfl) (by kernel_rfl) (fun _ _ _ h=>h) (Or.inl ⟨by rfl,?_⟩) hHeld ?_
    rotate_left
    · (intro w hSw;(try dsimp only at hSw);go_simp;try with_reducible rfl)
    simp only [Act.put]
    refine wpAnyH_take (i:=3) (v:=?_) rfl (by kernel_rfl) (by kernel_rfl) (by kernel_rfl) (fun _ _ _ h=>h) (Or.inl ⟨by rfl,?_⟩) hHeld ?_
    rotate_left
    · (intro w hSw;(try dsimp only at hSw);go_simp;try with_reducible rfl)
    simp only [Act.put]
    refine wpAnyH_take (i:=4) (v:=?_) rfl (by kernel_rfl) (by kernel_rfl) (by kernel_rfl) (fun _ _ _ h=>h) (Or.inl ⟨by rfl,?_⟩) hHeld ?_
    rotate_left
    · (intro w hSw;(try dsimp only at hSw);go_simp;try with_reducible rfl)
    simp only [Act.put]
    refine wpAnyH_take (i:=6) (v:=?_) rfl (by kernel_rfl) (by kernel_rfl) (by kernel_rfl) (fun _ _ _ h=>h) (Or.inl ⟨by rfl,?_⟩) hHeld ?_
    rotate_left
    · (intro w hSw;(try dsimp only at hSw);go_simp;try with_reducible rfl)
    simp only [Act.put]
    refine wpAnyH_take (i:=7) (v:=?_) rfl (by kernel_rfl) (by kernel_rfl) (by kernel_rfl) (fun _ _ _ h=>h) (Or.inl ⟨by rfl,?_⟩) hHeld ?_
    rotate_left
    · (intro w hSw;(try dsimp only at hSw);go_simp;try with_reducible rfl)
    simp only [Act.put]
    refine wpAnyH_ready (rs:=[5]) (by kernel_rfl) (by simp) ?_
    refine AllReadyH.cons (o:=⟨some 30,.call ⟨.value (.func 40),#[.tmp 29],#[65]⟩,80, "ref.go:15",#[⟨4,.data⟩],none⟩) rfl (fun K1 hK1=>?_) AllReadyH.nil
    go_simp
    first
    | (go_at_call 40;(with_reducible refine (rpoint_p p (by omega) HWU.out).mono ?_);rintro e w_y ⟨s_y,A_y,n_y,c_y,B_y,m_y,d_y,t_y,E_y,i_y,e_y,F_y,j_y,f_y,rfl,y,hh⟩
       (try replace EP:=EP.below hh);(try replace p:=p.below hh);(try replace XA:=XA.below hh);(try replace XB:=XB.below hh);(try replace a:=a.below hh);(try replace b:=b.below hh);(try replace X5:=X5.below hh);(try replace Z:=Z.below hh);(try replace qq:=qq.below hh);(try replace t:=t.below hh);(try replace r:=r.below hh);replace hB:=bend hB hh)
    refine hK1.out _ _ (by with_reducible exact ⟨EP.ldJ,X5.c0,X5.c1,X5.c2,XA.c0,XA.c1,XA.c2,XA.c3,XA.c4,XA.c5,XB.c0,XB.c1,XB.c2,XB.c3,XB.c4,XB.c5⟩) (fun hHeld=>?_)
    clear hK1 K1
    refine wpAnyH_ready (rs:=[8]) (by kernel_rfl) (by simp) ?_
    refine AllReadyH.cons (o:=⟨some 33,.call ⟨.value (.func 43),#[.tmp 30,.tmp 31,.tmp 32],#[80,80,80]⟩,43, "ref.go:15",#[⟨5,.data⟩,⟨6,.data⟩,⟨7,.data⟩,⟨5,.chain⟩],none⟩) rfl (fun K1 hK1=>?_) AllReadyH.nil
    go_simp
    first
    | (go_at_call 43;(with_reducible refine (rtoseg6 y a b (by omega) (by omega)).mono ?_);rintro e w_t ⟨s_t,A_t,n_t,c_t,B_t,m_t,d_t,rfl,t,hh⟩
       (try replace EP:=EP.below hh);(try replace p:=p.below hh);(try replace XA:=XA.below hh);(try replace XB:=XB.below hh);(try replace a:=a.below hh);(try replace b:=b.below hh);(try replace X5:=X5.below hh);(try replace Z:=Z.below hh);(try replace qq:=qq.below hh);(try replace y:=y.below hh);(try replace r:=r.below hh);replace hB:=bend hB hh)
    refine hK1.out _ _ (by with_reducible exact ⟨EP.ldJ,X5.c0,X5.c1,X5.c2,XA.c0,XA.c1,XA.c2,XA.c3,XA.c4,XA.c5,XB.c0,XB.c1,XB.c2,XB.c3,XB.c4,XB.c5⟩) (fun hHeld=>?_)
    clear hK1 K1
    refine wpAnyH_ready (rs:=[9]) (by kernel_rfl) (by simp) ?_
    refine AllReadyH.cons (o:=⟨some 34,.call ⟨.value (.func 42),#[.tmp 25,.tmp 33],#[43,43]⟩,43, "ref.go:15",#[⟨0,.data⟩,⟨8,.data⟩,⟨8,.chain⟩],none⟩) rfl (fun K1 hK1=>?_) AllReadyH.nil
    go_simp
    first
    | (go_at_call 42;(with_reducible refine (rmax3 qq t (by omega)).mono ?_);rintro e w_r ⟨s_r,A_r,n_r,c_r,B_r,m_r,d_r,rfl,r,hh⟩
       (try replace EP:=EP.below hh);(try replace p:=p.below hh);(try replace XA:=XA.below hh);(try replace XB:=XB.below hh);(try replace a:=a.below hh);(try replace b:=b.below hh);(try replace X5:=X5.below hh);(try replace Z:=Z.below hh);(try replace qq:=qq.below hh);(try replace y:=y.below hh);(try replace t:=t.below hh);replace hB:=bend hB hh)
    refine hK1.out _ _ (by with_reducible exact ⟨EP.ldJ,X5.c0,X5.c1,X5.c2,XA.c0,XA.c1,XA.c2,XA.c3,XA.c4,XA.c5,XB.c0,XB.c1,XB.c2,XB.c3,XB.c4,XB.c5⟩) (fun hHeld=>?_)
    clear hK1 K1
    refine wpAnyH_done (by kernel_rfl) ?_ _
    have x50:=X5.c0;have xf0:=X5.f0;have x51:=X5.c1;have xf1:=X5.f1;have x52:=X5.c2;have xf2:=X5.f2
    change Oper.wp _ _ _ _ _ _
    go_simp
    clear hHeld hixc x50 x51 x52 xf0 xf1 xf2
    have X9:B3R (((w_r.setCell ⟨w_z.heap.size,0,none⟩ (Value.bool s_r)).setCell ⟨w_z.heap.size,1,none⟩ (Value.slice A_r n_r c_r)).setCell ⟨w_z.heap.size,2,none⟩ (Value.slice B_r m_r d_r)) w_z.heap.size (Value.bool s_r) (Value.slice A_r n_r c_r) (Value.slice B_r m_r d_r):=X5.set3 _ _ _
    have r9:RQ (((w_r.setCell ⟨w_z.heap.size,0,none⟩ (Value.bool s_r)).setCell ⟨w_z.heap.size,1,none⟩ (Value.slice A_r n_r c_r)).setCell ⟨w_z.heap.size,2,none⟩ (Value.slice B_r m_r d_r)) s_r A_r n_r c_r B_r m_r d_r (topQ ((V.map (AH.far (fstH V) (lstH V))).take (i+1))) (4*(k+k+(2*(k+k)+17*(k+k)+12)+1)+1):=by rw [HT.out];exact r.set3 X5 _ _ _
    have ho:Only w_z.heap.size w_r (((w_r.setCell ⟨w_z.heap.size,0,none⟩ (Value.bool s_r)).setCell ⟨w_z.heap.size,1,none⟩ (Value.slice A_r n_r c_r)).setCell ⟨w_z.heap.size,2,none⟩ (Value.slice B_r m_r d_r)):=only_set3 _ _ _ _ _
    have Z9:=Z.restm (show w.heap.size ≠ w_z.heap.size by omega) ho
    have hB9:Below w_z.heap.size w_z (((w_r.setCell ⟨w_z.heap.size,0,none⟩ (Value.bool s_r)).setCell ⟨w_z.heap.size,1,none⟩ (Value.slice A_r n_r c_r)).setCell ⟨w_z.heap.size,2,none⟩ (Value.slice B_r m_r d_r)):=below_set3 hB (Nat.le_refl _) _ _ _
    generalize (((w_r.setCell ⟨w_z.heap.size,0,none⟩ (Value.bool s_r)).setCell ⟨w_z.heap.size,1,none⟩ (Value.slice A_r n_r c_r)).setCell ⟨w_z.heap.size,2,none⟩ (Value.slice B_r m_r d_r))=W9 at *
    have HX9:=Lib.hid X9;have HP9:=Lib.hid r9;have HZ9:=Lib.hid Z9;clear X9 r9 Z9 ho X5 Z qq EP p XA XB a b y t r hB
    go_wp2_with fail
    go_roundg (gk - 1)
    case measure=>have:=HG9.out;have:=HIN.out;omega
    case rel=>exact ⟨i+1,⟨s_r,A_r,n_r,c_r,B_r,m_r,d_r⟩,by have:=HG9.out;have:=HIN.out;show _=_;omega,by go_num,HX9.out,HP9.out,HZ9.out,hB9⟩
  · have hlt:¬ (i:Int) < (n:Int):=by omega
    have HQ2:Hid (RQ wr q.s q.A q.n q.c q.B q.m q.d (gapQ V) (4*(k+k+(2*(k+k)+17*(k+k)+12)+1)+1)):=by
     have h:=HQ.out
     rw [List.take_of_length_le (by rw [List.length_map,HVn.out];omega)] at h
     exact h
    clear hin;have X5:=HX.out;have Z:=HZ.out;have hb9:=bend HB0.out hB;have x50:=X5.c0;have zf0:=Z.f0;have zc0:=Z.c0;have x51:=X5.c1;have zf1:=Z.f1;have zc1:=Z.c1;have x52:=X5.c2;have zf2:=Z.f2;have zc2:=Z.c2
    go_wp2_with fail
    have Z2:=Z.set3 (.bool q.s) (.slice q.A q.n q.c) (.slice q.B q.m q.d)
    obtain ⟨g0,g1,g2⟩:=Z2.all
    refine bodyPost_ret (v:=.agg #[.bool q.s,.slice q.A q.n q.c,.slice q.B q.m q.d]) (by simp [results,Tryz.results16,go_sem,g0,g1,g2]) rfl ?_
    exact ⟨q.s,q.A,q.n,q.c,q.B,q.m,q.d,rfl,HQ2.out.set3 Z _ _ _,below_set3 hb9 (by omega) _ _ _⟩
theorem ris_bad {A:Option Addr} {n c k:Nat} {L:List HV} {V:List AH} {s:Bool} {A1 A2:Option Addr} {n1 c1 n2 c2 kt:Nat} {vt:Rat} (hL:SV w A (hvs L)) (hE:EachH RH w L V k) (hn:L.length=n) (t:RQ w s A1 n1 c1 A2 n2 c2 vt kt) (_hk:k≤20) (_hkt:kt≤1000) (hm:n≤1000) (hG:¬ GoodH V) :
 Calls Tryz.prog 12 #[.slice A n c,.agg #[.bool s,.slice A1 n1 c1,.slice A2 n2 c2]] w fun e w'=>e=.returned (.bool false)∧Below w.heap.size w w':=by
 have HG:=Lib.hid hG;clear hG;have HN:=Lib.hid hn
 have hn9:n≤1000:=hm
 clear hn
 go_enter Tryz.func12,Tryz.ntmps12
 go_upto_region 1 with (fail)
 generalize hW:World.alloc _ _=W
 obtain ⟨hb,XT,hzW⟩:=mkbx27_11 hW;clear hW;replace t:=t.below hb;replace hL:=hL.below hb;replace hE:=EachH.belowJ hE hb
 replace t:=t.below (Below.refl _ _).drew
 replace hL:=hL.below (Below.refl _ _).drew
 replace XT:=XT.below (Below.refl _ _).drew
 replace hb:=hb.drew
 replace hE:=EachH.belowJ hE (Below.refl _ _).drew
 refine wp_region_held_drew (S:=(fun w'=>w'.cell? ⟨w.heap.size,0,none⟩=some (.bool s)∧w'.cell? ⟨w.heap.size,1,none⟩=some (.slice A1 n1 c1)∧w'.cell? ⟨w.heap.size,2,none⟩=some (.slice A2 n2 c2))) (by kernel_rfl) (by with_reducible exact ⟨XT.c0,XT.c1,XT.c2⟩) (fun hHeld=>?_)
 refine wpAnyH_take (i:=0) (oi:=⟨some 5,.move (.tmp 0),31, "ref.go:22",#[],none⟩) (v:=?_) rfl (by kernel_rfl) (by kernel_rfl) (by kernel_rfl) (fun _ _ _ h=>h) (Or.inl ⟨by rfl,?_⟩) hHeld ?_
 rotate_left
 · (intro w hSw;(try dsimp only at hSw);go_simp;try with_reducible rfl)
 simp only [Act.put,List.setIfInBounds_toArray,List.set_cons_zero,List.set_cons_succ]
 refine wpAnyH_ready (rs:=[1]) (by kernel_rfl) (by simp) ?_
 refine AllReadyH.cons (o:=⟨some 6,.call ⟨.value (.func 14),#[.tmp 5],#[31]⟩,4, "ref.go:22",#[⟨0,.data⟩],none⟩) rfl (fun K1 hK1=>?_) AllReadyH.nil
 go_simp
 first
 | (go_at_call 14;(with_reducible refine (rgood13 hL hE HN.out (by omega) false ⟨fun e=>(by cases e),fun e=>absurd e HG.out⟩).mono ?_);rintro e w_z ⟨rfl,hh⟩
    (try replace t:=t.below hh);(try replace hL:=hL.below hh);(try replace XT:=XT.below hh);replace hb:=bend hb hh;replace hE:=EachH.belowJ hE hh)
 refine hK1.out _ _ (by with_reducible exact ⟨XT.c0,XT.c1,XT.c2⟩) (fun hHeld=>?_)
 clear hK1 K1
 refine wpAnyH_take (i:=2) (oi:=⟨some 7,.move (.tmp 6),4, "ref.go:22",#[⟨1,.data⟩,⟨1,.chain⟩],none⟩) (v:=?_) rfl (by kernel_rfl) (by kernel_rfl) (by kernel_rfl) (fun _ _ _ h=>h) (Or.inl ⟨by rfl,?_⟩) hHeld ?_
 rotate_left
 · (intro w hSw;(try dsimp only at hSw);go_simp;try with_reducible rfl)
 simp only [Act.put,List.setIfInBounds_toArray,List.set_cons_zero,List.set_cons_succ]
 refine wpAnyH_take (i:=3) (oi:=⟨some 8,.load 43 (.tmp 3),43, "ref.go:22",#[⟨2,.guard⟩],some (2,true)⟩) (v:=undef) rfl (by kernel_rfl) (by kernel_rfl) (by kernel_rfl) (fun _ _ _ h=>h) (Or.inr ⟨by rfl,rfl⟩) hHeld ?_
 simp only [Act.put,List.setIfInBounds_toArray,List.set_cons_zero,List.set_cons_succ]
 refine wpAnyH_take (i:=4) (oi:=⟨some 9,.call ⟨.value (.func 31),#[.tmp 8],#[43]⟩,3, "ref.go:22",#[⟨3,.data⟩,⟨2,.chain⟩,⟨2,.guard⟩],some (2,true)⟩) (v:=undef) rfl (by kernel_rfl) (by kernel_rfl) (by kernel_rfl) (fun _ _ _ h=>h) (Or.inr ⟨by rfl,rfl⟩) hHeld ?_
 simp only [Act.put,List.setIfInBounds_toArray,List.set_cons_zero,List.set_cons_succ]
 refine wpAnyH_take (i:=5) (oi:=⟨some 10,.binOp BinOp.geq 3 (.tmp 9) (.const (Value.int IntKind.i64 0)) 3,4, "ref.go:22",#[⟨4,.data⟩,⟨2,.guard⟩],some (2,true)⟩) (v:=undef) rfl (by kernel_rfl) (by kernel_rfl) (by kernel_rfl) (fun _ _ _ h=>h) (Or.inr ⟨by rfl,rfl⟩) hHeld ?_
 simp only [Act.put,List.setIfInBounds_toArray,List.set_cons_zero,List.set_cons_succ]
 refine wpAnyH_take (i:=6) (oi:=⟨some 11,.pick (.tmp 7) (.tmp 10) (.const (Value.bool false)),4, "ref.go:22",#[⟨2,.data⟩,⟨5,.data⟩],none⟩) (v:=?_) rfl (by kernel_rfl) (by kernel_rfl) (by kernel_rfl) (fun _ _ _ h=>h) (Or.inl ⟨by rfl,?_⟩) hHeld ?_
 rotate_left
 · (intro w hSw;(try dsimp only at hSw);go_simp;try with_reducible rfl)
 simp only [Act.put,List.setIfInBounds_toArray,List.set_cons_zero,List.set_cons_succ]
 refine wpAnyH_take (i:=7) (oi:=⟨some 12,.move (.tmp 11),4, "ref.go:22",#[⟨6,.data⟩,⟨4,.chain⟩],none⟩) (v:=?_) rfl (by kernel_rfl) (by kernel_rfl) (by kernel_rfl) (fun _ _ _ h=>h) (Or.inl ⟨by rfl,?_⟩) hHeld ?_
 rotate_left
 · (intro w hSw;(try dsimp only at hSw);go_simp;try with_reducible rfl)
 simp only [Act.put,List.setIfInBounds_toArray,List.set_cons_zero,List.set_cons_succ]
 refine wpAnyH_take (i:=8) (oi:=⟨some 13,.move (.tmp 0),31, "ref.go:22",#[⟨7,.guard⟩],some (7,true)⟩) (v:=undef) rfl (by kernel_rfl) (by kernel_rfl) (by kernel_rfl) (fun _ _ _ h=>h) (Or.inr ⟨by rfl,rfl⟩) hHeld ?_
 simp only [Act.put,List.setIfInBounds_toArray,List.set_cons_zero,List.set_cons_succ]
 refine wpAnyH_take (i:=9) (oi:=⟨some 14,.call ⟨.value (.func 16),#[.tmp 13],#[31]⟩,43, "ref.go:22",#[⟨8,.data⟩,⟨7,.chain⟩,⟨7,.guard⟩],some (7,true)⟩) (v:=undef) rfl (by kernel_rfl) (by kernel_rfl) (by kernel_rfl) (fun _ _ _ h=>h) (Or.inr ⟨by rfl,rfl⟩) hHeld ?_
 simp only [Act.put,List.setIfInBounds_toArray,List.set_cons_zero,List.set_cons_succ]
 refine wpAnyH_take (i:=10) (oi:=⟨some 15,.load 43 (.tmp 3),43, "ref.go:22",#[⟨7,.guard⟩],some (7,true)⟩) (v:=undef) rfl (by kernel_rfl) (by kernel_rfl) (by kernel_rfl) (fun _ _ _ h=>h) (Or.inr ⟨by rfl,rfl⟩) hHeld ?_
 simp only [Act.put,List.setIfInBounds_toArray,List.set_cons_zero,List.set_cons_succ]
 refine wpAnyH_take (i:=11) (oi:=⟨some 16,.load 43 (.tmp 3),43, "ref.go:22",#[⟨7,.guard⟩],some (7,true)⟩) (v:=undef) rfl (by kernel_rfl) (by kernel_rfl) (by kernel_rfl) (fun _ _ _ h=>h) (Or.inr ⟨by rfl,rfl⟩) hHeld ?_
 simp only [Act.put,List.setIfInBounds_toArray,List.set_cons_zero,List.set_cons_succ]
 refine wpAnyH_take (i:=12) (oi:=⟨some 17,.call ⟨.value (.func 33),#[.tmp 15,.tmp 16],#[43,43]⟩,43, "ref.go:22",#[⟨10,.data⟩,⟨11,.data⟩,⟨9,.chain⟩,⟨7,.guard⟩],some (7,true)⟩) (v:=undef) rfl (by kernel_rfl) (by kernel_rfl) (by kernel_rfl) (fun _ _ _ h=>h) (Or.inr ⟨by rfl,rfl⟩) hHeld ?_
 simp only [Act.put,List.setIfInBounds_toArray,List.set_cons_zero,List.set_cons_succ]
 refine wpAnyH_take (i:=13) (oi:=⟨some 18,.call ⟨.value (.func 32),#[.tmp 14,.tmp 17],#[43,43]⟩,3, "ref.go:22",#[⟨9,.data⟩,⟨12,.data⟩,⟨12,.chain⟩,⟨7,.guard⟩],some (7,true)⟩) (v:=undef) rfl (by kernel_rfl) (by kernel_rfl) (by kernel_rfl) (fun _ _ _ h=>h) (Or.inr ⟨by rfl,rfl⟩) hHeld ?_
 simp only [Act.put,List.setIfInBounds_toArray,List.set_cons_zero,List.set_cons_succ]
 refine wpAnyH_take (i:=14) (oi:=⟨some 19,.binOp BinOp.leq 3 (.tmp 18) (.const (Value.int IntKind.i64 0)) 3,4, "ref.go:22",#[⟨13,.data⟩,⟨7,.guard⟩],some (7,true)⟩) (v:=undef) rfl (by kernel_rfl) (by kernel_rfl) (by kernel_rfl) (fun _ _ _ h=>h) (Or.inr ⟨by rfl,rfl⟩) hHeld ?_
 simp only [Act.put,List.setIfInBounds_toArray,List.set_cons_zero,List.set_cons_succ]
 refine wpAnyH_take (i:=15) (oi:=⟨some 20,.pick (.tmp 12) (.tmp 19) (.const (Value.bool false)),4, "ref.go:22",#[⟨7,.data⟩,⟨14,.data⟩],none⟩) (v:=?_) rfl (by kernel_rfl) (by kernel_rfl) (by kernel_rfl) (fun _ _ _ h=>h) (Or.inl ⟨by rfl,?_⟩) hHeld ?_
 rotate_left
 · (intro w hSw;(try dsimp only at hSw);go_simp;try with_reducible rfl)
 simp only [Act.put,List.setIfInBounds_toArray,List.set_cons_zero,List.set_cons_succ]
 refine wpAnyH_take (i:=16) (oi:=⟨some 4,.assign (.tmp 20),4, "ref.go:22",#[⟨15,.data⟩,⟨13,.chain⟩,⟨0,.phase⟩,⟨1,.phase⟩,⟨2,.phase⟩,⟨3,.phase⟩,⟨4,.phase⟩,⟨5,.phase⟩,⟨6,.phase⟩,⟨7,.phase⟩,⟨8,.phase⟩,⟨9,.phase⟩,⟨10,.phase⟩,⟨11,.phase⟩,⟨12,.phase⟩,⟨13,.phase⟩,⟨14,.phase⟩,⟨15,.phase⟩],none⟩) (v:=?_) rfl (by kernel_rfl) (by kernel_rfl) (by kernel_rfl) (fun _ _ _ h=>h) (Or.inl ⟨by rfl,?_⟩) hHeld ?_
 rotate_left
 · (intro w hSw;(try dsimp only at hSw);go_simp;try with_reducible rfl)
 simp only [Act.put,List.setIfInBounds_toArray,List.set_cons_zero,List.set_cons_succ]
 refine wpAnyH_done (by kernel_rfl) ?_ _
 clear hHeld
 go_wp2_with fail
 (try rw [Exit.noGoto_ret])
 go_ret;exact ⟨rfl,hb⟩
theorem ris_neg {A:Option Addr} {n c k:Nat} {L:List HV} {V:List AH} {s:Bool} {A1 A2:Option Addr} {n1 c1 n2 c2 kt:Nat} {vt:Rat} (hL:SV w A (hvs L)) (hE:EachH RH w L V k) (hn:L.length=n) (t:RQ w s A1 n1 c1 A2 n2 c2 vt kt) (_hk:k≤20) (_hkt:kt≤1000) (hm:n≤1000) (hG:GoodH V) (hT:vt < 0) :
 Calls Tryz.prog 12 #[.slice A n c,.agg #[.bool s,.slice A1 n1 c1,.slice A2 n2 c2]] w fun e w'=>e=.returned (.bool false)∧Below w.heap.size w w':=by
 have HG:=Lib.hid hG
 obtain ⟨S,hS,hS0⟩:∃ S,sgnQ vt=S∧¬ 0≤S:=⟨_,rfl,by unfold sgnQ;rw [if_pos hT];decide⟩
 have HS:=Lib.hid hS
 have HD:Hid (decide (0≤S)=false):=decide_eq_false hS0
 clear hG hS hS0 hT;have HN:=Lib.hid hn
 have hn9:n≤1000:=hm
 clear hn
 go_enter Tryz.func12,Tryz.ntmps12
 go_upto_region 1 with (fail)
 generalize hW:World.alloc _ _=W
 obtain ⟨hb,XT,hzW⟩:=mkbx27_11 hW;clear hW;replace t:=t.below hb;replace hL:=hL.below hb;replace hE:=EachH.belowJ hE hb
 replace t:=t.below (Below.refl _ _).drew
 replace hL:=hL.below (Below.refl _ _).drew
 replace XT:=XT.below (Below.refl _ _).drew
 replace hb:=hb.drew
 replace hE:=EachH.belowJ hE (Below.refl _ _).drew
 refine wp_region_held_drew (S:=(fun w'=>w'.cell? ⟨w.heap.size,0,none⟩=some (.bool s)∧w'.cell? ⟨w.heap.size,1,none⟩=some (.slice A1 n1 c1)∧w'.cell? ⟨w.heap.size,2,none⟩=some (.slice A2 n2 c2))) (by kernel_rfl) (by with_reducible exact ⟨XT.c0,XT.c1,XT.c2⟩) (fun hHeld=>?_)
 refine wpAnyH_take (i:=0) (oi:=⟨some 5,.move (.tmp 0),31, "ref.go:22",#[],none⟩) (v:=?_) rfl (by kernel_rfl) (by kernel_rfl) (by kernel_rfl) (fun _ _ _ h=>h) (Or.inl ⟨by rfl,?_⟩) hHeld ?_
 rotate_left
 · (intro w hSw;(try dsimp only at hSw);go_simp;try with_reducible rfl)
 simp only [Act.put,List.setIfInBounds_toArray,List.set_cons_zero,List.set_cons_succ]
 refine wpAnyH_ready (rs:=[1]) (by kernel_rfl) (by simp) ?_
 refine AllReadyH.cons (o:=⟨some 6,.call ⟨.value (.func 14),#[.tmp 5],#[31]⟩,4, "ref.go:22",#[⟨0,.data⟩],none⟩) rfl (fun K1 hK1=>?_) AllReadyH.nil
 go_simp
 first
 | (go_at_call 14;(with_reducible refine (rgood13 hL hE HN.out (by omega) true ⟨fun _=>HG.out,fun _=>rfl⟩).mono ?_);rintro e w_z ⟨rfl,hh⟩
    (try replace t:=t.below hh);(try replace hL:=hL.below hh);(try replace XT:=XT.below hh);replace hb:=bend hb hh;replace hE:=EachH.belowJ hE hh)
 refine hK1.out _ _ (by with_reducible exact ⟨XT.c0,XT.c1,XT.c2⟩) (fun hHeld=>?_)
 clear hK1 K1
 refine wpAnyH_take (i:=2) (oi:=⟨some 7,.move (.tmp 6),4, "ref.go:22",#[⟨1,.data⟩,⟨1,.chain⟩],none⟩) (v:=?_) rfl (by kernel_rfl) (by kernel_rfl) (by kernel_rfl) (fun _ _ _ h=>h) (Or.inl ⟨by rfl,?_⟩) hHeld ?_
 rotate_left
 · (intro w hSw;(try dsimp only at hSw);go_simp;try with_reducible rfl)
 simp only [Act.put,List.setIfInBounds_toArray,List.set_cons_zero,List.set_cons_succ]
 refine wpAnyH_take (i:=3) (oi:=⟨some 8,.load 43 (.tmp 3),43, "ref.go:22",#[⟨2,.guard⟩],some (2,true)⟩) (v:=?_) rfl (by kernel_rfl) (by kernel_rfl) (by kernel_rfl) (fun _ _ _ h=>h) (Or.inl ⟨by rfl,?_⟩) hHeld ?_
 rotate_left
 · (intro w hSw;(try dsimp only at hSw);go_simp;try with_reducible rfl)
 simp only [Act.put,List.setIfInBounds_toArray,List.set_cons_zero,List.set_cons_succ]
 refine wpAnyH_ready (rs:=[4]) (by kernel_rfl) (by simp) ?_
 refine AllReadyH.cons (o:=⟨some 9,.call ⟨.value (.func 31),#[.tmp 8],#[43]⟩,3, "ref.go:22",#[⟨3,.data⟩,⟨2,.chain⟩,⟨2,.guard⟩],some (2,true)⟩) rfl (fun K1 hK1=>?_) AllReadyH.nil
 go_simp
 first
 | (go_at_call 31;(with_reducible refine (rsign3 t).mono ?_);rintro e w_z ⟨rfl,hh⟩
    rw [HS.out];(try replace t:=t.below hh);(try replace hL:=hL.below hh);(try replace XT:=XT.below hh);replace hb:=bend hb hh;replace hE:=EachH.belowJ hE hh)
 refine hK1.out _ _ (by with_reducible exact ⟨XT.c0,XT.c1,XT.c2⟩) (fun hHeld=>?_)
 clear hK1 K1
 refine wpAnyH_take (i:=5) (oi:=⟨some 10,.binOp BinOp.geq 3 (.tmp 9) (.const (Value.int IntKind.i64 0)) 3,4, "ref.go:22",#[⟨4,.data⟩,⟨2,.guard⟩],some (2,true)⟩) (v:=?_) rfl (by kernel_rfl) (by kernel_rfl) (by kernel_rfl) (fun _ _ _ h=>h) (Or.inl ⟨by rfl,?_⟩) hHeld ?_
 rotate_left
 · (intro w hSw;(try dsimp only at hSw);go_simp;try with_reducible rfl)
 simp only [Act.put,List.setIfInBounds_toArray,List.set_cons_zero,List.set_cons_succ]
 simp only [HD.out]
 refine wpAnyH_take (i:=6) (oi:=⟨some 11,.pick (.tmp 7) (.tmp 10) (.const (Value.bool false)),4, "ref.go:22",#[⟨2,.data⟩,⟨5,.data⟩],none⟩) (v:=?_) rfl (by kernel_rfl) (by kernel_rfl) (by kernel_rfl) (fun _ _ _ h=>h) (Or.inl ⟨by rfl,?_⟩) hHeld ?_
 rotate_left
 · (intro w hSw;(try dsimp only at hSw);go_simp;try with_reducible rfl)
 simp only [Act.put,List.setIfInBounds_toArray,List.set_cons_zero,List.set_cons_succ]
 refine wpAnyH_take (i:=7) (oi:=⟨some 12,.move (.tmp 11),4, "ref.go:22",#[⟨6,.data⟩,⟨4,.chain⟩],none⟩) (v:=?_) rfl (by kernel_rfl) (by kernel_rfl) (by kernel_rfl) (fun _ _ _ h=>h) (Or.inl ⟨by rfl,?_⟩) hHeld ?_
 rotate_left
 · (intro w hSw;(try dsimp only at hSw);go_simp;try with_reducible rfl)
 simp only [Act.put,List.setIfInBounds_toArray,List.set_cons_zero,List.set_cons_succ]
 refine wpAnyH_take (i:=8) (oi:=⟨some 13,.move (.tmp 0),31, "ref.go:22",#[⟨7,.guard⟩],some (7,true)⟩) (v:=undef) rfl (by kernel_rfl) (by kernel_rfl) (by kernel_rfl) (fun _ _ _ h=>h) (Or.inr ⟨by rfl,rfl⟩) hHeld ?_
 simp only [Act.put,List.setIfInBounds_toArray,List.set_cons_zero,List.set_cons_succ]
 refine wpAnyH_take (i:=9) (oi:=⟨some 14,.call ⟨.value (.func 16),#[.tmp 13],#[31]⟩,43, "ref.go:22",#[⟨8,.data⟩,⟨7,.chain⟩,⟨7,.guard⟩],some (7,true)⟩) (v:=undef) rfl (by kernel_rfl) (by kernel_rfl) (by kernel_rfl) (fun _ _ _ h=>h) (Or.inr ⟨by rfl,rfl⟩) hHeld ?_
 simp only [Act.put,List.setIfInBounds_toArray,List.set_cons_zero,List.set_cons_succ]
 refine wpAnyH_take (i:=10) (oi:=⟨some 15,.load 43 (.tmp 3),43, "ref.go:22",#[⟨7,.guard⟩],some (7,true)⟩) (v:=undef) rfl (by kernel_rfl) (by kernel_rfl) (by kernel_rfl) (fun _ _ _ h=>h) (Or.inr ⟨by rfl,rfl⟩) hHeld ?_
 simp only [Act.put,List.setIfInBounds_toArray,List.set_cons_zero,List.set_cons_succ]
 refine wpAnyH_take (i:=11) (oi:=⟨some 16,.load 43 (.tmp 3),43, "ref.go:22",#[⟨7,.guard⟩],some (7,true)⟩) (v:=undef) rfl (by kernel_rfl) (by kernel_rfl) (by kernel_rfl) (fun _ _ _ h=>h) (Or.inr ⟨by rfl,rfl⟩) hHeld ?_
 simp only [Act.put,List.setIfInBounds_toArray,List.set_cons_zero,List.set_cons_succ]
 refine wpAnyH_take (i:=12) (oi:=⟨some 17,.call ⟨.value (.func 33),#[.tmp 15,.tmp 16],#[43,43]⟩,43, "ref.go:22",#[⟨10,.data⟩,⟨11,.data⟩,⟨9,.chain⟩,⟨7,.guard⟩],some (7,true)⟩) (v:=undef) rfl (by kernel_rfl) (by kernel_rfl) (by kernel_rfl) (fun _ _ _ h=>h) (Or.inr ⟨by rfl,rfl⟩) hHeld ?_
 simp only [Act.put,List.setIfInBounds_toArray,List.set_cons_zero,List.set_cons_succ]
 refine wpAnyH_take (i:=13) (oi:=⟨some 18,.call ⟨.value (.func 32),#[.tmp 14,.tmp 17],#[43,43]⟩,3, "ref.go:22",#[⟨9,.data⟩,⟨12,.data⟩,⟨12,.chain⟩,⟨7,.guard⟩],some (7,true)⟩) (v:=undef) rfl (by kernel_rfl) (by kernel_rfl) (by kernel_rfl) (fun _ _ _ h=>h) (Or.inr ⟨by rfl,rfl⟩) hHeld ?_
 simp only [Act.put,List.setIfInBounds_toArray,List.set_cons_zero,List.set_cons_succ]
 refine wpAnyH_take (i:=14) (oi:=⟨some 19,.binOp BinOp.leq 3 (.tmp 18) (.const (Value.int IntKind.i64 0)) 3,4, "ref.go:22",#[⟨13,.data⟩,⟨7,.guard⟩],some (7,true)⟩) (v:=undef) rfl (by kernel_rfl) (by kernel_rfl) (by kernel_rfl) (fun _ _ _ h=>h) (Or.inr ⟨by rfl,rfl⟩) hHeld ?_
 simp only [Act.put,List.setIfInBounds_toArray,List.set_cons_zero,List.set_cons_succ]
 refine wpAnyH_take (i:=15) (oi:=⟨some 20,.pick (.tmp 12) (.tmp 19) (.const (Value.bool false)),4, "ref.go:22",#[⟨7,.data⟩,⟨14,.data⟩],none⟩) (v:=?_) rfl (by kernel_rfl) (by kernel_rfl) (by kernel_rfl) (fun _ _ _ h=>h) (Or.inl ⟨by rfl,?_⟩) hHeld ?_
 rotate_left
 · (intro w hSw;(try dsimp only at hSw);go_simp;try with_reducible rfl)
 simp only [Act.put,List.setIfInBounds_toArray,List.set_cons_zero,List.set_cons_succ]
 refine wpAnyH_take (i:=16) (oi:=⟨some 4,.assign (.tmp 20),4, "ref.go:22",#[⟨15,.data⟩,⟨13,.chain⟩,⟨0,.phase⟩,⟨1,.phase⟩,⟨2,.phase⟩,⟨3,.phase⟩,⟨4,.phase⟩,⟨5,.phase⟩,⟨6,.phase⟩,⟨7,.phase⟩,⟨8,.phase⟩,⟨9,.phase⟩,⟨10,.phase⟩,⟨11,.phase⟩,⟨12,.phase⟩,⟨13,.phase⟩,⟨14,.phase⟩,⟨15,.phase⟩],none⟩) (v:=?_) rfl (by kernel_rfl) (by kernel_rfl) (by kernel_rfl) (fun _ _ _ h=>h) (Or.inl ⟨by rfl,?_⟩) hHeld ?_
 rotate_left
 · (intro w hSw;(try dsimp only at hSw);go_simp;try with_reducible rfl)
 simp only [Act.put,List.setIfInBounds_toArray,List.set_cons_zero,List.set_cons_succ]
 refine wpAnyH_done (by kernel_rfl) ?_ _
 clear hHeld
 go_wp2_with fail
 (try rw [Exit.noGoto_ret])
 go_ret;exact ⟨rfl,hb⟩
theorem ris_ok {A:Option Addr} {n c k:Nat} {L:List HV} {V:List AH} {s:Bool} {A1 A2:Option Addr} {n1 c1 n2 c2 kt:Nat} {vt:Rat} (hL:SV w A (hvs L)) (hE:EachH RH w L V k) (hn:L.length=n) (t:RQ w s A1 n1 c1 A2 n2 c2 vt kt) (hk:k≤20) (hkt:kt≤1000) (hm:n≤1000) (hG:GoodH V) (hT:0≤vt) (R:Bool) (hR:R=true ↔ gapQ V≤vt*vt) :
 Calls Tryz.prog 12 #[.slice A n c,.agg #[.bool s,.slice A1 n1 c1,.slice A2 n2 c2]] w fun e w'=>e=.returned (.bool R)∧Below w.heap.size w w':=by
 have HG:=Lib.hid hG
 obtain ⟨S,hS,hS0⟩:∃ S,sgnQ vt=S∧0≤S:=⟨_,rfl,sgn_nonneg.2 hT⟩
 have HS:=Lib.hid hS
 have HD:Hid (decide (0≤S)=true):=decide_eq_true hS0
 obtain ⟨T,hT9,hT8⟩:∃ T,cmpQ (gapQ V) (vt*vt)=T∧decide (T≤0)=R:=⟨_,rfl,by rw [Bool.eq_iff_iff,decide_eq_true_iff,hR];exact cmpQ_le⟩
 have HT:=Lib.hid hT9;have HR:=Lib.hid hT8;clear hG hS hS0 hT hT9 hT8 hR;have HN:=Lib.hid hn
 have hn9:n≤1000:=hm
 clear hn
 go_enter Tryz.func12,Tryz.ntmps12
 go_upto_region 1 with (fail)
 generalize hW:World.alloc _ _=W
 obtain ⟨hb,XT,hzW⟩:=mkbx27_11 hW;clear hW;replace t:=t.below hb;replace hL:=hL.below hb;replace hE:=EachH.belowJ hE hb
 replace t:=t.below (Below.refl _ _).drew
 replace hL:=hL.below (Below.refl _ _).drew
 replace XT:=XT.below (Below.refl _ _).drew
 replace hb:=hb.drew
 replace hE:=EachH.belowJ hE (Below.refl _ _).drew
 refine wp_region_held_drew (S:=(fun w'=>w'.cell? ⟨w.heap.size,0,none⟩=some (.bool s)∧w'.cell? ⟨w.heap.size,1,none⟩=some (.slice A1 n1 c1)∧w'.cell? ⟨w.heap.size,2,none⟩=some (.slice A2 n2 c2))) (by kernel_rfl) (by with_reducible exact ⟨XT.c0,XT.c1,XT.c2⟩) (fun hHeld=>?_)
 refine wpAnyH_take (i:=0) (oi:=⟨some 5,.move (.tmp 0),31, "ref.go:22",#[],none⟩) (v:=?_) rfl (by kernel_rfl) (by kernel_rfl) (by kernel_rfl) (fun _ _ _ h=>h) (Or.inl ⟨by rfl,?_⟩) hHeld ?_
 rotate_left
 · (intro w hSw;(try dsimp only at hSw);go_simp;try with_reducible rfl)
 simp only [Act.put,List.setIfInBounds_toArray,List.set_cons_zero,List.set_cons_succ]
 refine wpAnyH_ready (rs:=[1]) (by kernel_rfl) (by simp) ?_
 refine AllReadyH.cons (o:=⟨some 6,.call ⟨.value (.func 14),#[.tmp 5],#[31]⟩,4, "ref.go:22",#[⟨0,.data⟩],none⟩) rfl (fun K1 hK1=>?_) AllReadyH.nil
 go_simp
 first
 | (go_at_call 14;(with_reducible refine (rgood13 hL hE HN.out (by omega) true ⟨fun _=>HG.out,fun _=>rfl⟩).mono ?_);rintro e w_z ⟨rfl,hh⟩
    (try replace t:=t.below hh);(try replace hL:=hL.below hh);(try replace XT:=XT.below hh);replace hb:=bend hb hh;replace hE:=EachH.belowJ hE hh)
 refine hK1.out _ _ (by with_reducible exact ⟨XT.c0,XT.c1,XT.c2⟩) (fun hHeld=>?_)
 clear hK1 K1
 refine wpAnyH_take (i:=2) (oi:=⟨some 7,.move (.tmp 6),4, "ref.go:22",#[⟨1,.data⟩,⟨1,.chain⟩],none⟩) (v:=?_) rfl (by kernel_rfl) (by kernel_rfl) (by kernel_rfl) (fun _ _ _ h=>h) (Or.inl ⟨by rfl,?_⟩) hHeld ?_
 rotate_left
 · (intro w hSw;(try dsimp only at hSw);go_simp;try with_reducible rfl)
 simp only [Act.put,List.setIfInBounds_toArray,List.set_cons_zero,List.set_cons_succ]
 refine wpAnyH_take (i:=3) (oi:=⟨some 8,.load 43 (.tmp 3),43, "ref.go:22",#[⟨2,.guard⟩],some (2,true)⟩) (v:=?_) rfl (by kernel_rfl) (by kernel_rfl) (by kernel_rfl) (fun _ _ _ h=>h) (Or.inl ⟨by rfl,?_⟩) hHeld ?_
 rotate_left
 · (intro w hSw;(try dsimp only at hSw);go_simp;try with_reducible rfl)
 simp only [Act.put,List.setIfInBounds_toArray,List.set_cons_zero,List.set_cons_succ]
 refine wpAnyH_ready (rs:=[4]) (by kernel_rfl) (by simp) ?_
 refine AllReadyH.cons (o:=⟨some 9,.call ⟨.value (.func 31),#[.tmp 8],#[43]⟩,3, "ref.go:22",#[⟨3,.data⟩,⟨2,.chain⟩,⟨2,.guard⟩],some (2,true)⟩) rfl (fun K1 hK1=>?_) AllReadyH.nil
 go_simp
 first
 | (go_at_call 31;(with_reducible refine (rsign3 t).mono ?_);rintro e w_z ⟨rfl,hh⟩
    rw [HS.out];(try replace t:=t.below hh);(try replace hL:=hL.below hh);(try replace XT:=XT.below hh);replace hb:=bend hb hh;replace hE:=EachH.belowJ hE hh)
 refine hK1.out _ _ (by with_reducible exact ⟨XT.c0,XT.c1,XT.c2⟩) (fun hHeld=>?_)
 clear hK1 K1
 refine wpAnyH_take (i:=5) (oi:=⟨some 10,.binOp BinOp.geq 3 (.tmp 9) (.const (Value.int IntKind.i64 0)) 3,4, "ref.go:22",#[⟨4,.data⟩,⟨2,.guard⟩],some (2,true)⟩) (v:=?_) rfl (by kernel_rfl) (by kernel_rfl) (by kernel_rfl) (fun _ _ _ h=>h) (Or.inl ⟨by rfl,?_⟩) hHeld ?_
 rotate_left
 · (intro w hSw;(try dsimp only at hSw);go_simp;try with_reducible rfl)
 simp only [Act.put,List.setIfInBounds_toArray,List.set_cons_zero,List.set_cons_succ]
 simp only [HD.out]
 refine wpAnyH_take (i:=6) (oi:=⟨some 11,.pick (.tmp 7) (.tmp 10) (.const (Value.bool false)),4, "ref.go:22",#[⟨2,.data⟩,⟨5,.data⟩],none⟩) (v:=?_) rfl (by kernel_rfl) (by kernel_rfl) (by kernel_rfl) (fun _ _ _ h=>h) (Or.inl ⟨by rfl,?_⟩) hHeld ?_
 rotate_left
 · (intro w hSw;(try dsimp only at hSw);go_simp;try with_reducible rfl)
 simp only [Act.put,List.setIfInBounds_toArray,List.set_cons_zero,List.set_cons_succ]
 refine wpAnyH_take (i:=7) (oi:=⟨some 12,.move (.tmp 11),4, "ref.go:22",#[⟨6,.data⟩,⟨4,.chain⟩],none⟩) (v:=?_) rfl (by kernel_rfl) (by kernel_rfl) (by kernel_rfl) (fun _ _ _ h=>h) (Or.inl ⟨by rfl,?_⟩) hHeld ?_
 rotate_left
 · (intro w hSw;(try dsimp only at hSw);go_simp;try with_reducible rfl)
 simp only [Act.put,List.setIfInBounds_toArray,List.set_cons_zero,List.set_cons_succ]
 refine wpAnyH_take (i:=8) (oi:=⟨some 13,.move (.tmp 0),31, "ref.go:22",#[⟨7,.guard⟩],some (7,true)⟩) (v:=?_) rfl (by kernel_rfl) (by kernel_rfl) (by kernel_rfl) (fun _ _ _ h=>h) (Or.inl ⟨by rfl,?_⟩) hHeld ?_
 rotate_left
 · (intro w hSw;(try dsimp only at hSw);go_simp;try with_reducible rfl)
 simp only [Act.put,List.setIfInBounds_toArray,List.set_cons_zero,List.set_cons_succ]
 refine wpAnyH_take (i:=10) (oi:=⟨some 15,.load 43 (.tmp 3),43, "ref.go:22",#[⟨7,.guard⟩],some (7,true)⟩) (v:=?_) rfl (by kernel_rfl) (by kernel_rfl) (by kernel_rfl) (fun _ _ _ h=>h) (Or.inl ⟨by rfl,?_⟩) hHeld ?_
 rotate_left
 · (intro w hSw;(try dsimp only at hSw);go_simp;try with_reducible rfl)
 simp only [Act.put,List.setIfInBounds_toArray,List.set_cons_zero,List.set_cons_succ]
 refine wpAnyH_take (i:=11) (oi:=⟨some 16,.load 43 (.tmp 3),43, "ref.go:22",#[⟨7,.guard⟩],some (7,true)⟩) (v:=?_) rfl (by kernel_rfl) (by kernel_rfl) (by kernel_rfl) (fun _ _ _ h=>h) (Or.inl ⟨by rfl,?_⟩) hHeld ?_
 rotate_left
 · (intro w hSw;(try dsimp only at hSw);go_simp;try with_reducible rfl)
 simp only [Act.put,List.setIfInBounds_toArray,List.set_cons_zero,List.set_cons_succ]
 refine wpAnyH_ready (rs:=[9]) (by kernel_rfl) (by simp) ?_
 refine AllReadyH.cons (o:=⟨some 14,.call ⟨.value (.func 16),#[.tmp 13],#[31]⟩,43, "ref.go:22",#[⟨8,.data⟩,⟨7,.chain⟩,⟨7,.guard⟩],some (7,true)⟩) rfl (fun K1 hK1=>?_) AllReadyH.nil
 go_simp
 first
 | (go_at_call 16;(with_reducible refine (rgap15 hL hE HN.out hk HG.out).mono ?_);rintro e w_g ⟨s_g,A_g,n_g,c_g,B_g,m_g,d_g,rfl,g,hh⟩
    (try replace t:=t.below hh);(try replace hL:=hL.below hh);(try replace XT:=XT.below hh);replace hb:=bend hb hh;replace hE:=EachH.belowJ hE hh)
 refine hK1.out _ _ (by with_reducible exact ⟨XT.c0,XT.c1,XT.c2⟩) (fun hHeld=>?_)
 clear hK1 K1
 refine wpAnyH_ready (rs:=[12]) (by kernel_rfl) (by simp) ?_
 refine AllReadyH.cons (o:=⟨some 17,.call ⟨.value (.func 33),#[.tmp 15,.tmp 16],#[43,43]⟩,43, "ref.go:22",#[⟨10,.data⟩,⟨11,.data⟩,⟨9,.chain⟩,⟨7,.guard⟩],some (7,true)⟩) rfl (fun K1 hK1=>?_) AllReadyH.nil
 go_simp
 first
 | (go_at_call 33;(with_reducible refine (rmul3 t t (by omega) (by omega)).mono ?_);rintro e w_q ⟨s_q,A_q,n_q,c_q,B_q,m_q,d_q,rfl,q,hh⟩
    (try replace t:=t.below hh);(try replace hL:=hL.below hh);(try replace XT:=XT.below hh);(try replace g:=g.below hh);replace hb:=bend hb hh;replace hE:=EachH.belowJ hE hh)
 refine hK1.out _ _ (by with_reducible exact ⟨XT.c0,XT.c1,XT.c2⟩) (fun hHeld=>?_)
 clear hK1 K1
 refine wpAnyH_ready (rs:=[13]) (by kernel_rfl) (by simp) ?_
 refine AllReadyH.cons (o:=⟨some 18,.call ⟨.value (.func 32),#[.tmp 14,.tmp 17],#[43,43]⟩,3, "ref.go:22",#[⟨9,.data⟩,⟨12,.data⟩,⟨12,.chain⟩,⟨7,.guard⟩],some (7,true)⟩) rfl (fun K1 hK1=>?_) AllReadyH.nil
 go_simp
 first
 | (go_at_call 32;(with_reducible refine (rcmp3 g q (by omega) (by omega)).mono ?_);rintro e w_z ⟨rfl,hh⟩
    rw [HT.out];(try replace t:=t.below hh);(try replace hL:=hL.below hh);(try replace XT:=XT.below hh);(try replace g:=g.below hh);(try replace q:=q.below hh);replace hb:=bend hb hh)
 refine hK1.out _ _ (by with_reducible exact ⟨XT.c0,XT.c1,XT.c2⟩) (fun hHeld=>?_)
 clear hK1 K1
 refine wpAnyH_take (i:=14) (oi:=⟨some 19,.binOp BinOp.leq 3 (.tmp 18) (.const (Value.int IntKind.i64 0)) 3,4, "ref.go:22",#[⟨13,.data⟩,⟨7,.guard⟩],some (7,true)⟩) (v:=?_) rfl (by kernel_rfl) (by kernel_rfl) (by kernel_rfl) (fun _ _ _ h=>h) (Or.inl ⟨by rfl,?_⟩) hHeld ?_
 rotate_left
 · (intro w hSw;(try dsimp only at hSw);go_simp;try with_reducible rfl)
 simp only [Act.put,List.setIfInBounds_toArray,List.set_cons_zero,List.set_cons_succ]
 refine wpAnyH_take (i:=15) (oi:=⟨some 20,.pick (.tmp 12) (.tmp 19) (.const (Value.bool false)),4, "ref.go:22",#[⟨7,.data⟩,⟨14,.data⟩],none⟩) (v:=?_) rfl (by kernel_rfl) (by kernel_rfl) (by kernel_rfl) (fun _ _ _ h=>h) (Or.inl ⟨by rfl,?_⟩) hHeld ?_
 rotate_left
 · (intro w hSw;(try dsimp only at hSw);go_simp;try with_reducible rfl)
 simp only [Act.put,List.setIfInBounds_toArray,List.set_cons_zero,List.set_cons_succ]
 refine wpAnyH_take (i:=16) (oi:=⟨some 4,.assign (.tmp 20),4, "ref.go:22",#[⟨15,.data⟩,⟨13,.chain⟩,⟨0,.phase⟩,⟨1,.phase⟩,⟨2,.phase⟩,⟨3,.phase⟩,⟨4,.phase⟩,⟨5,.phase⟩,⟨6,.phase⟩,⟨7,.phase⟩,⟨8,.phase⟩,⟨9,.phase⟩,⟨10,.phase⟩,⟨11,.phase⟩,⟨12,.phase⟩,⟨13,.phase⟩,⟨14,.phase⟩,⟨15,.phase⟩],none⟩) (v:=?_) rfl (by kernel_rfl) (by kernel_rfl) (by kernel_rfl) (fun _ _ _ h=>h) (Or.inl ⟨by rfl,?_⟩) hHeld ?_
 rotate_left
 · (intro w hSw;(try dsimp only at hSw);go_simp;try with_reducible rfl)
 simp only [Act.put,List.setIfInBounds_toArray,List.set_cons_zero,List.set_cons_succ]
 refine wpAnyH_done (by kernel_rfl) ?_ _
 clear hHeld
 go_wp2_with fail
 (try rw [Exit.noGoto_ret])
 go_ret
 exact ⟨by rw [← HR.out];rfl,hb⟩
theorem ris_any {A:Option Addr} {n c k:Nat} {L:List HV} {V:List AH} {s:Bool} {A1 A2:Option Addr} {n1 c1 n2 c2 kt:Nat} {vt:Rat} (hL:SV w A (hvs L)) (hE:EachH RH w L V k) (hn:L.length=n) (t:RQ w s A1 n1 c1 A2 n2 c2 vt kt) (hk:k≤20) (hkt:kt≤1000) (hm:n≤1000) (R:Bool) (hR:R=true ↔ GoodH V∧0≤vt∧gapQ V≤vt*vt) :
 Calls Tryz.prog 12 #[.slice A n c,.agg #[.bool s,.slice A1 n1 c1,.slice A2 n2 c2]] w fun e w'=>e=.returned (.bool R)∧Below w.heap.size w w':=by
 by_cases hG:GoodH V
 · by_cases hT:0≤vt
   · exact ris_ok hL hE hn t hk hkt hm hG hT R (hR.trans ⟨fun e=>e.2.2,fun e=>⟨hG,hT,e⟩⟩)
   · have:=ris_neg (c:=c) hL hE hn t hk hkt hm hG (Rat.not_le.1 hT)
     rwa [show false=R by cases R with | false=>rfl | true=>exact absurd (hR.1 rfl).2.1 hT] at this
 · have:=ris_bad (c:=c) hL hE hn t hk hkt hm hG
   rwa [show false=R by cases R with | false=>rfl | true=>exact absurd (hR.1 rfl).1 hG] at this
end
section
open Go Go.RowKit
attribute [local go_sem ↓] open_LVH open_STH open_LVJ open_STJ
theorem fgreatest {A:Option Addr} {n c k:Nat} {L:List QV} {u0:Rat} {r:List Rat} (hL:SV w A (qvs L)) (hE:EachQ w L (u0 :: r) k) (hn:L.length=n) (hnc:n≤c) (hm:n≤1000) (hk:k≤40000) (h1:1≤k) :
 Calls Tryz.prog 29 #[.slice A n c,.func (.func 20) #[] #[]] w (GivesQ w (r.foldl maxQ u0) k):=by
 have HN:=Lib.hid hn
 obtain ⟨m,hnm⟩:∃ m,n=m+1:=⟨n - 1,by have:=hE.1;rw [hn,List.length_cons] at this;omega⟩
 have HRm:Hid (r.length=m):=by show _=_;have:=hE.1;rw [hn,List.length_cons] at this;omega
 obtain ⟨P0,v0,hP0,hv0,p0⟩:=hE.at_ (i:=0) (by rw [hn];omega)
 obtain rfl:u0=v0:=by simpa using hv0
 obtain ⟨g0,o0,hix0,E0,_⟩:=hL.qt hP0
 have hixa:∀ w',(Instr.indexAt 67 (.slice A n c) (.int .i64 0)).run Tryz.prog w'=.ok (.pointer (some ⟨g0,o0,none⟩)) w':=fun w'=>hix0 n c w' (by omega)
 obtain ⟨A2,c2,hcut0,hS2⟩:=hL.tailQ (c:=c) hn (by omega) hnc
 have hcut:∀ w',(Instr.slice 67 (.slice A n c) (some (.int .i64 1)) none none).run Tryz.prog w'=.ok (.slice A2 m c2) w':=by
  intro w';have:=hcut0 w';rwa [show n - 1=m by omega] at this
 have HS2:=Lib.hid hS2;have HE9:=Lib.hid hE;have HNM:=Lib.hid hnm
 have hm9:m≤1000:=by omega
 clear hL hE hn hnc hm hnm hP0 hv0 hix0 hcut0 hS2
 go_enter Tryz.func29,Tryz.ntmps29
 go_upto_region 1 with (fail)
 generalize hW:World.alloc _ _=W
 obtain ⟨hb,Z,hzW⟩:=mkbx13_8 hW;clear hW;replace p0:=p0.below hb;replace E0:=E0.below hb;obtain ⟨e0,e1,e2⟩:=E0.all
 go_upto_region 2 with (fail)
 have X5:BQ (W.alloc (Obj.cells #[Value.bool P0.s,Value.slice P0.A P0.n P0.c,Value.slice P0.B P0.m P0.d] 27)) (w.heap.size+1) P0:=B3.new' W (Value.bool P0.s) (Value.slice P0.A P0.n P0.c) (Value.slice P0.B P0.m P0.d) (w.heap.size+1) hzW.symm
 have hh:Below W.heap.size W (W.alloc (Obj.cells #[Value.bool P0.s,Value.slice P0.A P0.n P0.c,Value.slice P0.B P0.m P0.d] 27)):=(Below.refl _ _).alloc (Nat.le_refl _) _
 generalize (W.alloc (Obj.cells #[Value.bool P0.s,Value.slice P0.A P0.n P0.c,Value.slice P0.B P0.m P0.d] 27))=W2 at *
 generalize hg5:w.heap.size+1=g5 at X5 ⊢
 have hgz:w.heap.size < g5:=by omega
 clear hg5;replace Z:=Z.below hh;replace p0:=p0.below hh;replace hb:=bend hb hh;clear hh e0 e1 e2 E0 hixa hzW;have HX:=Lib.hid X5;have HZ:=Lib.hid Z;have HP:=Lib.hid p0;have HB:=Lib.hid hb;clear X5 Z p0 hb
 go_wp2_with fail
 go_loopg [14] m (fun gk ix wr=>∃ (j:Nat) (q:QV),Hid (gk+j=m)∧ix=.int .i64 (j:Int)∧Hid (BQ wr g5 q)∧Hid (q.G wr ((r.take j).foldl maxQ u0) k)∧Hid (B3 wr w.heap.size (.bool false) (.slice none 0 0) (.slice none 0 0))∧Below w.heap.size w wr)
 case atStart=>exact ⟨0,P0,Nat.add_zero _,rfl,HX.out,HP.out,HZ.out,HB.out⟩
 case round =>
  obtain ⟨j,q,HG9,rfl,HX,HQ,HZ,hb⟩:=hrel
  by_cases hjm:j < m
  · obtain ⟨P,v,hP1,hv1,p9⟩:=HE9.out.at_ (i:=j+1) (by rw [HN.out,HNM.out];omega)
    have hP2:(L.drop 1)[j]?=some P:=by rw [List.getElem?_drop,Nat.add_comm];exact hP1
    obtain ⟨g1,o1,hix1,E1,_⟩:=HS2.out.qt hP2
    have hixb:∀ w',(Instr.indexAt 67 (.slice A2 m c2) (.int .i64 (j:Int))).run Tryz.prog w'=.ok (.pointer (some ⟨g1,o1,none⟩)) w':=fun w'=>hix1 m c2 w' hjm
    have hlt:(j:Int) < (m:Int):=by omega
    have hwr:IntKind.i64.wrap ((j:Int)+1)=(j:Int)+1:=IntWalk.i64_in _ (by omega)
    have HV:Hid ((r.take (j+1)).foldl maxQ u0=maxQ ((r.take j).foldl maxQ u0) v):=by
     show _=_
     rw [List.getElem?_cons_succ] at hv1
     rw [take_step hv1,List.foldl_append];rfl
    have HJM:=Lib.hid hjm;have p:=p9.below hb
    have e0:=(E1.below hb).c0
    have e1:=(E1.below hb).c1
    have e2:=(E1.below hb).c2
    clear hP1 hP2 hv1 hix1 hjm E1 p9
    go_upto_region 5 with (fail)
    have X7:BQ (wr.alloc (Obj.cells #[Value.bool P.s,Value.slice P.A P.n P.c,Value.slice P.B P.m P.d] 27)) wr.heap.size P:=B3.new' wr (Value.bool P.s) (Value.slice P.A P.n P.c) (Value.slice P.B P.m P.d) wr.heap.size rfl
    have hh:Below wr.heap.size wr (wr.alloc (Obj.cells #[Value.bool P.s,Value.slice P.A P.n P.c,Value.slice P.B P.m P.d] 27)):=(Below.refl _ _).alloc (Nat.le_refl _) _
    have X5:=HX.out.below hh;have Z:=HZ.out.below hh
    have hgx:g5 ≠ wr.heap.size:=by have:=HX.out.b3.lt;omega
    have p:=p.below hh;have qq:=HQ.out.below hh;replace hb:=bend hb hh
    generalize (wr.alloc (Obj.cells #[Value.bool P.s,Value.slice P.A P.n P.c,Value.slice P.B P.m P.d] 27))=W3 at *
    generalize wr.heap.size=g7 at X7 hgx ⊢
    generalize hcu:(r.take j).foldl maxQ u0=cu at *
    have HCU:=Lib.hid hcu;clear hh e0 e1 e2 hixb HX HZ HQ hcu;have NX:=X5;have x50:=X5.b3.c0;have x51:=X5.b3.c1;have x52:=X5.b3.c2;have x70:=X7.b3.c0;have x71:=X7.b3.c1;have x72:=X7.b3.c2
    by_cases hc:cu < v
    · obtain ⟨K,hK,hK0⟩:∃ K,cmpQ v cu=K∧decide (0 < K)=true:=⟨_,rfl,decide_eq_true (cmpQ_gt0.2 hc)⟩
      have HK:=Lib.hid hK;have HC:=Lib.hid hc;clear hK hc
      have hK1:0 < K:=of_decide_eq_true hK0
      clear hK0
      go_upto_region 7 with (first
       | (go_at_call 20;(with_reducible refine (rcmp_q p.qg.qr qq.qg.qr hk hk (.inl hk) h1 h1).mono ?_);rintro e w_z ⟨rfl,hh⟩
          rw [HK.out];(try replace Z:=Z.below hh);(try replace p:=p.below hh);(try replace qq:=qq.below hh);(try replace X5:=X5.below hh);(try replace X7:=X7.below hh);replace hb:=bend hb hh;have x50:=X5.b3.c0;have xf0:=X5.b3.f0;have x70:=X7.b3.c0;have x51:=X5.b3.c1;have xf1:=X5.b3.f1;have x71:=X7.b3.c1;have x52:=X5.b3.c2;have xf2:=X5.b3.f2;have x72:=X7.b3.c2))
      have X9:BQ (((w_z.setCell ⟨g5,0,none⟩ (Value.bool P.s)).setCell ⟨g5,1,none⟩ (Value.slice P.A P.n P.c)).setCell ⟨g5,2,none⟩ (Value.slice P.B P.m P.d)) g5 P:=X5.b3.set3 _ _ _
      have p9:P.G (((w_z.setCell ⟨g5,0,none⟩ (Value.bool P.s)).setCell ⟨g5,1,none⟩ (Value.slice P.A P.n P.c)).setCell ⟨g5,2,none⟩ (Value.slice P.B P.m P.d)) v k:=QG.set3 p.qg X5.b3 _ _ _
      have ho:Only g5 w_z (((w_z.setCell ⟨g5,0,none⟩ (Value.bool P.s)).setCell ⟨g5,1,none⟩ (Value.slice P.A P.n P.c)).setCell ⟨g5,2,none⟩ (Value.slice P.B P.m P.d)):=only_set3 _ _ _ _ _
      have Z9:=Z.restm (show w.heap.size ≠ g5 by omega) ho
      have hb9:Below w.heap.size w (((w_z.setCell ⟨g5,0,none⟩ (Value.bool P.s)).setCell ⟨g5,1,none⟩ (Value.slice P.A P.n P.c)).setCell ⟨g5,2,none⟩ (Value.slice P.B P.m P.d)):=below_set3 hb (by omega) _ _ _
      generalize (((w_z.setCell ⟨g5,0,none⟩ (Value.bool P.s)).setCell ⟨g5,1,none⟩ (Value.slice P.A P.n P.c)).setCell ⟨g5,2,none⟩ (Value.slice P.B P.m P.d))=W9 at *
      have HX9:=Lib.hid X9;have HP9:=Lib.hid p9;have HZ9:=Lib.hid Z9;clear X5 X7 NX Z p qq hb X9 p9 ho Z9 x50 x51 x52 x70 x71 x72 xf0 xf1 xf2
      go_wp2_with fail
      go_roundg (gk - 1)
      case measure=>have:=HG9.out;have:=HJM.out;omega
      case rel=>exact ⟨j+1,P,by have:=HG9.out;have:=HJM.out;show _=_;omega,by go_num,HX9.out,by show QV.G _ _ _ _;rw [HV.out,maxQ,if_pos HC.out];exact HP9.out,HZ9.out,hb9⟩
    · obtain ⟨K,hK,hK0⟩:∃ K,cmpQ v cu=K∧decide (0 < K)=false:=⟨_,rfl,decide_eq_false (fun e=>hc (cmpQ_gt0.1 e))⟩
      have HK:=Lib.hid hK;have HC:=Lib.hid hc;clear hK hc
      have hK1:¬ 0 < K:=of_decide_eq_false hK0
      clear hK0
      go_wp2_with (first
       | (go_at_call 20;(with_reducible refine (rcmp_q p.qg.qr qq.qg.qr hk hk (.inl hk) h1 h1).mono ?_);rintro e w_z ⟨rfl,hh⟩
          rw [HK.out];(try replace Z:=Z.below hh);(try replace p:=p.below hh);(try replace qq:=qq.below hh);(try replace X5:=X5.below hh);(try replace X7:=X7.below hh);replace hb:=bend hb hh))
      go_roundg (gk - 1)
      case measure=>have:=HG9.out;have:=HJM.out;omega
      case rel=>exact ⟨j+1,q,by have:=HG9.out;have:=HJM.out;show _=_;omega,by go_num,X5,by show QV.G _ _ _ _;rw [HV.out,maxQ,if_neg HC.out];exact qq,Z,hb⟩
  · have hlt:¬ (j:Int) < (m:Int):=by omega
    have HQ2:Hid (q.G wr (r.foldl maxQ u0) k):=by
     have h:=HQ.out
     rwa [List.take_of_length_le (by rw [HRm.out];omega)] at h
    clear hjm;have X5:=HX.out.b3;have Z:=HZ.out;have x50:=X5.c0;have zf0:=Z.f0;have zc0:=Z.c0;have x51:=X5.c1;have zf1:=Z.f1;have zc1:=Z.c1;have x52:=X5.c2;have zf2:=Z.f2;have zc2:=Z.c2
    go_wp2_with fail
    have Z2:=Z.set3 (.bool q.s) (.slice q.A q.n q.c) (.slice q.B q.m q.d)
    obtain ⟨g0,g1,g2⟩:=Z2.all
    refine bodyPost_ret (v:=.agg #[.bool q.s,.slice q.A q.n q.c,.slice q.B q.m q.d]) (by simp [results,Tryz.results29,go_sem,g0,g1,g2]) rfl ?_
    exact ⟨q.s,q.A,q.n,q.c,q.B,q.m,q.d,rfl,QG.set3 HQ2.out.qg Z _ _ _,below_set3 hb (by omega) _ _ _⟩
def GivesQN (w:World) (x:Int) (en:Ending) (w':World):Prop:=en=.returned (.tuple #[.agg #[.bool false,.slice none 0 0,.slice none 0 0],.int .i64 x])∧Below w.heap.size w w'
theorem fgap_bad {A:Option Addr} {n c k:Nat} {L:List HV} {V:List AH} (hL:SV w A (hvs L)) (hE:EachH HR w L V k) (hn:L.length=n) (hk:k≤400) (h1:1≤k) (hG:¬ GoodH V) :
 Calls Tryz.prog 10 #[.slice A n c] w (GivesQN w 11):=by
 have HG:=Lib.hid hG;have HN:=Lib.hid hn;clear hG hn
 go_enter Tryz.func10,Tryz.ntmps10
 go_upto_region 1 with (fail)
 generalize hW:World.alloc _ _=W
 obtain ⟨hb,Z,hzW⟩:=mkbx13_8 hW;clear hW;replace hL:=hL.below hb;replace hE:=EachH.belowR hE hb
 go_wp2_with (first
  | (go_at_call 28;(with_reducible refine (cgood_any hL hE HN.out (by omega) h1 false ⟨fun e=>(by cases e),fun e=>absurd e HG.out⟩).mono ?_);rintro e w_z ⟨rfl,hh⟩
     (try replace Z:=Z.below hh);replace hb:=bend hb hh;have zf0:=Z.f0;have zc0:=Z.c0;have zf1:=Z.f1;have zc1:=Z.c1;have zf2:=Z.f2;have zc2:=Z.c2))
 have Z2:=Z.set3 (.bool false) (.slice none 0 0) (.slice none 0 0)
 obtain ⟨g0,g1,g2⟩:=Z2.all
 refine bodyPost_ret (v:=.tuple #[.agg #[.bool false,.slice none 0 0,.slice none 0 0],.int .i64 11]) (by rw [results_cell_tmp Tryz.results10];simp [go_sem,asAddr,Result.andThen,g0,g1,g2]) rfl ?_
 exact ⟨rfl,below_set3 hb (by omega) _ _ _⟩
theorem fgap_ok {A:Option Addr} {n c k:Nat} {L:List HV} {V:List AH} (hL:SV w A (hvs L)) (hE:EachH HR w L V k) (hn:L.length=n) (hnc:n≤c) (hk:k≤400) (h1:1≤k) (hG:GoodH V) :
 Calls Tryz.prog 10 #[.slice A n c] w (GivesQE w (gapQ V) (12*((k+(1+k))+(k+(1+k)))+8*(k+(1+k))+40)):=by
 have HG:=Lib.hid hG;have HN:=Lib.hid hn
 have HVn:Hid (V.length=n):=hE.1.symm.trans hn
 have HGM:=Lib.hid (gap_mid hG.1.1)
 clear hG hn
 go_enter Tryz.func10,Tryz.ntmps10
 go_upto_region 1 with (fail)
 generalize hW:World.alloc _ _=W
 obtain ⟨hb,Z,hzW⟩:=mkbx13_8 hW;clear hW;replace hL:=hL.below hb;replace hE:=EachH.belowR hE hb
 have hn4:n≤4:=by have:=HG.out.1;have:=HVn.out;omega
 go_wp2_with (first
  | (go_at_call 28;(with_reducible refine (cgood_any hL hE HN.out (by omega) h1 true ⟨fun _=>HG.out,fun _=>rfl⟩).mono ?_);rintro e w_z ⟨rfl,hh⟩
     (try replace Z:=Z.below hh);(try replace hL:=hL.below hh);replace hb:=bend hb hh;replace hE:=EachH.belowR hE hh)
  | (go_at_call 30;(with_reducible refine (fdist hL hE HN.out hnc hk h1 HG.out).mono ?_);rintro e w_d ⟨v,M,rfl,lM,eM,hh⟩
     (try replace Z:=Z.below hh);replace hb:=bend hb hh
     obtain ⟨A2,c2,rfl,hc2,_⟩:=lM.form
     have hMl:M.length≤1000:=(by have h5:=eM.1;have h6:=HG.out.1;have h7:=HVn.out;rw [List.length_cons,mid_length (m:=n - 2) (by omega)] at h5;omega))
  | (go_at_call 29;(with_reducible refine (fgreatest lM.sv eM rfl hc2 hMl (by omega) (by omega)).mono ?_);rintro e w_r ⟨s_r,A_r,n_r,c_r,B_r,m_r,d_r,rfl,r,hh⟩
     (try replace Z:=Z.below hh);replace hb:=bend hb hh;have zf0:=Z.f0;have zc0:=Z.c0;have zf1:=Z.f1;have zc1:=Z.c1;have zf2:=Z.f2;have zc2:=Z.c2))
 have HR9:Hid (QG w_r s_r A_r n_r c_r B_r m_r d_r (gapQ V) (12*((k+(1+k))+(k+(1+k)))+8*(k+(1+k))+40)):=by
  have h:=r
  rw [show (midQ V).foldl maxQ 0=gapQ V from HGM.out] at h
  exact h
 have Z2:=Z.set3 (.bool s_r) (.slice A_r n_r c_r) (.slice B_r m_r d_r)
 obtain ⟨g0,g1,g2⟩:=Z2.all
 refine bodyPost_ret (v:=.tuple #[.agg #[.bool s_r,.slice A_r n_r c_r,.slice B_r m_r d_r],.int .i64 0]) (by rw [results_cell_tmp Tryz.results10];simp [go_sem,asAddr,Result.andThen,g0,g1,g2]) rfl ?_
 exact ⟨s_r,A_r,n_r,c_r,B_r,m_r,d_r,rfl,HR9.out.set3 Z _ _ _,below_set3 hb (by omega) _ _ _⟩
theorem fis_neg {A:Option Addr} {n c k:Nat} {L:List HV} {V:List AH} {s:Bool} {A1 A2:Option Addr} {n1 c1 n2 c2 kt:Nat} {vt:Rat} (hL:SV w A (hvs L)) (hE:EachH HR w L V k) (_hn:L.length=n) (t:QR w s A1 n1 c1 A2 n2 c2 vt kt) (_hk:k≤400) (_h1:1≤k) (hkt:kt≤10000) (ht1:1≤kt) (hT:vt < 0) :
 Calls Tryz.prog 11 #[.slice A n c,.agg #[.bool s,.slice A1 n1 c1,.slice A2 n2 c2]] w fun e w'=>e=.returned (.bool false)∧Below w.heap.size w w':=by
 obtain ⟨S,hS,hS0⟩:∃ S,sgnQ vt=S∧S < 0:=⟨_,rfl,by unfold sgnQ;rw [if_pos hT];decide⟩
 have HS:=Lib.hid hS;clear hS hT
 go_enter Tryz.func11,Tryz.ntmps11
 go_upto_region 1 with (fail)
 generalize hW:World.alloc _ _=W
 obtain ⟨hb,XT,hzW⟩:=mkbx13_8 hW;clear hW;replace t:=t.below hb;replace hL:=hL.below hb;replace hE:=EachH.belowR hE hb;obtain ⟨xt0,xt1,xt2⟩:=XT.all
 go_wp2_with (first
  | (go_at_call 24;(with_reducible refine (rsign_q t (by omega) ht1).mono ?_);rintro e w_z ⟨rfl,hh⟩
     rw [HS.out];(try replace hL:=hL.below hh);(try replace t:=t.below hh);(try replace XT:=XT.below hh);replace hb:=bend hb hh;replace hE:=EachH.belowR hE hh))
 (try rw [Exit.noGoto_ret])
 go_ret;exact ⟨rfl,hb⟩
theorem fis_bad {A:Option Addr} {n c k:Nat} {L:List HV} {V:List AH} {s:Bool} {A1 A2:Option Addr} {n1 c1 n2 c2 kt:Nat} {vt:Rat} (hL:SV w A (hvs L)) (hE:EachH HR w L V k) (hn:L.length=n) (t:QR w s A1 n1 c1 A2 n2 c2 vt kt) (hk:k≤400) (h1:1≤k) (hkt:kt≤10000) (ht1:1≤kt) (hT:0≤vt) (hG:¬ GoodH V) :
 Calls Tryz.prog 11 #[.slice A n c,.agg #[.bool s,.slice A1 n1 c1,.slice A2 n2 c2]] w fun e w'=>e=.returned (.bool false)∧Below w.heap.size w w':=by
 have HG:=Lib.hid hG;have HN:=Lib.hid hn;clear hG hn
 obtain ⟨S,hS,hS0⟩:∃ S,sgnQ vt=S∧¬ S < 0:=⟨_,rfl,by have:=sgn_nonneg.2 hT;omega⟩
 have HS:=Lib.hid hS;clear hS hT
 go_enter Tryz.func11,Tryz.ntmps11
 go_upto_region 1 with (fail)
 generalize hW:World.alloc _ _=W
 obtain ⟨hb,XT,hzW⟩:=mkbx13_8 hW;clear hW;replace t:=t.below hb;replace hL:=hL.below hb;replace hE:=EachH.belowR hE hb;obtain ⟨xt0,xt1,xt2⟩:=XT.all
 go_upto_region 4 with (first
  | (go_at_call 24;(with_reducible refine (rsign_q t (by omega) ht1).mono ?_);rintro e w_z ⟨rfl,hh⟩
     rw [HS.out];(try replace hL:=hL.below hh);(try replace t:=t.below hh);(try replace XT:=XT.below hh);replace hb:=bend hb hh;replace hE:=EachH.belowR hE hh)
  | (go_at_call 10;(with_reducible refine (fgap_bad hL hE HN.out hk h1 HG.out).mono ?_);rintro e w_g ⟨rfl,hh⟩
     (try replace XT:=XT.below hh);(try replace t:=t.below hh);replace hb:=bend hb hh))
 have XG:=B3.new' w_g (Value.bool false) (Value.slice none 0 0) (Value.slice none 0 0) w_g.heap.size rfl
 have hh:Below w_g.heap.size w_g (w_g.alloc (Obj.cells #[Value.bool false,Value.slice none 0 0,Value.slice none 0 0] 27)):=(Below.refl _ _).alloc (Nat.le_refl _) _
 generalize (w_g.alloc (Obj.cells #[Value.bool false,Value.slice none 0 0,Value.slice none 0 0] 27))=W2 at *
 replace XT:=XT.below hh;replace hb:=bend hb hh;clear hh
 replace XG:=XG.below (Below.refl _ _).drew
 replace XT:=XT.below (Below.refl _ _).drew
 replace hb:=hb.drew
 refine wp_region_held_drew (S:=(fun w'=>w'.cell? ⟨w_g.heap.size,0,none⟩=some (Value.bool false)∧w'.cell? ⟨w_g.heap.size,1,none⟩=some (Value.slice none 0 0)∧w'.cell? ⟨w_g.heap.size,2,none⟩=some (Value.slice none 0 0)∧w'.cell? ⟨w.heap.size,0,none⟩=some (.bool s)∧w'.cell? ⟨w.heap.size,1,none⟩=some (.slice A1 n1 c1)∧w'.cell? ⟨w.heap.size,2,none⟩=some (.slice A2 n2 c2))) (by kernel_rfl) (by with_reducible exact ⟨XG.c0,XG.c1,XG.c2,XT.c0,XT.c1,XT.c2⟩) (fun hHeld=>?_)
 refine wpAnyH_take (i:=0) (oi:=⟨some 15,.move (.tmp 6),33, "flat.go:20",#[],none⟩) (v:=?_) rfl (by kernel_rfl) (by kernel_rfl) (by kernel_rfl) (fun _ _ _ h=>h) (Or.inl ⟨by rfl,?_⟩) hHeld ?_
 rotate_left
 · (intro w hSw;(try dsimp only at hSw);go_simp;try with_reducible rfl)
 simp only [Act.put,List.setIfInBounds_toArray,List.set_cons_zero,List.set_cons_succ]
 refine wpAnyH_take (i:=1) (oi:=⟨some 16,.binOp BinOp.eql 33 (.tmp 15) (.const (Value.int IntKind.i64 0)) 33,4, "flat.go:20",#[⟨0,.data⟩],none⟩) (v:=?_) rfl (by kernel_rfl) (by kernel_rfl) (by kernel_rfl) (fun _ _ _ h=>h) (Or.inl ⟨by rfl,?_⟩) hHeld ?_
 rotate_left
 · (intro w hSw;(try dsimp only at hSw);go_simp;try with_reducible rfl)
 simp only [Act.put,List.setIfInBounds_toArray,List.set_cons_zero,List.set_cons_succ]
 refine wpAnyH_take (i:=2) (oi:=⟨some 17,.move (.tmp 16),4, "flat.go:20",#[⟨1,.data⟩],none⟩) (v:=?_) rfl (by kernel_rfl) (by kernel_rfl) (by kernel_rfl) (fun _ _ _ h=>h) (Or.inl ⟨by rfl,?_⟩) hHeld ?_
 rotate_left
 · (intro w hSw;(try dsimp only at hSw);go_simp;try with_reducible rfl)
 simp only [Act.put,List.setIfInBounds_toArray,List.set_cons_zero,List.set_cons_succ]
 refine wpAnyH_take (i:=3) (oi:=⟨some 18,.load 27 (.tmp 5),27, "flat.go:20",#[⟨2,.guard⟩],some (2,true)⟩) (v:=undef) rfl (by kernel_rfl) (by kernel_rfl) (by kernel_rfl) (fun _ _ _ h=>h) (Or.inr ⟨by rfl,rfl⟩) hHeld ?_
 simp only [Act.put,List.setIfInBounds_toArray,List.set_cons_zero,List.set_cons_succ]
 refine wpAnyH_take (i:=4) (oi:=⟨some 19,.load 27 (.tmp 3),27, "flat.go:20",#[⟨2,.guard⟩],some (2,true)⟩) (v:=undef) rfl (by kernel_rfl) (by kernel_rfl) (by kernel_rfl) (fun _ _ _ h=>h) (Or.inr ⟨by rfl,rfl⟩) hHeld ?_
 simp only [Act.put,List.setIfInBounds_toArray,List.set_cons_zero,List.set_cons_succ]
 refine wpAnyH_take (i:=5) (oi:=⟨some 20,.load 27 (.tmp 3),27, "flat.go:20",#[⟨2,.guard⟩],some (2,true)⟩) (v:=undef) rfl (by kernel_rfl) (by kernel_rfl) (by kernel_rfl) (fun _ _ _ h=>h) (Or.inr ⟨by rfl,rfl⟩) hHeld ?_
 simp only [Act.put,List.setIfInBounds_toArray,List.set_cons_zero,List.set_cons_succ]
 refine wpAnyH_take (i:=6) (oi:=⟨some 21,.call ⟨.value (.func 23),#[.tmp 19,.tmp 20],#[27,27]⟩,27, "flat.go:20",#[⟨4,.data⟩,⟨5,.data⟩,⟨2,.chain⟩,⟨2,.guard⟩],some (2,true)⟩) (v:=undef) rfl (by kernel_rfl) (by kernel_rfl) (by kernel_rfl) (fun _ _ _ h=>h) (Or.inr ⟨by rfl,rfl⟩) hHeld ?_
 simp only [Act.put,List.setIfInBounds_toArray,List.set_cons_zero,List.set_cons_succ]
 refine wpAnyH_take (i:=7) (oi:=⟨some 22,.call ⟨.value (.func 20),#[.tmp 18,.tmp 21],#[27,27]⟩,3, "flat.go:20",#[⟨3,.data⟩,⟨6,.data⟩,⟨6,.chain⟩,⟨2,.guard⟩],some (2,true)⟩) (v:=undef) rfl (by kernel_rfl) (by kernel_rfl) (by kernel_rfl) (fun _ _ _ h=>h) (Or.inr ⟨by rfl,rfl⟩) hHeld ?_
 simp only [Act.put,List.setIfInBounds_toArray,List.set_cons_zero,List.set_cons_succ]
 refine wpAnyH_take (i:=8) (oi:=⟨some 23,.binOp BinOp.leq 3 (.tmp 22) (.const (Value.int IntKind.i64 0)) 3,4, "flat.go:20",#[⟨7,.data⟩,⟨2,.guard⟩],some (2,true)⟩) (v:=undef) rfl (by kernel_rfl) (by kernel_rfl) (by kernel_rfl) (fun _ _ _ h=>h) (Or.inr ⟨by rfl,rfl⟩) hHeld ?_
 simp only [Act.put,List.setIfInBounds_toArray,List.set_cons_zero,List.set_cons_succ]
 refine wpAnyH_take (i:=9) (oi:=⟨some 24,.pick (.tmp 17) (.tmp 23) (.const (Value.bool false)),4, "flat.go:20",#[⟨2,.data⟩,⟨8,.data⟩],none⟩) (v:=?_) rfl (by kernel_rfl) (by kernel_rfl) (by kernel_rfl) (fun _ _ _ h=>h) (Or.inl ⟨by rfl,?_⟩) hHeld ?_
 rotate_left
 · (intro w hSw;(try dsimp only at hSw);go_simp;try with_reducible rfl)
 simp only [Act.put,List.setIfInBounds_toArray,List.set_cons_zero,List.set_cons_succ]
 refine wpAnyH_take (i:=10) (oi:=⟨some 4,.assign (.tmp 24),4, "flat.go:20",#[⟨9,.data⟩,⟨7,.chain⟩,⟨0,.phase⟩,⟨1,.phase⟩,⟨2,.phase⟩,⟨3,.phase⟩,⟨4,.phase⟩,⟨5,.phase⟩,⟨6,.phase⟩,⟨7,.phase⟩,⟨8,.phase⟩,⟨9,.phase⟩],none⟩) (v:=?_) rfl (by kernel_rfl) (by kernel_rfl) (by kernel_rfl) (fun _ _ _ h=>h) (Or.inl ⟨by rfl,?_⟩) hHeld ?_
 rotate_left
 · (intro w hSw;(try dsimp only at hSw);go_simp;try with_reducible rfl)
 simp only [Act.put,List.setIfInBounds_toArray,List.set_cons_zero,List.set_cons_succ]
 refine wpAnyH_done (by kernel_rfl) ?_ _
 clear hHeld
 go_wp2_with fail
 (try rw [Exit.noGoto_ret])
 go_ret;exact ⟨rfl,hb⟩
theorem fis_ok {A:Option Addr} {n c k:Nat} {L:List HV} {V:List AH} {s:Bool} {A1 A2:Option Addr} {n1 c1 n2 c2 kt:Nat} {vt:Rat} (hL:SV w A (hvs L)) (hE:EachH HR w L V k) (hn:L.length=n) (t:QR w s A1 n1 c1 A2 n2 c2 vt kt) (hk:k≤400) (h1:1≤k) (hkt:kt≤10000) (ht1:1≤kt) (hnc:n≤c) (hT:0≤vt) (hG:GoodH V) (R:Bool) (hR:R=true ↔ gapQ V≤vt*vt) :
 Calls Tryz.prog 11 #[.slice A n c,.agg #[.bool s,.slice A1 n1 c1,.slice A2 n2 c2]] w fun e w'=>e=.returned (.bool R)∧Below w.heap.size w w':=by
 obtain ⟨T,hT9,hT8⟩:∃ T,cmpQ (gapQ V) (vt*vt)=T∧decide (T≤0)=R:=⟨_,rfl,by rw [Bool.eq_iff_iff,decide_eq_true_iff,hR];exact cmpQ_le⟩
 have HT:=Lib.hid hT9;have HR:=Lib.hid hT8;have HG:=Lib.hid hG;have HN:=Lib.hid hn;clear hG hn hR hT9 hT8
 obtain ⟨S,hS,hS0⟩:∃ S,sgnQ vt=S∧¬ S < 0:=⟨_,rfl,by have:=sgn_nonneg.2 hT;omega⟩
 have HS:=Lib.hid hS;clear hS hT
 go_enter Tryz.func11,Tryz.ntmps11
 go_upto_region 1 with (fail)
 generalize hW:World.alloc _ _=W
 obtain ⟨hb,XT,hzW⟩:=mkbx13_8 hW;clear hW;replace t:=t.below hb;replace hL:=hL.below hb;replace hE:=EachH.belowR hE hb;obtain ⟨xt0,xt1,xt2⟩:=XT.all
 go_upto_region 4 with (first
  | (go_at_call 24;(with_reducible refine (rsign_q t (by omega) ht1).mono ?_);rintro e w_z ⟨rfl,hh⟩
     rw [HS.out];(try replace hL:=hL.below hh);(try replace t:=t.below hh);(try replace XT:=XT.below hh);replace hb:=bend hb hh;replace hE:=EachH.belowR hE hh)
  | (go_at_call 10;(with_reducible refine (fgap_ok hL hE HN.out hnc hk h1 HG.out).mono ?_);rintro e w_g ⟨s_g,A_g,n_g,c_g,B_g,m_g,d_g,rfl,g,hh⟩
     (try replace XT:=XT.below hh);(try replace t:=t.below hh);replace hb:=bend hb hh))
 have XG:=B3.new' w_g (Value.bool s_g) (Value.slice A_g n_g c_g) (Value.slice B_g m_g d_g) w_g.heap.size rfl
 have hh:Below w_g.heap.size w_g (w_g.alloc (Obj.cells #[Value.bool s_g,Value.slice A_g n_g c_g,Value.slice B_g m_g d_g] 27)):=(Below.refl _ _).alloc (Nat.le_refl _) _
 generalize (w_g.alloc (Obj.cells #[Value.bool s_g,Value.slice A_g n_g c_g,Value.slice B_g m_g d_g] 27))=W2 at *
 replace XT:=XT.below hh;replace t:=t.below hh;replace g:=g.below hh;replace hb:=bend hb hh;clear hh
 replace XG:=XG.below (Below.refl _ _).drew
 replace XT:=XT.below (Below.refl _ _).drew
 replace t:=t.below (Below.refl _ _).drew
 replace g:=g.below (Below.refl _ _).drew
 replace hb:=hb.drew
 go_region_held3 (fun w'=>w'.cell? ⟨w_g.heap.size,0,none⟩=some (.bool s_g)∧w'.cell? ⟨w_g.heap.size,1,none⟩=some (.slice A_g n_g c_g)∧w'.cell? ⟨w_g.heap.size,2,none⟩=some (.slice B_g m_g d_g)∧w'.cell? ⟨w.heap.size,0,none⟩=some (.bool s)∧w'.cell? ⟨w.heap.size,1,none⟩=some (.slice A1 n1 c1)∧w'.cell? ⟨w.heap.size,2,none⟩=some (.slice A2 n2 c2))
  (first | with_reducible exact ⟨XG.c0,XG.c1,XG.c2,XT.c0,XT.c1,XT.c2⟩)
  (first
  | (go_at_call 23;(with_reducible refine (rmul_q t t (by omega) (by omega) (.inl (by omega)) ht1 ht1).mono ?_);rintro e w_q ⟨s_q,A_q,n_q,c_q,B_q,m_q,d_q,rfl,q,hh⟩
     (try replace XG:=XG.below hh);(try replace XT:=XT.below hh);(try replace t:=t.below hh);(try replace g:=g.below hh);replace hb:=bend hb hh)
  | (go_at_call 20;(with_reducible refine (rcmp_q g.qr q.qr (by omega) (by omega) (.inl (by omega)) (by omega) (by omega)).mono ?_);rintro e w_z ⟨rfl,hh⟩
     rw [HT.out];(try replace XG:=XG.below hh);(try replace XT:=XT.below hh);(try replace t:=t.below hh);(try replace g:=g.below hh);(try replace q:=q.below hh);replace hb:=bend hb hh))
 go_wp2_with fail
 (try rw [Exit.noGoto_ret])
 go_ret
 exact ⟨by rw [← HR.out];rfl,hb⟩
theorem fis_any {A:Option Addr} {n c k:Nat} {L:List HV} {V:List AH} {s:Bool} {A1 A2:Option Addr} {n1 c1 n2 c2 kt:Nat} {vt:Rat} (hL:SV w A (hvs L)) (hE:EachH HR w L V k) (hn:L.length=n) (t:QR w s A1 n1 c1 A2 n2 c2 vt kt) (hk:k≤400) (h1:1≤k) (hkt:kt≤10000) (ht1:1≤kt) (hnc:n≤c) (R:Bool) (hR:R=true ↔ GoodH V∧0≤vt∧gapQ V≤vt*vt) :
 Calls Tryz.prog 11 #[.slice A n c,.agg #[.bool s,.slice A1 n1 c1,.slice A2 n2 c2]] w fun e w'=>e=.returned (.bool R)∧Below w.heap.size w w':=by
 by_cases hT:0≤vt
 · by_cases hG:GoodH V
   · exact fis_ok hL hE hn t hk h1 hkt ht1 hnc hT hG R (hR.trans ⟨fun e=>e.2.2,fun e=>⟨hG,hT,e⟩⟩)
   · have:=fis_bad (c:=c) hL hE hn t hk h1 hkt ht1 hT hG
     rwa [show false=R by cases R with | false=>rfl | true=>exact absurd (hR.1 rfl).1 hG] at this
 · have:=fis_neg (c:=c) hL hE hn t hk h1 hkt ht1 (Rat.not_le.1 hT)
   rwa [show false=R by cases R with | false=>rfl | true=>exact absurd (hR.1 rfl).2.1 hT] at this
end
end Go.Proofs.YtlpogecpdfdggaaGreat
