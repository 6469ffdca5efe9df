/- SegAt: part 17. -/
import Derived.Test.YtmgklaklnaihpaaGreatKSegAt12
import Derived.Test.YtmgklaklnaihpaaGreatKSegAt16
set_option linter.unusedVariables false
set_option maxRecDepth 100000
set_option maxHeartbeats 16000000
variable {s_p t_p:Bool} {A_p B_p E_p F_p:Option Go.Addr} {n_p c_p m_p d_p i_p e_p j_p f_p:Nat}
variable {s_q t_q:Bool} {A_q B_q E_q F_q:Option Go.Addr} {n_q c_q m_q d_q i_q e_q j_q f_q:Nat}
namespace Go.Proofs.YtmgklaklnaihpaaGreat
open Go Go.RowKit
theorem run_conv8 {e:Operand→Value} {x:Operand} {d:Option Tmp} {y:Nat} {pos:String} {af:Array Edge} {w:World} {t:Nat} (ht:(t:Int)≤255) (h:e x=.int .u8 (t:Int)) :
    (execOp e { dst:=d,op:=Op.convert 5 2 x,type:=y,pos:=pos,after:=af,guard:=none }).run Tryz.prog w=.ok (.value (.int .i64 (t:Int))) w:=by
  go_simp
  exact IntWalk.i64_in _ (by omega)
theorem rc_gesso_rat_Of {e:Operand→Value} {x0 x1:Operand} {d:Option Tmp} {y:Nat} {pos:String} {af:Array Edge} {w:World} {u0 u1:Value} (h0:e x0=u0) (h1:e x1=u1) (hf:e (.func 23)=.func (.func 23) #[] #[]) :
    (execOp e { dst:=d,op:=Op.call { callee:=Callee.value (Operand.func 23),args:=#[x0,x1],argTypes:=#[2,2] },type:=y,pos:=pos,after:=af,guard:=none }).run Tryz.prog w=.ok (.enter 23 #[u0,u1]) w:=by
  go_simp
theorem rc_gesso_pt_Mix {e:Operand→Value} {x0 x1 x2:Operand} {d:Option Tmp} {y:Nat} {pos:String} {af:Array Edge} {w:World} {u0 u1 u2:Value} (h0:e x0=u0) (h1:e x1=u1) (h2:e x2=u2) (hf:e (.func 44)=.func (.func 44) #[] #[]) :
    (execOp e { dst:=d,op:=Op.call { callee:=Callee.value (Operand.func 44),args:=#[x0,x1,x2],argTypes:=#[56,56,26] },type:=y,pos:=pos,after:=af,guard:=none }).run Tryz.prog w=.ok (.enter 44 #[u0,u1,u2]) w:=by
  go_simp
def F_at7 (s_p:Bool) (t_p:Bool) (A_p:Option Addr) (B_p:Option Addr) (E_p:Option Addr) (F_p:Option Addr) (n_p:Nat) (c_p:Nat) (m_p:Nat) (d_p:Nat) (i_p:Nat) (e_p:Nat) (j_p:Nat) (f_p:Nat) (s_q:Bool) (t_q:Bool) (A_q:Option Addr) (B_q:Option Addr) (E_q:Option Addr) (F_q:Option Addr) (n_q:Nat) (c_q:Nat) (m_q:Nat) (d_q:Nat) (i_q:Nat) (e_q:Nat) (j_q:Nat) (f_q:Nat) (ax:Rat) (ay:Rat) (bx:Rat) (by_:Rat) (tv:Nat) (sl:Nat):Value→World→Prop :=
  match sl with
  | 18=>fun x _=>x=Value.agg #[.bool s_p,.slice A_p n_p c_p,.slice B_p m_p d_p,.bool t_p,.slice E_p i_p e_p,.slice F_p j_p f_p]
  | 19=>fun x _=>x=Value.agg #[.bool s_q,.slice A_q n_q c_q,.slice B_q m_q d_q,.bool t_q,.slice E_q i_q e_q,.slice F_q j_q f_q]
  | 20=>fun x _=>x=Value.int .u8 (tv:Int)
  | 21=>fun x _=>x=Value.int .i64 (tv:Int)
  | 22=>VQ ((Rat.divInt (tv:Int) 255)) (1)
  | 23=>VPG ((ax+(bx - ax)*(Rat.divInt (tv:Int) 255))) ((ay+(by_ - ay)*(Rat.divInt (tv:Int) 255))) (6+(6+6+1+1)+1)
  | _=>fun _ _=>True
def B0_at7 (ax:Rat) (ay:Rat) (bx:Rat) (by_:Rat) (tv:Nat):BoxOp :=
  ⟨6,7,7,56,#[.bool false,.slice none 0 0,.slice none 0 0,.bool false,.slice none 0 0,.slice none 0 0],fun cs w=>∃ s A n c B m d t E i e F j f,cs=#[.bool s,.slice A n c,.slice B m d,.bool t,.slice E i e,.slice F j f]∧PG w s A n c B m d t E i e F j f ((ax+(bx - ax)*(Rat.divInt (tv:Int) 255))) ((ay+(by_ - ay)*(Rat.divInt (tv:Int) 255))) (6+(6+6+1+1)+1)⟩
theorem at7_region {id:Nat} {ac:Act} {w:World} {Q:Exit→Act→World→Prop} {ax ay bx by_:Rat} {tv gp gq:Nat}
    (hsz:23 < ac.tmps.size) (e3:ac.eval (.tmp 3)=Value.pointer (some ⟨gp,0,none⟩)) (e4:ac.eval (.tmp 4)=Value.pointer (some ⟨gq,0,none⟩)) (e2:ac.eval (.tmp 2)=Value.int .u8 (tv:Int)) (XA:B6 w gp (.bool s_p) (.slice A_p n_p c_p) (.slice B_p m_p d_p) (.bool t_p) (.slice E_p i_p e_p) (.slice F_p j_p f_p)) (XB:B6 w gq (.bool s_q) (.slice A_q n_q c_q) (.slice B_q m_q d_q) (.bool t_q) (.slice E_q i_q e_q) (.slice F_q j_q f_q)) (p:PR w s_p A_p n_p c_p B_p m_p d_p t_p E_p i_p e_p F_p j_p f_p ax ay 6) (q:PR w s_q A_q n_q c_q B_q m_q d_q t_q E_q i_q e_q F_q j_q f_q bx by_ 6) (HT:(tv:Int)≤255)
    (hend:∀ (V:Nat→Value) (w':World) (g0:Nat) (s0:Bool) (A0:Option Addr) (n0:Nat) (c0:Nat) (B0:Option Addr) (m0:Nat) (d0:Nat) (t0:Bool) (E0:Option Addr) (i0:Nat) (e0:Nat) (F0:Option Addr) (j0:Nat) (f0:Nat),PG w' s0 A0 n0 c0 B0 m0 d0 t0 E0 i0 e0 F0 j0 f0 ((ax+(bx - ax)*(Rat.divInt (tv:Int) 255))) ((ay+(by_ - ay)*(Rat.divInt (tv:Int) 255))) (6+(6+6+1+1)+1)→B6 w' g0 (.bool s0) (.slice A0 n0 c0) (.slice B0 m0 d0) (.bool t0) (.slice E0 i0 e0) (.slice F0 j0 f0)→w.heap.size≤g0→V 7=.pointer (some ⟨g0,0,none⟩)→Below w.heap.size w w'→Q .normal (putAll ac [18,19,20,21,22,23,7] V) w') :
    (Code.region id #[{ dst:=some 18,op:=Op.load 56 (Operand.tmp 3),type:=56,pos:= "law.go:82",after:=#[],guard:=none },
      { dst:=some 19,op:=Op.load 56 (Operand.tmp 4),type:=56,pos:= "law.go:82",after:=#[],guard:=none },
      { dst:=some 20,op:=Op.move (Operand.tmp 2),type:=5,pos:= "law.go:82",after:=#[],guard:=none },
      { dst:=some 21,op:=Op.convert 5 2 (Operand.tmp 20),type:=2,pos:= "law.go:82",after:=#[{ on:=2,ground:=Ground.data }],guard:=none },
      { dst:=some 22,op:=Op.call { callee:=Callee.value (Operand.func 23),args:=#[Operand.tmp 21,Operand.const (Value.int IntKind.i64 255)],argTypes:=#[2,2] },type:=26,pos:= "law.go:82",after:=#[{ on:=3,ground:=Ground.data }],guard:=none },
      { dst:=some 23,op:=Op.call { callee:=Callee.value (Operand.func 44),args:=#[Operand.tmp 18,Operand.tmp 19,Operand.tmp 22],argTypes:=#[56,56,26] },type:=56,pos:= "law.go:82",after:=#[{ on:=0,ground:=Ground.data },{ on:=1,ground:=Ground.data },{ on:=4,ground:=Ground.data },{ on:=4,ground:=Ground.chain }],guard:=none },
      { dst:=some 7,op:=Op.alloc 56,type:=0,pos:= "law.go:82",after:=#[],guard:=none },
      { dst:=none,op:=Op.store 56 (Operand.tmp 7) (Operand.tmp 23),type:=0,pos:= "law.go:82",after:=#[{ on:=6,ground:=Ground.data },{ on:=5,ground:=Ground.data },{ on:=5,ground:=Ground.chain },{ on:=0,ground:=Ground.phase },{ on:=1,ground:=Ground.phase },{ on:=2,ground:=Ground.phase },{ on:=3,ground:=Ground.phase },{ on:=4,ground:=Ground.phase },{ on:=5,ground:=Ground.phase },{ on:=6,ground:=Ground.phase }],guard:=none }] true).wp Tryz.prog Q ac w:=by
  have hnd:([18,19,20,21,22,23,7]:List Nat).Nodup:=by decide
  have G:∀ (sv:Nat→Value) (t:Nat),t ∈ ([18,19,20,21,22,23,7]:List Nat)→t≤23→(putAll ac [18,19,20,21,22,23,7] sv).eval (.tmp t)=sv t:=fun sv t ht h=>eval_putAll_mem (t:=t) [18,19,20,21,22,23,7] ac hnd ht (Nat.lt_of_le_of_lt h hsz)
  have E3:∀ sv:Nat→Value,(putAll ac [18,19,20,21,22,23,7] sv).eval (.tmp 3)=Value.pointer (some ⟨gp,0,none⟩):=fun sv=>(eval_putAll_not (v:=sv) [18,19,20,21,22,23,7] ac (show 3 ∉ _ by decide)).trans e3
  have E4:∀ sv:Nat→Value,(putAll ac [18,19,20,21,22,23,7] sv).eval (.tmp 4)=Value.pointer (some ⟨gq,0,none⟩):=fun sv=>(eval_putAll_not (v:=sv) [18,19,20,21,22,23,7] ac (show 4 ∉ _ by decide)).trans e4
  have E2:∀ sv:Nat→Value,(putAll ac [18,19,20,21,22,23,7] sv).eval (.tmp 2)=Value.int .u8 (tv:Int):=fun sv=>(eval_putAll_not (v:=sv) [18,19,20,21,22,23,7] ac (show 2 ∉ _ by decide)).trans e2
  have NE:∀ t:Nat,(t ≠ 7)→∀ p ∈ [B0_at7 ax ay bx by_ tv],t ≠ p.tA:=by
    intro t ht p hp
    simp only [List.mem_cons,List.not_mem_nil,or_false] at hp
    rcases hp with rfl
    · exact ht
  refine wp_region_flows [18,19,20,21,22,23,7] [B0_at7 ax ay bx by_ tv] (F_at7 s_p t_p A_p B_p E_p F_p n_p c_p m_p d_p i_p e_p j_p f_p s_q t_q A_q B_q E_q F_q n_q c_q m_q d_q i_q e_q j_q f_q ax ay bx by_ tv) (by kernel_rfl) (by kernel_rfl) rfl hnd ?_ ?_ ?_ ?_ ?_ ?_ ?_ ?_
  · intro p hp
    simp only [List.mem_cons,List.not_mem_nil,or_false] at hp
    rcases hp with rfl
    · refine ⟨⟨{ dst:=some 7,op:=Op.alloc 56,type:=0,pos:= "law.go:82",after:=#[],guard:=none },rfl,rfl,rfl,fun e w'=>run_alloc6⟩,⟨{ dst:=none,op:=Op.store 56 (Operand.tmp 7) (Operand.tmp 23),type:=0,pos:= "law.go:82",after:=#[{ on:=6,ground:=Ground.data },{ on:=5,ground:=Ground.data },{ on:=5,ground:=Ground.chain },{ on:=0,ground:=Ground.phase },{ on:=1,ground:=Ground.phase },{ on:=2,ground:=Ground.phase },{ on:=3,ground:=Ground.phase },{ on:=4,ground:=Ground.phase },{ on:=5,ground:=Ground.phase },{ on:=6,ground:=Ground.phase }],guard:=none },rfl,rfl,rfl,{ on:=6,ground:=Ground.data },by simp,rfl,rfl⟩,free6 _ _ _ _ _ _ _ _ _ _ _ _ _ _,?_,?_⟩
      · rintro cs w1 w2 ⟨s_,A_,n_,c_,B_,m_,d_,t_,E_,i_,e_,F_,j_,f_,rfl,h⟩ hb;exact ⟨s_,A_,n_,c_,B_,m_,d_,t_,E_,i_,e_,F_,j_,f_,rfl,h.below hb⟩
      · rintro T cs w1 w2 g c0 ⟨s_,A_,n_,c_,B_,m_,d_,t_,E_,i_,e_,F_,j_,f_,rfl,h⟩ hB ho;exact ⟨s_,A_,n_,c_,B_,m_,d_,t_,E_,i_,e_,F_,j_,f_,rfl,h.box hB ho⟩
  · intro p hp q hq h
    simp only [List.mem_cons,List.not_mem_nil,or_false] at hp hq
    rcases hp with rfl <;> rcases hq with rfl
    · rfl
  · intro p hp q hq h
    simp only [List.mem_cons,List.not_mem_nil,or_false] at hp hq
    rcases hp with rfl <;> rcases hq with rfl
    · rfl
  · intro i o h1 h2
    match i,h1 with
    | 0,h1=>cases h1;cases h2
    | 1,h1=>cases h1;cases h2
    | 2,h1=>cases h1;cases h2
    | 3,h1=>cases h1;cases h2
    | 4,h1=>cases h1;cases h2
    | 5,h1=>cases h1;cases h2
    | 6,h1=>cases h1;cases h2
    | 7,h1=>exact ⟨B0_at7 ax ay bx by_ tv,List.Mem.head _,rfl⟩
    | i+8,h1=>cases h1
  · intro t
    unfold F_at7
    split <;> first | exact stays_eq _ | exact stays_q _ _ | exact stays_z _ _ | exact stays_r _ _ | exact stays_rq _ _ | exact stays_pg _ _ _ | exact stays_true
  · intro i o t sv w' ho hia hd J0 hf
    have p:=p.below J0;have q:=q.below J0;have XA:=XA.below J0;have XB:=XB.below J0
    match i,ho with
    | 0,ho =>
      obtain rfl:{ dst:=some 18,op:=Op.load 56 (Operand.tmp 3),type:=56,pos:= "law.go:82",after:=#[],guard:=none }=o:=Option.some.inj ho
      cases hd
      refine wpOp_plain' (o:={ dst:=some 18,op:=Op.load 56 (Operand.tmp 3),type:=56,pos:= "law.go:82",after:=#[],guard:=none }) rfl rfl ?_
      unfold Oper.wp
      rw [run_load6 (E3 sv) XA.c0 XA.c1 XA.c2 XA.c3 XA.c4 XA.c5,Oper.upon_value]
      exact ⟨_,rfl,Below.refl _ _,rfl⟩
    | 1,ho =>
      obtain rfl:{ dst:=some 19,op:=Op.load 56 (Operand.tmp 4),type:=56,pos:= "law.go:82",after:=#[],guard:=none }=o:=Option.some.inj ho
      cases hd
      refine wpOp_plain' (o:={ dst:=some 19,op:=Op.load 56 (Operand.tmp 4),type:=56,pos:= "law.go:82",after:=#[],guard:=none }) rfl rfl ?_
      unfold Oper.wp
      rw [run_load6 (E4 sv) XB.c0 XB.c1 XB.c2 XB.c3 XB.c4 XB.c5,Oper.upon_value]
      exact ⟨_,rfl,Below.refl _ _,rfl⟩
    | 2,ho =>
      obtain rfl:{ dst:=some 20,op:=Op.move (Operand.tmp 2),type:=5,pos:= "law.go:82",after:=#[],guard:=none }=o:=Option.some.inj ho
      cases hd
      refine wpOp_plain' (o:={ dst:=some 20,op:=Op.move (Operand.tmp 2),type:=5,pos:= "law.go:82",after:=#[],guard:=none }) rfl rfl ?_
      unfold Oper.wp
      rw [run_move (E2 sv),Oper.upon_value]
      exact ⟨_,rfl,Below.refl _ _,rfl⟩
    | 3,ho =>
      obtain rfl:{ dst:=some 21,op:=Op.convert 5 2 (Operand.tmp 20),type:=2,pos:= "law.go:82",after:=#[{ on:=2,ground:=Ground.data }],guard:=none }=o:=Option.some.inj ho
      cases hd
      have f20:sv 20=Value.int .u8 (tv:Int):=hf { on:=2,ground:=Ground.data } (by simp) rfl _ 20 rfl rfl (NE _ (by decide))
      refine wpOp_plain' (o:={ dst:=some 21,op:=Op.convert 5 2 (Operand.tmp 20),type:=2,pos:= "law.go:82",after:=#[{ on:=2,ground:=Ground.data }],guard:=none }) rfl rfl ?_
      unfold Oper.wp
      rw [run_conv8 HT ((G sv 20 (by decide) (by decide)).trans f20),Oper.upon_value]
      exact ⟨_,rfl,Below.refl _ _,rfl⟩
    | 4,ho =>
      obtain rfl:{ dst:=some 22,op:=Op.call { callee:=Callee.value (Operand.func 23),args:=#[Operand.tmp 21,Operand.const (Value.int IntKind.i64 255)],argTypes:=#[2,2] },type:=26,pos:= "law.go:82",after:=#[{ on:=3,ground:=Ground.data }],guard:=none }=o:=Option.some.inj ho
      cases hd
      have f21:sv 21=Value.int .i64 (tv:Int):=hf { on:=3,ground:=Ground.data } (by simp) rfl _ 21 rfl rfl (NE _ (by decide))
      refine wpOp_plain' (o:={ dst:=some 22,op:=Op.call { callee:=Callee.value (Operand.func 23),args:=#[Operand.tmp 21,Operand.const (Value.int IntKind.i64 255)],argTypes:=#[2,2] },type:=26,pos:= "law.go:82",after:=#[{ on:=3,ground:=Ground.data }],guard:=none }) rfl rfl ?_
      unfold Oper.wp
      rw [rc_gesso_rat_Of ((G sv 21 (by decide) (by decide)).trans f21) (show (putAll ac [18,19,20,21,22,23,7] sv).eval (Operand.const (Value.int IntKind.i64 255))=(Value.int IntKind.i64 255) from rfl) rfl,Oper.upon_enter]
      refine (rof_q (tv:Int) 255 (by omega) (by omega) (by decide) (by decide) (by decide) _).mono ?_
      rintro e w1 ⟨s_,A_,n_,c_,B_,m_,d_,rfl,hq,hh⟩
      exact ⟨_,rfl,hh,s_,A_,n_,c_,B_,m_,d_,rfl,hq⟩
    | 5,ho =>
      obtain rfl:{ dst:=some 23,op:=Op.call { callee:=Callee.value (Operand.func 44),args:=#[Operand.tmp 18,Operand.tmp 19,Operand.tmp 22],argTypes:=#[56,56,26] },type:=56,pos:= "law.go:82",after:=#[{ on:=0,ground:=Ground.data },{ on:=1,ground:=Ground.data },{ on:=4,ground:=Ground.data },{ on:=4,ground:=Ground.chain }],guard:=none }=o:=Option.some.inj ho
      cases hd
      have f18:sv 18=Value.agg #[.bool s_p,.slice A_p n_p c_p,.slice B_p m_p d_p,.bool t_p,.slice E_p i_p e_p,.slice F_p j_p f_p]:=hf { on:=0,ground:=Ground.data } (by simp) rfl _ 18 rfl rfl (NE _ (by decide))
      have f19:sv 19=Value.agg #[.bool s_q,.slice A_q n_q c_q,.slice B_q m_q d_q,.bool t_q,.slice E_q i_q e_q,.slice F_q j_q f_q]:=hf { on:=1,ground:=Ground.data } (by simp) rfl _ 19 rfl rfl (NE _ (by decide))
      have h22:VQ ((Rat.divInt (tv:Int) 255)) (1) (sv 22) w':=hf { on:=4,ground:=Ground.data } (by simp) rfl _ 22 rfl rfl (NE _ (by decide))
      obtain ⟨s22_,A22_,n22_,c22_,B22_,m22_,d22_,f22,q22⟩:=h22
      refine wpOp_plain' (o:={ dst:=some 23,op:=Op.call { callee:=Callee.value (Operand.func 44),args:=#[Operand.tmp 18,Operand.tmp 19,Operand.tmp 22],argTypes:=#[56,56,26] },type:=56,pos:= "law.go:82",after:=#[{ on:=0,ground:=Ground.data },{ on:=1,ground:=Ground.data },{ on:=4,ground:=Ground.data },{ on:=4,ground:=Ground.chain }],guard:=none }) rfl rfl ?_
      unfold Oper.wp
      rw [rc_gesso_pt_Mix ((G sv 18 (by decide) (by decide)).trans f18) ((G sv 19 (by decide) (by decide)).trans f19) ((G sv 22 (by decide) (by decide)).trans f22) rfl,Oper.upon_enter]
      refine (pmix_p p q q22.qr (by decide) (by decide) (by decide) (by decide) (by decide) (by decide)).mono ?_
      rintro e w1 ⟨s_,A_,n_,c_,B_,m_,d_,t_,E_,i_,e_,F_,j_,f_,rfl,hq,hh⟩
      exact ⟨_,rfl,hh,s_,A_,n_,c_,B_,m_,d_,t_,E_,i_,e_,F_,j_,f_,rfl,hq⟩
    | 6,ho=>cases ho;cases hd;exact absurd rfl (hia (B0_at7 ax ay bx by_ tv) (List.Mem.head _))
    | 7,ho=>cases ho;cases hd
    | i+8,ho=>cases ho
  · intro p hp os sv w' g hos J0 p1 p3 hf
    simp only [List.mem_cons,List.not_mem_nil,or_false] at hp
    rcases hp with rfl
    · obtain rfl:{ dst:=none,op:=Op.store 56 (Operand.tmp 7) (Operand.tmp 23),type:=0,pos:= "law.go:82",after:=#[{ on:=6,ground:=Ground.data },{ on:=5,ground:=Ground.data },{ on:=5,ground:=Ground.chain },{ on:=0,ground:=Ground.phase },{ on:=1,ground:=Ground.phase },{ on:=2,ground:=Ground.phase },{ on:=3,ground:=Ground.phase },{ on:=4,ground:=Ground.phase },{ on:=5,ground:=Ground.phase },{ on:=6,ground:=Ground.phase }],guard:=none }=os:=Option.some.inj hos
      have h1:VPG ((ax+(bx - ax)*(Rat.divInt (tv:Int) 255))) ((ay+(by_ - ay)*(Rat.divInt (tv:Int) 255))) (6+(6+6+1+1)+1) (sv 23) w':=hf { on:=5,ground:=Ground.data } (by simp) rfl _ 23 rfl rfl (NE _ (by decide))
      rw [← G sv 23 (by decide) (by decide)] at h1
      refine store_pg (x:=(ax+(bx - ax)*(Rat.divInt (tv:Int) 255))) (y:=(ay+(by_ - ay)*(Rat.divInt (tv:Int) 255))) (k:=6+(6+6+1+1)+1) (ac:=putAll ac [18,19,20,21,22,23,7] sv) (z:=Operand.tmp 23) ?_ ?_ ?_
      · exact (G sv 7 (by decide) (by decide)).trans p1
      · exact h1
      · exact p3
  · intro sv w' J0 hF hB hap
    obtain ⟨g0,cs0,p0,r0,b0,⟨s0,A0,n0,c0,B0,m0,d0,t0,E0,i0,e0,F0,j0,f0,rfl,h0⟩⟩:=hB (B0_at7 ax ay bx by_ tv) (List.Mem.head _)
    have p0':sv 7=.pointer (some ⟨g0,0,none⟩):=p0
    exact hend sv w' g0 _ _ _ _ _ _ _ _ _ _ _ _ _ _ h0 b0.at_ r0 p0'  J0
theorem at_share {a b T:Rat} (h:a ≠ b) (h0:0≤T) (h1:T≤1):shareOK (a+(b - a)*T - a) (b - a):=by
  have hk:b - a ≠ 0:=fun e=>h (by grind)
  have e:(a+(b - a)*T - a) / (b - a)=T:=by
    refine eq_of_mul hk ?_
    rw [div_mul_self hk];grind
  exact ⟨hk,by rw [e];exact h0,by rw [e];exact h1⟩
theorem at_value {a b c d T:Rat} (h:a ≠ b):c+(a+(b - a)*T - a) / (b - a)*(d - c)=c+(d - c)*T:=by
  have hk:b - a ≠ 0:=fun e=>h (by grind)
  have e:(a+(b - a)*T - a) / (b - a)=T:=by
    refine eq_of_mul hk ?_
    rw [div_mul_self hk];grind
  rw [e];grind
theorem at_none {a b T:Rat} (h:a=b):¬ shareOK (a+(b - a)*T - a) (b - a):=fun q=>q.1 (by rw [h];grind)
theorem at_l {w:World} (t:Nat) (h:¬ (((n_p≤6∧m_p≤6)∧i_p≤6∧j_p≤6)∧((n_q≤6∧m_q≤6)∧i_q≤6∧j_q≤6))) :
    Calls Tryz.prog 8 #[.agg #[.bool s_p,.slice A_p n_p c_p,.slice B_p m_p d_p,.bool t_p,.slice E_p i_p e_p,.slice F_p j_p f_p],.agg #[.bool s_q,.slice A_q n_q c_q,.slice B_q m_q d_q,.bool t_q,.slice E_q i_q e_q,.slice F_q j_q f_q],.int .u8 (t:Int)] w fun e w'=>e=.returned (.bool true)∧Below w.heap.size w w':=by
  have HL:Hid (decide (((n_p≤6∧m_p≤6)∧i_p≤6∧j_p≤6)∧((n_q≤6∧m_q≤6)∧i_q≤6∧j_q≤6))=false):=decide_eq_false h
  clear h
  go_enter Tryz.func8,Tryz.ntmps8
  go_wp2_with fail
  generalize hW:(((w.alloc (Obj.cells #[Value.bool s_p,Value.slice A_p n_p c_p,Value.slice B_p m_p d_p,Value.bool t_p,Value.slice E_p i_p e_p,Value.slice F_p j_p f_p] 56)).alloc (Obj.cells #[Value.bool s_q,Value.slice A_q n_q c_q,Value.slice B_q m_q d_q,Value.bool t_q,Value.slice E_q i_q e_q,Value.slice F_q j_q f_q] 56)).alloc (Obj.cells #[Value.bool s_p,Value.slice A_p n_p c_p,Value.slice B_p m_p d_p,Value.bool t_p,Value.slice E_p i_p e_p,Value.slice F_p j_p f_p,Value.bool s_q,Value.slice A_q n_q c_q,Value.slice B_q m_q d_q,Value.bool t_q,Value.slice E_q i_q e_q,Value.slice F_q j_q f_q] 56))=W
  have hb:Below w.heap.size w W:=by subst hW;exact ((((Below.refl _ _).alloc (Nat.le_refl _) _).alloc (by simp) _).alloc (by simp;omega) _)
  have XA:B6 W (w.heap.size) (Value.bool s_p) (Value.slice A_p n_p c_p) (Value.slice B_p m_p d_p) (Value.bool t_p) (Value.slice E_p i_p e_p) (Value.slice F_p j_p f_p):=by subst hW;exact ((B6.new' _ _ _ _ _ _ _ _ rfl).alloc _).alloc _
  have XB:B6 W (w.heap.size+1) (Value.bool s_q) (Value.slice A_q n_q c_q) (Value.slice B_q m_q d_q) (Value.bool t_q) (Value.slice E_q i_q e_q) (Value.slice F_q j_q f_q):=by subst hW;exact (B6.new' _ _ _ _ _ _ _ _ (by simp)).alloc _
  have XL:BL2 W (w.heap.size+1+1) (Value.bool s_p) (Value.slice A_p n_p c_p) (Value.slice B_p m_p d_p) (Value.bool t_p) (Value.slice E_p i_p e_p) (Value.slice F_p j_p f_p) (Value.bool s_q) (Value.slice A_q n_q c_q) (Value.slice B_q m_q d_q) (Value.bool t_q) (Value.slice E_q i_q e_q) (Value.slice F_q j_q f_q):=by subst hW;exact BL2.new' _ _ _ _ _ _ _ _ _ _ _ _ _ _ (by simp)
  have hzW:W.heap.size=w.heap.size+3:=by subst hW;simp
  clear hW
  go_wp2_with (first
      | (go_at_call 29;(with_reducible refine (fair2 XL false HL.out).mono ?_);rintro e w_z ⟨rfl,hh⟩
         replace hb:=bend hb hh)
      | (go_at_call 30;(with_reducible refine (segwakes_any _).mono ?_);rintro e w_z ⟨rfl,hh⟩
         replace hb:=bend hb hh))
  go_ret;exact ⟨rfl,hb⟩
theorem at_yy {w:World} (t:Nat) {ax ay bx by_:Rat} (p:PR w s_p A_p n_p c_p B_p m_p d_p t_p E_p i_p e_p F_p j_p f_p ax ay 6) (q:PR w s_q A_q n_q c_q B_q m_q d_q t_q E_q i_q e_q F_q j_q f_q bx by_ 6) (h:(((n_p≤6∧m_p≤6)∧i_p≤6∧j_p≤6)∧((n_q≤6∧m_q≤6)∧i_q≤6∧j_q≤6))) (ht:t≤255) (hy:ay ≠ by_) (hx:ax ≠ bx) :
    Calls Tryz.prog 8 #[.agg #[.bool s_p,.slice A_p n_p c_p,.slice B_p m_p d_p,.bool t_p,.slice E_p i_p e_p,.slice F_p j_p f_p],.agg #[.bool s_q,.slice A_q n_q c_q,.slice B_q m_q d_q,.bool t_q,.slice E_q i_q e_q,.slice F_q j_q f_q],.int .u8 (t:Int)] w fun e w'=>e=.returned (.bool true)∧Below w.heap.size w w':=by
  have HL:Hid (decide (((n_p≤6∧m_p≤6)∧i_p≤6∧j_p≤6)∧((n_q≤6∧m_q≤6)∧i_q≤6∧j_q≤6))=true):=decide_eq_true h
  have hti:(t:Int)≤255:=by omega
  have hr:=tq_range ht
  have HO:Hid (onS (ax+(bx - ax)*(Rat.divInt (t:Int) 255)) (ay+(by_ - ay)*(Rat.divInt (t:Int) 255)) ax ay bx by_):=⟨_,hr.1,hr.2,rfl,rfl⟩
  obtain ⟨KY,hKY,hy0⟩:∃ K,cmpQ ay by_=K∧((K:Int) == 0)=false:=⟨_,rfl,by simpa using fun e=>hy (cmpQ_nul.1 e)⟩
  obtain ⟨KX,hKX,hx0⟩:∃ K,cmpQ ax bx=K∧((K:Int) == 0)=false:=⟨_,rfl,by simpa using fun e=>hx (cmpQ_nul.1 e)⟩
  have HY:=Lib.hid hKY;have HX:=Lib.hid hKX
  have SY:Hid (shareOK ((ay+(by_ - ay)*(Rat.divInt (t:Int) 255)) - ay) (by_ - ay)):=at_share hy hr.1 hr.2
  have CY:Hid (cmpQ (ax+((ay+(by_ - ay)*(Rat.divInt (t:Int) 255)) - ay) / (by_ - ay)*(bx - ax)) (ax+(bx - ax)*(Rat.divInt (t:Int) 255))=0):=cmpQ_nul.2 (at_value hy)
  have SX:Hid (shareOK ((ax+(bx - ax)*(Rat.divInt (t:Int) 255)) - ax) (bx - ax)):=at_share hx hr.1 hr.2
  have CX:Hid (cmpQ (ay+((ax+(bx - ax)*(Rat.divInt (t:Int) 255)) - ax) / (bx - ax)*(by_ - ay)) (ay+(by_ - ay)*(Rat.divInt (t:Int) 255))=0):=cmpQ_nul.2 (at_value hx)
  clear h hr ht hKY hKX hx hy
  go_enter Tryz.func8,Tryz.ntmps8
  go_wp2_with fail
  generalize hW:(((w.alloc (Obj.cells #[Value.bool s_p,Value.slice A_p n_p c_p,Value.slice B_p m_p d_p,Value.bool t_p,Value.slice E_p i_p e_p,Value.slice F_p j_p f_p] 56)).alloc (Obj.cells #[Value.bool s_q,Value.slice A_q n_q c_q,Value.slice B_q m_q d_q,Value.bool t_q,Value.slice E_q i_q e_q,Value.slice F_q j_q f_q] 56)).alloc (Obj.cells #[Value.bool s_p,Value.slice A_p n_p c_p,Value.slice B_p m_p d_p,Value.bool t_p,Value.slice E_p i_p e_p,Value.slice F_p j_p f_p,Value.bool s_q,Value.slice A_q n_q c_q,Value.slice B_q m_q d_q,Value.bool t_q,Value.slice E_q i_q e_q,Value.slice F_q j_q f_q] 56))=W
  have hb:Below w.heap.size w W:=by subst hW;exact ((((Below.refl _ _).alloc (Nat.le_refl _) _).alloc (by simp) _).alloc (by simp;omega) _)
  have XA:B6 W (w.heap.size) (Value.bool s_p) (Value.slice A_p n_p c_p) (Value.slice B_p m_p d_p) (Value.bool t_p) (Value.slice E_p i_p e_p) (Value.slice F_p j_p f_p):=by subst hW;exact ((B6.new' _ _ _ _ _ _ _ _ rfl).alloc _).alloc _
  have XB:B6 W (w.heap.size+1) (Value.bool s_q) (Value.slice A_q n_q c_q) (Value.slice B_q m_q d_q) (Value.bool t_q) (Value.slice E_q i_q e_q) (Value.slice F_q j_q f_q):=by subst hW;exact (B6.new' _ _ _ _ _ _ _ _ (by simp)).alloc _
  have XL:BL2 W (w.heap.size+1+1) (Value.bool s_p) (Value.slice A_p n_p c_p) (Value.slice B_p m_p d_p) (Value.bool t_p) (Value.slice E_p i_p e_p) (Value.slice F_p j_p f_p) (Value.bool s_q) (Value.slice A_q n_q c_q) (Value.slice B_q m_q d_q) (Value.bool t_q) (Value.slice E_q i_q e_q) (Value.slice F_q j_q f_q):=by subst hW;exact BL2.new' _ _ _ _ _ _ _ _ _ _ _ _ _ _ (by simp)
  have hzW:W.heap.size=w.heap.size+3:=by subst hW;simp
  clear hW;replace p:=p.below hb;replace q:=q.below hb
  go_upto_region 3 with (first
      | (go_at_call 29;(with_reducible refine (fair2 XL true HL.out).mono ?_);rintro e w_z ⟨rfl,hh⟩
         clear XL;(try replace p:=p.below hh);(try replace q:=q.below hh);(try replace XA:=XA.below hh);(try replace XB:=XB.below hh);replace hb:=bend hb hh))
  refine at7_region (by simp) rfl rfl rfl XA XB p q hti ?_
  intro V w_o g_o s_o A_o n_o c_o B_o m_o d_o t_o E_o i_o e_o F_o j_o f_o o XO hg_o hvo hh
  simp only [putAll,Act.put,List.setIfInBounds_toArray,List.set_cons_zero,List.set_cons_succ,hvo]
  clear hvo;replace p:=p.below hh;replace q:=q.below hh;replace XA:=XA.below hh;replace XB:=XB.below hh;replace hb:=bend hb hh;obtain ⟨xa0,xa1,xa2,xa3,xa4,xa5⟩:=XA.all;obtain ⟨xb0,xb1,xb2,xb3,xb4,xb5⟩:=XB.all;obtain ⟨xo0,xo1,xo2,xo3,xo4,xo5⟩:=XO.all
  go_upto_region 5 with (first
      | (go_at_call 39;(with_reducible refine (level_yes (k:=21) (p.more (by decide)) (q.more (by decide)) o.pr.qy (by decide) (by decide) SY.out).mono ?_);rintro e w_r ⟨s_r,A_r,n_r,c_r,B_r,m_r,d_r,rfl,r,hh⟩
         (try replace p:=p.below hh);(try replace q:=q.below hh);(try replace XA:=XA.below hh);(try replace XB:=XB.below hh);(try replace o:=o.below hh);(try replace XO:=XO.below hh);replace hb:=bend hb hh))
  generalize hW:(w_r.alloc (Obj.cells #[Value.bool s_r,Value.slice A_r n_r c_r,Value.slice B_r m_r d_r] 26))=W2
  have hh:Below w_r.heap.size w_r W2:=by subst hW;exact ((Below.refl _ _).alloc (Nat.le_refl _) _)
  have XR:B3 W2 (w_r.heap.size) (Value.bool s_r) (Value.slice A_r n_r c_r) (Value.slice B_r m_r d_r):=by subst hW;exact B3.new' _ _ _ _ _ rfl
  have hzW2:W2.heap.size=w_r.heap.size+1:=by subst hW;simp
  clear hW;(try replace p:=p.below hh);(try replace q:=q.below hh);(try replace XA:=XA.below hh);(try replace XB:=XB.below hh);(try replace o:=o.below hh);(try replace XO:=XO.below hh);(try replace r:=r.below hh);replace hb:=bend hb hh;obtain ⟨xa0,xa1,xa2,xa3,xa4,xa5⟩:=XA.all;obtain ⟨xb0,xb1,xb2,xb3,xb4,xb5⟩:=XB.all;obtain ⟨xo0,xo1,xo2,xo3,xo4,xo5⟩:=XO.all
  go_upto_region 6 with (first
      | (go_at_call 40;(with_reducible refine (upright_yes (k:=21) (p.more (by decide)) (q.more (by decide)) o.pr.qx (by decide) (by decide) SX.out).mono ?_);rintro e w_v ⟨s_v,A_v,n_v,c_v,B_v,m_v,d_v,rfl,v,hh⟩
         (try replace p:=p.below hh);(try replace q:=q.below hh);(try replace XA:=XA.below hh);(try replace XB:=XB.below hh);(try replace o:=o.below hh);(try replace XO:=XO.below hh);(try replace XR:=XR.below hh);(try replace r:=r.below hh);replace hb:=bend hb hh))
  generalize hW:(w_v.alloc (Obj.cells #[Value.bool s_v,Value.slice A_v n_v c_v,Value.slice B_v m_v d_v] 26))=W3
  have hh:Below w_v.heap.size w_v W3:=by subst hW;exact ((Below.refl _ _).alloc (Nat.le_refl _) _)
  have XV:B3 W3 (w_v.heap.size) (Value.bool s_v) (Value.slice A_v n_v c_v) (Value.slice B_v m_v d_v):=by subst hW;exact B3.new' _ _ _ _ _ rfl
  have hzW3:W3.heap.size=w_v.heap.size+1:=by subst hW;simp
  clear hW;(try replace p:=p.below hh);(try replace q:=q.below hh);(try replace XA:=XA.below hh);(try replace XB:=XB.below hh);(try replace o:=o.below hh);(try replace XO:=XO.below hh);(try replace XR:=XR.below hh);(try replace r:=r.below hh);(try replace v:=v.below hh);replace hb:=bend hb hh;obtain ⟨xa0,xa1,xa2,xa3,xa4,xa5⟩:=XA.all;obtain ⟨xb0,xb1,xb2,xb3,xb4,xb5⟩:=XB.all;obtain ⟨xo0,xo1,xo2,xo3,xo4,xo5⟩:=XO.all;obtain ⟨xr0,xr1,xr2⟩:=XR.all;obtain ⟨xv0,xv1,xv2⟩:=XV.all
  go_wp2_with (first
      | (go_at_call 45;(with_reducible refine (rcmp_q r.qr o.pr.qx (by decide) (by decide) (.inl (by decide)) (by decide) (by decide)).mono ?_);rintro e w_z ⟨rfl,hh⟩
         rw [CY.out];(try replace p:=p.below hh);(try replace q:=q.below hh);(try replace XA:=XA.below hh);(try replace XB:=XB.below hh);(try replace o:=o.below hh);(try replace XO:=XO.below hh);(try replace XR:=XR.below hh);(try replace r:=r.below hh);(try replace XV:=XV.below hh);(try replace v:=v.below hh);replace hb:=bend hb hh;obtain ⟨xa0,xa1,xa2,xa3,xa4,xa5⟩:=XA.all;obtain ⟨xb0,xb1,xb2,xb3,xb4,xb5⟩:=XB.all;obtain ⟨xo0,xo1,xo2,xo3,xo4,xo5⟩:=XO.all;obtain ⟨xr0,xr1,xr2⟩:=XR.all;obtain ⟨xv0,xv1,xv2⟩:=XV.all)
      | (go_at_call 45;(with_reducible refine (rcmp_q v.qr o.pr.qy (by decide) (by decide) (.inl (by decide)) (by decide) (by decide)).mono ?_);rintro e w_z ⟨rfl,hh⟩
         rw [CX.out];(try replace p:=p.below hh);(try replace q:=q.below hh);(try replace XA:=XA.below hh);(try replace XB:=XB.below hh);(try replace o:=o.below hh);(try replace XO:=XO.below hh);(try replace XR:=XR.below hh);(try replace r:=r.below hh);(try replace XV:=XV.below hh);(try replace v:=v.below hh);replace hb:=bend hb hh;obtain ⟨xa0,xa1,xa2,xa3,xa4,xa5⟩:=XA.all;obtain ⟨xb0,xb1,xb2,xb3,xb4,xb5⟩:=XB.all;obtain ⟨xo0,xo1,xo2,xo3,xo4,xo5⟩:=XO.all;obtain ⟨xr0,xr1,xr2⟩:=XR.all;obtain ⟨xv0,xv1,xv2⟩:=XV.all)
      | (go_at_call 45;(with_reducible refine (rcmp_q p.qy q.qy (by decide) (by decide) (.inl (by decide)) (by decide) (by decide)).mono ?_);rintro e w_z ⟨rfl,hh⟩
         rw [HY.out];(try replace p:=p.below hh);(try replace q:=q.below hh);(try replace XA:=XA.below hh);(try replace XB:=XB.below hh);(try replace o:=o.below hh);(try replace XO:=XO.below hh);(try replace XR:=XR.below hh);(try replace r:=r.below hh);(try replace XV:=XV.below hh);(try replace v:=v.below hh);replace hb:=bend hb hh;obtain ⟨xa0,xa1,xa2,xa3,xa4,xa5⟩:=XA.all;obtain ⟨xb0,xb1,xb2,xb3,xb4,xb5⟩:=XB.all;obtain ⟨xo0,xo1,xo2,xo3,xo4,xo5⟩:=XO.all;obtain ⟨xr0,xr1,xr2⟩:=XR.all;obtain ⟨xv0,xv1,xv2⟩:=XV.all)
      | (go_at_call 45;(with_reducible refine (rcmp_q p.qx q.qx (by decide) (by decide) (.inl (by decide)) (by decide) (by decide)).mono ?_);rintro e w_z ⟨rfl,hh⟩
         rw [HX.out];(try replace p:=p.below hh);(try replace q:=q.below hh);(try replace XA:=XA.below hh);(try replace XB:=XB.below hh);(try replace o:=o.below hh);(try replace XO:=XO.below hh);(try replace XR:=XR.below hh);(try replace r:=r.below hh);(try replace XV:=XV.below hh);(try replace v:=v.below hh);replace hb:=bend hb hh;obtain ⟨xa0,xa1,xa2,xa3,xa4,xa5⟩:=XA.all;obtain ⟨xb0,xb1,xb2,xb3,xb4,xb5⟩:=XB.all;obtain ⟨xo0,xo1,xo2,xo3,xo4,xo5⟩:=XO.all;obtain ⟨xr0,xr1,xr2⟩:=XR.all;obtain ⟨xv0,xv1,xv2⟩:=XV.all)
      | (go_at_call 36;(with_reducible refine (onw_yes o.pr p q (by decide) (by decide) (by decide) HO.out).mono ?_);rintro e w_z ⟨rfl,hh⟩
         (try replace p:=p.below hh);(try replace q:=q.below hh);(try replace XA:=XA.below hh);(try replace XB:=XB.below hh);(try replace o:=o.below hh);(try replace XO:=XO.below hh);(try replace XR:=XR.below hh);(try replace r:=r.below hh);(try replace XV:=XV.below hh);(try replace v:=v.below hh);replace hb:=bend hb hh;obtain ⟨xa0,xa1,xa2,xa3,xa4,xa5⟩:=XA.all;obtain ⟨xb0,xb1,xb2,xb3,xb4,xb5⟩:=XB.all;obtain ⟨xo0,xo1,xo2,xo3,xo4,xo5⟩:=XO.all;obtain ⟨xr0,xr1,xr2⟩:=XR.all;obtain ⟨xv0,xv1,xv2⟩:=XV.all)
      | (go_at_call 30;(with_reducible refine (segwakes_any _).mono ?_);rintro e w_z ⟨rfl,hh⟩
         (try replace p:=p.below hh);(try replace q:=q.below hh);(try replace XA:=XA.below hh);(try replace XB:=XB.below hh);(try replace o:=o.below hh);(try replace XO:=XO.below hh);(try replace XR:=XR.below hh);(try replace r:=r.below hh);(try replace XV:=XV.below hh);(try replace v:=v.below hh);replace hb:=bend hb hh;obtain ⟨xa0,xa1,xa2,xa3,xa4,xa5⟩:=XA.all;obtain ⟨xb0,xb1,xb2,xb3,xb4,xb5⟩:=XB.all;obtain ⟨xo0,xo1,xo2,xo3,xo4,xo5⟩:=XO.all;obtain ⟨xr0,xr1,xr2⟩:=XR.all;obtain ⟨xv0,xv1,xv2⟩:=XV.all))
  go_ret;exact ⟨rfl,hb⟩
theorem at_yn {w:World} (t:Nat) {ax ay bx by_:Rat} (p:PR w s_p A_p n_p c_p B_p m_p d_p t_p E_p i_p e_p F_p j_p f_p ax ay 6) (q:PR w s_q A_q n_q c_q B_q m_q d_q t_q E_q i_q e_q F_q j_q f_q bx by_ 6) (h:(((n_p≤6∧m_p≤6)∧i_p≤6∧j_p≤6)∧((n_q≤6∧m_q≤6)∧i_q≤6∧j_q≤6))) (ht:t≤255) (hy:ay ≠ by_) (hx:ax=bx) :
    Calls Tryz.prog 8 #[.agg #[.bool s_p,.slice A_p n_p c_p,.slice B_p m_p d_p,.bool t_p,.slice E_p i_p e_p,.slice F_p j_p f_p],.agg #[.bool s_q,.slice A_q n_q c_q,.slice B_q m_q d_q,.bool t_q,.slice E_q i_q e_q,.slice F_q j_q f_q],.int .u8 (t:Int)] w fun e w'=>e=.returned (.bool true)∧Below w.heap.size w w':=by
  have HL:Hid (decide (((n_p≤6∧m_p≤6)∧i_p≤6∧j_p≤6)∧((n_q≤6∧m_q≤6)∧i_q≤6∧j_q≤6))=true):=decide_eq_true h
  have hti:(t:Int)≤255:=by omega
  have hr:=tq_range ht
  have HO:Hid (onS (ax+(bx - ax)*(Rat.divInt (t:Int) 255)) (ay+(by_ - ay)*(Rat.divInt (t:Int) 255)) ax ay bx by_):=⟨_,hr.1,hr.2,rfl,rfl⟩
  obtain ⟨KY,hKY,hy0⟩:∃ K,cmpQ ay by_=K∧((K:Int) == 0)=false:=⟨_,rfl,by simpa using fun e=>hy (cmpQ_nul.1 e)⟩
  obtain ⟨KX,hKX,hx0⟩:∃ K,cmpQ ax bx=K∧((K:Int) == 0)=true:=⟨_,rfl,by rw [cmpQ_nul.2 hx];rfl⟩
  have HY:=Lib.hid hKY;have HX:=Lib.hid hKX
  have SY:Hid (shareOK ((ay+(by_ - ay)*(Rat.divInt (t:Int) 255)) - ay) (by_ - ay)):=at_share hy hr.1 hr.2
  have CY:Hid (cmpQ (ax+((ay+(by_ - ay)*(Rat.divInt (t:Int) 255)) - ay) / (by_ - ay)*(bx - ax)) (ax+(bx - ax)*(Rat.divInt (t:Int) 255))=0):=cmpQ_nul.2 (at_value hy)
  have SX:Hid (¬ shareOK ((ax+(bx - ax)*(Rat.divInt (t:Int) 255)) - ax) (bx - ax)):=at_none hx
  clear h hr ht hKY hKX hx hy
  go_enter Tryz.func8,Tryz.ntmps8
  go_wp2_with fail
  generalize hW:(((w.alloc (Obj.cells #[Value.bool s_p,Value.slice A_p n_p c_p,Value.slice B_p m_p d_p,Value.bool t_p,Value.slice E_p i_p e_p,Value.slice F_p j_p f_p] 56)).alloc (Obj.cells #[Value.bool s_q,Value.slice A_q n_q c_q,Value.slice B_q m_q d_q,Value.bool t_q,Value.slice E_q i_q e_q,Value.slice F_q j_q f_q] 56)).alloc (Obj.cells #[Value.bool s_p,Value.slice A_p n_p c_p,Value.slice B_p m_p d_p,Value.bool t_p,Value.slice E_p i_p e_p,Value.slice F_p j_p f_p,Value.bool s_q,Value.slice A_q n_q c_q,Value.slice B_q m_q d_q,Value.bool t_q,Value.slice E_q i_q e_q,Value.slice F_q j_q f_q] 56))=W
  have hb:Below w.heap.size w W:=by subst hW;exact ((((Below.refl _ _).alloc (Nat.le_refl _) _).alloc (by simp) _).alloc (by simp;omega) _)
  have XA:B6 W (w.heap.size) (Value.bool s_p) (Value.slice A_p n_p c_p) (Value.slice B_p m_p d_p) (Value.bool t_p) (Value.slice E_p i_p e_p) (Value.slice F_p j_p f_p):=by subst hW;exact ((B6.new' _ _ _ _ _ _ _ _ rfl).alloc _).alloc _
  have XB:B6 W (w.heap.size+1) (Value.bool s_q) (Value.slice A_q n_q c_q) (Value.slice B_q m_q d_q) (Value.bool t_q) (Value.slice E_q i_q e_q) (Value.slice F_q j_q f_q):=by subst hW;exact (B6.new' _ _ _ _ _ _ _ _ (by simp)).alloc _
  have XL:BL2 W (w.heap.size+1+1) (Value.bool s_p) (Value.slice A_p n_p c_p) (Value.slice B_p m_p d_p) (Value.bool t_p) (Value.slice E_p i_p e_p) (Value.slice F_p j_p f_p) (Value.bool s_q) (Value.slice A_q n_q c_q) (Value.slice B_q m_q d_q) (Value.bool t_q) (Value.slice E_q i_q e_q) (Value.slice F_q j_q f_q):=by subst hW;exact BL2.new' _ _ _ _ _ _ _ _ _ _ _ _ _ _ (by simp)
  have hzW:W.heap.size=w.heap.size+3:=by subst hW;simp
  clear hW;replace p:=p.below hb;replace q:=q.below hb
  go_upto_region 3 with (first
      | (go_at_call 29;(with_reducible refine (fair2 XL true HL.out).mono ?_);rintro e w_z ⟨rfl,hh⟩
         clear XL;(try replace p:=p.below hh);(try replace q:=q.below hh);(try replace XA:=XA.below hh);(try replace XB:=XB.below hh);replace hb:=bend hb hh))
  refine at7_region (by simp) rfl rfl rfl XA XB p q hti ?_
  intro V w_o g_o s_o A_o n_o c_o B_o m_o d_o t_o E_o i_o e_o F_o j_o f_o o XO hg_o hvo hh
  simp only [putAll,Act.put,List.setIfInBounds_toArray,List.set_cons_zero,List.set_cons_succ,hvo]
  clear hvo;replace p:=p.below hh;replace q:=q.below hh;replace XA:=XA.below hh;replace XB:=XB.below hh;replace hb:=bend hb hh;obtain ⟨xa0,xa1,xa2,xa3,xa4,xa5⟩:=XA.all;obtain ⟨xb0,xb1,xb2,xb3,xb4,xb5⟩:=XB.all;obtain ⟨xo0,xo1,xo2,xo3,xo4,xo5⟩:=XO.all
  go_upto_region 5 with (first
      | (go_at_call 39;(with_reducible refine (level_yes (k:=21) (p.more (by decide)) (q.more (by decide)) o.pr.qy (by decide) (by decide) SY.out).mono ?_);rintro e w_r ⟨s_r,A_r,n_r,c_r,B_r,m_r,d_r,rfl,r,hh⟩
         (try replace p:=p.below hh);(try replace q:=q.below hh);(try replace XA:=XA.below hh);(try replace XB:=XB.below hh);(try replace o:=o.below hh);(try replace XO:=XO.below hh);replace hb:=bend hb hh))
  generalize hW:(w_r.alloc (Obj.cells #[Value.bool s_r,Value.slice A_r n_r c_r,Value.slice B_r m_r d_r] 26))=W2
  have hh:Below w_r.heap.size w_r W2:=by subst hW;exact ((Below.refl _ _).alloc (Nat.le_refl _) _)
  have XR:B3 W2 (w_r.heap.size) (Value.bool s_r) (Value.slice A_r n_r c_r) (Value.slice B_r m_r d_r):=by subst hW;exact B3.new' _ _ _ _ _ rfl
  have hzW2:W2.heap.size=w_r.heap.size+1:=by subst hW;simp
  clear hW;(try replace p:=p.below hh);(try replace q:=q.below hh);(try replace XA:=XA.below hh);(try replace XB:=XB.below hh);(try replace o:=o.below hh);(try replace XO:=XO.below hh);(try replace r:=r.below hh);replace hb:=bend hb hh;obtain ⟨xa0,xa1,xa2,xa3,xa4,xa5⟩:=XA.all;obtain ⟨xb0,xb1,xb2,xb3,xb4,xb5⟩:=XB.all;obtain ⟨xo0,xo1,xo2,xo3,xo4,xo5⟩:=XO.all
  go_upto_region 6 with (first
      | (go_at_call 40;(with_reducible refine (upright_no (k:=21) (p.more (by decide)) (q.more (by decide)) o.pr.qx (by decide) (by decide) SX.out).mono ?_);rintro e w_v ⟨rfl,hh⟩
         (try replace p:=p.below hh);(try replace q:=q.below hh);(try replace XA:=XA.below hh);(try replace XB:=XB.below hh);(try replace o:=o.below hh);(try replace XO:=XO.below hh);(try replace XR:=XR.below hh);(try replace r:=r.below hh);replace hb:=bend hb hh))
  generalize hW:(w_v.alloc (Obj.cells #[Value.bool false,Value.slice none 0 0,Value.slice none 0 0] 26))=W3
  have hh:Below w_v.heap.size w_v W3:=by subst hW;exact ((Below.refl _ _).alloc (Nat.le_refl _) _)
  have XV:B3 W3 (w_v.heap.size) (Value.bool false) (Value.slice none 0 0) (Value.slice none 0 0):=by subst hW;exact B3.new' _ _ _ _ _ rfl
  have hzW3:W3.heap.size=w_v.heap.size+1:=by subst hW;simp
  clear hW;(try replace p:=p.below hh);(try replace q:=q.below hh);(try replace XA:=XA.below hh);(try replace XB:=XB.below hh);(try replace o:=o.below hh);(try replace XO:=XO.below hh);(try replace XR:=XR.below hh);(try replace r:=r.below hh);replace hb:=bend hb hh;obtain ⟨xa0,xa1,xa2,xa3,xa4,xa5⟩:=XA.all;obtain ⟨xb0,xb1,xb2,xb3,xb4,xb5⟩:=XB.all;obtain ⟨xo0,xo1,xo2,xo3,xo4,xo5⟩:=XO.all;obtain ⟨xr0,xr1,xr2⟩:=XR.all;obtain ⟨xv0,xv1,xv2⟩:=XV.all
  go_wp2_with (first
      | (go_at_call 45;(with_reducible refine (rcmp_q r.qr o.pr.qx (by decide) (by decide) (.inl (by decide)) (by decide) (by decide)).mono ?_);rintro e w_z ⟨rfl,hh⟩
         rw [CY.out];(try replace p:=p.below hh);(try replace q:=q.below hh);(try replace XA:=XA.below hh);(try replace XB:=XB.below hh);(try replace o:=o.below hh);(try replace XO:=XO.below hh);(try replace XR:=XR.below hh);(try replace r:=r.below hh);(try replace XV:=XV.below hh);replace hb:=bend hb hh;obtain ⟨xa0,xa1,xa2,xa3,xa4,xa5⟩:=XA.all;obtain ⟨xb0,xb1,xb2,xb3,xb4,xb5⟩:=XB.all;obtain ⟨xo0,xo1,xo2,xo3,xo4,xo5⟩:=XO.all;obtain ⟨xr0,xr1,xr2⟩:=XR.all;obtain ⟨xv0,xv1,xv2⟩:=XV.all)
      | (go_at_call 45;(with_reducible refine (rcmp_q p.qy q.qy (by decide) (by decide) (.inl (by decide)) (by decide) (by decide)).mono ?_);rintro e w_z ⟨rfl,hh⟩
         rw [HY.out];(try replace p:=p.below hh);(try replace q:=q.below hh);(try replace XA:=XA.below hh);(try replace XB:=XB.below hh);(try replace o:=o.below hh);(try replace XO:=XO.below hh);(try replace XR:=XR.below hh);(try replace r:=r.below hh);(try replace XV:=XV.below hh);replace hb:=bend hb hh;obtain ⟨xa0,xa1,xa2,xa3,xa4,xa5⟩:=XA.all;obtain ⟨xb0,xb1,xb2,xb3,xb4,xb5⟩:=XB.all;obtain ⟨xo0,xo1,xo2,xo3,xo4,xo5⟩:=XO.all;obtain ⟨xr0,xr1,xr2⟩:=XR.all;obtain ⟨xv0,xv1,xv2⟩:=XV.all)
      | (go_at_call 45;(with_reducible refine (rcmp_q p.qx q.qx (by decide) (by decide) (.inl (by decide)) (by decide) (by decide)).mono ?_);rintro e w_z ⟨rfl,hh⟩
         rw [HX.out];(try replace p:=p.below hh);(try replace q:=q.below hh);(try replace XA:=XA.below hh);(try replace XB:=XB.below hh);(try replace o:=o.below hh);(try replace XO:=XO.below hh);(try replace XR:=XR.below hh);(try replace r:=r.below hh);(try replace XV:=XV.below hh);replace hb:=bend hb hh;obtain ⟨xa0,xa1,xa2,xa3,xa4,xa5⟩:=XA.all;obtain ⟨xb0,xb1,xb2,xb3,xb4,xb5⟩:=XB.all;obtain ⟨xo0,xo1,xo2,xo3,xo4,xo5⟩:=XO.all;obtain ⟨xr0,xr1,xr2⟩:=XR.all;obtain ⟨xv0,xv1,xv2⟩:=XV.all)
      | (go_at_call 36;(with_reducible refine (onw_yes o.pr p q (by decide) (by decide) (by decide) HO.out).mono ?_);rintro e w_z ⟨rfl,hh⟩
         (try replace p:=p.below hh);(try replace q:=q.below hh);(try replace XA:=XA.below hh);(try replace XB:=XB.below hh);(try replace o:=o.below hh);(try replace XO:=XO.below hh);(try replace XR:=XR.below hh);(try replace r:=r.below hh);(try replace XV:=XV.below hh);replace hb:=bend hb hh;obtain ⟨xa0,xa1,xa2,xa3,xa4,xa5⟩:=XA.all;obtain ⟨xb0,xb1,xb2,xb3,xb4,xb5⟩:=XB.all;obtain ⟨xo0,xo1,xo2,xo3,xo4,xo5⟩:=XO.all;obtain ⟨xr0,xr1,xr2⟩:=XR.all;obtain ⟨xv0,xv1,xv2⟩:=XV.all)
      | (go_at_call 30;(with_reducible refine (segwakes_any _).mono ?_);rintro e w_z ⟨rfl,hh⟩
         (try replace p:=p.below hh);(try replace q:=q.below hh);(try replace XA:=XA.below hh);(try replace XB:=XB.below hh);(try replace o:=o.below hh);(try replace XO:=XO.below hh);(try replace XR:=XR.below hh);(try replace r:=r.below hh);(try replace XV:=XV.below hh);replace hb:=bend hb hh;obtain ⟨xa0,xa1,xa2,xa3,xa4,xa5⟩:=XA.all;obtain ⟨xb0,xb1,xb2,xb3,xb4,xb5⟩:=XB.all;obtain ⟨xo0,xo1,xo2,xo3,xo4,xo5⟩:=XO.all;obtain ⟨xr0,xr1,xr2⟩:=XR.all;obtain ⟨xv0,xv1,xv2⟩:=XV.all))
  go_ret;exact ⟨rfl,hb⟩
theorem at_ny {w:World} (t:Nat) {ax ay bx by_:Rat} (p:PR w s_p A_p n_p c_p B_p m_p d_p t_p E_p i_p e_p F_p j_p f_p ax ay 6) (q:PR w s_q A_q n_q c_q B_q m_q d_q t_q E_q i_q e_q F_q j_q f_q bx by_ 6) (h:(((n_p≤6∧m_p≤6)∧i_p≤6∧j_p≤6)∧((n_q≤6∧m_q≤6)∧i_q≤6∧j_q≤6))) (ht:t≤255) (hy:ay=by_) (hx:ax ≠ bx) :
    Calls Tryz.prog 8 #[.agg #[.bool s_p,.slice A_p n_p c_p,.slice B_p m_p d_p,.bool t_p,.slice E_p i_p e_p,.slice F_p j_p f_p],.agg #[.bool s_q,.slice A_q n_q c_q,.slice B_q m_q d_q,.bool t_q,.slice E_q i_q e_q,.slice F_q j_q f_q],.int .u8 (t:Int)] w fun e w'=>e=.returned (.bool true)∧Below w.heap.size w w':=by
  have HL:Hid (decide (((n_p≤6∧m_p≤6)∧i_p≤6∧j_p≤6)∧((n_q≤6∧m_q≤6)∧i_q≤6∧j_q≤6))=true):=decide_eq_true h
  have hti:(t:Int)≤255:=by omega
  have hr:=tq_range ht
  have HO:Hid (onS (ax+(bx - ax)*(Rat.divInt (t:Int) 255)) (ay+(by_ - ay)*(Rat.divInt (t:Int) 255)) ax ay bx by_):=⟨_,hr.1,hr.2,rfl,rfl⟩
  obtain ⟨KY,hKY,hy0⟩:∃ K,cmpQ ay by_=K∧((K:Int) == 0)=true:=⟨_,rfl,by rw [cmpQ_nul.2 hy];rfl⟩
  obtain ⟨KX,hKX,hx0⟩:∃ K,cmpQ ax bx=K∧((K:Int) == 0)=false:=⟨_,rfl,by simpa using fun e=>hx (cmpQ_nul.1 e)⟩
  have HY:=Lib.hid hKY;have HX:=Lib.hid hKX
  have SY:Hid (¬ shareOK ((ay+(by_ - ay)*(Rat.divInt (t:Int) 255)) - ay) (by_ - ay)):=at_none hy
  have SX:Hid (shareOK ((ax+(bx - ax)*(Rat.divInt (t:Int) 255)) - ax) (bx - ax)):=at_share hx hr.1 hr.2
  have CX:Hid (cmpQ (ay+((ax+(bx - ax)*(Rat.divInt (t:Int) 255)) - ax) / (bx - ax)*(by_ - ay)) (ay+(by_ - ay)*(Rat.divInt (t:Int) 255))=0):=cmpQ_nul.2 (at_value hx)
  clear h hr ht hKY hKX hx hy
  go_enter Tryz.func8,Tryz.ntmps8
  go_wp2_with fail
  generalize hW:(((w.alloc (Obj.cells #[Value.bool s_p,Value.slice A_p n_p c_p,Value.slice B_p m_p d_p,Value.bool t_p,Value.slice E_p i_p e_p,Value.slice F_p j_p f_p] 56)).alloc (Obj.cells #[Value.bool s_q,Value.slice A_q n_q c_q,Value.slice B_q m_q d_q,Value.bool t_q,Value.slice E_q i_q e_q,Value.slice F_q j_q f_q] 56)).alloc (Obj.cells #[Value.bool s_p,Value.slice A_p n_p c_p,Value.slice B_p m_p d_p,Value.bool t_p,Value.slice E_p i_p e_p,Value.slice F_p j_p f_p,Value.bool s_q,Value.slice A_q n_q c_q,Value.slice B_q m_q d_q,Value.bool t_q,Value.slice E_q i_q e_q,Value.slice F_q j_q f_q] 56))=W
  have hb:Below w.heap.size w W:=by subst hW;exact ((((Below.refl _ _).alloc (Nat.le_refl _) _).alloc (by simp) _).alloc (by simp;omega) _)
  have XA:B6 W (w.heap.size) (Value.bool s_p) (Value.slice A_p n_p c_p) (Value.slice B_p m_p d_p) (Value.bool t_p) (Value.slice E_p i_p e_p) (Value.slice F_p j_p f_p):=by subst hW;exact ((B6.new' _ _ _ _ _ _ _ _ rfl).alloc _).alloc _
  have XB:B6 W (w.heap.size+1) (Value.bool s_q) (Value.slice A_q n_q c_q) (Value.slice B_q m_q d_q) (Value.bool t_q) (Value.slice E_q i_q e_q) (Value.slice F_q j_q f_q):=by subst hW;exact (B6.new' _ _ _ _ _ _ _ _ (by simp)).alloc _
  have XL:BL2 W (w.heap.size+1+1) (Value.bool s_p) (Value.slice A_p n_p c_p) (Value.slice B_p m_p d_p) (Value.bool t_p) (Value.slice E_p i_p e_p) (Value.slice F_p j_p f_p) (Value.bool s_q) (Value.slice A_q n_q c_q) (Value.slice B_q m_q d_q) (Value.bool t_q) (Value.slice E_q i_q e_q) (Value.slice F_q j_q f_q):=by subst hW;exact BL2.new' _ _ _ _ _ _ _ _ _ _ _ _ _ _ (by simp)
  have hzW:W.heap.size=w.heap.size+3:=by subst hW;simp
  clear hW;replace p:=p.below hb;replace q:=q.below hb
  go_upto_region 3 with (first
      | (go_at_call 29;(with_reducible refine (fair2 XL true HL.out).mono ?_);rintro e w_z ⟨rfl,hh⟩
         clear XL;(try replace p:=p.below hh);(try replace q:=q.below hh);(try replace XA:=XA.below hh);(try replace XB:=XB.below hh);replace hb:=bend hb hh))
  refine at7_region (by simp) rfl rfl rfl XA XB p q hti ?_
  intro V w_o g_o s_o A_o n_o c_o B_o m_o d_o t_o E_o i_o e_o F_o j_o f_o o XO hg_o hvo hh
  simp only [putAll,Act.put,List.setIfInBounds_toArray,List.set_cons_zero,List.set_cons_succ,hvo]
  clear hvo;replace p:=p.below hh;replace q:=q.below hh;replace XA:=XA.below hh;replace XB:=XB.below hh;replace hb:=bend hb hh;obtain ⟨xa0,xa1,xa2,xa3,xa4,xa5⟩:=XA.all;obtain ⟨xb0,xb1,xb2,xb3,xb4,xb5⟩:=XB.all;obtain ⟨xo0,xo1,xo2,xo3,xo4,xo5⟩:=XO.all
  go_upto_region 5 with (first
      | (go_at_call 39;(with_reducible refine (level_no (k:=21) (p.more (by decide)) (q.more (by decide)) o.pr.qy (by decide) (by decide) SY.out).mono ?_);rintro e w_r ⟨rfl,hh⟩
         (try replace p:=p.below hh);(try replace q:=q.below hh);(try replace XA:=XA.below hh);(try replace XB:=XB.below hh);(try replace o:=o.below hh);(try replace XO:=XO.below hh);replace hb:=bend hb hh))
  generalize hW:(w_r.alloc (Obj.cells #[Value.bool false,Value.slice none 0 0,Value.slice none 0 0] 26))=W2
  have hh:Below w_r.heap.size w_r W2:=by subst hW;exact ((Below.refl _ _).alloc (Nat.le_refl _) _)
  have XR:B3 W2 (w_r.heap.size) (Value.bool false) (Value.slice none 0 0) (Value.slice none 0 0):=by subst hW;exact B3.new' _ _ _ _ _ rfl
  have hzW2:W2.heap.size=w_r.heap.size+1:=by subst hW;simp
  clear hW;(try replace p:=p.below hh);(try replace q:=q.below hh);(try replace XA:=XA.below hh);(try replace XB:=XB.below hh);(try replace o:=o.below hh);(try replace XO:=XO.below hh);replace hb:=bend hb hh;obtain ⟨xa0,xa1,xa2,xa3,xa4,xa5⟩:=XA.all;obtain ⟨xb0,xb1,xb2,xb3,xb4,xb5⟩:=XB.all;obtain ⟨xo0,xo1,xo2,xo3,xo4,xo5⟩:=XO.all
  go_upto_region 6 with (first
      | (go_at_call 40;(with_reducible refine (upright_yes (k:=21) (p.more (by decide)) (q.more (by decide)) o.pr.qx (by decide) (by decide) SX.out).mono ?_);rintro e w_v ⟨s_v,A_v,n_v,c_v,B_v,m_v,d_v,rfl,v,hh⟩
         (try replace p:=p.below hh);(try replace q:=q.below hh);(try replace XA:=XA.below hh);(try replace XB:=XB.below hh);(try replace o:=o.below hh);(try replace XO:=XO.below hh);(try replace XR:=XR.below hh);replace hb:=bend hb hh))
  generalize hW:(w_v.alloc (Obj.cells #[Value.bool s_v,Value.slice A_v n_v c_v,Value.slice B_v m_v d_v] 26))=W3
  have hh:Below w_v.heap.size w_v W3:=by subst hW;exact ((Below.refl _ _).alloc (Nat.le_refl _) _)
  have XV:B3 W3 (w_v.heap.size) (Value.bool s_v) (Value.slice A_v n_v c_v) (Value.slice B_v m_v d_v):=by subst hW;exact B3.new' _ _ _ _ _ rfl
  have hzW3:W3.heap.size=w_v.heap.size+1:=by subst hW;simp
  clear hW;(try replace p:=p.below hh);(try replace q:=q.below hh);(try replace XA:=XA.below hh);(try replace XB:=XB.below hh);(try replace o:=o.below hh);(try replace XO:=XO.below hh);(try replace XR:=XR.below hh);(try replace v:=v.below hh);replace hb:=bend hb hh;obtain ⟨xa0,xa1,xa2,xa3,xa4,xa5⟩:=XA.all;obtain ⟨xb0,xb1,xb2,xb3,xb4,xb5⟩:=XB.all;obtain ⟨xo0,xo1,xo2,xo3,xo4,xo5⟩:=XO.all;obtain ⟨xr0,xr1,xr2⟩:=XR.all;obtain ⟨xv0,xv1,xv2⟩:=XV.all
  go_wp2_with (first
      | (go_at_call 45;(with_reducible refine (rcmp_q v.qr o.pr.qy (by decide) (by decide) (.inl (by decide)) (by decide) (by decide)).mono ?_);rintro e w_z ⟨rfl,hh⟩
         rw [CX.out];(try replace p:=p.below hh);(try replace q:=q.below hh);(try replace XA:=XA.below hh);(try replace XB:=XB.below hh);(try replace o:=o.below hh);(try replace XO:=XO.below hh);(try replace XR:=XR.below hh);(try replace XV:=XV.below hh);(try replace v:=v.below hh);replace hb:=bend hb hh;obtain ⟨xa0,xa1,xa2,xa3,xa4,xa5⟩:=XA.all;obtain ⟨xb0,xb1,xb2,xb3,xb4,xb5⟩:=XB.all;obtain ⟨xo0,xo1,xo2,xo3,xo4,xo5⟩:=XO.all;obtain ⟨xr0,xr1,xr2⟩:=XR.all;obtain ⟨xv0,xv1,xv2⟩:=XV.all)
      | (go_at_call 45;(with_reducible refine (rcmp_q p.qy q.qy (by decide) (by decide) (.inl (by decide)) (by decide) (by decide)).mono ?_);rintro e w_z ⟨rfl,hh⟩
         rw [HY.out];(try replace p:=p.below hh);(try replace q:=q.below hh);(try replace XA:=XA.below hh);(try replace XB:=XB.below hh);(try replace o:=o.below hh);(try replace XO:=XO.below hh);(try replace XR:=XR.below hh);(try replace XV:=XV.below hh);(try replace v:=v.below hh);replace hb:=bend hb hh;obtain ⟨xa0,xa1,xa2,xa3,xa4,xa5⟩:=XA.all;obtain ⟨xb0,xb1,xb2,xb3,xb4,xb5⟩:=XB.all;obtain ⟨xo0,xo1,xo2,xo3,xo4,xo5⟩:=XO.all;obtain ⟨xr0,xr1,xr2⟩:=XR.all;obtain ⟨xv0,xv1,xv2⟩:=XV.all)
      | (go_at_call 45;(with_reducible refine (rcmp_q p.qx q.qx (by decide) (by decide) (.inl (by decide)) (by decide) (by decide)).mono ?_);rintro e w_z ⟨rfl,hh⟩
         rw [HX.out];(try replace p:=p.below hh);(try replace q:=q.below hh);(try replace XA:=XA.below hh);(try replace XB:=XB.below hh);(try replace o:=o.below hh);(try replace XO:=XO.below hh);(try replace XR:=XR.below hh);(try replace XV:=XV.below hh);(try replace v:=v.below hh);replace hb:=bend hb hh;obtain ⟨xa0,xa1,xa2,xa3,xa4,xa5⟩:=XA.all;obtain ⟨xb0,xb1,xb2,xb3,xb4,xb5⟩:=XB.all;obtain ⟨xo0,xo1,xo2,xo3,xo4,xo5⟩:=XO.all;obtain ⟨xr0,xr1,xr2⟩:=XR.all;obtain ⟨xv0,xv1,xv2⟩:=XV.all)
      | (go_at_call 36;(with_reducible refine (onw_yes o.pr p q (by decide) (by decide) (by decide) HO.out).mono ?_);rintro e w_z ⟨rfl,hh⟩
         (try replace p:=p.below hh);(try replace q:=q.below hh);(try replace XA:=XA.below hh);(try replace XB:=XB.below hh);(try replace o:=o.below hh);(try replace XO:=XO.below hh);(try replace XR:=XR.below hh);(try replace XV:=XV.below hh);(try replace v:=v.below hh);replace hb:=bend hb hh;obtain ⟨xa0,xa1,xa2,xa3,xa4,xa5⟩:=XA.all;obtain ⟨xb0,xb1,xb2,xb3,xb4,xb5⟩:=XB.all;obtain ⟨xo0,xo1,xo2,xo3,xo4,xo5⟩:=XO.all;obtain ⟨xr0,xr1,xr2⟩:=XR.all;obtain ⟨xv0,xv1,xv2⟩:=XV.all)
      | (go_at_call 30;(with_reducible refine (segwakes_any _).mono ?_);rintro e w_z ⟨rfl,hh⟩
         (try replace p:=p.below hh);(try replace q:=q.below hh);(try replace XA:=XA.below hh);(try replace XB:=XB.below hh);(try replace o:=o.below hh);(try replace XO:=XO.below hh);(try replace XR:=XR.below hh);(try replace XV:=XV.below hh);(try replace v:=v.below hh);replace hb:=bend hb hh;obtain ⟨xa0,xa1,xa2,xa3,xa4,xa5⟩:=XA.all;obtain ⟨xb0,xb1,xb2,xb3,xb4,xb5⟩:=XB.all;obtain ⟨xo0,xo1,xo2,xo3,xo4,xo5⟩:=XO.all;obtain ⟨xr0,xr1,xr2⟩:=XR.all;obtain ⟨xv0,xv1,xv2⟩:=XV.all))
  go_ret;exact ⟨rfl,hb⟩
theorem at_nn {w:World} (t:Nat) {ax ay bx by_:Rat} (p:PR w s_p A_p n_p c_p B_p m_p d_p t_p E_p i_p e_p F_p j_p f_p ax ay 6) (q:PR w s_q A_q n_q c_q B_q m_q d_q t_q E_q i_q e_q F_q j_q f_q bx by_ 6) (h:(((n_p≤6∧m_p≤6)∧i_p≤6∧j_p≤6)∧((n_q≤6∧m_q≤6)∧i_q≤6∧j_q≤6))) (ht:t≤255) (hy:ay=by_) (hx:ax=bx) :
    Calls Tryz.prog 8 #[.agg #[.bool s_p,.slice A_p n_p c_p,.slice B_p m_p d_p,.bool t_p,.slice E_p i_p e_p,.slice F_p j_p f_p],.agg #[.bool s_q,.slice A_q n_q c_q,.slice B_q m_q d_q,.bool t_q,.slice E_q i_q e_q,.slice F_q j_q f_q],.int .u8 (t:Int)] w fun e w'=>e=.returned (.bool true)∧Below w.heap.size w w':=by
  have HL:Hid (decide (((n_p≤6∧m_p≤6)∧i_p≤6∧j_p≤6)∧((n_q≤6∧m_q≤6)∧i_q≤6∧j_q≤6))=true):=decide_eq_true h
  have hti:(t:Int)≤255:=by omega
  have hr:=tq_range ht
  have HO:Hid (onS (ax+(bx - ax)*(Rat.divInt (t:Int) 255)) (ay+(by_ - ay)*(Rat.divInt (t:Int) 255)) ax ay bx by_):=⟨_,hr.1,hr.2,rfl,rfl⟩
  obtain ⟨KY,hKY,hy0⟩:∃ K,cmpQ ay by_=K∧((K:Int) == 0)=true:=⟨_,rfl,by rw [cmpQ_nul.2 hy];rfl⟩
  obtain ⟨KX,hKX,hx0⟩:∃ K,cmpQ ax bx=K∧((K:Int) == 0)=true:=⟨_,rfl,by rw [cmpQ_nul.2 hx];rfl⟩
  have HY:=Lib.hid hKY;have HX:=Lib.hid hKX
  have SY:Hid (¬ shareOK ((ay+(by_ - ay)*(Rat.divInt (t:Int) 255)) - ay) (by_ - ay)):=at_none hy
  have SX:Hid (¬ shareOK ((ax+(bx - ax)*(Rat.divInt (t:Int) 255)) - ax) (bx - ax)):=at_none hx
  clear h hr ht hKY hKX hx hy
  go_enter Tryz.func8,Tryz.ntmps8
  go_wp2_with fail
  generalize hW:(((w.alloc (Obj.cells #[Value.bool s_p,Value.slice A_p n_p c_p,Value.slice B_p m_p d_p,Value.bool t_p,Value.slice E_p i_p e_p,Value.slice F_p j_p f_p] 56)).alloc (Obj.cells #[Value.bool s_q,Value.slice A_q n_q c_q,Value.slice B_q m_q d_q,Value.bool t_q,Value.slice E_q i_q e_q,Value.slice F_q j_q f_q] 56)).alloc (Obj.cells #[Value.bool s_p,Value.slice A_p n_p c_p,Value.slice B_p m_p d_p,Value.bool t_p,Value.slice E_p i_p e_p,Value.slice F_p j_p f_p,Value.bool s_q,Value.slice A_q n_q c_q,Value.slice B_q m_q d_q,Value.bool t_q,Value.slice E_q i_q e_q,Value.slice F_q j_q f_q] 56))=W
  have hb:Below w.heap.size w W:=by subst hW;exact ((((Below.refl _ _).alloc (Nat.le_refl _) _).alloc (by simp) _).alloc (by simp;omega) _)
  have XA:B6 W (w.heap.size) (Value.bool s_p) (Value.slice A_p n_p c_p) (Value.slice B_p m_p d_p) (Value.bool t_p) (Value.slice E_p i_p e_p) (Value.slice F_p j_p f_p):=by subst hW;exact ((B6.new' _ _ _ _ _ _ _ _ rfl).alloc _).alloc _
  have XB:B6 W (w.heap.size+1) (Value.bool s_q) (Value.slice A_q n_q c_q) (Value.slice B_q m_q d_q) (Value.bool t_q) (Value.slice E_q i_q e_q) (Value.slice F_q j_q f_q):=by subst hW;exact (B6.new' _ _ _ _ _ _ _ _ (by simp)).alloc _
  have XL:BL2 W (w.heap.size+1+1) (Value.bool s_p) (Value.slice A_p n_p c_p) (Value.slice B_p m_p d_p) (Value.bool t_p) (Value.slice E_p i_p e_p) (Value.slice F_p j_p f_p) (Value.bool s_q) (Value.slice A_q n_q c_q) (Value.slice B_q m_q d_q) (Value.bool t_q) (Value.slice E_q i_q e_q) (Value.slice F_q j_q f_q):=by subst hW;exact BL2.new' _ _ _ _ _ _ _ _ _ _ _ _ _ _ (by simp)
  have hzW:W.heap.size=w.heap.size+3:=by subst hW;simp
  clear hW;replace p:=p.below hb;replace q:=q.below hb
  go_upto_region 3 with (first
      | (go_at_call 29;(with_reducible refine (fair2 XL true HL.out).mono ?_);rintro e w_z ⟨rfl,hh⟩
         clear XL;(try replace p:=p.below hh);(try replace q:=q.below hh);(try replace XA:=XA.below hh);(try replace XB:=XB.below hh);replace hb:=bend hb hh))
  refine at7_region (by simp) rfl rfl rfl XA XB p q hti ?_
  intro V w_o g_o s_o A_o n_o c_o B_o m_o d_o t_o E_o i_o e_o F_o j_o f_o o XO hg_o hvo hh
  simp only [putAll,Act.put,List.setIfInBounds_toArray,List.set_cons_zero,List.set_cons_succ,hvo]
  clear hvo;replace p:=p.below hh;replace q:=q.below hh;replace XA:=XA.below hh;replace XB:=XB.below hh;replace hb:=bend hb hh;obtain ⟨xa0,xa1,xa2,xa3,xa4,xa5⟩:=XA.all;obtain ⟨xb0,xb1,xb2,xb3,xb4,xb5⟩:=XB.all;obtain ⟨xo0,xo1,xo2,xo3,xo4,xo5⟩:=XO.all
  go_upto_region 5 with (first
      | (go_at_call 39;(with_reducible refine (level_no (k:=21) (p.more (by decide)) (q.more (by decide)) o.pr.qy (by decide) (by decide) SY.out).mono ?_);rintro e w_r ⟨rfl,hh⟩
         (try replace p:=p.below hh);(try replace q:=q.below hh);(try replace XA:=XA.below hh);(try replace XB:=XB.below hh);(try replace o:=o.below hh);(try replace XO:=XO.below hh);replace hb:=bend hb hh))
  generalize hW:(w_r.alloc (Obj.cells #[Value.bool false,Value.slice none 0 0,Value.slice none 0 0] 26))=W2
  have hh:Below w_r.heap.size w_r W2:=by subst hW;exact ((Below.refl _ _).alloc (Nat.le_refl _) _)
  have XR:B3 W2 (w_r.heap.size) (Value.bool false) (Value.slice none 0 0) (Value.slice none 0 0):=by subst hW;exact B3.new' _ _ _ _ _ rfl
  have hzW2:W2.heap.size=w_r.heap.size+1:=by subst hW;simp
  clear hW;(try replace p:=p.below hh);(try replace q:=q.below hh);(try replace XA:=XA.below hh);(try replace XB:=XB.below hh);(try replace o:=o.below hh);(try replace XO:=XO.below hh);replace hb:=bend hb hh;obtain ⟨xa0,xa1,xa2,xa3,xa4,xa5⟩:=XA.all;obtain ⟨xb0,xb1,xb2,xb3,xb4,xb5⟩:=XB.all;obtain ⟨xo0,xo1,xo2,xo3,xo4,xo5⟩:=XO.all
  go_upto_region 6 with (first
      | (go_at_call 40;(with_reducible refine (upright_no (k:=21) (p.more (by decide)) (q.more (by decide)) o.pr.qx (by decide) (by decide) SX.out).mono ?_);rintro e w_v ⟨rfl,hh⟩
         (try replace p:=p.below hh);(try replace q:=q.below hh);(try replace XA:=XA.below hh);(try replace XB:=XB.below hh);(try replace o:=o.below hh);(try replace XO:=XO.below hh);(try replace XR:=XR.below hh);replace hb:=bend hb hh))
  generalize hW:(w_v.alloc (Obj.cells #[Value.bool false,Value.slice none 0 0,Value.slice none 0 0] 26))=W3
  have hh:Below w_v.heap.size w_v W3:=by subst hW;exact ((Below.refl _ _).alloc (Nat.le_refl _) _)
  have XV:B3 W3 (w_v.heap.size) (Value.bool false) (Value.slice none 0 0) (Value.slice none 0 0):=by subst hW;exact B3.new' _ _ _ _ _ rfl
  have hzW3:W3.heap.size=w_v.heap.size+1:=by subst hW;simp
  clear hW;(try replace p:=p.below hh);(try replace q:=q.below hh);(try replace XA:=XA.below hh);(try replace XB:=XB.below hh);(try replace o:=o.below hh);(try replace XO:=XO.below hh);(try replace XR:=XR.below hh);replace hb:=bend hb hh;obtain ⟨xa0,xa1,xa2,xa3,xa4,xa5⟩:=XA.all;obtain ⟨xb0,xb1,xb2,xb3,xb4,xb5⟩:=XB.all;obtain ⟨xo0,xo1,xo2,xo3,xo4,xo5⟩:=XO.all;obtain ⟨xr0,xr1,xr2⟩:=XR.all;obtain ⟨xv0,xv1,xv2⟩:=XV.all
  go_wp2_with (first
      | (go_at_call 45;(with_reducible refine (rcmp_q p.qy q.qy (by decide) (by decide) (.inl (by decide)) (by decide) (by decide)).mono ?_);rintro e w_z ⟨rfl,hh⟩
         rw [HY.out];(try replace p:=p.below hh);(try replace q:=q.below hh);(try replace XA:=XA.below hh);(try replace XB:=XB.below hh);(try replace o:=o.below hh);(try replace XO:=XO.below hh);(try replace XR:=XR.below hh);(try replace XV:=XV.below hh);replace hb:=bend hb hh;obtain ⟨xa0,xa1,xa2,xa3,xa4,xa5⟩:=XA.all;obtain ⟨xb0,xb1,xb2,xb3,xb4,xb5⟩:=XB.all;obtain ⟨xo0,xo1,xo2,xo3,xo4,xo5⟩:=XO.all;obtain ⟨xr0,xr1,xr2⟩:=XR.all;obtain ⟨xv0,xv1,xv2⟩:=XV.all)
      | (go_at_call 45;(with_reducible refine (rcmp_q p.qx q.qx (by decide) (by decide) (.inl (by decide)) (by decide) (by decide)).mono ?_);rintro e w_z ⟨rfl,hh⟩
         rw [HX.out];(try replace p:=p.below hh);(try replace q:=q.below hh);(try replace XA:=XA.below hh);(try replace XB:=XB.below hh);(try replace o:=o.below hh);(try replace XO:=XO.below hh);(try replace XR:=XR.below hh);(try replace XV:=XV.below hh);replace hb:=bend hb hh;obtain ⟨xa0,xa1,xa2,xa3,xa4,xa5⟩:=XA.all;obtain ⟨xb0,xb1,xb2,xb3,xb4,xb5⟩:=XB.all;obtain ⟨xo0,xo1,xo2,xo3,xo4,xo5⟩:=XO.all;obtain ⟨xr0,xr1,xr2⟩:=XR.all;obtain ⟨xv0,xv1,xv2⟩:=XV.all)
      | (go_at_call 36;(with_reducible refine (onw_yes o.pr p q (by decide) (by decide) (by decide) HO.out).mono ?_);rintro e w_z ⟨rfl,hh⟩
         (try replace p:=p.below hh);(try replace q:=q.below hh);(try replace XA:=XA.below hh);(try replace XB:=XB.below hh);(try replace o:=o.below hh);(try replace XO:=XO.below hh);(try replace XR:=XR.below hh);(try replace XV:=XV.below hh);replace hb:=bend hb hh;obtain ⟨xa0,xa1,xa2,xa3,xa4,xa5⟩:=XA.all;obtain ⟨xb0,xb1,xb2,xb3,xb4,xb5⟩:=XB.all;obtain ⟨xo0,xo1,xo2,xo3,xo4,xo5⟩:=XO.all;obtain ⟨xr0,xr1,xr2⟩:=XR.all;obtain ⟨xv0,xv1,xv2⟩:=XV.all)
      | (go_at_call 30;(with_reducible refine (segwakes_any _).mono ?_);rintro e w_z ⟨rfl,hh⟩
         (try replace p:=p.below hh);(try replace q:=q.below hh);(try replace XA:=XA.below hh);(try replace XB:=XB.below hh);(try replace o:=o.below hh);(try replace XO:=XO.below hh);(try replace XR:=XR.below hh);(try replace XV:=XV.below hh);replace hb:=bend hb hh;obtain ⟨xa0,xa1,xa2,xa3,xa4,xa5⟩:=XA.all;obtain ⟨xb0,xb1,xb2,xb3,xb4,xb5⟩:=XB.all;obtain ⟨xo0,xo1,xo2,xo3,xo4,xo5⟩:=XO.all;obtain ⟨xr0,xr1,xr2⟩:=XR.all;obtain ⟨xv0,xv1,xv2⟩:=XV.all))
  go_ret;exact ⟨rfl,hb⟩
theorem law_at {w:World} (t:Nat) {lap lbp lcp ldp:List Nat} {laq lbq lcq ldq:List Nat} (ap:Rd .u64 w A_p n_p lap) (bp:Rd .u64 w B_p m_p lbp) (up:Rd .u64 w E_p i_p lcp) (vp:Rd .u64 w F_p j_p ldp) (tap:Lim B64 lap) (tbp:Lim B64 lbp) (tcp:Lim B64 lcp) (tdp:Lim B64 ldp) (cap:n_p≤c_p) (cbp:m_p≤d_p) (ccp:i_p≤e_p) (cdp:j_p≤f_p) (aq:Rd .u64 w A_q n_q laq) (bq:Rd .u64 w B_q m_q lbq) (uq:Rd .u64 w E_q i_q lcq) (vq:Rd .u64 w F_q j_q ldq) (taq:Lim B64 laq) (tbq:Lim B64 lbq) (tcq:Lim B64 lcq) (tdq:Lim B64 ldq) (caq:n_q≤c_q) (cbq:m_q≤d_q) (ccq:i_q≤e_q) (cdq:j_q≤f_q) (ht:t≤255) :
    Calls Tryz.prog 8 #[.agg #[.bool s_p,.slice A_p n_p c_p,.slice B_p m_p d_p,.bool t_p,.slice E_p i_p e_p,.slice F_p j_p f_p],.agg #[.bool s_q,.slice A_q n_q c_q,.slice B_q m_q d_q,.bool t_q,.slice E_q i_q e_q,.slice F_q j_q f_q],.int .u8 (t:Int)] w fun e w'=>e=.returned (.bool true)∧Below w.heap.size w w':=by
  by_cases h:(((n_p≤6∧m_p≤6)∧i_p≤6∧j_p≤6)∧((n_q≤6∧m_q≤6)∧i_q≤6∧j_q≤6))
  · have p:PR w s_p A_p n_p c_p B_p m_p d_p t_p E_p i_p e_p F_p j_p f_p (mkRat (iv s_p (val B64 lap)) (den1 (val B64 lbp))) (mkRat (iv t_p (val B64 lcp)) (den1 (val B64 ldp))) 6:=⟨QR.of_rd ap tap cap bp tbp cbp h.1.1.1 h.1.1.2,QR.of_rd up tcp ccp vp tdp cdp h.1.2.1 h.1.2.2⟩
    have q:PR w s_q A_q n_q c_q B_q m_q d_q t_q E_q i_q e_q F_q j_q f_q (mkRat (iv s_q (val B64 laq)) (den1 (val B64 lbq))) (mkRat (iv t_q (val B64 lcq)) (den1 (val B64 ldq))) 6:=⟨QR.of_rd aq taq caq bq tbq cbq h.2.1.1 h.2.1.2,QR.of_rd uq tcq ccq vq tdq cdq h.2.2.1 h.2.2.2⟩
    generalize mkRat (iv s_p (val B64 lap)) (den1 (val B64 lbp))=ax at p
    generalize mkRat (iv t_p (val B64 lcp)) (den1 (val B64 ldp))=ay at p
    generalize mkRat (iv s_q (val B64 laq)) (den1 (val B64 lbq))=bx at q
    generalize mkRat (iv t_q (val B64 lcq)) (den1 (val B64 ldq))=by_ at q
    by_cases hy:ay=by_ <;> by_cases hx:ax=bx
    · exact at_nn t p q h ht hy hx
    · exact at_ny t p q h ht hy hx
    · exact at_yn t p q h ht hy hx
    · exact at_yy t p q h ht hy hx
  · exact at_l t h
end Go.Proofs.YtmgklaklnaihpaaGreat
