/- AreaTells: part 19. -/
import Derived.Test.YtgfcofecdhodcaaGreatKAreaTells9
import Derived.Test.YtgfcofecdhodcaaGreatKAreaTells12
import Derived.Test.YtgfcofecdhodcaaGreatKAreaTells15
import Derived.Test.YtgfcofecdhodcaaGreatKAreaTells17
import Derived.Test.YtgfcofecdhodcaaGreatKAreaTells18
set_option linter.unusedVariables false
set_option maxRecDepth 100000
set_option maxHeartbeats 16000000
variable {w:Go.World}
variable {s_p t_p:Bool} {A_p B_p E_p F_p:Option Go.Addr} {n_p c_p m_p d_p i_p e_p j_p f_p:Nat}
variable {s_q t_q:Bool} {A_q B_q E_q F_q:Option Go.Addr} {n_q c_q m_q d_q i_q e_q j_q f_q:Nat}
variable {s_a:Bool} {A_a B_a:Option Go.Addr} {n_a c_a m_a d_a:Nat}
variable {s_b:Bool} {A_b B_b:Option Go.Addr} {n_b c_b m_b d_b:Nat}
namespace Go.Proofs.YtgfcofecdhodcaaGreat
section
open Go Go.RowKit
abbrev L_rc5:List Nat:=[15,16,17,18,19,20,21,22,23,24,25,26,5,6]
def Qke:Oper:=⟨some 15,.move (.tmp 0),33, "ref.go:22",#[],none⟩
def Qks:Oper:=⟨some 16,.move (.tmp 4),3, "ref.go:22",#[],none⟩
def QgM:Oper:=⟨some 17,.indexAddr 33 (.tmp 15) (.tmp 16),0, "ref.go:22",#[⟨0,.data⟩,⟨1,.data⟩],none⟩
def Qic:Oper:=⟨some 18,.load 45 (.tmp 17),45, "ref.go:22",#[⟨2,.data⟩],none⟩
def QkD:Oper:=⟨some 19,.move (.tmp 0),33, "ref.go:22",#[⟨14,.gcOnly .lateStores⟩],none⟩
def Qkj:Oper:=⟨some 20,.move (.tmp 4),3, "ref.go:22",#[⟨14,.gcOnly .lateStores⟩],none⟩
def QiY:Oper:=⟨some 21,.binOp BinOp.add 3 (.tmp 20) (.const (Value.int IntKind.i64 1)) 3,3, "ref.go:22",#[⟨5,.data⟩,⟨14,.gcOnly .lateStores⟩],none⟩
def Qkx:Oper:=⟨some 22,.move (.tmp 0),33, "ref.go:22",#[],none⟩
def Qim:Oper:=⟨some 23,.call ⟨.builtin Builtin.len,#[.tmp 22],#[33]⟩,3, "ref.go:22",#[⟨7,.data⟩],none⟩
def Qha:Oper:=⟨some 24,.binOp BinOp.rem 3 (.tmp 21) (.tmp 23) 3,3, "ref.go:22",#[⟨6,.data⟩,⟨8,.data⟩,⟨14,.gcOnly .lateStores⟩],none⟩
def QeO:Oper:=⟨some 25,.indexAddr 33 (.tmp 19) (.tmp 24),0, "ref.go:22",#[⟨4,.data⟩,⟨9,.data⟩,⟨14,.gcOnly .lateStores⟩],none⟩
def Qgm:Oper:=⟨some 26,.load 45 (.tmp 25),45, "ref.go:22",#[⟨10,.data⟩,⟨14,.gcOnly .lateStores⟩],none⟩
def Qme:Oper:=⟨some 5,.alloc 45,0, "ref.go:22",#[],none⟩
def Qnv:Oper:=⟨some 6,.alloc 45,0, "ref.go:22",#[],none⟩
def Qfx:Oper:=⟨none,.store 45 (.tmp 5) (.tmp 18),0, "ref.go:22",#[⟨12,.data⟩,⟨3,.data⟩,⟨0,.phase⟩,⟨1,.phase⟩,⟨2,.phase⟩,⟨3,.phase⟩,⟨4,.textOnly .lateStores⟩,⟨5,.textOnly .lateStores⟩,⟨6,.textOnly .lateStores⟩,⟨7,.textOnly .lateStores⟩,⟨8,.textOnly .lateStoresUnsure⟩,⟨9,.textOnly .lateStores⟩,⟨10,.textOnly .lateStores⟩,⟨11,.textOnly .lateStores⟩,⟨12,.phase⟩,⟨13,.phase⟩],none⟩
def Qfu:Oper:=⟨none,.store 45 (.tmp 6) (.tmp 26),0, "ref.go:22",#[⟨13,.data⟩,⟨11,.data⟩,⟨14,.chain⟩,⟨0,.phase⟩,⟨1,.phase⟩,⟨2,.phase⟩,⟨3,.phase⟩,⟨4,.phase⟩,⟨5,.phase⟩,⟨6,.phase⟩,⟨7,.phase⟩,⟨8,.phase⟩,⟨9,.phase⟩,⟨10,.phase⟩,⟨11,.phase⟩,⟨12,.phase⟩,⟨13,.phase⟩,⟨14,.phase⟩],none⟩
def F_rc5 (A1:Option Addr) (N1:Nat) (c1:Nat) (m:Nat) (g0:Nat) (o0:Nat) (g1:Nat) (o1:Nat) (s_p:Bool) (t_p:Bool) (A_p:Option Addr) (B_p:Option Addr) (E_p:Option Addr) (F_p:Option Addr) (n_p:Nat) (c_p:Nat) (m_p:Nat) (d_p:Nat) (i_p:Nat) (e_p:Nat) (j_p:Nat) (f_p:Nat) (s_q:Bool) (t_q:Bool) (A_q:Option Addr) (B_q:Option Addr) (E_q:Option Addr) (F_q:Option Addr) (n_q:Nat) (c_q:Nat) (m_q:Nat) (d_q:Nat) (i_q:Nat) (e_q:Nat) (j_q:Nat) (f_q:Nat) (sl:Nat):Value→World→Prop :=
 match sl with
 | 15=>fun x _=>x=Value.slice A1 N1 c1
 | 16=>fun x _=>x=Value.int .i64 (m:Int)
 | 17=>fun x _=>x=Value.pointer (some ⟨g0,o0,none⟩)
 | 18=>VK (#[.bool s_p,.slice A_p n_p c_p,.slice B_p m_p d_p,.bool t_p,.slice E_p i_p e_p,.slice F_p j_p f_p])
 | 19=>fun x _=>x=Value.slice A1 N1 c1
 | 20=>fun x _=>x=Value.int .i64 (m:Int)
 | 21=>fun x _=>x=Value.int .i64 ((m:Int)+1)
 | 22=>fun x _=>x=Value.slice A1 N1 c1
 | 23=>fun x _=>x=Value.int .i64 (N1:Int)
 | 24=>fun x _=>x=Value.int .i64 (((m:Int)+1).tmod (N1:Int))
 | 25=>fun x _=>x=Value.pointer (some ⟨g1,o1,none⟩)
 | 26=>VK (#[.bool s_q,.slice A_q n_q c_q,.slice B_q m_q d_q,.bool t_q,.slice E_q i_q e_q,.slice F_q j_q f_q])
 | _=>fun _ _=>True
def Qf8 (s_p:Bool) (t_p:Bool) (A_p:Option Addr) (B_p:Option Addr) (E_p:Option Addr) (F_p:Option Addr) (n_p:Nat) (c_p:Nat) (m_p:Nat) (d_p:Nat) (i_p:Nat) (e_p:Nat) (j_p:Nat) (f_p:Nat):Qb1 :=
 ⟨12,14,5,45,#[.bool false,.slice none 0 0,.slice none 0 0,.bool false,.slice none 0 0,.slice none 0 0],fun cs _=>cs=#[.bool s_p,.slice A_p n_p c_p,.slice B_p m_p d_p,.bool t_p,.slice E_p i_p e_p,.slice F_p j_p f_p]⟩
def Qgl (s_q:Bool) (t_q:Bool) (A_q:Option Addr) (B_q:Option Addr) (E_q:Option Addr) (F_q:Option Addr) (n_q:Nat) (c_q:Nat) (m_q:Nat) (d_q:Nat) (i_q:Nat) (e_q:Nat) (j_q:Nat) (f_q:Nat):Qb1 :=
 ⟨13,15,6,45,#[.bool false,.slice none 0 0,.slice none 0 0,.bool false,.slice none 0 0,.slice none 0 0],fun cs _=>cs=#[.bool s_q,.slice A_q n_q c_q,.slice B_q m_q d_q,.bool t_q,.slice E_q i_q e_q,.slice F_q j_q f_q]⟩
theorem QlO {id:Nat} {ac:Act} {Q:Exit→Act→World→Prop} {A1:Option Addr} {N1 c1 m g0 o0 g1 o1:Nat} 
 (hsz:26 < ac.tmps.size) (e0:ac.eval (.tmp 0)=Value.slice A1 N1 c1) (e4:ac.eval (.tmp 4)=Value.int .i64 (m:Int)) (Ep:E6x w g0 o0 (PV.mk s_p A_p n_p c_p B_p m_p d_p t_p E_p i_p e_p F_p j_p f_p)) (Eq:E6x w g1 o1 (PV.mk s_q A_q n_q c_q B_q m_q d_q t_q E_q i_q e_q F_q j_q f_q)) (hixa:∀ w',(Instr.indexAt 33 (.slice A1 N1 c1) (.int .i64 (m:Int))).run Tryz.prog w'=.ok (.pointer (some ⟨g0,o0,none⟩)) w') (hixb:∀ w',(Instr.indexAt 33 (.slice A1 N1 c1) (.int .i64 (((m:Int)+1).tmod (N1:Int)))).run Tryz.prog w'=.ok (.pointer (some ⟨g1,o1,none⟩)) w') (hwr:IntKind.i64.wrap ((m:Int)+1)=(m:Int)+1) (hn0:¬ (N1:Int)=0)
 (hend:∀ (V:Nat→Value) (w':World) (g0:Nat) (g1:Nat),B6R w' g0 (.bool s_p) (.slice A_p n_p c_p) (.slice B_p m_p d_p) (.bool t_p) (.slice E_p i_p e_p) (.slice F_p j_p f_p)→w.heap.size≤g0→V 5=.pointer (some ⟨g0,0,none⟩)→B6R w' g1 (.bool s_q) (.slice A_q n_q c_q) (.slice B_q m_q d_q) (.bool t_q) (.slice E_q i_q e_q) (.slice F_q j_q f_q)→w.heap.size≤g1→V 6=.pointer (some ⟨g1,0,none⟩)→g1 ≠ g0→Below w.heap.size w w'→Q .normal (Qal ac [15,16,17,18,19,20,21,22,23,24,25,26,5,6] V) w') :
 (Code.region id #[Qke,Qks,QgM,Qic,QkD,Qkj,QiY,Qkx,Qim,Qha,QeO,Qgm,Qme,Qnv,Qfx,Qfu] true).wp Tryz.prog Q ac w:=by
 have hnd:L_rc5.Nodup:=by decide
 have G:∀ (sv:Nat→Value) (t:Nat),t ∈ L_rc5→t≤26→(Qal ac L_rc5 sv).eval (.tmp t)=sv t:=fun sv t ht h=>Qay (t:=t) L_rc5 ac hnd ht (Nat.lt_of_le_of_lt h hsz)
 have E0:∀ sv:Nat→Value,(Qal ac L_rc5 sv).eval (.tmp 0)=Value.slice A1 N1 c1:=fun sv=>(Qap (v:=sv) L_rc5 ac (show 0 ∉ _ by decide)).trans e0
 have E4:∀ sv:Nat→Value,(Qal ac L_rc5 sv).eval (.tmp 4)=Value.int .i64 (m:Int):=fun sv=>(Qap (v:=sv) L_rc5 ac (show 4 ∉ _ by decide)).trans e4
 have NE:∀ t:Nat,(t ≠ 5∧t ≠ 6)→∀ p ∈ [Qf8 s_p t_p A_p B_p E_p F_p n_p c_p m_p d_p i_p e_p j_p f_p,Qgl s_q t_q A_q B_q E_q F_q n_q c_q m_q d_q i_q e_q j_q f_q],t ≠ p.tA:=by
  intro t ht p hp
  simp only [List.mem_cons,List.not_mem_nil,or_false] at hp
  rcases hp with rfl | rfl
  · exact ht.1
  · exact ht.2
 refine QaB L_rc5 [Qf8 s_p t_p A_p B_p E_p F_p n_p c_p m_p d_p i_p e_p j_p f_p,Qgl s_q t_q A_q B_q E_q F_q n_q c_q m_q d_q i_q e_q j_q f_q] (F_rc5 A1 N1 c1 m g0 o0 g1 o1 s_p t_p A_p B_p E_p F_p n_p c_p m_p d_p i_p e_p j_p f_p s_q t_q A_q B_q E_q F_q n_q c_q m_q d_q i_q e_q j_q f_q) (by kernel_rfl) (by kernel_rfl) rfl hnd ?_ ?_ ?_ ?_ ?_ ?_ ?_ ?_
 · intro p hp
   simp only [List.mem_cons,List.not_mem_nil,or_false] at hp
   rcases hp with rfl | rfl
   · refine ⟨⟨Qme,rfl,rfl,rfl,fun e w'=>Qg3⟩,⟨Qfx,rfl,rfl,rfl,⟨12,.data⟩,by simp [Qfx],rfl,rfl⟩,QgE _ _ _ _ _ _ _ _ _ _ _ _ _ _,?_,?_⟩
     · rintro cs w1 w2 rfl hb;rfl
     · rintro T cs w1 w2 g c0 rfl hB ho;rfl
   · refine ⟨⟨Qnv,rfl,rfl,rfl,fun e w'=>Qg3⟩,⟨Qfu,rfl,rfl,rfl,⟨13,.data⟩,by simp [Qfu],rfl,rfl⟩,QgE _ _ _ _ _ _ _ _ _ _ _ _ _ _,?_,?_⟩
     · rintro cs w1 w2 rfl hb;rfl
     · rintro T cs w1 w2 g c0 rfl hB ho;rfl
 · intro p hp q hq h
   simp only [List.mem_cons,List.not_mem_nil,or_false] at hp hq
   rcases hp with rfl | rfl <;> rcases hq with rfl | rfl
   · rfl
   · exact absurd (show (5:Nat)=6 from h) (by decide)
   · exact absurd (show (6:Nat)=5 from h) (by decide)
   · rfl
 · intro p hp q hq h
   simp only [List.mem_cons,List.not_mem_nil,or_false] at hp hq
   rcases hp with rfl | rfl <;> rcases hq with rfl | rfl
   · rfl
   · exact absurd (show (14:Nat)=15 from h) (by decide)
   · exact absurd (show (15:Nat)=14 from h) (by decide)
   · rfl
 · intro i o h1 h2
   match i,h1 with
   | 0,h1=>cases h1;cases h2
   | 1,h1=>cases h1;cases h2
   | 2,h1=>cases h1;cases h2
   | 3,h1=>cases h1;cases h2
   | 4,h1=>cases h1;cases h2
   | 5,h1=>cases h1;cases h2
   | 6,h1=>cases h1;cases h2
   | 7,h1=>cases h1;cases h2
   | 8,h1=>cases h1;cases h2
   | 9,h1=>cases h1;cases h2
   | 10,h1=>cases h1;cases h2
   | 11,h1=>cases h1;cases h2
   | 12,h1=>cases h1;cases h2
   | 13,h1=>cases h1;cases h2
   | 14,h1=>exact ⟨Qf8 s_p t_p A_p B_p E_p F_p n_p c_p m_p d_p i_p e_p j_p f_p,List.Mem.head _,rfl⟩
   | 15,h1=>exact ⟨Qgl s_q t_q A_q B_q E_q F_q n_q c_q m_q d_q i_q e_q j_q f_q,List.Mem.tail _ (List.Mem.head _),rfl⟩
   | i+16,h1=>cases h1
 · intro t
   unfold F_rc5
   split <;> first | exact (Qbs _).inn _ | exact (QbL _ _).inn _ | exact (Qcb _ _).inn _ | exact (Qcc _ _).inn _ | exact (QbV _ _).inn _ | exact (QbQ _ _ _).inn _ | exact (QaV).inn _
 · intro i o t sv w' ho hia hd J0 hf
   have Ep:=Ep.below J0;have Eq:=Eq.below J0
   match i,ho with
   | 0,ho =>
     obtain rfl:Qke=o:=Option.some.inj ho
     cases hd
     refine Qaa (o:=Qke) rfl rfl ?_
     unfold Oper.wp Qke
     rw [Qat (E0 sv),Oper.upon_value]
     exact ⟨_,rfl,Below.refl _ _,rfl⟩
   | 1,ho =>
     obtain rfl:Qks=o:=Option.some.inj ho
     cases hd
     refine Qaa (o:=Qks) rfl rfl ?_
     unfold Oper.wp Qks
     rw [Qat (E4 sv),Oper.upon_value]
     exact ⟨_,rfl,Below.refl _ _,rfl⟩
   | 2,ho =>
     obtain rfl:QgM=o:=Option.some.inj ho
     cases hd
     have f15:sv 15=Value.slice A1 N1 c1:=hf ⟨0,.data⟩ (by simp [QgM]) rfl _ 15 rfl rfl (NE _ (by decide))
     have f16:sv 16=Value.int .i64 (m:Int):=hf ⟨1,.data⟩ (by simp [QgM]) rfl _ 16 rfl rfl (NE _ (by decide))
     refine Qaa (o:=QgM) rfl rfl ?_
     unfold Oper.wp QgM
     rw [Qmr ((G sv 15 (by decide) (by decide)).trans f15) ((G sv 16 (by decide) (by decide)).trans f16) hixa,Oper.upon_value]
     exact ⟨_,rfl,Below.refl _ _,rfl⟩
   | 3,ho =>
     obtain rfl:Qic=o:=Option.some.inj ho
     cases hd
     have f17:sv 17=Value.pointer (some ⟨g0,o0,none⟩):=hf ⟨2,.data⟩ (by simp [Qic]) rfl _ 17 rfl rfl (NE _ (by decide))
     refine Qaa (o:=Qic) rfl rfl ?_
     unfold Oper.wp Qic
     rw [Qne ((G sv 17 (by decide) (by decide)).trans f17) Ep,Oper.upon_value]
     exact ⟨_,rfl,Below.refl _ _,rfl⟩
   | 4,ho =>
     obtain rfl:QkD=o:=Option.some.inj ho
     cases hd
     refine Qaa (o:=QkD) rfl rfl ?_
     unfold Oper.wp QkD
     rw [Qat (E0 sv),Oper.upon_value]
     exact ⟨_,rfl,Below.refl _ _,rfl⟩
   | 5,ho =>
     obtain rfl:Qkj=o:=Option.some.inj ho
     cases hd
     refine Qaa (o:=Qkj) rfl rfl ?_
     unfold Oper.wp Qkj
     rw [Qat (E4 sv),Oper.upon_value]
     exact ⟨_,rfl,Below.refl _ _,rfl⟩
   | 6,ho =>
     obtain rfl:QiY=o:=Option.some.inj ho
     cases hd
     have f20:sv 20=Value.int .i64 (m:Int):=hf ⟨5,.data⟩ (by simp [QiY]) rfl _ 20 rfl rfl (NE _ (by decide))
     refine Qaa (o:=QiY) rfl rfl ?_
     unfold Oper.wp QiY
     rw [Qho ((G sv 20 (by decide) (by decide)).trans f20) (show (Qal ac L_rc5 sv).eval (.const (Value.int IntKind.i64 1))=(Value.int IntKind.i64 1) from rfl) hwr,Oper.upon_value]
     exact ⟨_,rfl,Below.refl _ _,rfl⟩
   | 7,ho =>
     obtain rfl:Qkx=o:=Option.some.inj ho
     cases hd
     refine Qaa (o:=Qkx) rfl rfl ?_
     unfold Oper.wp Qkx
     rw [Qat (E0 sv),Oper.upon_value]
     exact ⟨_,rfl,Below.refl _ _,rfl⟩
   | 8,ho =>
     obtain rfl:Qim=o:=Option.some.inj ho
     cases hd
     have f22:sv 22=Value.slice A1 N1 c1:=hf ⟨7,.data⟩ (by simp [Qim]) rfl _ 22 rfl rfl (NE _ (by decide))
     refine Qaa (o:=Qim) rfl rfl ?_
     unfold Oper.wp Qim
     rw [Qos ((G sv 22 (by decide) (by decide)).trans f22) ,Oper.upon_value]
     exact ⟨_,rfl,Below.refl _ _,rfl⟩
   | 9,ho =>
     obtain rfl:Qha=o:=Option.some.inj ho
     cases hd
     have f21:sv 21=Value.int .i64 ((m:Int)+1):=hf ⟨6,.data⟩ (by simp [Qha]) rfl _ 21 rfl rfl (NE _ (by decide))
     have f23:sv 23=Value.int .i64 (N1:Int):=hf ⟨8,.data⟩ (by simp [Qha]) rfl _ 23 rfl rfl (NE _ (by decide))
     refine Qaa (o:=Qha) rfl rfl ?_
     unfold Oper.wp Qha
     rw [Qot ((G sv 21 (by decide) (by decide)).trans f21) ((G sv 23 (by decide) (by decide)).trans f23) hn0,Oper.upon_value]
     exact ⟨_,rfl,Below.refl _ _,rfl⟩
   | 10,ho =>
     obtain rfl:QeO=o:=Option.some.inj ho
     cases hd
     have f19:sv 19=Value.slice A1 N1 c1:=hf ⟨4,.data⟩ (by simp [QeO]) rfl _ 19 rfl rfl (NE _ (by decide))
     have f24:sv 24=Value.int .i64 (((m:Int)+1).tmod (N1:Int)):=hf ⟨9,.data⟩ (by simp [QeO]) rfl _ 24 rfl rfl (NE _ (by decide))
     refine Qaa (o:=QeO) rfl rfl ?_
     unfold Oper.wp QeO
     rw [Qmr ((G sv 19 (by decide) (by decide)).trans f19) ((G sv 24 (by decide) (by decide)).trans f24) hixb,Oper.upon_value]
     exact ⟨_,rfl,Below.refl _ _,rfl⟩
   | 11,ho =>
     obtain rfl:Qgm=o:=Option.some.inj ho
     cases hd
     have f25:sv 25=Value.pointer (some ⟨g1,o1,none⟩):=hf ⟨10,.data⟩ (by simp [Qgm]) rfl _ 25 rfl rfl (NE _ (by decide))
     refine Qaa (o:=Qgm) rfl rfl ?_
     unfold Oper.wp Qgm
     rw [Qne ((G sv 25 (by decide) (by decide)).trans f25) Eq,Oper.upon_value]
     exact ⟨_,rfl,Below.refl _ _,rfl⟩
   | 12,ho=>cases ho;cases hd;exact absurd rfl (hia (Qf8 s_p t_p A_p B_p E_p F_p n_p c_p m_p d_p i_p e_p j_p f_p) (List.Mem.head _))
   | 13,ho=>cases ho;cases hd;exact absurd rfl (hia (Qgl s_q t_q A_q B_q E_q F_q n_q c_q m_q d_q i_q e_q j_q f_q) (List.Mem.tail _ (List.Mem.head _)))
   | 14,ho=>cases ho;cases hd
   | 15,ho=>cases ho;cases hd
   | i+16,ho=>cases ho
 · intro p hp os sv w' g hos J0 p1 p3 hf
   simp only [List.mem_cons,List.not_mem_nil,or_false] at hp
   rcases hp with rfl | rfl
   · obtain rfl:Qfx=os:=Option.some.inj hos
     have h1:VK (#[.bool s_p,.slice A_p n_p c_p,.slice B_p m_p d_p,.bool t_p,.slice E_p i_p e_p,.slice F_p j_p f_p]) (sv 18) w':=hf ⟨3,.data⟩ (by simp [Qfx]) rfl _ 18 rfl rfl (NE _ (by decide))
     rw [← G sv 18 (by decide) (by decide)] at h1
     refine QkN  (ac:=Qal ac L_rc5 sv) (z:=.tmp 18) ?_ ?_ ?_
     · exact (G sv 5 (by decide) (by decide)).trans p1
     · exact h1
     · exact p3
   · obtain rfl:Qfu=os:=Option.some.inj hos
     have h1:VK (#[.bool s_q,.slice A_q n_q c_q,.slice B_q m_q d_q,.bool t_q,.slice E_q i_q e_q,.slice F_q j_q f_q]) (sv 26) w':=hf ⟨11,.data⟩ (by simp [Qfu]) rfl _ 26 rfl rfl (NE _ (by decide))
     rw [← G sv 26 (by decide) (by decide)] at h1
     refine QkN  (ac:=Qal ac L_rc5 sv) (z:=.tmp 26) ?_ ?_ ?_
     · exact (G sv 6 (by decide) (by decide)).trans p1
     · exact h1
     · exact p3
 · intro sv w' J0 hF hB hap
   obtain ⟨g0,cs0,p0,r0,b0,rfl⟩:=hB (Qf8 s_p t_p A_p B_p E_p F_p n_p c_p m_p d_p i_p e_p j_p f_p) (List.Mem.head _)
   obtain ⟨g1,cs1,p1,r1,b1,rfl⟩:=hB (Qgl s_q t_q A_q B_q E_q F_q n_q c_q m_q d_q i_q e_q j_q f_q) (List.Mem.tail _ (List.Mem.head _))
   have p0':sv 5=.pointer (some ⟨g0,0,none⟩):=p0
   have p1':sv 6=.pointer (some ⟨g1,0,none⟩):=p1
   exact hend sv w' g0 g1 b0.at_ r0 p0' b1.at_ r1 p1' (fun q=>hap (Qgl s_q t_q A_q B_q E_q F_q n_q c_q m_q d_q i_q e_q j_q f_q) (List.Mem.tail _ (List.Mem.head _)) (Qf8 s_p t_p A_p B_p E_p F_p n_p c_p m_p d_p i_p e_p j_p f_p) (List.Mem.head _) (show (6:Nat) ≠ 5 by decide) (by rw [show (Qgl s_q t_q A_q B_q E_q F_q n_q c_q m_q d_q i_q e_q j_q f_q).tA=6 from rfl,show (Qf8 s_p t_p A_p B_p E_p F_p n_p c_p m_p d_p i_p e_p j_p f_p).tA=5 from rfl,p1',p0',q]))   J0
theorem Qa6 (w:World) (n:Nat):Below w.heap.size w (w.drewN n):=⟨rfl,rfl,rfl,Nat.le_refl _,fun _ _=>rfl⟩
def Qk8 (l:List (Rat × Rat)) (i k:Nat):Prop:=(i ≠ k→¬ (Qca l i=Qca l k∧Qb9 l i=Qb9 l k))∧0≤Qa0 (Qca l) (Qb9 l) i k
theorem Qqj {l:List (Rat × Rat)} {m n:Nat} {v:Rat × Rat} (hn:l.length=n) (h:l[(m+1) % n]?=some v):Qca l (m+1)=v.1∧Qb9 l (m+1)=v.2:=by
 unfold Qca Qb9
 rw [hn,List.getD_eq_getElem?_getD,h]
 exact ⟨rfl,rfl⟩
theorem Qqq {l:List (Rat × Rat)} {m j n:Nat} {u v t:Rat × Rat} (hn:l.length=n) (hu:l[m]?=some u) (hv:l[(m+1) % n]?=some v) (ht:l[j]?=some t):Qa0 (Qca l) (Qb9 l) m j=(v.1 - u.1)*(t.2 - u.2) - (v.2 - u.2)*(t.1 - u.1):=by
 obtain ⟨a1,a2⟩:=QbW hu
 obtain ⟨b1,b2⟩:=Qqj hn hv
 obtain ⟨c1,c2⟩:=QbW ht
 unfold Qa0
 simp only [a1,a2,b1,b2,c1,c2,crs,dd]
theorem Qp6 (x:Rat):0 < Qb3 x ↔ 0 < x:=by
 rcases Qbm x with h | h | h <;> rw [h.1]
 · exact ⟨fun _=>h.2,fun _=>by decide⟩
 · exact ⟨fun h1=>by omega,fun h1=>by rw [h.2] at h1;exact absurd h1 Rat.lt_irrefl⟩
 · exact ⟨fun h1=>by omega,fun h1=>by have:=h.2;grind⟩
theorem Qoi {l:List (Rat × Rat)} {n:Nat} (hn:l.length=n) {b:Bool} (hg:∀ i,i < n→∀ k,k < n→Qk8 l i k) (hb:b=true ↔ ∃ i k,i < n∧k < n∧0 < Qa0 (Qca l) (Qb9 l) i k):(3≤n∧b=true) ↔ QeP l:=by
 rw [QfQ,hn]
 constructor
 · rintro ⟨h3,h4⟩
   exact ⟨h3,fun i k hi hk hne=>(hg i hi k hk).1 hne,fun i k hi hk=>(hg i hi k hk).2,hb.1 h4⟩
 · intro h
   exact ⟨h.three,hb.2 h.some⟩
theorem Qji {l:List (Rat × Rat)} {n i k:Nat} (hn:l.length=n) (hi:i < n) (hk:k < n) (h:¬ Qk8 l i k):¬ QeP l:=by
 rw [QfQ,hn]
 intro hc
 exact h ⟨fun hne=>hc.apart i k hi hk hne,hc.left i k hi hk⟩
theorem Qm4 {l:List (Rat × Rat)} {n i:Nat} {u v:Rat × Rat} (hn:l.length=n) (hi:i < n) (hu:l[i]?=some u) (hv:l[(i+1) % n]?=some v) (h:u.1=v.1∧u.2=v.2):¬ QeP l:=by
 intro hc
 have hc2:=hc
 rw [QfQ,hn] at hc2
 have h3:=hc2.three
 have hne:i ≠ (i+1) % n:=by
  rcases Nat.lt_or_ge (i+1) n with h1 | h1
  · rw [Nat.mod_eq_of_lt h1];omega
  · have:i+1=n:=by omega
    rw [this,Nat.mod_self];omega
 obtain ⟨a1,a2⟩:=QbW hu
 obtain ⟨b1,b2⟩:=QbW hv
 exact hc2.apart i ((i+1) % n) hi (Nat.mod_lt _ (by omega)) hne ⟨by rw [a1,b1];exact h.1,by rw [a2,b2];exact h.2⟩
theorem QpE {A:Option Addr} {n c k:Nat} {L:List PV} {l:List (Rat × Rat)} (hL:SV w A (pvs L)) (hE:Each PV.RP w L l k) (hn:L.length=n) (hm:n≤1000) (hk:k≤60) (R:Bool) (hR0:R=true ↔ QeP l) :
 Calls Tryz.prog 17 #[.slice A n c] w fun e w'=>e=.returned (.bool R)∧Below w.heap.size w w':=by
 have HN:=Lib.hid hn;have HR0:=Lib.hid hR0
 have HNl:Hid (l.length=n):=hE.1.symm.trans hn
 clear hn hR0;have HL9:=Lib.hid hL;have E9:=Lib.hid hE;clear hL hE
 go_enter Tryz.func17,Tryz.ntmps17
 go_wp2_with fail
 go_loopg [3,4] n (fun gk sb ix wr=>∃ (m:Nat) (b:Bool),Hid (gk+m=n)∧ix=.int .i64 (m:Int)∧sb=.bool b∧Hid (∀ i,i < m→∀ k,k < n→Qk8 l i k)∧Hid (b=true ↔ ∃ i k,i < m∧k < n∧0 < Qa0 (Qca l) (Qb9 l) i k)∧Below w.heap.size w wr)
 case atStart=>exact ⟨0,false,Nat.add_zero _,rfl,rfl,(fun i hi=>absurd hi (by omega)),(by show _ ↔ _;constructor;(intro h;cases h);(rintro ⟨i,k,hi,_⟩;omega)),Below.refl _ _⟩
 case round =>
  obtain ⟨m,b,HG,rfl,rfl,HS,HBB,hB⟩:=hrel
  obtain ⟨GG,hGG⟩:∃ GG,GG=gk:=⟨_,rfl⟩
  subst hGG
  by_cases hmn:m < n
  · have HMN:=Lib.hid hmn
    obtain ⟨P,u,hP1,hu1,p0⟩:=(Each.belowR E9.out hB).at_ (i:=m) (by rw [HN.out];exact hmn)
    obtain ⟨Q,v,hP2,hu2,q0⟩:=(Each.belowR E9.out hB).at_ (i:=(m+1) % n) (by rw [HN.out];exact Nat.mod_lt _ (by omega))
    obtain ⟨g0,o0,hix0,Ep,_⟩:=(HL9.out.below hB).rpt hP1
    obtain ⟨g1,o1,hix1,Eq,_⟩:=(HL9.out.below hB).rpt hP2
    have hixa:∀ w',(Instr.indexAt 33 (.slice A n c) (.int .i64 (m:Int))).run Tryz.prog w'=.ok (.pointer (some ⟨g0,o0,none⟩)) w':=fun w'=>hix0 n c w' hmn
    have hixb:∀ w',(Instr.indexAt 33 (.slice A n c) (.int .i64 (((m:Int)+1).tmod (n:Int)))).run Tryz.prog w'=.ok (.pointer (some ⟨g1,o1,none⟩)) w':=fun w'=>by rw [Qgb];exact hix1 n c w' (Nat.mod_lt _ (by omega))
    have hwr:IntKind.i64.wrap ((m:Int)+1)=(m:Int)+1:=IntWalk.i64_in _ (by omega)
    have hlt:(m:Int) < (n:Int):=by omega
    have hn0:¬ (n:Int)=0:=by omega
    have HU:=Lib.hid hu1;have HV:=Lib.hid hu2
    obtain ⟨ux,uy⟩:=u
    obtain ⟨vx,vy⟩:=v
    obtain ⟨s_p,A_p,n_p,c_p,B_p,m_p,d_p,t_p,E_p,i_p,e_p,F_p,j_p,f_p⟩:=P
    obtain ⟨s_q,A_q,n_q,c_q,B_q,m_q,d_q,t_q,E_q,i_q,e_q,F_q,j_q,f_q⟩:=Q
    replace p0:RP wr s_p A_p n_p c_p B_p m_p d_p t_p E_p i_p e_p F_p j_p f_p ux uy k:=p0
    replace q0:RP wr s_q A_q n_q c_q B_q m_q d_q t_q E_q i_q e_q F_q j_q f_q vx vy k:=q0
    clear hP1 hP2 hu1 hu2 hix0 hix1 hmn
    go_upto_region 5 with (fail)
    refine QlO (by simp) rfl rfl Ep Eq hixa hixb hwr hn0 ?_
    intro V1 w_b gX gY X hgX hv5 Y hgY hv6 hXY hh
    simp only [Qal,Act.put,List.setIfInBounds_toArray,List.set_cons_zero,List.set_cons_succ,hv5,hv6]
    clear hv5 hv6 Ep Eq hixa hixb;replace p0:=RP.below p0 hh;replace q0:=RP.below q0 hh;replace hB:=Qai hB hh;have x0:=X.c0;have y0:=Y.c0;have x1:=X.c1;have y1:=Y.c1;have x2:=X.c2;have y2:=Y.c2;have x3:=X.c3;have y3:=Y.c3;have x4:=X.c4;have y4:=Y.c4;have x5:=X.c5;have y5:=Y.c5
    by_cases hsm:ux=vx∧uy=vy
    · have HSM:=Lib.hid hsm
      have hds:decide (ux=vx∧uy=vy)=true:=decide_eq_true hsm
      have HDS:=Lib.hid hds;clear hsm hds
      go_upto_region 7 with (first
       | (go_at_call 22;(with_reducible refine (Qkg p0 q0 (by omega) (by omega) true HDS.out).mono ?_);rintro e w_s ⟨rfl,hh⟩
          (try replace p0:=p0.below hh);(try replace q0:=q0.below hh);(try replace X:=X.below hh);(try replace Y:=Y.below hh);replace hB:=Qai hB hh))
      have HF:Hid (false=R):=by
       show _=_
       cases R with
       | false=>rfl
       | true=>exact absurd (HR0.out.1 rfl) (Qm4 HNl.out HMN.out HU.out HV.out HSM.out)
      go_wp2_with fail
      (try rw [Exit.noGoto_ret])
      go_ret
      exact ⟨by rw [← HF.out];first | rfl | simp,hB⟩
    · have hds:decide (ux=vx∧uy=vy)=false:=decide_eq_false hsm
      have HDS:=Lib.hid hds;clear hsm hds
      go_wp2_with (first
       | (go_at_call 22;(with_reducible refine (Qkg p0 q0 (by omega) (by omega) false HDS.out).mono ?_);rintro e w_s ⟨rfl,hh⟩
          (try replace p0:=p0.below hh);(try replace q0:=q0.below hh);(try replace X:=X.below hh);(try replace Y:=Y.below hh);replace hB:=Qai hB hh))
      have X9:=Lib.hid X;have Y9:=Lib.hid Y;have P9:=Lib.hid p0;have Q9:=Lib.hid q0;have hB9:=Lib.hid hB;clear X Y p0 q0 hB x0 y0 x1 y1 x2 y2 x3 y3 x4 y4 x5 y5
      go_loopg [3,7] n (fun gj sb2 jx wq=>∃ (j:Nat) (b2:Bool),Hid (gj+j=n)∧jx=.int .i64 (j:Int)∧sb2=.bool b2∧Hid (∀ k,k < j→Qk8 l m k)∧Hid (b2=true ↔ (∃ i k,i < m∧k < n∧0 < Qa0 (Qca l) (Qb9 l) i k) ∨ ∃ k,k < j∧0 < Qa0 (Qca l) (Qb9 l) m k)∧Below w_s.heap.size w_s wq)
      case atStart=>exact ⟨0,b,Nat.add_zero _,rfl,rfl,(fun i hi=>absurd hi (by omega)),(by show _ ↔ _;rw [HBB.out];constructor;(exact fun h=>.inl h);(rintro (h | ⟨k,hk,_⟩);exact h;omega)),Below.refl _ _⟩
      case round =>
       obtain ⟨j,b2,HJ,rfl,rfl,HS2,HB2,hC⟩:=hrel
       have hB:Below w.heap.size w wr:=Qai hB9.out hC
       by_cases hjn:j < n
       · have HJN:=Lib.hid hjn
         obtain ⟨T,t,hT1,ht1,t0⟩:=(Each.belowR E9.out hB).at_ (i:=j) (by rw [HN.out];exact hjn)
         obtain ⟨g2,o2,hix2,Et,_⟩:=(HL9.out.below hB).rpt hT1
         have hixc:∀ w',(Instr.indexAt 33 (.slice A n c) (.int .i64 (j:Int))).run Tryz.prog w'=.ok (.pointer (some ⟨g2,o2,none⟩)) w':=fun w'=>hix2 n c w' hjn
         have hjl:(j:Int) < (n:Int):=by omega
         have HTT:=Lib.hid ht1
         obtain ⟨tx,ty⟩:=t
         obtain ⟨s_t,A_t,n_t,c_t,B_t,m_t,d_t,t_t,E_t,i_t,e_t,F_t,j_t,f_t⟩:=T
         replace t0:RP wr s_t A_t n_t c_t B_t m_t d_t t_t E_t i_t e_t F_t j_t f_t tx ty k:=t0
         have X:=X9.out.below hC;have Y:=Y9.out.below hC;have p0:=RP.below P9.out hC;have q0:=RP.below Q9.out hC
         have HSD:=Lib.hid (Qqq HNl.out HU.out HV.out HTT.out)
         obtain ⟨K,hK⟩:∃ K,Qb3 ((vx - ux)*(ty - uy) - (vy - uy)*(tx - ux))=K:=⟨_,rfl⟩
         have HK:=Lib.hid hK;clear hT1 ht1 hix2 hjn hK
         by_cases hjm:j=m
         · have hne:((j:Int) != (m:Int))=false:=by simp;omega
           have HJM0:=Lib.hid hjm;clear hjm
           go_upto_region 11 with (fail)
           go_quiet (fail)
           replace p0:=RP.below p0 (Qa6 _ nq)
           replace q0:=RP.below q0 (Qa6 _ nq)
           replace t0:=RP.below t0 (Qa6 _ nq)
           replace X:=X.below (Qa6 _ nq)
           replace Y:=Y.below (Qa6 _ nq)
           replace Et:=Et.below (Qa6 _ nq)
           replace hB:=Qai hB (Qa6 _ nq)
           replace hC:=Qai hC (Qa6 _ nq)
           generalize wr.drewN nq=WN at p0 q0 t0 X Y Et hB hC ⊢
           go_upto_region 13 with (fail)
           replace p0:=RP.below p0 (Below.refl _ _).drew
           replace q0:=RP.below q0 (Below.refl _ _).drew
           replace t0:=RP.below t0 (Below.refl _ _).drew
           replace X:=X.below (Below.refl _ _).drew
           replace Y:=Y.below (Below.refl _ _).drew
           replace Et:=Et.below (Below.refl _ _).drew
           replace hB:=hB.drew;replace hC:=hC.drew
           go_region_held3 (fun w'=>w'.cell? ⟨gX,0,none⟩=some (.bool s_p)∧w'.cell? ⟨gX,1,none⟩=some (.slice A_p n_p c_p)∧w'.cell? ⟨gX,2,none⟩=some (.slice B_p m_p d_p)∧w'.cell? ⟨gX,3,none⟩=some (.bool t_p)∧w'.cell? ⟨gX,4,none⟩=some (.slice E_p i_p e_p)∧w'.cell? ⟨gX,5,none⟩=some (.slice F_p j_p f_p)∧w'.cell? ⟨gY,0,none⟩=some (.bool s_q)∧w'.cell? ⟨gY,1,none⟩=some (.slice A_q n_q c_q)∧w'.cell? ⟨gY,2,none⟩=some (.slice B_q m_q d_q)∧w'.cell? ⟨gY,3,none⟩=some (.bool t_q)∧w'.cell? ⟨gY,4,none⟩=some (.slice E_q i_q e_q)∧w'.cell? ⟨gY,5,none⟩=some (.slice F_q j_q f_q)∧w'.cell? ⟨g2,o2,none⟩=some (.bool s_t)∧w'.cell? ⟨g2,o2+1,none⟩=some (.slice A_t n_t c_t)∧w'.cell? ⟨g2,o2+2,none⟩=some (.slice B_t m_t d_t)∧w'.cell? ⟨g2,o2+3,none⟩=some (.bool t_t)∧w'.cell? ⟨g2,o2+4,none⟩=some (.slice E_t i_t e_t)∧w'.cell? ⟨g2,o2+5,none⟩=some (.slice F_t j_t f_t))
            (first | with_reducible exact ⟨X.c0,X.c1,X.c2,X.c3,X.c4,X.c5,Y.c0,Y.c1,Y.c2,Y.c3,Y.c4,Y.c5,Et.c0,Et.c1,Et.c2,Et.c3,Et.c4,Et.c5⟩)
            (first
            | (go_at_call 56;(with_reducible refine (Qh0 p0 q0 t0 (by omega) K HK.out).mono ?_);rintro e w_o ⟨rfl,hh⟩
               (try replace p0:=p0.below hh);(try replace q0:=q0.below hh);(try replace t0:=t0.below hh);(try replace X:=X.below hh);(try replace Y:=Y.below hh);(try replace Et:=Et.below hh);replace hB:=Qai hB hh;replace hC:=Qai hC hh))
           by_cases hK2:K < 0
           · have HF : Hid (false = R) := by
               show _=_
               cases R with
               | false=>rfl
               | true=>exact absurd (HR0.out.1 rfl) (Qji HNl.out HMN.out HJN.out (fun hg=>by have h5:=hg.2;rw [HSD.out] at h5;have h6:=(Qfy _).2 h5;(try simp only at h6);rw [HK.out] at h6;omega))
             go_wp2_with fail
             (try rw [Exit.noGoto_ret])
             go_ret
             exact ⟨by rw [← HF.out];first | rfl | simp,hB⟩
           · have HGD:Hid (Qk8 l m j):=⟨fun h=>absurd HJM0.out (Ne.symm h),by rw [HSD.out];refine (Qfy _).1 ?_;(try simp only);rw [HK.out];omega⟩
             have HPOS:Hid (0 < Qa0 (Qca l) (Qb9 l) m j ↔ 0 < K):=by show _ ↔ _;rw [HSD.out,← HK.out];exact (Qp6 _).symm
             cases b2 with
             | true =>
               go_wp2_with fail
               go_roundg (gk - 1)
               case measure=>have:=HJ.out;have:=HJN.out;omega
               case rel =>
                refine ⟨j+1,true,by have:=HJ.out;have:=HJN.out;show _=_;omega,by go_num,rfl,fun k hk=>?_,?_,hC⟩
                · rcases Nat.lt_or_ge k j with h | h
                  · exact HS2.out k h
                  · obtain rfl:k=j:=by omega
                    exact HGD.out
                · exact ⟨fun _=>(HB2.out.1 (by first | rfl | trivial)).elim .inl (fun ⟨k,h1,h2⟩=>.inr ⟨k,by omega,h2⟩),fun _=>rfl⟩
             | false =>
               by_cases hK3:0 < K
               · go_wp2_with fail
                 go_roundg (gk - 1)
                 case measure=>have:=HJ.out;have:=HJN.out;omega
                 case rel =>
                  refine ⟨j+1,true,by have:=HJ.out;have:=HJN.out;show _=_;omega,by go_num,rfl,fun k hk=>?_,?_,hC⟩
                  · rcases Nat.lt_or_ge k j with h | h
                    · exact HS2.out k h
                    · obtain rfl:k=j:=by omega
                      exact HGD.out
                  · exact ⟨fun _=>.inr ⟨j,by omega,HPOS.out.2 hK3⟩,fun _=>rfl⟩
               · go_wp2_with fail
                 go_roundg (gk - 1)
                 case measure=>have:=HJ.out;have:=HJN.out;omega
                 case rel =>
                  refine ⟨j+1,false,by have:=HJ.out;have:=HJN.out;show _=_;omega,by go_num,rfl,fun k hk=>?_,?_,hC⟩
                  · rcases Nat.lt_or_ge k j with h | h
                    · exact HS2.out k h
                    · obtain rfl:k=j:=by omega
                      exact HGD.out
                  · refine ⟨(fun h=>by cases h),fun h=>?_⟩
                    rcases h with h | ⟨k,h1,h2⟩
                    · exact absurd (HB2.out.2 (.inl h)) (by simp)
                    · rcases Nat.lt_or_ge k j with h | h
                      · exact absurd (HB2.out.2 (.inr ⟨k,h,h2⟩)) (by simp)
                      · obtain rfl:k=j:=by omega
                        exact absurd (HPOS.out.1 h2) (by omega)
         · have hne:((j:Int) != (m:Int))=true:=by simp;omega
           have HJM:=Lib.hid hjm
           by_cases hst:ux=tx∧uy=ty
           · have HST:=Lib.hid hst
             have HDS2:=Lib.hid (show decide (ux=tx∧uy=ty)=true from decide_eq_true hst)
             clear hst hjm
             go_upto_region 11 with (fail)
             replace p0:=RP.below p0 (Below.refl _ _).drew
             replace q0:=RP.below q0 (Below.refl _ _).drew
             replace t0:=RP.below t0 (Below.refl _ _).drew
             replace X:=X.below (Below.refl _ _).drew
             replace Y:=Y.below (Below.refl _ _).drew
             replace Et:=Et.below (Below.refl _ _).drew
             replace hB:=hB.drew;replace hC:=hC.drew
             go_region_held3 (fun w'=>w'.cell? ⟨gX,0,none⟩=some (.bool s_p)∧w'.cell? ⟨gX,1,none⟩=some (.slice A_p n_p c_p)∧w'.cell? ⟨gX,2,none⟩=some (.slice B_p m_p d_p)∧w'.cell? ⟨gX,3,none⟩=some (.bool t_p)∧w'.cell? ⟨gX,4,none⟩=some (.slice E_p i_p e_p)∧w'.cell? ⟨gX,5,none⟩=some (.slice F_p j_p f_p)∧w'.cell? ⟨g2,o2,none⟩=some (.bool s_t)∧w'.cell? ⟨g2,o2+1,none⟩=some (.slice A_t n_t c_t)∧w'.cell? ⟨g2,o2+2,none⟩=some (.slice B_t m_t d_t)∧w'.cell? ⟨g2,o2+3,none⟩=some (.bool t_t)∧w'.cell? ⟨g2,o2+4,none⟩=some (.slice E_t i_t e_t)∧w'.cell? ⟨g2,o2+5,none⟩=some (.slice F_t j_t f_t))
              (first | with_reducible exact ⟨X.c0,X.c1,X.c2,X.c3,X.c4,X.c5,Et.c0,Et.c1,Et.c2,Et.c3,Et.c4,Et.c5⟩)
              (first
              | (go_at_call 22;(with_reducible refine (Qkg p0 t0 (by omega) (by omega) true HDS2.out).mono ?_);rintro e w_z ⟨rfl,hh⟩
                 (try replace p0:=p0.below hh);(try replace q0:=q0.below hh);(try replace t0:=t0.below hh);(try replace X:=X.below hh);(try replace Y:=Y.below hh);(try replace Et:=Et.below hh);replace hB:=Qai hB hh;replace hC:=Qai hC hh))
             have HF:Hid (false=R):=by
              show _=_
              cases R with
              | false=>rfl
              | true=>exact absurd (HR0.out.1 rfl) (Qji HNl.out HMN.out HJN.out (fun hg=>hg.1 (Ne.symm HJM.out) ⟨(QbW HU.out).1.trans (HST.out.1.trans (QbW HTT.out).1.symm),(QbW HU.out).2.trans (HST.out.2.trans (QbW HTT.out).2.symm)⟩))
             go_wp2_with fail
             (try rw [Exit.noGoto_ret])
             go_ret
             exact ⟨by rw [← HF.out];first | rfl | simp,hB⟩
           · have HDS2:=Lib.hid (show decide (ux=tx∧uy=ty)=false from decide_eq_false hst)
             clear hst hjm
             go_upto_region 11 with (fail)
             replace p0:=RP.below p0 (Below.refl _ _).drew
             replace q0:=RP.below q0 (Below.refl _ _).drew
             replace t0:=RP.below t0 (Below.refl _ _).drew
             replace X:=X.below (Below.refl _ _).drew
             replace Y:=Y.below (Below.refl _ _).drew
             replace Et:=Et.below (Below.refl _ _).drew
             replace hB:=hB.drew;replace hC:=hC.drew
             go_region_held3 (fun w'=>w'.cell? ⟨gX,0,none⟩=some (.bool s_p)∧w'.cell? ⟨gX,1,none⟩=some (.slice A_p n_p c_p)∧w'.cell? ⟨gX,2,none⟩=some (.slice B_p m_p d_p)∧w'.cell? ⟨gX,3,none⟩=some (.bool t_p)∧w'.cell? ⟨gX,4,none⟩=some (.slice E_p i_p e_p)∧w'.cell? ⟨gX,5,none⟩=some (.slice F_p j_p f_p)∧w'.cell? ⟨g2,o2,none⟩=some (.bool s_t)∧w'.cell? ⟨g2,o2+1,none⟩=some (.slice A_t n_t c_t)∧w'.cell? ⟨g2,o2+2,none⟩=some (.slice B_t m_t d_t)∧w'.cell? ⟨g2,o2+3,none⟩=some (.bool t_t)∧w'.cell? ⟨g2,o2+4,none⟩=some (.slice E_t i_t e_t)∧w'.cell? ⟨g2,o2+5,none⟩=some (.slice F_t j_t f_t))
              (first | with_reducible exact ⟨X.c0,X.c1,X.c2,X.c3,X.c4,X.c5,Et.c0,Et.c1,Et.c2,Et.c3,Et.c4,Et.c5⟩)
              (first
              | (go_at_call 22;(with_reducible refine (Qkg p0 t0 (by omega) (by omega) false HDS2.out).mono ?_);rintro e w_z ⟨rfl,hh⟩
                 (try replace p0:=p0.below hh);(try replace q0:=q0.below hh);(try replace t0:=t0.below hh);(try replace X:=X.below hh);(try replace Y:=Y.below hh);(try replace Et:=Et.below hh);replace hB:=Qai hB hh;replace hC:=Qai hC hh))
             go_upto_region 13 with (fail)
             replace p0:=RP.below p0 (Below.refl _ _).drew
             replace q0:=RP.below q0 (Below.refl _ _).drew
             replace t0:=RP.below t0 (Below.refl _ _).drew
             replace X:=X.below (Below.refl _ _).drew
             replace Y:=Y.below (Below.refl _ _).drew
             replace Et:=Et.below (Below.refl _ _).drew
             replace hB:=hB.drew;replace hC:=hC.drew
             go_region_held3 (fun w'=>w'.cell? ⟨gX,0,none⟩=some (.bool s_p)∧w'.cell? ⟨gX,1,none⟩=some (.slice A_p n_p c_p)∧w'.cell? ⟨gX,2,none⟩=some (.slice B_p m_p d_p)∧w'.cell? ⟨gX,3,none⟩=some (.bool t_p)∧w'.cell? ⟨gX,4,none⟩=some (.slice E_p i_p e_p)∧w'.cell? ⟨gX,5,none⟩=some (.slice F_p j_p f_p)∧w'.cell? ⟨gY,0,none⟩=some (.bool s_q)∧w'.cell? ⟨gY,1,none⟩=some (.slice A_q n_q c_q)∧w'.cell? ⟨gY,2,none⟩=some (.slice B_q m_q d_q)∧w'.cell? ⟨gY,3,none⟩=some (.bool t_q)∧w'.cell? ⟨gY,4,none⟩=some (.slice E_q i_q e_q)∧w'.cell? ⟨gY,5,none⟩=some (.slice F_q j_q f_q)∧w'.cell? ⟨g2,o2,none⟩=some (.bool s_t)∧w'.cell? ⟨g2,o2+1,none⟩=some (.slice A_t n_t c_t)∧w'.cell? ⟨g2,o2+2,none⟩=some (.slice B_t m_t d_t)∧w'.cell? ⟨g2,o2+3,none⟩=some (.bool t_t)∧w'.cell? ⟨g2,o2+4,none⟩=some (.slice E_t i_t e_t)∧w'.cell? ⟨g2,o2+5,none⟩=some (.slice F_t j_t f_t))
              (first | with_reducible exact ⟨X.c0,X.c1,X.c2,X.c3,X.c4,X.c5,Y.c0,Y.c1,Y.c2,Y.c3,Y.c4,Y.c5,Et.c0,Et.c1,Et.c2,Et.c3,Et.c4,Et.c5⟩)
              (first
              | (go_at_call 56;(with_reducible refine (Qh0 p0 q0 t0 (by omega) K HK.out).mono ?_);rintro e w_o ⟨rfl,hh⟩
                 (try replace p0:=p0.below hh);(try replace q0:=q0.below hh);(try replace t0:=t0.below hh);(try replace X:=X.below hh);(try replace Y:=Y.below hh);(try replace Et:=Et.below hh);replace hB:=Qai hB hh;replace hC:=Qai hC hh))
             by_cases hK2:K < 0
             · have HF : Hid (false = R) := by
                 show _=_
                 cases R with
                 | false=>rfl
                 | true=>exact absurd (HR0.out.1 rfl) (Qji HNl.out HMN.out HJN.out (fun hg=>by have h5:=hg.2;rw [HSD.out] at h5;have h6:=(Qfy _).2 h5;(try simp only at h6);rw [HK.out] at h6;omega))
               go_wp2_with fail
               (try rw [Exit.noGoto_ret])
               go_ret
               exact ⟨by rw [← HF.out];first | rfl | simp,hB⟩
             · have HGD:Hid (Qk8 l m j):=⟨fun _ h=>of_decide_eq_false HDS2.out ⟨((QbW HU.out).1.symm.trans h.1).trans (QbW HTT.out).1,((QbW HU.out).2.symm.trans h.2).trans (QbW HTT.out).2⟩,by rw [HSD.out];refine (Qfy _).1 ?_;(try simp only);rw [HK.out];omega⟩
               have HPOS:Hid (0 < Qa0 (Qca l) (Qb9 l) m j ↔ 0 < K):=by show _ ↔ _;rw [HSD.out,← HK.out];exact (Qp6 _).symm
               cases b2 with
               | true =>
                 go_wp2_with fail
                 go_roundg (gk - 1)
                 case measure=>have:=HJ.out;have:=HJN.out;omega
                 case rel =>
                  refine ⟨j+1,true,by have:=HJ.out;have:=HJN.out;show _=_;omega,by go_num,rfl,fun k hk=>?_,?_,hC⟩
                  · rcases Nat.lt_or_ge k j with h | h
                    · exact HS2.out k h
                    · obtain rfl:k=j:=by omega
                      exact HGD.out
                  · exact ⟨fun _=>(HB2.out.1 (by first | rfl | trivial)).elim .inl (fun ⟨k,h1,h2⟩=>.inr ⟨k,by omega,h2⟩),fun _=>rfl⟩
               | false =>
                 by_cases hK3:0 < K
                 · go_wp2_with fail
                   go_roundg (gk - 1)
                   case measure=>have:=HJ.out;have:=HJN.out;omega
                   case rel =>
                    refine ⟨j+1,true,by have:=HJ.out;have:=HJN.out;show _=_;omega,by go_num,rfl,fun k hk=>?_,?_,hC⟩
                    · rcases Nat.lt_or_ge k j with h | h
                      · exact HS2.out k h
                      · obtain rfl:k=j:=by omega
                        exact HGD.out
                    · exact ⟨fun _=>.inr ⟨j,by omega,HPOS.out.2 hK3⟩,fun _=>rfl⟩
                 · go_wp2_with fail
                   go_roundg (gk - 1)
                   case measure=>have:=HJ.out;have:=HJN.out;omega
                   case rel =>
                    refine ⟨j+1,false,by have:=HJ.out;have:=HJN.out;show _=_;omega,by go_num,rfl,fun k hk=>?_,?_,hC⟩
                    · rcases Nat.lt_or_ge k j with h | h
                      · exact HS2.out k h
                      · obtain rfl:k=j:=by omega
                        exact HGD.out
                    · refine ⟨(fun h=>by cases h),fun h=>?_⟩
                      rcases h with h | ⟨k,h1,h2⟩
                      · exact absurd (HB2.out.2 (.inl h)) (by simp)
                      · rcases Nat.lt_or_ge k j with h | h
                        · exact absurd (HB2.out.2 (.inr ⟨k,h,h2⟩)) (by simp)
                        · obtain rfl:k=j:=by omega
                          exact absurd (HPOS.out.1 h2) (by omega)
       · have hjl:¬ (j:Int) < (n:Int):=by omega
         obtain rfl:j=n:=by have:=HJ.out;omega
         clear hjn
         go_wp2_with fail
         go_roundg (GG - 1)
         case measure=>have:=HG.out;have:=HMN.out;omega
         case rel =>
          refine ⟨m+1,b2,by have:=HG.out;have:=HMN.out;show _=_;omega,by go_num,rfl,fun i hi k hk=>?_,?_,hB⟩
          · rcases Nat.lt_or_ge i m with h | h
            · exact HS.out i h k hk
            · obtain rfl:i=m:=by omega
              exact HS2.out k hk
          · show _ ↔ _
            rw [HB2.out]
            constructor
            · rintro (⟨i,k,h1,h2,h3⟩ | ⟨k,h2,h3⟩)
              · exact ⟨i,k,by omega,h2,h3⟩
              · exact ⟨m,k,by omega,h2,h3⟩
            · rintro ⟨i,k,h1,h2,h3⟩
              rcases Nat.lt_or_ge i m with h | h
              · exact .inl ⟨i,k,h,h2,h3⟩
              · obtain rfl:i=m:=by omega
                exact .inr ⟨k,h2,h3⟩
  · have hlt:¬ (m:Int) < (n:Int):=by omega
    obtain rfl:m=n:=by have:=HG.out;omega
    have HALL:=Lib.hid (Qoi HNl.out HS.out HBB.out)
    clear hmn
    by_cases h3:3≤m
    · have h3':(3:Int)≤(m:Int):=by omega
      have HF:Hid (b=R):=by
       have h9:R=true ↔ b=true:=by rw [HR0.out,← HALL.out];exact ⟨fun h=>h.2,fun h=>⟨h3,h⟩⟩
       show b=R
       cases b <;> cases R <;> simp_all
      clear h3
      go_wp2_with fail
      (try rw [Exit.noGoto_ret])
      go_ret
      exact ⟨by rw [← HF.out];first | rfl | simp,hB⟩
    · have h3':¬ (3:Int)≤(m:Int):=by omega
      have HF:Hid (false=R):=by
       show _=_
       cases R with
       | false=>rfl
       | true=>exact absurd (HALL.out.2 (HR0.out.1 rfl)).1 h3
      clear h3
      go_wp2_with fail
      (try rw [Exit.noGoto_ret])
      go_ret
      exact ⟨by rw [← HF.out];first | rfl | simp,hB⟩
end
section
open Go Go.RowKit
def Qm2 (a b:Rat):Rat:=if b < a then b else a
def Ql5 (a b:Rat):Rat:=if a < b then b else a
theorem cmpQ_lt0 {v u:Rat}:Qco v u < 0 ↔ v < u:=by
 unfold Qco
 split
 · rename_i h;exact ⟨fun _=>h,fun _=>by decide⟩
 · rename_i h;exact ⟨fun e=>absurd e (by split <;> decide),fun e=>absurd e h⟩
theorem cmpQ_gt0 {v u:Rat}:0 < Qco v u ↔ u < v:=by
 have e:Qco v u=-Qco u v:=QiA u v
 have h:=cmpQ_lt0 (v:=u) (u:=v)
 rw [← h,e]
 omega
theorem Qqb {k:Nat} {x y:Rat} (a:RQ w s_a A_a n_a c_a B_a m_a d_a x k) (b:RQ w s_b A_b n_b c_b B_b m_b d_b y k) (hk:k≤10000) (h:¬ y < x) :
 Calls Tryz.prog 38 #[.agg #[.bool s_a,.slice A_a n_a c_a,.slice B_a m_a d_a],.agg #[.bool s_b,.slice A_b n_b c_b,.slice B_b m_b d_b]] w (Qa4 w x k):=by
 obtain ⟨K,hK,h0⟩:∃ K,Qco y x=K∧decide (K < 0)=false:=⟨_,rfl,decide_eq_false (fun e=>h (cmpQ_lt0.1 e))⟩
 have HK:=Lib.hid hK;clear hK h
 go_enter Tryz.func38,Tryz.ntmps38
 go_wp2_with fail
 generalize hW:World.alloc _ _=W
 obtain ⟨hb,XA,XB,Z,hzW⟩:=Qcl hW;clear hW;replace a:=a.below hb;replace b:=b.below hb;obtain ⟨xa0,xa1,xa2⟩:=XA.all;obtain ⟨xb0,xb1,xb2⟩:=XB.all;have zf0:=Z.f0;have zf1:=Z.f1;have zf2:=Z.f2;obtain ⟨z0,z1,z2⟩:=Z.all
 go_wp2_with (first
  | (go_at_call 58;(with_reducible refine (Qj0 b a hk hk).mono ?_);rintro e w_z ⟨rfl,hh⟩
     rw [HK.out];(try replace a:=a.below hh);(try replace b:=b.below hh);(try replace XA:=XA.below hh);(try replace XB:=XB.below hh);(try replace Z:=Z.below hh);replace hb:=Qai hb hh;obtain ⟨xa0,xa1,xa2⟩:=XA.all;obtain ⟨xb0,xb1,xb2⟩:=XB.all;have zf0:=Z.f0;have zf1:=Z.f1;have zf2:=Z.f2;obtain ⟨z0,z1,z2⟩:=Z.all))
 have Z2:=Z.set3 (.bool s_a) (.slice A_a n_a c_a) (.slice B_a m_a d_a)
 obtain ⟨g0,g1,g2⟩:=Z2.all
 refine bodyPost_ret (v:=.agg #[.bool s_a,.slice A_a n_a c_a,.slice B_a m_a d_a]) (by simp [results,Tryz.results38,go_sem,g0,g1,g2]) rfl ?_
 exact ⟨s_a,A_a,n_a,c_a,B_a,m_a,d_a,rfl,a.set3 Z _ _ _,Qak hb (by omega) _ _ _⟩
theorem QqE {k:Nat} {x y:Rat} (a:RQ w s_a A_a n_a c_a B_a m_a d_a x k) (b:RQ w s_b A_b n_b c_b B_b m_b d_b y k) (hk:k≤10000) (h:y < x) :
 Calls Tryz.prog 38 #[.agg #[.bool s_a,.slice A_a n_a c_a,.slice B_a m_a d_a],.agg #[.bool s_b,.slice A_b n_b c_b,.slice B_b m_b d_b]] w (Qa4 w y k):=by
 obtain ⟨K,hK,h0⟩:∃ K,Qco y x=K∧decide (K < 0)=true:=⟨_,rfl,decide_eq_true (cmpQ_lt0.2 h)⟩
 have HK:=Lib.hid hK;clear hK h
 go_enter Tryz.func38,Tryz.ntmps38
 go_wp2_with fail
 generalize hW:World.alloc _ _=W
 obtain ⟨hb,XA,XB,Z,hzW⟩:=Qcl hW;clear hW;replace a:=a.below hb;replace b:=b.below hb;obtain ⟨xa0,xa1,xa2⟩:=XA.all;obtain ⟨xb0,xb1,xb2⟩:=XB.all;have zf0:=Z.f0;have zf1:=Z.f1;have zf2:=Z.f2;obtain ⟨z0,z1,z2⟩:=Z.all
 go_wp2_with (first
  | (go_at_call 58;(with_reducible refine (Qj0 b a hk hk).mono ?_);rintro e w_z ⟨rfl,hh⟩
     rw [HK.out];(try replace a:=a.below hh);(try replace b:=b.below hh);(try replace XA:=XA.below hh);(try replace XB:=XB.below hh);(try replace Z:=Z.below hh);replace hb:=Qai hb hh;obtain ⟨xa0,xa1,xa2⟩:=XA.all;obtain ⟨xb0,xb1,xb2⟩:=XB.all;have zf0:=Z.f0;have zf1:=Z.f1;have zf2:=Z.f2;obtain ⟨z0,z1,z2⟩:=Z.all))
 have Z2:=Z.set3 (.bool s_b) (.slice A_b n_b c_b) (.slice B_b m_b d_b)
 obtain ⟨g0,g1,g2⟩:=Z2.all
 refine bodyPost_ret (v:=.agg #[.bool s_b,.slice A_b n_b c_b,.slice B_b m_b d_b]) (by simp [results,Tryz.results38,go_sem,g0,g1,g2]) rfl ?_
 exact ⟨s_b,A_b,n_b,c_b,B_b,m_b,d_b,rfl,b.set3 Z _ _ _,Qak hb (by omega) _ _ _⟩
theorem rmin3 {k:Nat} {x y:Rat} (a:RQ w s_a A_a n_a c_a B_a m_a d_a x k) (b:RQ w s_b A_b n_b c_b B_b m_b d_b y k) (hk:k≤10000):Calls Tryz.prog 38 #[.agg #[.bool s_a,.slice A_a n_a c_a,.slice B_a m_a d_a],.agg #[.bool s_b,.slice A_b n_b c_b,.slice B_b m_b d_b]] w (Qa4 w (Qm2 x y) k):=by
 unfold Qm2
 split
 · rename_i h;exact QqE a b hk h
 · rename_i h;exact Qqb a b hk h
theorem Qrm {k:Nat} {x y:Rat} (a:RQ w s_a A_a n_a c_a B_a m_a d_a x k) (b:RQ w s_b A_b n_b c_b B_b m_b d_b y k) (hk:k≤10000) (h:¬ x < y) :
 Calls Tryz.prog 39 #[.agg #[.bool s_a,.slice A_a n_a c_a,.slice B_a m_a d_a],.agg #[.bool s_b,.slice A_b n_b c_b,.slice B_b m_b d_b]] w (Qa4 w x k):=by
 obtain ⟨K,hK,h0⟩:∃ K,Qco y x=K∧decide (0 < K)=false:=⟨_,rfl,decide_eq_false (fun e=>h (cmpQ_gt0.1 e))⟩
 have HK:=Lib.hid hK;clear hK h
 go_enter Tryz.func39,Tryz.ntmps39
 go_wp2_with fail
 generalize hW:World.alloc _ _=W
 obtain ⟨hb,XA,XB,Z,hzW⟩:=Qcl hW;clear hW;replace a:=a.below hb;replace b:=b.below hb;obtain ⟨xa0,xa1,xa2⟩:=XA.all;obtain ⟨xb0,xb1,xb2⟩:=XB.all;have zf0:=Z.f0;have zf1:=Z.f1;have zf2:=Z.f2;obtain ⟨z0,z1,z2⟩:=Z.all
 go_wp2_with (first
  | (go_at_call 58;(with_reducible refine (Qj0 b a hk hk).mono ?_);rintro e w_z ⟨rfl,hh⟩
     rw [HK.out];(try replace a:=a.below hh);(try replace b:=b.below hh);(try replace XA:=XA.below hh);(try replace XB:=XB.below hh);(try replace Z:=Z.below hh);replace hb:=Qai hb hh;obtain ⟨xa0,xa1,xa2⟩:=XA.all;obtain ⟨xb0,xb1,xb2⟩:=XB.all;have zf0:=Z.f0;have zf1:=Z.f1;have zf2:=Z.f2;obtain ⟨z0,z1,z2⟩:=Z.all))
 have Z2:=Z.set3 (.bool s_a) (.slice A_a n_a c_a) (.slice B_a m_a d_a)
 obtain ⟨g0,g1,g2⟩:=Z2.all
 refine bodyPost_ret (v:=.agg #[.bool s_a,.slice A_a n_a c_a,.slice B_a m_a d_a]) (by simp [results,Tryz.results39,go_sem,g0,g1,g2]) rfl ?_
 exact ⟨s_a,A_a,n_a,c_a,B_a,m_a,d_a,rfl,a.set3 Z _ _ _,Qak hb (by omega) _ _ _⟩
theorem QqY {k:Nat} {x y:Rat} (a:RQ w s_a A_a n_a c_a B_a m_a d_a x k) (b:RQ w s_b A_b n_b c_b B_b m_b d_b y k) (hk:k≤10000) (h:x < y) :
 Calls Tryz.prog 39 #[.agg #[.bool s_a,.slice A_a n_a c_a,.slice B_a m_a d_a],.agg #[.bool s_b,.slice A_b n_b c_b,.slice B_b m_b d_b]] w (Qa4 w y k):=by
 obtain ⟨K,hK,h0⟩:∃ K,Qco y x=K∧decide (0 < K)=true:=⟨_,rfl,decide_eq_true (cmpQ_gt0.2 h)⟩
 have HK:=Lib.hid hK;clear hK h
 go_enter Tryz.func39,Tryz.ntmps39
 go_wp2_with fail
 generalize hW:World.alloc _ _=W
 obtain ⟨hb,XA,XB,Z,hzW⟩:=Qcl hW;clear hW;replace a:=a.below hb;replace b:=b.below hb;obtain ⟨xa0,xa1,xa2⟩:=XA.all;obtain ⟨xb0,xb1,xb2⟩:=XB.all;have zf0:=Z.f0;have zf1:=Z.f1;have zf2:=Z.f2;obtain ⟨z0,z1,z2⟩:=Z.all
 go_wp2_with (first
  | (go_at_call 58;(with_reducible refine (Qj0 b a hk hk).mono ?_);rintro e w_z ⟨rfl,hh⟩
     rw [HK.out];(try replace a:=a.below hh);(try replace b:=b.below hh);(try replace XA:=XA.below hh);(try replace XB:=XB.below hh);(try replace Z:=Z.below hh);replace hb:=Qai hb hh;obtain ⟨xa0,xa1,xa2⟩:=XA.all;obtain ⟨xb0,xb1,xb2⟩:=XB.all;have zf0:=Z.f0;have zf1:=Z.f1;have zf2:=Z.f2;obtain ⟨z0,z1,z2⟩:=Z.all))
 have Z2:=Z.set3 (.bool s_b) (.slice A_b n_b c_b) (.slice B_b m_b d_b)
 obtain ⟨g0,g1,g2⟩:=Z2.all
 refine bodyPost_ret (v:=.agg #[.bool s_b,.slice A_b n_b c_b,.slice B_b m_b d_b]) (by simp [results,Tryz.results39,go_sem,g0,g1,g2]) rfl ?_
 exact ⟨s_b,A_b,n_b,c_b,B_b,m_b,d_b,rfl,b.set3 Z _ _ _,Qak hb (by omega) _ _ _⟩
theorem rmax3 {k:Nat} {x y:Rat} (a:RQ w s_a A_a n_a c_a B_a m_a d_a x k) (b:RQ w s_b A_b n_b c_b B_b m_b d_b y k) (hk:k≤10000):Calls Tryz.prog 39 #[.agg #[.bool s_a,.slice A_a n_a c_a,.slice B_a m_a d_a],.agg #[.bool s_b,.slice A_b n_b c_b,.slice B_b m_b d_b]] w (Qa4 w (Ql5 x y) k):=by
 unfold Ql5
 split
 · rename_i h;exact QqY a b hk h
 · rename_i h;exact Qrm a b hk h
end
section
open Go Go.RowKit
theorem Qnl (l:List Rat) (x:Rat):QhL (l ++ [x])=QhL l+x:=by
 rw [Qf2]
 show QhL l+(x+0)=_
 rw [Rat.add_zero]
theorem QgT (l:List (Rat × Rat)):∀ m:Nat,m≤l.length→Qgw (Qas l) m=QhL ((QcW l).take m)
 | 0,_=>by
   rw [List.take_zero]
   show Rat.divInt 0 1=0
   decide +kernel
 | m+1,h=>by
   have hl:m < (QcW l).length:=by rw [QdV];omega
   obtain ⟨u,hu⟩:∃ u,(Qas l)[m]?=some u:=by
    rw [QcE (by omega)]
    exact ⟨_,List.getElem?_eq_getElem (by omega)⟩
   obtain ⟨v,hv⟩:∃ v,(Qas l)[m+1]?=some v:=by
    rw [QfI (by omega)]
    exact ⟨_,List.getElem?_eq_getElem (Nat.mod_lt _ (by omega))⟩
   rw [Qkw hu hv,QgT l m (by omega),List.take_succ_eq_append_getElem hl,Qnl]
   have:=Qg1 hu hv
   rw [List.getElem?_eq_getElem hl] at this
   rw [Option.some.inj this]
theorem Qhd (l:List (Rat × Rat)):Qgw (Qas l) l.length*Rat.divInt 1 2=Qhu l:=by
 unfold Qhu
 rw [QgT l l.length (Nat.le_refl _),List.take_of_length_le (by rw [QdV];exact Nat.le_refl _)]
def BoxTo (l:List (Rat × Rat)) (m:Nat) (x0 y0 x1 y1:Rat):Prop :=
 (∃ (i:Nat) (u:Rat × Rat),l[i]?=some u∧u.1=x0)∧(∃ (i:Nat) (u:Rat × Rat),l[i]?=some u∧u.2=y0)∧(∃ (i:Nat) (u:Rat × Rat),l[i]?=some u∧u.1=x1)∧(∃ (i:Nat) (u:Rat × Rat),l[i]?=some u∧u.2=y1) ∧
 ∀ (i:Nat) (u:Rat × Rat),i < m→l[i]?=some u→x0≤u.1∧y0≤u.2∧u.1≤x1∧u.2≤y1
theorem BoxTo.start {l:List (Rat × Rat)} {u:Rat × Rat} (h:l[0]?=some u):BoxTo l 0 u.1 u.2 u.1 u.2 :=
 ⟨⟨0,u,h,rfl⟩,⟨0,u,h,rfl⟩,⟨0,u,h,rfl⟩,⟨0,u,h,rfl⟩,fun i _ hi=>absurd hi (by omega)⟩
theorem Qmt (a b:Rat):Qm2 a b≤a∧Qm2 a b≤b:=by
 unfold Qm2
 split
 · rename_i h;exact ⟨Rat.le_of_lt h,Rat.le_refl⟩
 · rename_i h;exact ⟨Rat.le_refl,by grind⟩
theorem Qml (a b:Rat):a≤Ql5 a b∧b≤Ql5 a b:=by
 unfold Ql5
 split
 · rename_i h;exact ⟨Rat.le_of_lt h,Rat.le_refl⟩
 · rename_i h;exact ⟨Rat.le_refl,by grind⟩
theorem BoxTo.step {l:List (Rat × Rat)} {m:Nat} {x0 y0 x1 y1:Rat} (h:BoxTo l m x0 y0 x1 y1) {u:Rat × Rat} (hu:l[m]?=some u):BoxTo l (m+1) (Qm2 x0 u.1) (Qm2 y0 u.2) (Ql5 x1 u.1) (Ql5 y1 u.2):=by
 obtain ⟨a,b,c,d,e⟩:=h
 have one:∀ {f:Rat × Rat→Rat} {x z:Rat},(∃ (i:Nat) (v:Rat × Rat),l[i]?=some v∧f v=x)→(z=x ∨ z=f u)→∃ (i:Nat) (v:Rat × Rat),l[i]?=some v∧f v=z:=by
  rintro f x z ⟨i,v,h1,h2⟩ (h3 | h3)
  · exact ⟨i,v,h1,by rw [h3];exact h2⟩
  · exact ⟨m,u,hu,h3.symm⟩
 refine ⟨one a ?_,one b ?_,one c ?_,one d ?_,fun i v hi hv=>?_⟩
 · unfold Qm2;split;exact .inr rfl;exact .inl rfl
 · unfold Qm2;split;exact .inr rfl;exact .inl rfl
 · unfold Ql5;split;exact .inr rfl;exact .inl rfl
 · unfold Ql5;split;exact .inr rfl;exact .inl rfl
 · have m0:=Qmt x0 u.1
   have m1:=Qmt y0 u.2;have m2:=Qml x1 u.1;have m3:=Qml y1 u.2
   rcases Nat.lt_or_ge i m with h | h
   · obtain ⟨q0,q1,q2,q3⟩:=e i v h hv
     exact ⟨Rat.le_trans m0.1 q0,Rat.le_trans m1.1 q1,Rat.le_trans q2 m2.1,Rat.le_trans q3 m3.1⟩
   · obtain rfl:i=m:=by omega
     obtain rfl:v=u:=Option.some.inj (hv.symm.trans hu)
     exact ⟨m0.2,m1.2,m2.2,m3.2⟩
theorem BoxTo.all {l:List (Rat × Rat)} {x0 y0 x1 y1:Rat} (h:BoxTo l l.length x0 y0 x1 y1):QeU l x0 y0 x1 y1 :=
 ⟨h.1,h.2.1,h.2.2.1,h.2.2.2.1,fun i u hu=>h.2.2.2.2 i u (List.getElem?_eq_some_iff.1 hu).1 hu⟩
theorem Qlv {l:List (Rat × Rat)} {x0 y0 x1 y1 a0 b0 a1 b1:Rat} (h:QeU l x0 y0 x1 y1) (k:QeU l a0 b0 a1 b1):x0=a0∧y0=b0∧x1=a1∧y1=b1:=by
 obtain ⟨⟨i0,u0,h0,e0⟩,⟨i1,u1,h1,e1⟩,⟨i2,u2,h2,e2⟩,⟨i3,u3,h3,e3⟩,h4⟩:=h
 obtain ⟨⟨j0,v0,k0,f0⟩,⟨j1,v1,k1,f1⟩,⟨j2,v2,k2,f2⟩,⟨j3,v3,k3,f3⟩,k4⟩:=k
 have p0:=k4 i0 u0 h0;have p1:=k4 i1 u1 h1;have p2:=k4 i2 u2 h2;have p3:=k4 i3 u3 h3;have q0:=h4 j0 v0 k0;have q1:=h4 j1 v1 k1;have q2:=h4 j2 v2 k2;have q3:=h4 j3 v3 k3
 subst e0 e1 e2 e3 f0 f1 f2 f3
 exact ⟨Rat.le_antisymm q0.1 p0.1,Rat.le_antisymm q1.2.1 p1.2.1,Rat.le_antisymm p2.2.2.1 q2.2.2.1,Rat.le_antisymm p3.2.2.2 q3.2.2.2⟩
end
section
open Go
theorem QqL {P:Program} {o:Oper} {a:Act} {K K':Act→World→Prop} {N:Act→World→Prop} {Q:Exit→Act→World→Prop} (h:∀ a w,K a w→K' a w)
 (hh:o.wp P a w K (Exit.then N Q)):o.wp P a w K' Q:=by
 unfold Oper.wp at *
 generalize (execOp a.eval o).run P w=r at *
 cases r with
 | ok n w' =>
   cases n <;> simp only [Oper.upon] at hh ⊢ <;>
    first
     | exact h _ _ hh
     | exact Calls.mono hh (fun e w'' he=>by cases e <;> first | exact h _ _ he | exact he)
     | exact Rows.mono hh (fun _ _ he=>h _ _ he)
 | halt x w'=>cases x <;> simp only [Oper.upon] at hh ⊢ <;> exact hh
def QjE (ops:Array Oper):Bool :=
 (ops.all fun o=>o.guard.isNone) &&
 (List.range (ops.size - 1)).all fun i=>(List.range ops.size).any fun j=>decide (i < j) && ((ops[j]?).map fun o=>o.after.any fun e=>Region.binds .any e && decide (e.on=i)).getD false
section
variable {P:Program} {ops:Array Oper} {Q:Exit→Act→World→Prop}
theorem Qid {i:Nat} {o:Oper} (h:QjE ops=true) (ho:ops[i]?=some o):o.guard=none:=by
 unfold QjE at h
 rw [Bool.and_eq_true] at h
 have h1:=Array.all_eq_true.1 h.1 i (Array.getElem?_eq_some_iff.1 ho).1
 rw [(Array.getElem?_eq_some_iff.1 ho).2] at h1
 simpa using h1
theorem asked {i:Nat} (h:QjE ops=true) (hi:i+1 < ops.size):∃ j o e,i < j∧ops[j]?=some o∧e ∈ o.after∧Region.binds .any e=true∧e.on=i:=by
 unfold QjE at h
 rw [Bool.and_eq_true] at h
 have h1:=List.all_eq_true.1 h.2 i (by rw [List.mem_range];omega)
 obtain ⟨j,_,h2⟩:=List.any_eq_true.1 h1
 rw [Bool.and_eq_true] at h2
 cases ho:ops[j]? with
 | none=>rw [ho] at h2;simp at h2
 | some o =>
   rw [ho] at h2
   simp only [Option.map_some,Option.getD_some] at h2
   obtain ⟨m,hm,h3⟩:=Array.any_eq_true.1 h2.2
   rw [Bool.and_eq_true] at h3
   exact ⟨j,o,_,of_decide_eq_true h2.1,ho,Array.getElem_mem hm,h3.1,of_decide_eq_true h3.2⟩
def Shut (ops:Array Oper) (listed:Array Bool):Prop :=
 ∀ (j:Nat) (o:Oper),ops[j]?=some o→listed.getD j false=true→∀ e ∈ o.after,Region.binds .any e=true→listed.getD e.on false=true
theorem Qkb {listed:Array Bool} (hl:QjE ops=true) (hs:Shut ops listed) (h:listed.getD (ops.size - 1) false=true):∀ k i,i+k+1=ops.size→listed.getD i false=true:=by
 intro k
 induction k using Nat.strongRecOn with
 | ind k ih =>
   intro i hi
   rcases Nat.eq_zero_or_pos k with h0 | h0
   · subst h0
     rw [show i=ops.size - 1 by omega];exact h
   · obtain ⟨j,o,e,hij,ho,he,hb,rfl⟩:=asked (i:=i) hl (by omega)
     have hj:=(Array.getElem?_eq_some_iff.1 ho).1
     exact hs j o ho (ih (ops.size - 1 - j) (by omega) j (by omega)) e he hb
theorem QhZ {listed:Array Bool} {i:Nat} {o:Oper} (hs:Shut ops listed) (hi:i < listed.size) (ho:ops[i]?=some o) (hall:∀ e ∈ o.after,Region.binds .any e=true→listed.getD e.on false=true) :
 Shut ops (listed.setIfInBounds i true):=by
 have up:∀ k,listed.getD k false=true→(listed.setIfInBounds i true).getD k false=true:=by
  intro k hk
  by_cases hki:k=i
  · subst hki;simp [hi]
  · simpa [Array.getD_eq_getD_getElem?,Ne.symm hki] using hk
 intro j o' ho' hj e he hb
 by_cases hji:j=i
 · subst hji
   cases Option.some.inj (ho.symm.trans ho')
   exact up _ (hall e he hb)
 · refine up _ (hs j o' ho' ?_ e he hb)
   simpa [Array.getD_eq_getD_getElem?,Ne.symm hji] using hj
theorem QmG {i:Nat} (h:i+1 < ops.size):ops.pop[i]?=ops[i]?:=by
 rw [Array.getElem?_pop];simp;omega
theorem Qld {o:Oper} (hl:QjE ops=true) (hb:QjV ops=true) (ho:ops[ops.size - 1]?=some o) :
 ∀ (fuel:Nat) (listed:Array Bool) (a:Act) (w:World),listed.size=ops.size→Shut ops listed→listed.getD (ops.size - 1) false=false →
  wpAny P .any ops.pop (Exit.then (fun a w=>o.wp P a w (Q .normal) Q) Q) fuel listed.pop a w→wpAny P .any ops Q (fuel+1) listed a w:=by
 have hn:ops.size - 1 < ops.size:=(Array.getElem?_eq_some_iff.1 ho).1
 have hg:=Qid hl ho
 have hw:∀ a:Act,Region.wanted o (yielded ops a.tmps)=true:=by intro a;unfold Region.wanted;rw [hg]
 have atn:∀ (K:Act→World→Prop) (a:Act) (w:World),(∀ a w,Q .normal a w→K a w)→o.wp P a w (Q .normal) Q→wpOp P ops Q (ops.size - 1) K a w:=by
  intro K a w h1 h2
  unfold wpOp
  rw [ho]
  simp only [hw,if_true]
  exact .inl (Oper.wp_mono h1 h2)
 have lp:∀ {listed:Array Bool},listed.size=ops.size→∀ {i:Nat} (d:Bool),i+1 < ops.size→listed.pop.getD i d=listed.getD i d:=by
  intro listed hs i d hi
  have h1:i < listed.size - 1:=by omega
  simp only [Array.getD_eq_getD_getElem?,Array.getElem?_pop]
  rw [if_pos h1]
 have setall:∀ {listed:Array Bool},listed.size=ops.size→(∀ i,i+1 < ops.size→listed.getD i false=true)→Region.ready .any ops (listed.setIfInBounds (ops.size - 1) true)=[]:=by
  intro listed hs h
  rw [List.eq_nil_iff_forall_not_mem]
  intro i hi
  obtain ⟨h1,o',ho',_⟩:=mem_ready.1 hi
  have hi1:=(Array.getElem?_eq_some_iff.1 ho').1
  by_cases hin:i=ops.size - 1
  · subst hin
    have hin':ops.size - 1 < listed.size:=by omega
    simp [hin'] at h1
  · have h2:=h i (by omega)
    have h3:i < listed.size:=by omega
    simp only [Array.getD_eq_getD_getElem?,Array.getElem?_eq_getElem h3,Option.getD_some] at h2
    simp [Array.getD_eq_getD_getElem?,Ne.symm hin,h3,h2] at h1
 have goAll:∀ (fuel:Nat) (listed:Array Bool) (a:Act) (w:World),listed.size=ops.size→(∀ i,i+1 < ops.size→listed.getD i false=true)→Q .normal a w→wpAny P .any ops Q fuel (listed.setIfInBounds (ops.size - 1) true) a w:=by
  intro fuel listed a w hs h hq
  have h0:=setall hs h
  cases fuel with
  | zero=>exact ⟨h0,hq⟩
  | succ f =>
    refine ⟨fun _=>hq,fun i hi=>?_⟩
    rw [h0] at hi
    cases hi
 have part1:∀ {listed:Array Bool},listed.size=ops.size→listed.getD (ops.size - 1) false=false→¬ Region.ready .any ops listed=[]:=by
  intro listed hs h hr
  have:=QgU hs hb hr (ops.size - 1) hn
  rw [h] at this
  cases this
 have popnil:∀ {listed:Array Bool},listed.size=ops.size→(∀ i,i+1 < ops.size→listed.getD i false=true)→Region.ready .any ops.pop listed.pop=[]:=by
  intro listed hs h
  rw [List.eq_nil_iff_forall_not_mem]
  intro i hi
  obtain ⟨h1,o',ho',_⟩:=mem_ready.1 hi
  have hi1:=(Array.getElem?_eq_some_iff.1 ho').1
  rw [Array.size_pop] at hi1
  rw [lp hs true (by omega)] at h1
  have h2:=h i (by omega)
  have h3:i < listed.size:=by omega
  simp only [Array.getD_eq_getD_getElem?,Array.getElem?_eq_getElem h3,Option.getD_some] at h1 h2
  rw [h1] at h2
  cases h2
 intro fuel
 induction fuel with
 | zero =>
   intro listed a w hs hS hL h
   obtain ⟨hr,hq⟩:=h
   refine ⟨fun hr=>absurd hr (part1 hs hL),fun i hi=>?_⟩
   obtain ⟨h1,o',ho',hall⟩:=mem_ready.1 hi
   have hi1:=(Array.getElem?_eq_some_iff.1 ho').1
   by_cases hin:i=ops.size - 1
   · subst hin
     cases Option.some.inj (ho.symm.trans ho')
     have hall2:∀ i,i+1 < ops.size→listed.getD i false=true:=by
      have hS2:=QhZ hS (by omega) ho hall
      intro i hi
      have:=Qkb hl hS2 (by rw [Array.getD_eq_getD_getElem?];simp;omega) (ops.size - 1 - i) i (by omega)
      simpa [Array.getD_eq_getD_getElem?,show ¬ ops.size - 1=i by omega] using this
     exact atn _ _ _ (fun a w hq=>goAll 0 listed a w hs hall2 hq) hq
   · exfalso
     have:i ∈ Region.ready .any ops.pop listed.pop:=by
      refine mem_ready.2 ⟨by rw [lp hs true (by omega)];exact h1,o',by rw [QmG (by omega)];exact ho',fun e he hbe=>?_⟩
      have h5:=hall e he hbe
      have h6:e.on+1 < ops.size:=by
       have h7:=List.all_eq_true.1 hb i (by simpa using hi1)
       rw [ho'] at h7
       simp only [Option.map_some,Option.getD_some] at h7
       obtain ⟨k,hk,rfl⟩:=Array.mem_iff_getElem.1 he
       have h8:=Array.all_eq_true.1 h7 k hk;rw [hbe] at h8
       have:(o'.after[k]).on < i:=of_decide_eq_true (by simpa using h8)
       omega
      rw [lp hs false h6];exact h5
     rw [hr] at this
     cases this
 | succ f ih =>
   intro listed a w hs hS hL h
   obtain ⟨h0,hst⟩:=h
   refine ⟨fun hr=>absurd hr (part1 hs hL),fun i hi=>?_⟩
   obtain ⟨h1,o',ho',hall⟩:=mem_ready.1 hi
   have hi1:=(Array.getElem?_eq_some_iff.1 ho').1
   by_cases hin:i=ops.size - 1
   · subst hin
     cases Option.some.inj (ho.symm.trans ho')
     have hall2:∀ i,i+1 < ops.size→listed.getD i false=true:=by
      have hS2:=QhZ hS (by omega) ho hall
      intro i hi
      have:=Qkb hl hS2 (by rw [Array.getD_eq_getD_getElem?];simp;omega) (ops.size - 1 - i) i (by omega)
      simpa [Array.getD_eq_getD_getElem?,show ¬ ops.size - 1=i by omega] using this
     exact atn _ _ _ (fun a w hq=>goAll _ listed a w hs hall2 hq) (h0 (popnil hs hall2))
   · have hm : i ∈ Region.ready .any ops.pop listed.pop := by
       refine mem_ready.2 ⟨by rw [lp hs true (by omega)];exact h1,o',by rw [QmG (by omega)];exact ho',fun e he hbe=>?_⟩
       have h5:=hall e he hbe
       have h6:e.on+1 < ops.size:=by
        have h7:=List.all_eq_true.1 hb i (by simpa using hi1)
        rw [ho'] at h7
        simp only [Option.map_some,Option.getD_some] at h7
        obtain ⟨k,hk,rfl⟩:=Array.mem_iff_getElem.1 he
        have h8:=Array.all_eq_true.1 h7 k hk;rw [hbe] at h8
        have:(o'.after[k]).on < i:=of_decide_eq_true (by simpa using h8)
        omega
       rw [lp hs false h6];exact h5
     have h9:=hst i hm
     unfold wpOp at h9 ⊢
     rw [QmG (by omega),ho'] at h9
     rw [ho']
     have hg':=Qid hl ho'
     have hw1:∀ ops':Array Oper,Region.wanted o' (yielded ops' a.tmps)=true:=by intro ops';unfold Region.wanted;rw [hg']
     simp only [hw1,if_true] at h9 ⊢
     have hpop:listed.pop.setIfInBounds i true=(listed.setIfInBounds i true).pop:=by
      apply Array.ext
      · simp
      · intro j h1 h2
        have h3:j < listed.size:=by simp at h1;omega
        rw [Array.getElem_pop,Array.getElem_setIfInBounds (by simpa using h1),Array.getElem_setIfInBounds h3,Array.getElem_pop]
     refine h9.imp (fun h=>QqL (fun a' w' hK=>ih _ a' w' (by simpa using hs) (QhZ hS (by omega) ho' hall) ?_ (by rw [← hpop];exact hK)) h) id
     simpa [Array.getD_eq_getD_getElem?,hin] using hL
theorem repF (n j:Nat):(Array.replicate n false).getD j false=false:=by
 rw [Array.getD_eq_getD_getElem?]
 cases h:(Array.replicate n false)[j]? with
 | none=>rfl
 | some b =>
   obtain ⟨h1,h2⟩:=Array.getElem?_eq_some_iff.1 h
   rw [Array.getElem_replicate] at h2
   rw [← h2];rfl
theorem QdN {id:Nat} {o:Oper} {a:Act} (init:Array Oper) (hi:ops.pop=init) (hm:P.follows .mixedOrders=true) (hl:QjE ops=true) (hb:QjV ops=true) (ho:ops[ops.size - 1]?=some o)
 (h:wpAny P .any init (Exit.then (fun a w=>o.wp P a w (Q .normal) Q) Q) init.size (Array.replicate init.size false) a w.drew):(Code.region id ops true).wp P Q a w:=by
 have hn:ops.size - 1 < ops.size:=(Array.getElem?_eq_some_iff.1 ho).1
 subst hi
 refine wp_region_any hm ?_
 have h1:ops.size=ops.pop.size+1:=by rw [Array.size_pop];omega
 have h2:=Qld (P:=P) (Q:=Q) hl hb ho ops.pop.size (Array.replicate ops.size false) a w.drew (by simp) (fun j o' _ hj=>by rw [repF] at hj;cases hj) (repF _ _) (by
  have:(Array.replicate ops.size false).pop=Array.replicate ops.pop.size false:=by
   apply Array.ext <;> simp
  rw [this];exact h)
 rw [← h1] at h2
 exact h2
end
end
end Go.Proofs.YtgfcofecdhodcaaGreat
