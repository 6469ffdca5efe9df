/- AreaCuts: part 16. -/
import Derived.Test.YthbhngeiiabagaaGreatKAreaCuts15
set_option linter.unusedVariables false
set_option maxRecDepth 100000
set_option maxHeartbeats 16000000
variable {w:Go.World}
variable {s_a t_a:Bool} {A_a B_a E_a F_a:Option Go.Addr} {n_a c_a m_a d_a i_a e_a j_a f_a:Nat}
variable {s_b t_b:Bool} {A_b B_b E_b F_b:Option Go.Addr} {n_b c_b m_b d_b i_b e_b j_b f_b:Nat}
variable {s_p t_p:Bool} {A_p B_p E_p F_p:Option Go.Addr} {n_p c_p m_p d_p i_p e_p j_p f_p:Nat}
variable {s_q t_q:Bool} {A_q B_q E_q F_q:Option Go.Addr} {n_q c_q m_q d_q i_q e_q j_q f_q:Nat}
namespace Go.Proofs.YthbhngeiiabagaaGreat
section
open Go Go.RowKit
def B9 (W:World) (g:Nat) (v0 v1 v2 v3 v4 v5 v6 v7 v8:Value):Prop:=W.heap[g]?=some (.cells #[v0,v1,v2,v3,v4,v5,v6,v7,v8] 67 (0,0))
section
variable {W W':World} {g:Nat} {v0 v1 v2 v3 v4 v5 v6 v7 v8:Value}
theorem B9.c0 (h:B9 W g v0 v1 v2 v3 v4 v5 v6 v7 v8):W.cell? ⟨g,0,none⟩=some v0:=by rw [cell_of_row W g 0 _ _ (0,0) h];rfl
theorem B9.c1 (h:B9 W g v0 v1 v2 v3 v4 v5 v6 v7 v8):W.cell? ⟨g,1,none⟩=some v1:=by rw [cell_of_row W g 1 _ _ (0,0) h];rfl
theorem B9.c2 (h:B9 W g v0 v1 v2 v3 v4 v5 v6 v7 v8):W.cell? ⟨g,2,none⟩=some v2:=by rw [cell_of_row W g 2 _ _ (0,0) h];rfl
theorem B9.c3 (h:B9 W g v0 v1 v2 v3 v4 v5 v6 v7 v8):W.cell? ⟨g,3,none⟩=some v3:=by rw [cell_of_row W g 3 _ _ (0,0) h];rfl
theorem B9.c4 (h:B9 W g v0 v1 v2 v3 v4 v5 v6 v7 v8):W.cell? ⟨g,4,none⟩=some v4:=by rw [cell_of_row W g 4 _ _ (0,0) h];rfl
theorem B9.c5 (h:B9 W g v0 v1 v2 v3 v4 v5 v6 v7 v8):W.cell? ⟨g,5,none⟩=some v5:=by rw [cell_of_row W g 5 _ _ (0,0) h];rfl
theorem B9.c6 (h:B9 W g v0 v1 v2 v3 v4 v5 v6 v7 v8):W.cell? ⟨g,6,none⟩=some v6:=by rw [cell_of_row W g 6 _ _ (0,0) h];rfl
theorem B9.c7 (h:B9 W g v0 v1 v2 v3 v4 v5 v6 v7 v8):W.cell? ⟨g,7,none⟩=some v7:=by rw [cell_of_row W g 7 _ _ (0,0) h];rfl
theorem B9.c8 (h:B9 W g v0 v1 v2 v3 v4 v5 v6 v7 v8):W.cell? ⟨g,8,none⟩=some v8:=by rw [cell_of_row W g 8 _ _ (0,0) h];rfl
theorem B9.all (h:B9 W g v0 v1 v2 v3 v4 v5 v6 v7 v8):W.cell? ⟨g,0,none⟩=some v0∧W.cell? ⟨g,1,none⟩=some v1∧W.cell? ⟨g,2,none⟩=some v2∧W.cell? ⟨g,3,none⟩=some v3∧W.cell? ⟨g,4,none⟩=some v4∧W.cell? ⟨g,5,none⟩=some v5∧W.cell? ⟨g,6,none⟩=some v6∧W.cell? ⟨g,7,none⟩=some v7∧W.cell? ⟨g,8,none⟩=some v8:=⟨h.c0,h.c1,h.c2,h.c3,h.c4,h.c5,h.c6,h.c7,h.c8⟩
theorem B9.f0 (h:B9 W g v0 v1 v2 v3 v4 v5 v6 v7 v8):W.frozen? ⟨g,0,none⟩=false:=frozen_of_row W g 0 _ _ h
theorem B9.f1 (h:B9 W g v0 v1 v2 v3 v4 v5 v6 v7 v8):W.frozen? ⟨g,1,none⟩=false:=frozen_of_row W g 1 _ _ h
theorem B9.f2 (h:B9 W g v0 v1 v2 v3 v4 v5 v6 v7 v8):W.frozen? ⟨g,2,none⟩=false:=frozen_of_row W g 2 _ _ h
theorem B9.f3 (h:B9 W g v0 v1 v2 v3 v4 v5 v6 v7 v8):W.frozen? ⟨g,3,none⟩=false:=frozen_of_row W g 3 _ _ h
theorem B9.f4 (h:B9 W g v0 v1 v2 v3 v4 v5 v6 v7 v8):W.frozen? ⟨g,4,none⟩=false:=frozen_of_row W g 4 _ _ h
theorem B9.f5 (h:B9 W g v0 v1 v2 v3 v4 v5 v6 v7 v8):W.frozen? ⟨g,5,none⟩=false:=frozen_of_row W g 5 _ _ h
theorem B9.f6 (h:B9 W g v0 v1 v2 v3 v4 v5 v6 v7 v8):W.frozen? ⟨g,6,none⟩=false:=frozen_of_row W g 6 _ _ h
theorem B9.f7 (h:B9 W g v0 v1 v2 v3 v4 v5 v6 v7 v8):W.frozen? ⟨g,7,none⟩=false:=frozen_of_row W g 7 _ _ h
theorem B9.f8 (h:B9 W g v0 v1 v2 v3 v4 v5 v6 v7 v8):W.frozen? ⟨g,8,none⟩=false:=frozen_of_row W g 8 _ _ h
theorem B9.lt (h:B9 W g v0 v1 v2 v3 v4 v5 v6 v7 v8):g < W.heap.size:=World.block_lt_of_cell? W _ h.c0
theorem B9.below (h:B9 W g v0 v1 v2 v3 v4 v5 v6 v7 v8) (hb:Below W.heap.size W W'):B9 W' g v0 v1 v2 v3 v4 v5 v6 v7 v8:=(hb.block g h.lt).trans h
theorem B9.alloc (h:B9 W g v0 v1 v2 v3 v4 v5 v6 v7 v8) (o:Obj):B9 (W.alloc o) g v0 v1 v2 v3 v4 v5 v6 v7 v8:=(Below.heap_alloc W o g h.lt).trans h
end
theorem B9.new' (W:World) (v0 v1 v2 v3 v4 v5 v6 v7 v8:Value) (g:Nat) (hg:g=W.heap.size):B9 (W.alloc (.cells #[v0,v1,v2,v3,v4,v5,v6,v7,v8] 67)) g v0 v1 v2 v3 v4 v5 v6 v7 v8:=by subst hg;exact heap_alloc_new W _
theorem Qj8 {e1:Operand→Value} {d1:Option Tmp} {y1:Nat} {pos:String} {af:Array Edge} {x1:Operand} {g:Nat} (h:e1 x1=.pointer (some ⟨g,0,none⟩)) :
 (execOp e1 ⟨d1,.fieldAddr 67 x1 1,y1,pos,af,none⟩).run Tryz.prog w=.ok (.value (.pointer (some ⟨g,6,none⟩))) w:=by
 go_simp
theorem QkW {e1:Operand→Value} {d1:Option Tmp} {y1:Nat} {pos:String} {af:Array Edge} {x1:Operand} {g:Nat} {v0 v1 v2 v3 v4 v5 v6 v7 v8:Value} (h:e1 x1=.pointer (some ⟨g,6,none⟩)) (Z:B9 w g v0 v1 v2 v3 v4 v5 v6 v7 v8) :
 (execOp e1 ⟨d1,.load 27 x1,y1,pos,af,none⟩).run Tryz.prog w=.ok (.value (.agg #[v6,v7,v8])) w:=by
 have c6:=Z.c6;have c7:=Z.c7;have c8:=Z.c8
 go_simp
def VQEa (V:Rat) (k:Nat) (x:Value) (w:World):Prop:=∃ s A n c B m d,x=.tuple #[.agg #[.bool s,.slice A n c,.slice B m d],.int .i64 0]∧QG w s A n c B m d V k
theorem QoS (v:Rat) (k:Nat):Stays (VQEa v k) :=
 ⟨fun _ _ _ ⟨s,A,n,c,B,m,d,h1,h2⟩ hb=>⟨s,A,n,c,B,m,d,h1,h2.below hb⟩,fun _ _ _ _ _ _ ⟨s,A,n,c,B,m,d,h1,h2⟩ hB ho=>⟨s,A,n,c,B,m,d,h1,h2.box hB ho⟩⟩
abbrev L_betw1:List Nat:=[8,9,10,11,12,13,14,15,7,16,17,5,6]
def QfL:Oper:=⟨some 8,.fieldAddr 67 (.tmp 2) 1,0, "half.go:47",#[],none⟩
def Qfj:Oper:=⟨some 9,.load 27 (.tmp 8),27, "half.go:47",#[⟨0,.data⟩],none⟩
def QfZ:Oper:=⟨some 10,.fieldAddr 67 (.tmp 2) 1,0, "half.go:47",#[],none⟩
def QeN:Oper:=⟨some 11,.load 27 (.tmp 10),27, "half.go:47",#[⟨2,.data⟩],none⟩
def QfW:Oper:=⟨some 12,.fieldAddr 67 (.tmp 3) 1,0, "half.go:47",#[],none⟩
def QeA:Oper:=⟨some 13,.load 27 (.tmp 12),27, "half.go:47",#[⟨4,.data⟩],none⟩
def Qef:Oper:=⟨some 14,.call ⟨.value (.func 69),#[.tmp 11,.tmp 13],#[27,27]⟩,27, "half.go:47",#[⟨3,.data⟩,⟨5,.data⟩],none⟩
def Qei:Oper:=⟨some 15,.call ⟨.value (.func 68),#[.tmp 9,.tmp 14],#[27,27]⟩,107, "half.go:47",#[⟨1,.data⟩,⟨6,.data⟩,⟨6,.chain⟩],none⟩
def QeL:Oper:=⟨some 7,.move (.tmp 15),107, "half.go:47",#[⟨7,.data⟩],none⟩
def Qfb:Oper:=⟨some 16,.extract (.tmp 7) 0,27, "half.go:47",#[⟨8,.data⟩],none⟩
def QdE:Oper:=⟨some 17,.extract (.tmp 7) 1,106, "half.go:47",#[⟨8,.data⟩,⟨12,.gcOnly .lateStores⟩],none⟩
def Qj0:Oper:=⟨some 5,.alloc 27,0, "half.go:47",#[],none⟩
def QdJ:Oper:=⟨none,.store 27 (.tmp 5) (.tmp 16),0, "half.go:47",#[⟨11,.data⟩,⟨9,.data⟩,⟨7,.chain⟩,⟨0,.phase⟩,⟨1,.phase⟩,⟨2,.phase⟩,⟨3,.phase⟩,⟨4,.phase⟩,⟨5,.phase⟩,⟨6,.phase⟩,⟨7,.phase⟩,⟨8,.phase⟩,⟨9,.phase⟩,⟨10,.textOnly .lateStores⟩,⟨11,.phase⟩],none⟩
def QdT:Oper:=⟨some 6,.assign (.tmp 17),106, "half.go:47",#[⟨10,.data⟩,⟨12,.chain⟩,⟨0,.phase⟩,⟨1,.phase⟩,⟨2,.phase⟩,⟨3,.phase⟩,⟨4,.phase⟩,⟨5,.phase⟩,⟨6,.phase⟩,⟨7,.phase⟩,⟨8,.phase⟩,⟨9,.phase⟩,⟨10,.phase⟩,⟨11,.phase⟩,⟨12,.phase⟩],none⟩
def Qnt (gx:Nat) (gy:Nat) (ka:Nat) (xa:Rat) (ya:Rat) (s_a:Bool) (A_a:Option Addr) (B_a:Option Addr) (n_a:Nat) (c_a:Nat) (m_a:Nat) (d_a:Nat) (s_b:Bool) (A_b:Option Addr) (B_b:Option Addr) (n_b:Nat) (c_b:Nat) (m_b:Nat) (d_b:Nat) (sl:Nat):Value→World→Prop :=
 match sl with
 | 8=>fun x _=>x=Value.pointer (some ⟨gx,6,none⟩)
 | 9=>fun x _=>x=Value.agg #[.bool s_a,.slice A_a n_a c_a,.slice B_a m_a d_a]
 | 10=>fun x _=>x=Value.pointer (some ⟨gx,6,none⟩)
 | 11=>fun x _=>x=Value.agg #[.bool s_a,.slice A_a n_a c_a,.slice B_a m_a d_a]
 | 12=>fun x _=>x=Value.pointer (some ⟨gy,6,none⟩)
 | 13=>fun x _=>x=Value.agg #[.bool s_b,.slice A_b n_b c_b,.slice B_b m_b d_b]
 | 14=>VQ (xa - ya) (ka+ka+1)
 | 15=>VQEa (xa / (xa - ya)) (ka+(ka+ka+1))
 | 7=>VQEa (xa / (xa - ya)) (ka+(ka+ka+1))
 | 16=>VQ (xa / (xa - ya)) (ka+(ka+ka+1))
 | 17=>fun x _=>x=Value.int .i64 0
 | 6=>fun x _=>x=Value.int .i64 0
 | _=>fun _ _=>True
def QeR (ka:Nat) (xa:Rat) (ya:Rat):QbU :=
 ⟨11,12,5,27,#[.bool false,.slice none 0 0,.slice none 0 0],fun cs w=>∃ s A n c B m d,cs=#[.bool s,.slice A n c,.slice B m d]∧QG w s A n c B m d (xa / (xa - ya)) (ka+(ka+ka+1))⟩
theorem Qj5 {id:Nat} {ac:Act} {Q:Exit→Act→World→Prop} {gx gy ka:Nat} {xa ya:Rat} 
 (hsz:17 < ac.tmps.size) (e2:ac.eval (.tmp 2)=Value.pointer (some ⟨gx,0,none⟩)) (e3:ac.eval (.tmp 3)=Value.pointer (some ⟨gy,0,none⟩)) (X:B9 w gx (.bool s_p) (.slice A_p n_p c_p) (.slice B_p m_p d_p) (.bool t_p) (.slice E_p i_p e_p) (.slice F_p j_p f_p) (.bool s_a) (.slice A_a n_a c_a) (.slice B_a m_a d_a)) (Y:B9 w gy (.bool s_q) (.slice A_q n_q c_q) (.slice B_q m_q d_q) (.bool t_q) (.slice E_q i_q e_q) (.slice F_q j_q f_q) (.bool s_b) (.slice A_b n_b c_b) (.slice B_b m_b d_b)) (a:QR w s_a A_a n_a c_a B_a m_a d_a xa ka) (b:QR w s_b A_b n_b c_b B_b m_b d_b ya ka) (hk:ka≤190) (h1:1≤ka) (hne:xa - ya ≠ 0)
 (hend:∀ (V:Nat→Value) (w':World) (g0:Nat) (s0:Bool) (A0:Option Addr) (n0:Nat) (c0:Nat) (B0:Option Addr) (m0:Nat) (d0:Nat),QG w' s0 A0 n0 c0 B0 m0 d0 (xa / (xa - ya)) (ka+(ka+ka+1))→B3 w' g0 (.bool s0) (.slice A0 n0 c0) (.slice B0 m0 d0)→w.heap.size≤g0→V 5=.pointer (some ⟨g0,0,none⟩)→Below w.heap.size w w'→Q .normal (Qam ac [8,9,10,11,12,13,14,15,7,16,17,5,6] V) w') :
 (Code.region id #[QfL,Qfj,QfZ,QeN,QfW,QeA,Qef,Qei,QeL,Qfb,QdE,Qj0,QdJ,QdT] true).wp Tryz.prog Q ac w:=by
 have hnd:L_betw1.Nodup:=by decide
 have G:∀ (sv:Nat→Value) (t:Nat),t ∈ L_betw1→t≤17→(Qam ac L_betw1 sv).eval (.tmp t)=sv t:=fun sv t ht h=>Qaz (t:=t) L_betw1 ac hnd ht (Nat.lt_of_le_of_lt h hsz)
 have E2:∀ sv:Nat→Value,(Qam ac L_betw1 sv).eval (.tmp 2)=Value.pointer (some ⟨gx,0,none⟩):=fun sv=>(Qap (v:=sv) L_betw1 ac (show 2 ∉ _ by decide)).trans e2
 have E3:∀ sv:Nat→Value,(Qam ac L_betw1 sv).eval (.tmp 3)=Value.pointer (some ⟨gy,0,none⟩):=fun sv=>(Qap (v:=sv) L_betw1 ac (show 3 ∉ _ by decide)).trans e3
 have NE:∀ t:Nat,(t ≠ 5)→∀ p ∈ [QeR ka xa ya],t ≠ p.tA:=by
  intro t ht p hp
  simp only [List.mem_cons,List.not_mem_nil,or_false] at hp
  rcases hp with rfl
  · exact ht
 refine QaB L_betw1 [QeR ka xa ya] (Qnt gx gy ka xa ya s_a A_a B_a n_a c_a m_a d_a s_b A_b B_b n_b c_b m_b d_b) (by kernel_rfl) (by kernel_rfl) rfl hnd ?_ ?_ ?_ ?_ ?_ ?_ ?_ ?_
 · intro p hp
   simp only [List.mem_cons,List.not_mem_nil,or_false] at hp
   rcases hp with rfl
   · refine ⟨⟨Qj0,rfl,rfl,rfl,fun e w'=>QmG⟩,⟨QdJ,rfl,rfl,rfl,⟨11,.data⟩,by simp [QdJ],rfl,rfl⟩,free3 _ _ _ _ _ _ _,?_,?_⟩
     · rintro cs w1 w2 ⟨s_,A_,n_,c_,B_,m_,d_,rfl,h⟩ hb;exact ⟨s_,A_,n_,c_,B_,m_,d_,rfl,h.below hb⟩
     · rintro T cs w1 w2 g c0 ⟨s_,A_,n_,c_,B_,m_,d_,rfl,h⟩ hB ho;exact ⟨s_,A_,n_,c_,B_,m_,d_,rfl,h.box hB ho⟩
 · intro p hp q hq h
   simp only [List.mem_cons,List.not_mem_nil,or_false] at hp hq
   rcases hp with rfl <;> rcases hq with rfl
   · rfl
 · intro p hp q hq h
   simp only [List.mem_cons,List.not_mem_nil,or_false] at hp hq
   rcases hp with rfl <;> rcases hq with rfl
   · rfl
 · intro i o h1 h2
   match i,h1 with
   | 0,h1=>cases h1;cases h2
   | 1,h1=>cases h1;cases h2
   | 2,h1=>cases h1;cases h2
   | 3,h1=>cases h1;cases h2
   | 4,h1=>cases h1;cases h2
   | 5,h1=>cases h1;cases h2
   | 6,h1=>cases h1;cases h2
   | 7,h1=>cases h1;cases h2
   | 8,h1=>cases h1;cases h2
   | 9,h1=>cases h1;cases h2
   | 10,h1=>cases h1;cases h2
   | 11,h1=>cases h1;cases h2
   | 12,h1=>exact ⟨QeR ka xa ya,List.Mem.head _,rfl⟩
   | 13,h1=>cases h1;cases h2
   | i+14,h1=>cases h1
 · intro t
   unfold Qnt
   split <;> first | exact (QbF _).inn _ | exact (QbS _ _).inn _ | exact (Qct _ _).inn _ | exact (Qco _ _).inn _ | exact (QbO _ _).inn _ | exact (QbQ _ _ _).inn _ | exact (Qa4).inn _ | exact (QoS _ _).inn _
 · intro i o t sv w' ho hia hd J0 hf
   have X:=X.below J0;have Y:=Y.below J0;have a:=a.below J0;have b:=b.below J0
   match i,ho with
   | 0,ho =>
     obtain rfl:QfL=o:=Option.some.inj ho
     cases hd
     refine Qaa (o:=QfL) rfl rfl ?_
     unfold Oper.wp QfL
     rw [Qj8 (E2 sv) ,Oper.upon_value]
     exact ⟨_,rfl,Below.refl _ _,rfl⟩
   | 1,ho =>
     obtain rfl:Qfj=o:=Option.some.inj ho
     cases hd
     have f8:sv 8=Value.pointer (some ⟨gx,6,none⟩):=hf ⟨0,.data⟩ (by simp [Qfj]) rfl _ 8 rfl rfl (NE _ (by decide))
     refine Qaa (o:=Qfj) rfl rfl ?_
     unfold Oper.wp Qfj
     rw [QkW ((G sv 8 (by decide) (by decide)).trans f8) X,Oper.upon_value]
     exact ⟨_,rfl,Below.refl _ _,rfl⟩
   | 2,ho =>
     obtain rfl:QfZ=o:=Option.some.inj ho
     cases hd
     refine Qaa (o:=QfZ) rfl rfl ?_
     unfold Oper.wp QfZ
     rw [Qj8 (E2 sv) ,Oper.upon_value]
     exact ⟨_,rfl,Below.refl _ _,rfl⟩
   | 3,ho =>
     obtain rfl:QeN=o:=Option.some.inj ho
     cases hd
     have f10:sv 10=Value.pointer (some ⟨gx,6,none⟩):=hf ⟨2,.data⟩ (by simp [QeN]) rfl _ 10 rfl rfl (NE _ (by decide))
     refine Qaa (o:=QeN) rfl rfl ?_
     unfold Oper.wp QeN
     rw [QkW ((G sv 10 (by decide) (by decide)).trans f10) X,Oper.upon_value]
     exact ⟨_,rfl,Below.refl _ _,rfl⟩
   | 4,ho =>
     obtain rfl:QfW=o:=Option.some.inj ho
     cases hd
     refine Qaa (o:=QfW) rfl rfl ?_
     unfold Oper.wp QfW
     rw [Qj8 (E3 sv) ,Oper.upon_value]
     exact ⟨_,rfl,Below.refl _ _,rfl⟩
   | 5,ho =>
     obtain rfl:QeA=o:=Option.some.inj ho
     cases hd
     have f12:sv 12=Value.pointer (some ⟨gy,6,none⟩):=hf ⟨4,.data⟩ (by simp [QeA]) rfl _ 12 rfl rfl (NE _ (by decide))
     refine Qaa (o:=QeA) rfl rfl ?_
     unfold Oper.wp QeA
     rw [QkW ((G sv 12 (by decide) (by decide)).trans f12) Y,Oper.upon_value]
     exact ⟨_,rfl,Below.refl _ _,rfl⟩
   | 6,ho =>
     obtain rfl:Qef=o:=Option.some.inj ho
     cases hd
     have f11:sv 11=Value.agg #[.bool s_a,.slice A_a n_a c_a,.slice B_a m_a d_a]:=hf ⟨3,.data⟩ (by simp [Qef]) rfl _ 11 rfl rfl (NE _ (by decide))
     have f13:sv 13=Value.agg #[.bool s_b,.slice A_b n_b c_b,.slice B_b m_b d_b]:=hf ⟨5,.data⟩ (by simp [Qef]) rfl _ 13 rfl rfl (NE _ (by decide))
     refine Qaa (o:=Qef) rfl rfl ?_
     unfold Oper.wp Qef
     rw [QfK ((G sv 11 (by decide) (by decide)).trans f11) ((G sv 13 (by decide) (by decide)).trans f13) rfl,Oper.upon_enter]
     refine (Qly a b (by omega) (by omega) (.inl (by omega)) h1 h1).mono ?_
     rintro e w1 ⟨s_,A_,n_,c_,B_,m_,d_,rfl,hq,hh⟩
     exact ⟨_,rfl,hh,s_,A_,n_,c_,B_,m_,d_,rfl,hq⟩
   | 7,ho =>
     obtain rfl:Qei=o:=Option.some.inj ho
     cases hd
     have f9:sv 9=Value.agg #[.bool s_a,.slice A_a n_a c_a,.slice B_a m_a d_a]:=hf ⟨1,.data⟩ (by simp [Qei]) rfl _ 9 rfl rfl (NE _ (by decide))
     have h14:VQ (xa - ya) (ka+ka+1) (sv 14) w':=hf ⟨6,.data⟩ (by simp [Qei]) rfl _ 14 rfl rfl (NE _ (by decide))
     obtain ⟨s14_,A14_,n14_,c14_,B14_,m14_,d14_,f14,q14⟩:=h14
     refine Qaa (o:=Qei) rfl rfl ?_
     unfold Oper.wp Qei
     rw [QfI ((G sv 9 (by decide) (by decide)).trans f9) ((G sv 14 (by decide) (by decide)).trans f14) rfl,Oper.upon_enter]
     refine (rdiv_q a q14.qr (by omega) (by omega) (.inl (by omega)) h1 (by omega) hne).mono ?_
     rintro e w1 ⟨s_,A_,n_,c_,B_,m_,d_,rfl,hq,hh⟩
     exact ⟨_,rfl,hh,s_,A_,n_,c_,B_,m_,d_,rfl,hq⟩
   | 8,ho =>
     obtain rfl:QeL=o:=Option.some.inj ho
     cases hd
     have f:=hf ⟨7,.data⟩ (by simp [QeL]) rfl _ 15 rfl rfl (NE _ (by decide))
     refine Qaa (o:=QeL) rfl rfl ?_
     unfold Oper.wp QeL
     rw [Qaw (G sv 15 (by decide) (by decide)),Oper.upon_value]
     exact ⟨_,rfl,Below.refl _ _,f⟩
   | 9,ho =>
     obtain rfl:Qfb=o:=Option.some.inj ho
     cases hd
     have h7:VQEa (xa / (xa - ya)) (ka+(ka+ka+1)) (sv 7) w':=hf ⟨8,.data⟩ (by simp [Qfb]) rfl _ 7 rfl rfl (NE _ (by decide))
     obtain ⟨s7_,A7_,n7_,c7_,B7_,m7_,d7_,f7,q7⟩:=h7
     refine Qaa (o:=Qfb) rfl rfl ?_
     unfold Oper.wp Qfb
     rw [QpT ((G sv 7 (by decide) (by decide)).trans f7),Oper.upon_value]
     exact ⟨_,rfl,Below.refl _ _,s7_,A7_,n7_,c7_,B7_,m7_,d7_,rfl,q7⟩
   | 10,ho =>
     obtain rfl:QdE=o:=Option.some.inj ho
     cases hd
     have h7:VQEa (xa / (xa - ya)) (ka+(ka+ka+1)) (sv 7) w':=hf ⟨8,.data⟩ (by simp [QdE]) rfl _ 7 rfl rfl (NE _ (by decide))
     obtain ⟨s7_,A7_,n7_,c7_,B7_,m7_,d7_,f7,q7⟩:=h7
     refine Qaa (o:=QdE) rfl rfl ?_
     unfold Oper.wp QdE
     rw [QqF ((G sv 7 (by decide) (by decide)).trans f7),Oper.upon_value]
     exact ⟨_,rfl,Below.refl _ _,rfl⟩
   | 11,ho=>cases ho;cases hd;exact absurd rfl (hia (QeR ka xa ya) (List.Mem.head _))
   | 12,ho=>cases ho;cases hd
   | 13,ho =>
     obtain rfl:QdT=o:=Option.some.inj ho
     cases hd
     have f:=hf ⟨10,.data⟩ (by simp [QdT]) rfl _ 17 rfl rfl (NE _ (by decide))
     refine Qaa (o:=QdT) rfl rfl ?_
     unfold Oper.wp QdT
     rw [Qbq (G sv 17 (by decide) (by decide)),Oper.upon_value]
     exact ⟨_,rfl,Below.refl _ _,f⟩
   | i+14,ho=>cases ho
 · intro p hp os sv w' g hos J0 p1 p3 hf
   simp only [List.mem_cons,List.not_mem_nil,or_false] at hp
   rcases hp with rfl
   · obtain rfl:QdJ=os:=Option.some.inj hos
     have h1:VQ (xa / (xa - ya)) (ka+(ka+ka+1)) (sv 16) w':=hf ⟨9,.data⟩ (by simp [QdJ]) rfl _ 16 rfl rfl (NE _ (by decide))
     rw [← G sv 16 (by decide) (by decide)] at h1
     refine QrG (V:=xa / (xa - ya)) (k:=ka+(ka+ka+1)) (ac:=Qam ac L_betw1 sv) (z:=.tmp 16) ?_ ?_ ?_
     · exact (G sv 5 (by decide) (by decide)).trans p1
     · exact h1
     · exact p3
 · intro sv w' J0 hF hB hap
   obtain ⟨g0,cs0,p0,r0,b0,⟨s0,A0,n0,c0,B0,m0,d0,rfl,h0⟩⟩:=hB (QeR ka xa ya) (List.Mem.head _)
   have p0':sv 5=.pointer (some ⟨g0,0,none⟩):=p0
   exact hend sv w' g0 _ _ _ _ _ _ _ h0 b0.at_ r0 p0'   J0
theorem Qo4 {w W:World} {x0 x1 x2 x3 x4 x5 x6 x7 x8 x9 x10 x11 x12 x13 x14 x15 x16 x17 x18 x19 x20 x21 x22 x23:Value} (h:(((w.alloc (Obj.cells #[x0,x1,x2,x3,x4,x5,x6,x7,x8] 67)).alloc (Obj.cells #[x9,x10,x11,x12,x13,x14,x15,x16,x17] 67)).alloc (Obj.cells #[x18,x19,x20,x21,x22,x23] 29))=W):Below w.heap.size w W∧B9 W (w.heap.size) x0 x1 x2 x3 x4 x5 x6 x7 x8∧B9 W (w.heap.size+1) x9 x10 x11 x12 x13 x14 x15 x16 x17∧B6 W (w.heap.size+1+1) x18 x19 x20 x21 x22 x23∧W.heap.size=w.heap.size+3:=by subst h;exact ⟨by exact ((((Below.refl _ _).alloc (Nat.le_refl _) _).alloc (by simp) _).alloc (by simp;omega) _),by exact ((B9.new' _ _ _ _ _ _ _ _ _ _ _ rfl).alloc _).alloc _,by exact (B9.new' _ _ _ _ _ _ _ _ _ _ _ (by simp)).alloc _,by exact B6.new' _ _ _ _ _ _ _ _ (by simp),by simp⟩
theorem QiR {k ka:Nat} {px py qx qy xa ya:Rat} (p:PR w s_p A_p n_p c_p B_p m_p d_p t_p E_p i_p e_p F_p j_p f_p px py k) (q:PR w s_q A_q n_q c_q B_q m_q d_q t_q E_q i_q e_q F_q j_q f_q qx qy k) (a:QR w s_a A_a n_a c_a B_a m_a d_a xa ka) (b:QR w s_b A_b n_b c_b B_b m_b d_b ya ka) (hk:k≤60) (h1:1≤k) (hka:ka+(ka+ka+1)≤170) (h2:1≤ka) (hne:xa - ya ≠ 0) :
 Calls Tryz.prog 30 #[.agg #[.bool s_p,.slice A_p n_p c_p,.slice B_p m_p d_p,.bool t_p,.slice E_p i_p e_p,.slice F_p j_p f_p,.bool s_a,.slice A_a n_a c_a,.slice B_a m_a d_a],.agg #[.bool s_q,.slice A_q n_q c_q,.slice B_q m_q d_q,.bool t_q,.slice E_q i_q e_q,.slice F_q j_q f_q,.bool s_b,.slice A_b n_b c_b,.slice B_b m_b d_b]] w (QcU w (px+(qx - px)*(xa / (xa - ya))) (py+(qy - py)*(xa / (xa - ya))) (k+(k+k+1+(ka+(ka+ka+1)))+1)):=by
 go_enter Tryz.func30,Tryz.ntmps30
 go_upto_region 1 with (fail)
 generalize hW:World.alloc _ _=W
 obtain ⟨hb,XA,XB,Z,hzW⟩:=Qo4 hW;clear hW;replace p:=p.below hb;replace q:=q.below hb;replace a:=a.below hb;replace b:=b.below hb
 refine Qj5 (by simp) rfl rfl XA XB a b (by omega) h2 hne ?_
 intro V w_s g_y s_y A_y n_y c_y B_y m_y d_y y XY hg_y hvy hh
 simp only [Qam,Act.put,List.setIfInBounds_toArray,List.set_cons_zero,List.set_cons_succ,hvy]
 clear hvy;replace p:=p.below hh;replace q:=q.below hh;replace a:=a.below hh;replace b:=b.below hh;replace XA:=XA.below hh;replace XB:=XB.below hh;replace Z:=Z.below hh;replace hb:=Qaj hb hh;obtain ⟨xa0,xa1,xa2,xa3,xa4,xa5,xa6,xa7,xa8⟩:=XA.all;obtain ⟨xb0,xb1,xb2,xb3,xb4,xb5,xb6,xb7,xb8⟩:=XB.all;obtain ⟨xy0,xy1,xy2⟩:=XY.all;have zg0:=Z.f0;have zg1:=Z.f1;have zg2:=Z.f2;have zg3:=Z.f3;have zg4:=Z.f4;have zg5:=Z.f5;obtain ⟨zc0,zc1,zc2,zc3,zc4,zc5⟩:=Z.all
 go_wp2_with (first
  | (go_at_call 70;(with_reducible refine (pmix_p p q y.qr hk hk hka h1 h1 (by omega)).mono ?_);rintro e w_r ⟨s_r,A_r,n_r,c_r,B_r,m_r,d_r,t_r,E_r,i_r,e_r,F_r,j_r,f_r,rfl,r,hh⟩
     (try replace Z:=Z.below hh);replace hb:=Qaj hb hh;have zg0:=Z.f0;have zg1:=Z.f1;have zg2:=Z.f2;have zg3:=Z.f3;have zg4:=Z.f4;have zg5:=Z.f5;obtain ⟨zc0,zc1,zc2,zc3,zc4,zc5⟩:=Z.all))
 have Z2:=Z.set6 (.bool s_r) (.slice A_r n_r c_r) (.slice B_r m_r d_r) (.bool t_r) (.slice E_r i_r e_r) (.slice F_r j_r f_r)
 obtain ⟨g0,g1,g2,g3,g4,g5⟩:=Z2.all
 refine bodyPost_ret (v:=.agg #[.bool s_r,.slice A_r n_r c_r,.slice B_r m_r d_r,.bool t_r,.slice E_r i_r e_r,.slice F_r j_r f_r]) (by simp [results,Tryz.results30,go_sem,g0,g1,g2,g3,g4,g5]) rfl ?_
 exact ⟨s_r,A_r,n_r,c_r,B_r,m_r,d_r,t_r,E_r,i_r,e_r,F_r,j_r,f_r,rfl,r.set6 Z _ _ _ _ _ _,QaE hb (by omega) _ _ _ _ _ _⟩
end
section
open Go Go.RowKit
def EachC (w:World) (M:List CV) (l:List (Rat × Rat)) (f:Rat × Rat→Rat) (k ka:Nat):Prop:=M.length=l.length∧∀ (i:Nat) (c:CV) (u:Rat × Rat),M[i]?=some c→l[i]?=some u→PV.PR w c.p u k∧QG w c.q.s c.q.A c.q.n c.q.c c.q.B c.q.m c.q.d (f u) ka
section
variable {w w':World} {M:List CV} {l:List (Rat × Rat)} {f:Rat × Rat→Rat} {k ka:Nat}
theorem EachC.nil:EachC w [] [] f k ka:=⟨rfl,fun i c u h=>by cases h⟩
theorem EachC.below (h:EachC w M l f k ka) (hb:Below w.heap.size w w'):EachC w' M l f k ka:=⟨h.1,fun i c u h1 h2=>⟨PR.below (h.2 i c u h1 h2).1 hb,(h.2 i c u h1 h2).2.below hb⟩⟩
theorem EachC.box {T:TypeId} {g:Nat} {cs:Array Value} (h:EachC w M l f k ka) (B:BoxAt T w g cs) (ho:Only g w w'):EachC w' M l f k ka:=⟨h.1,fun i c u h1 h2=>⟨PR.box (h.2 i c u h1 h2).1 B ho,(h.2 i c u h1 h2).2.box B ho⟩⟩
theorem EachC.push {c:CV} {u:Rat × Rat} (h:EachC w M l f k ka) (hp:PV.PR w c.p u k) (hq:QG w c.q.s c.q.A c.q.n c.q.c c.q.B c.q.m c.q.d (f u) ka):EachC w (M ++ [c]) (l ++ [u]) f k ka:=by
 refine ⟨by rw [List.length_append,List.length_append,h.1];rfl,fun i q v h1 h2=>?_⟩
 rcases Nat.lt_or_ge i M.length with hi | hi
 · rw [List.getElem?_append_left hi] at h1
   rw [List.getElem?_append_left (by rw [← h.1];exact hi)] at h2
   exact h.2 i q v h1 h2
 · rw [List.getElem?_append_right hi] at h1
   rw [List.getElem?_append_right (by rw [← h.1];exact hi),← h.1] at h2
   obtain ⟨j,hj⟩:∃ j,i - M.length=j:=⟨_,rfl⟩
   rw [hj] at h1 h2
   match j,h1,h2 with
   | 0,h1,h2=>cases h1;cases h2;exact ⟨hp,hq⟩
   | j+1,h1,h2=>simp at h1
theorem EachC.ring (h:EachC w M l f k ka):EachC w (Qav M) (Qav l) f k ka:=by
 refine ⟨by unfold Qav;rw [List.length_append,List.length_append,List.length_take,List.length_take,h.1],fun i p u hp hu=>?_⟩
 unfold Qav at hp hu
 rcases Nat.lt_or_ge i M.length with hi | hi
 · rw [List.getElem?_append_left hi] at hp
   rw [List.getElem?_append_left (by rw [← h.1];exact hi)] at hu
   exact h.2 i p u hp hu
 · rw [List.getElem?_append_right hi] at hp
   rw [List.getElem?_append_right (by rw [← h.1];exact hi),← h.1] at hu
   rw [List.getElem?_take] at hp hu
   split at hp
   · rename_i q;rw [if_pos q] at hu;exact h.2 _ p u hp hu
   · cases hp
theorem EachC.at_ (h:EachC w M l f k ka) {i:Nat} (hi:i < M.length):∃ c u,M[i]?=some c∧l[i]?=some u∧PV.PR w c.p u k∧QG w c.q.s c.q.A c.q.n c.q.c c.q.B c.q.m c.q.d (f u) ka :=
 ⟨_,_,List.getElem?_eq_getElem hi,List.getElem?_eq_getElem (by rw [← h.1];exact hi),h.2 i _ _ (List.getElem?_eq_getElem hi) (List.getElem?_eq_getElem (by rw [← h.1];exact hi))⟩
end
theorem BoxAt.setc {T:TypeId} {g m:Nat} {M:List CV} (h:BoxAt T w g (cvs M).toArray) (hm:m < M.length) (x:CV) :
 BoxAt T (((((((((w.setCell ⟨g,m*9,none⟩ (.bool x.p.s)).setCell ⟨g,m*9+1,none⟩ (.slice x.p.A x.p.n x.p.c)).setCell ⟨g,m*9+2,none⟩ (.slice x.p.B x.p.m x.p.d)).setCell ⟨g,m*9+3,none⟩ (.bool x.p.t)).setCell ⟨g,m*9+4,none⟩ (.slice x.p.E x.p.i x.p.e)).setCell ⟨g,m*9+5,none⟩ (.slice x.p.F x.p.j x.p.f)).setCell ⟨g,m*9+6,none⟩ (.bool x.q.s)).setCell ⟨g,m*9+7,none⟩ (.slice x.q.A x.q.n x.q.c)).setCell ⟨g,m*9+8,none⟩ (.slice x.q.B x.q.m x.q.d)) g (cvs (M.set m x)).toArray:=by
 refine ⟨?_,Qdv (Qe2 _)⟩
 have h0:=h.at_
 have e2:((((((((((cvs M).set (m*9) (.bool x.p.s)).set (m*9+1) (.slice x.p.A x.p.n x.p.c)).set (m*9+2) (.slice x.p.B x.p.m x.p.d)).set (m*9+3) (.bool x.p.t)).set (m*9+4) (.slice x.p.E x.p.i x.p.e)).set (m*9+5) (.slice x.p.F x.p.j x.p.f)).set (m*9+6) (.bool x.q.s)).set (m*9+7) (.slice x.q.A x.q.n x.q.c)).set (m*9+8) (.slice x.q.B x.q.m x.q.d))=cvs (M.set m x):=by
  apply List.ext_getElem?
  intro j
  have hl:(cvs M).length=M.length*9:=Qas Qdu M
  have:=Qiv Qdu hm x j
  rw [show (cvs (M.set m x))[j]?=_ from this]
  simp only [List.getElem?_set,List.length_set,hl]
  by_cases h0:m*9≤j∧j < m*9+9
  · rw [if_pos h0]
    obtain ⟨a,rfl,ha⟩:∃ a,j=m*9+a∧a < 9:=⟨j - m*9,by omega,by omega⟩
    rw [Nat.add_sub_cancel_left]
    match a,ha with
    | 0,_=>rw [if_neg (by omega),if_neg (by omega),if_neg (by omega),if_neg (by omega),if_neg (by omega),if_neg (by omega),if_neg (by omega),if_neg (by omega),if_pos (by omega),if_pos (by omega)];rfl
    | 1,_=>rw [if_neg (by omega),if_neg (by omega),if_neg (by omega),if_neg (by omega),if_neg (by omega),if_neg (by omega),if_neg (by omega),if_pos (by omega),if_pos (by omega)];rfl
    | 2,_=>rw [if_neg (by omega),if_neg (by omega),if_neg (by omega),if_neg (by omega),if_neg (by omega),if_neg (by omega),if_pos (by omega),if_pos (by omega)];rfl
    | 3,_=>rw [if_neg (by omega),if_neg (by omega),if_neg (by omega),if_neg (by omega),if_neg (by omega),if_pos (by omega),if_pos (by omega)];rfl
    | 4,_=>rw [if_neg (by omega),if_neg (by omega),if_neg (by omega),if_neg (by omega),if_pos (by omega),if_pos (by omega)];rfl
    | 5,_=>rw [if_neg (by omega),if_neg (by omega),if_neg (by omega),if_pos (by omega),if_pos (by omega)];rfl
    | 6,_=>rw [if_neg (by omega),if_neg (by omega),if_pos (by omega),if_pos (by omega)];rfl
    | 7,_=>rw [if_neg (by omega),if_pos (by omega),if_pos (by omega)];rfl
    | 8,_=>rw [if_pos (by omega),if_pos (by omega)];rfl
    | a+9,ha=>omega
  · rw [if_neg h0,if_neg (by omega),if_neg (by omega),if_neg (by omega),if_neg (by omega),if_neg (by omega),if_neg (by omega),if_neg (by omega),if_neg (by omega),if_neg (by omega)];rfl
 simp [World.setCell,Array.getElem?_modify,h0,e2]
theorem onlyc (w:World) (gg o:Nat) (a b c d e f g h i:Value):Only gg w (((((((((w.setCell ⟨gg,o,none⟩ (a)).setCell ⟨gg,o+1,none⟩ (b)).setCell ⟨gg,o+2,none⟩ (c)).setCell ⟨gg,o+3,none⟩ (d)).setCell ⟨gg,o+4,none⟩ (e)).setCell ⟨gg,o+5,none⟩ (f)).setCell ⟨gg,o+6,none⟩ (g)).setCell ⟨gg,o+7,none⟩ (h)).setCell ⟨gg,o+8,none⟩ (i)):=((((((((((Only.refl gg w).setCell (o) a).setCell (o+1) b).setCell (o+2) c).setCell (o+3) d).setCell (o+4) e).setCell (o+5) f).setCell (o+6) g).setCell (o+7) h).setCell (o+8) i)
theorem QaO (W:World) (gg k o p:Nat) (a b c d e f g h i:Value) (hh:k ≠ gg):(((((((((W.setCell ⟨gg,o,none⟩ (a)).setCell ⟨gg,o+1,none⟩ (b)).setCell ⟨gg,o+2,none⟩ (c)).setCell ⟨gg,o+3,none⟩ (d)).setCell ⟨gg,o+4,none⟩ (e)).setCell ⟨gg,o+5,none⟩ (f)).setCell ⟨gg,o+6,none⟩ (g)).setCell ⟨gg,o+7,none⟩ (h)).setCell ⟨gg,o+8,none⟩ (i)).cell? ⟨k,p,none⟩=W.cell? ⟨k,p,none⟩:=by
 rw [World.cell?_of_block (Below.heap_setCell _ _ _ _ hh),World.cell?_of_block (Below.heap_setCell _ _ _ _ hh),World.cell?_of_block (Below.heap_setCell _ _ _ _ hh),World.cell?_of_block (Below.heap_setCell _ _ _ _ hh),World.cell?_of_block (Below.heap_setCell _ _ _ _ hh),World.cell?_of_block (Below.heap_setCell _ _ _ _ hh),World.cell?_of_block (Below.heap_setCell _ _ _ _ hh),World.cell?_of_block (Below.heap_setCell _ _ _ _ hh),World.cell?_of_block (Below.heap_setCell _ _ _ _ hh)]
theorem BoxAt.c9 {T:TypeId} {g m:Nat} {M:List CV} {p:CV} (h:BoxAt T w g (cvs M).toArray) (hp:M[m]?=some p):E9x w g (m*9) p:=by
 have key:∀ j,j < 9→∀ u,p.cells[j]?=some u→w.cell? ⟨g,m*9+j,none⟩=some u:=fun j hj u hu=>by
  rw [cell_of_row w g (m*9+j) _ _ (0,0) h.at_,← hu,← Qci Qdu hp hj];simp [cvs]
 exact ⟨h.lt,key 0 (by decide) _ rfl,key 1 (by decide) _ rfl,key 2 (by decide) _ rfl,key 3 (by decide) _ rfl,key 4 (by decide) _ rfl,key 5 (by decide) _ rfl,key 6 (by decide) _ rfl,key 7 (by decide) _ rfl,key 8 (by decide) _ rfl⟩
theorem idx_ct {g n c i:Nat} (h:i < n) (w:World):(Instr.indexAt 64 (.slice (some ⟨g,0,none⟩) n c) (.int .i64 (i:Int))).run Tryz.prog w=.ok (.pointer (some ⟨g,i*9,none⟩)) w:=by
 have ha:∀ j,(⟨g,0,none⟩:Addr).add j=⟨g,j,none⟩:=fun j=>by unfold Addr.add;split <;> simp_all
 obtain ⟨i0,hi,hz,hs,hby⟩:=info_parts (show (Tryz.prog.info? 67).map (fun i=>(i.zero,i.size,i.bytes))=some (some (.agg #[.bool false,.slice none 0 0,.slice none 0 0,.bool false,.slice none 0 0,.slice none 0 0,.bool false,.slice none 0 0,.slice none 0 0]),9,168) by kernel_rfl)
 have h1:(0:Int)≤(i:Int):=by omega
 have h2:(i:Int) < (n:Int):=by omega
 simp [Instr.indexAt,asIntOf,run_underlying Tryz.underlying64,h1,sizeOf,typeInfo,hi,hs,ha]
 exact fun e=>absurd h (by omega)
def QaN (ax ay bx by_:Rat) (u:Rat × Rat):Rat:=(bx - ax)*(u.2 - ay) - (by_ - ay)*(u.1 - ax)
def Qr1 (w:World) (n:Nat) (l:List (Rat × Rat)) (f:Rat × Rat→Rat) (k ka:Nat) (e:Ending) (w':World):Prop:=∃ g M,e=.returned (.slice (some ⟨g,0,none⟩) n n)∧w.heap.size≤g∧BoxAt 67 w' g (cvs M).toArray∧M.length=n∧EachC w' M l f k ka∧Below w.heap.size w w'
abbrev L_bes1:List Nat:=[11,12,13,14,15,16,7,8]
def QiF:Oper:=⟨some 11,.load 29 (.tmp 5),29, "half.go:36",#[],none⟩
def Qij:Oper:=⟨some 12,.load 29 (.tmp 4),29, "half.go:36",#[],none⟩
def Qfx:Oper:=⟨some 13,.call ⟨.value (.func 46),#[.tmp 11,.tmp 12],#[29,29]⟩,29, "half.go:36",#[⟨0,.data⟩,⟨1,.data⟩],none⟩
def Qik:Oper:=⟨some 14,.move (.tmp 0),22, "half.go:36",#[],none⟩
def Qgw:Oper:=⟨some 15,.call ⟨.builtin Builtin.len,#[.tmp 14],#[22]⟩,3, "half.go:36",#[⟨3,.data⟩],none⟩
def QgC:Oper:=⟨some 16,.makeSlice 64 (.tmp 15) (.tmp 15),64, "half.go:36",#[⟨4,.data⟩,⟨4,.data⟩],none⟩
def Qm6:Oper:=⟨some 7,.alloc 29,0, "half.go:36",#[],none⟩
def QgZ:Oper:=⟨none,.store 29 (.tmp 7) (.tmp 13),0, "half.go:36",#[⟨6,.data⟩,⟨2,.data⟩,⟨2,.chain⟩,⟨0,.phase⟩,⟨1,.phase⟩,⟨2,.phase⟩,⟨3,.textOnly .lateStores⟩,⟨4,.textOnly .lateStoresUnsure⟩,⟨5,.textOnly .lateStoresUnsure⟩,⟨6,.phase⟩],none⟩
def QgD:Oper:=⟨some 8,.assign (.tmp 16),64, "half.go:36",#[⟨5,.data⟩,⟨7,.chain⟩,⟨0,.phase⟩,⟨1,.phase⟩,⟨2,.phase⟩,⟨3,.phase⟩,⟨4,.phase⟩,⟨5,.phase⟩,⟨6,.phase⟩,⟨7,.phase⟩],none⟩
def Qrh (A:Option Addr) (n:Nat) (c:Nat) (base:Nat) (k2:Nat) (ax:Rat) (ay:Rat) (bx:Rat) (by_:Rat) (s_a:Bool) (t_a:Bool) (A_a:Option Addr) (B_a:Option Addr) (E_a:Option Addr) (F_a:Option Addr) (n_a:Nat) (c_a:Nat) (m_a:Nat) (d_a:Nat) (i_a:Nat) (e_a:Nat) (j_a:Nat) (f_a:Nat) (s_b:Bool) (t_b:Bool) (A_b:Option Addr) (B_b:Option Addr) (E_b:Option Addr) (F_b:Option Addr) (n_b:Nat) (c_b:Nat) (m_b:Nat) (d_b:Nat) (i_b:Nat) (e_b:Nat) (j_b:Nat) (f_b:Nat) (sl:Nat):Value→World→Prop :=
 match sl with
 | 11=>fun x _=>x=Value.agg #[.bool s_b,.slice A_b n_b c_b,.slice B_b m_b d_b,.bool t_b,.slice E_b i_b e_b,.slice F_b j_b f_b]
 | 12=>fun x _=>x=Value.agg #[.bool s_a,.slice A_a n_a c_a,.slice B_a m_a d_a,.bool t_a,.slice E_a i_a e_a,.slice F_a j_a f_a]
 | 13=>VPG (bx - ax) (by_ - ay) (k2+k2+1)
 | 14=>fun x _=>x=Value.slice A n c
 | 15=>fun x _=>x=Value.int .i64 (n:Int)
 | 16=>VMK (67) ((cvs (List.replicate n zcv)).toArray) (n) (base)
 | 8=>VMK (67) ((cvs (List.replicate n zcv)).toArray) (n) (base)
 | _=>fun _ _=>True
def Qgs (k2:Nat) (ax:Rat) (ay:Rat) (bx:Rat) (by_:Rat):QbU :=
 ⟨6,7,7,29,#[.bool false,.slice none 0 0,.slice none 0 0,.bool false,.slice none 0 0,.slice none 0 0],fun cs w=>∃ s A n c B m d t E i e F j f,cs=#[.bool s,.slice A n c,.slice B m d,.bool t,.slice E i e,.slice F j f]∧PG w s A n c B m d t E i e F j f (bx - ax) (by_ - ay) (k2+k2+1)⟩
theorem Qkx {id:Nat} {ac:Act} {Q:Exit→Act→World→Prop} {A:Option Addr} {n c base ga gb k2:Nat} {ax ay bx by_:Rat} 
 (hsz:16 < ac.tmps.size) (e0:ac.eval (.tmp 0)=Value.slice A n c) (e4:ac.eval (.tmp 4)=Value.pointer (some ⟨ga,0,none⟩)) (e5:ac.eval (.tmp 5)=Value.pointer (some ⟨gb,0,none⟩)) (XA:B6 w ga (.bool s_a) (.slice A_a n_a c_a) (.slice B_a m_a d_a) (.bool t_a) (.slice E_a i_a e_a) (.slice F_a j_a f_a)) (XB:B6 w gb (.bool s_b) (.slice A_b n_b c_b) (.slice B_b m_b d_b) (.bool t_b) (.slice E_b i_b e_b) (.slice F_b j_b f_b)) (a:PR w s_a A_a n_a c_a B_a m_a d_a t_a E_a i_a e_a F_a j_a f_a ax ay k2) (b:PR w s_b A_b n_b c_b B_b m_b d_b t_b E_b i_b e_b F_b j_b f_b bx by_ k2) (hk:k2≤30000) (h1:1≤k2) (hm:n≤100000) (hbs:base≤w.heap.size)
 (hend:∀ (V:Nat→Value) (w':World) (g0:Nat) (s0:Bool) (A0:Option Addr) (n0:Nat) (c0:Nat) (B0:Option Addr) (m0:Nat) (d0:Nat) (t0:Bool) (E0:Option Addr) (i0:Nat) (e0:Nat) (F0:Option Addr) (j0:Nat) (f0:Nat),PG w' s0 A0 n0 c0 B0 m0 d0 t0 E0 i0 e0 F0 j0 f0 (bx - ax) (by_ - ay) (k2+k2+1)→B6 w' g0 (.bool s0) (.slice A0 n0 c0) (.slice B0 m0 d0) (.bool t0) (.slice E0 i0 e0) (.slice F0 j0 f0)→w.heap.size≤g0→V 7=.pointer (some ⟨g0,0,none⟩)→(VMK (67) ((cvs (List.replicate n zcv)).toArray) (n) (base)) (V 8) w'→Below w.heap.size w w'→Q .normal (Qam ac [11,12,13,14,15,16,7,8] V) w') :
 (Code.region id #[QiF,Qij,Qfx,Qik,Qgw,QgC,Qm6,QgZ,QgD] true).wp Tryz.prog Q ac w:=by
 have hnd:L_bes1.Nodup:=by decide
 have G:∀ (sv:Nat→Value) (t:Nat),t ∈ L_bes1→t≤16→(Qam ac L_bes1 sv).eval (.tmp t)=sv t:=fun sv t ht h=>Qaz (t:=t) L_bes1 ac hnd ht (Nat.lt_of_le_of_lt h hsz)
 have E0:∀ sv:Nat→Value,(Qam ac L_bes1 sv).eval (.tmp 0)=Value.slice A n c:=fun sv=>(Qap (v:=sv) L_bes1 ac (show 0 ∉ _ by decide)).trans e0
 have E4:∀ sv:Nat→Value,(Qam ac L_bes1 sv).eval (.tmp 4)=Value.pointer (some ⟨ga,0,none⟩):=fun sv=>(Qap (v:=sv) L_bes1 ac (show 4 ∉ _ by decide)).trans e4
 have E5:∀ sv:Nat→Value,(Qam ac L_bes1 sv).eval (.tmp 5)=Value.pointer (some ⟨gb,0,none⟩):=fun sv=>(Qap (v:=sv) L_bes1 ac (show 5 ∉ _ by decide)).trans e5
 have NE:∀ t:Nat,(t ≠ 7)→∀ p ∈ [Qgs k2 ax ay bx by_],t ≠ p.tA:=by
  intro t ht p hp
  simp only [List.mem_cons,List.not_mem_nil,or_false] at hp
  rcases hp with rfl
  · exact ht
 refine QaB L_bes1 [Qgs k2 ax ay bx by_] (Qrh A n c base k2 ax ay bx by_ s_a t_a A_a B_a E_a F_a n_a c_a m_a d_a i_a e_a j_a f_a s_b t_b A_b B_b E_b F_b n_b c_b m_b d_b i_b e_b j_b f_b) (by kernel_rfl) (by kernel_rfl) rfl hnd ?_ ?_ ?_ ?_ ?_ ?_ ?_ ?_
 · intro p hp
   simp only [List.mem_cons,List.not_mem_nil,or_false] at hp
   rcases hp with rfl
   · refine ⟨⟨Qm6,rfl,rfl,rfl,fun e w'=>QcO⟩,⟨QgZ,rfl,rfl,rfl,⟨6,.data⟩,by simp [QgZ],rfl,rfl⟩,Qfw _ _ _ _ _ _ _ _ _ _ _ _ _ _,?_,?_⟩
     · rintro cs w1 w2 ⟨s_,A_,n_,c_,B_,m_,d_,t_,E_,i_,e_,F_,j_,f_,rfl,h⟩ hb;exact ⟨s_,A_,n_,c_,B_,m_,d_,t_,E_,i_,e_,F_,j_,f_,rfl,h.below hb⟩
     · rintro T cs w1 w2 g c0 ⟨s_,A_,n_,c_,B_,m_,d_,t_,E_,i_,e_,F_,j_,f_,rfl,h⟩ hB ho;exact ⟨s_,A_,n_,c_,B_,m_,d_,t_,E_,i_,e_,F_,j_,f_,rfl,h.box hB ho⟩
 · intro p hp q hq h
   simp only [List.mem_cons,List.not_mem_nil,or_false] at hp hq
   rcases hp with rfl <;> rcases hq with rfl
   · rfl
 · intro p hp q hq h
   simp only [List.mem_cons,List.not_mem_nil,or_false] at hp hq
   rcases hp with rfl <;> rcases hq with rfl
   · rfl
 · intro i o h1 h2
   match i,h1 with
   | 0,h1=>cases h1;cases h2
   | 1,h1=>cases h1;cases h2
   | 2,h1=>cases h1;cases h2
   | 3,h1=>cases h1;cases h2
   | 4,h1=>cases h1;cases h2
   | 5,h1=>cases h1;cases h2
   | 6,h1=>cases h1;cases h2
   | 7,h1=>exact ⟨Qgs k2 ax ay bx by_,List.Mem.head _,rfl⟩
   | 8,h1=>cases h1;cases h2
   | i+9,h1=>cases h1
 · intro t
   unfold Qrh
   split <;> first | exact (QbF _).inn _ | exact (QbS _ _).inn _ | exact (Qct _ _).inn _ | exact (Qco _ _).inn _ | exact (QbO _ _).inn _ | exact (QbQ _ _ _).inn _ | exact (Qa4).inn _ | exact Qh5 _ _ _ _ _ (fun p hp=>by rw [List.mem_singleton.1 hp];exact (by decide:(29:Nat) ≠ 67))
 · intro i o t sv w' ho hia hd J0 hf
   have XA:=XA.below J0;have XB:=XB.below J0;have a:=a.below J0;have b:=b.below J0
   match i,ho with
   | 0,ho =>
     obtain rfl:QiF=o:=Option.some.inj ho
     cases hd
     refine Qaa (o:=QiF) rfl rfl ?_
     unfold Oper.wp QiF
     rw [QiY (E5 sv) XB.c0 XB.c1 XB.c2 XB.c3 XB.c4 XB.c5,Oper.upon_value]
     exact ⟨_,rfl,Below.refl _ _,rfl⟩
   | 1,ho =>
     obtain rfl:Qij=o:=Option.some.inj ho
     cases hd
     refine Qaa (o:=Qij) rfl rfl ?_
     unfold Oper.wp Qij
     rw [QiY (E4 sv) XA.c0 XA.c1 XA.c2 XA.c3 XA.c4 XA.c5,Oper.upon_value]
     exact ⟨_,rfl,Below.refl _ _,rfl⟩
   | 2,ho =>
     obtain rfl:Qfx=o:=Option.some.inj ho
     cases hd
     have f11:sv 11=Value.agg #[.bool s_b,.slice A_b n_b c_b,.slice B_b m_b d_b,.bool t_b,.slice E_b i_b e_b,.slice F_b j_b f_b]:=hf ⟨0,.data⟩ (by simp [Qfx]) rfl _ 11 rfl rfl (NE _ (by decide))
     have f12:sv 12=Value.agg #[.bool s_a,.slice A_a n_a c_a,.slice B_a m_a d_a,.bool t_a,.slice E_a i_a e_a,.slice F_a j_a f_a]:=hf ⟨1,.data⟩ (by simp [Qfx]) rfl _ 12 rfl rfl (NE _ (by decide))
     refine Qaa (o:=Qfx) rfl rfl ?_
     unfold Oper.wp Qfx
     rw [Qgd ((G sv 11 (by decide) (by decide)).trans f11) ((G sv 12 (by decide) (by decide)).trans f12) rfl,Oper.upon_enter]
     refine (QfD b a hk hk (.inl (by omega)) h1 h1).mono ?_
     rintro e w1 ⟨s_,A_,n_,c_,B_,m_,d_,t_,E_,i_,e_,F_,j_,f_,rfl,hq,hh⟩
     exact ⟨_,rfl,hh,s_,A_,n_,c_,B_,m_,d_,t_,E_,i_,e_,F_,j_,f_,rfl,hq⟩
   | 3,ho =>
     obtain rfl:Qik=o:=Option.some.inj ho
     cases hd
     refine Qaa (o:=Qik) rfl rfl ?_
     unfold Oper.wp Qik
     rw [Qaw (E0 sv),Oper.upon_value]
     exact ⟨_,rfl,Below.refl _ _,rfl⟩
   | 4,ho =>
     obtain rfl:Qgw=o:=Option.some.inj ho
     cases hd
     have f14:sv 14=Value.slice A n c:=hf ⟨3,.data⟩ (by simp [Qgw]) rfl _ 14 rfl rfl (NE _ (by decide))
     refine Qaa (o:=Qgw) rfl rfl ?_
     unfold Oper.wp Qgw
     rw [Qb9 ((G sv 14 (by decide) (by decide)).trans f14) ,Oper.upon_value]
     exact ⟨_,rfl,Below.refl _ _,rfl⟩
   | 5,ho =>
     obtain rfl:QgC=o:=Option.some.inj ho
     cases hd
     have f15:sv 15=Value.int .i64 (n:Int):=hf ⟨4,.data⟩ (by simp [QgC]) rfl _ 15 rfl rfl (NE _ (by decide))
     refine Qaa (o:=QgC) rfl rfl ?_
     unfold Oper.wp QgC
     rw [Qmd ((G sv 15 (by decide) (by decide)).trans f15) ((G sv 15 (by decide) (by decide)).trans f15) hm,Oper.upon_value]
     exact ⟨_,rfl,(Below.refl _ _).alloc (Nat.le_refl _) _,_,rfl,made_c w' n base (Nat.le_trans hbs J0.size)⟩
   | 6,ho=>cases ho;cases hd;exact absurd rfl (hia (Qgs k2 ax ay bx by_) (List.Mem.head _))
   | 7,ho=>cases ho;cases hd
   | 8,ho =>
     obtain rfl:QgD=o:=Option.some.inj ho
     cases hd
     have f:=hf ⟨5,.data⟩ (by simp [QgD]) rfl _ 16 rfl rfl (NE _ (by decide))
     refine Qaa (o:=QgD) rfl rfl ?_
     unfold Oper.wp QgD
     rw [Qbq (G sv 16 (by decide) (by decide)),Oper.upon_value]
     exact ⟨_,rfl,Below.refl _ _,f⟩
   | i+9,ho=>cases ho
 · intro p hp os sv w' g hos J0 p1 p3 hf
   simp only [List.mem_cons,List.not_mem_nil,or_false] at hp
   rcases hp with rfl
   · obtain rfl:QgZ=os:=Option.some.inj hos
     have h1:VPG (bx - ax) (by_ - ay) (k2+k2+1) (sv 13) w':=hf ⟨2,.data⟩ (by simp [QgZ]) rfl _ 13 rfl rfl (NE _ (by decide))
     rw [← G sv 13 (by decide) (by decide)] at h1
     refine Qqz (x:=bx - ax) (y:=by_ - ay) (k:=k2+k2+1) (ac:=Qam ac L_bes1 sv) (z:=.tmp 13) ?_ ?_ ?_
     · exact (G sv 7 (by decide) (by decide)).trans p1
     · exact h1
     · exact p3
 · intro sv w' J0 hF hB hap
   obtain ⟨g0,cs0,p0,r0,b0,⟨s0,A0,n0,c0,B0,m0,d0,t0,E0,i0,e0,F0,j0,f0,rfl,h0⟩⟩:=hB (Qgs k2 ax ay bx by_) (List.Mem.head _)
   have p0':sv 7=.pointer (some ⟨g0,0,none⟩):=p0
   exact hend sv w' g0 _ _ _ _ _ _ _ _ _ _ _ _ _ _ h0 b0.at_ r0 p0'  (hF 8 _ 8 rfl rfl (NE _ (by decide))) J0
theorem QpW {A:Option Addr} {n c k k2:Nat} {L:List PV} {l:List (Rat × Rat)} {ax ay bx by_:Rat} (hL:SV w A (pvs L)) (hE:Each PV.PR w L l k) (a:PR w s_a A_a n_a c_a B_a m_a d_a t_a E_a i_a e_a F_a j_a f_a ax ay k2) (b:PR w s_b A_b n_b c_b B_b m_b d_b t_b E_b i_b e_b F_b j_b f_b bx by_ k2) (hn:L.length=n) (hm:n≤1000) (h1:1≤k) (h2:1≤k2) (hk:k2+k2+1+(k+k2+1)≤20000) :
 Calls Tryz.prog 28 #[.slice A n c,.agg #[.bool s_a,.slice A_a n_a c_a,.slice B_a m_a d_a,.bool t_a,.slice E_a i_a e_a,.slice F_a j_a f_a],.agg #[.bool s_b,.slice A_b n_b c_b,.slice B_b m_b d_b,.bool t_b,.slice E_b i_b e_b,.slice F_b j_b f_b]] w (Qr1 w n l (QaN ax ay bx by_) k (k2+k2+1+(k+k2+1)+(k2+k2+1+(k+k2+1))+1)):=by
 have HN:=Lib.hid hn;have HL0:=Lib.hid hL;have E0:=Lib.hid hE;have RA:=Lib.hid a
 go_enter Tryz.func28,Tryz.ntmps28
 go_upto_region 1 with (fail)
 generalize hW:World.alloc _ _=W
 obtain ⟨hb,XA,XB,hzW⟩:=Qbn hW;clear hW;replace a:=a.below hb;replace b:=b.below hb
 refine Qkx (by simp) rfl rfl rfl XA XB a b (by omega) h2 (by omega) (Nat.le_refl _) ?_
 intro V w1 gW s_y A_y n_y c_y B_y m_y d_y t_y E_y i_y e_y F_y j_y f_y y XW hgW hvW hF8 hh
 obtain ⟨gP,hv8,hgP,hP0⟩:=hF8
 simp only [Qam,Act.put,List.setIfInBounds_toArray,List.set_cons_zero,List.set_cons_succ,hvW,hv8]
 clear hvW hv8;replace XA:=XA.below hh;replace hb:=Qaj hb hh
 have hgWP:gW ≠ gP:=BoxAt.ne (cs:=#[.bool s_y,.slice A_y n_y c_y,.slice B_y m_y d_y,.bool t_y,.slice E_y i_y e_y,.slice F_y j_y f_y]) ⟨XW,Qfw _ _ _ _ _ _ _ _ _ _ _ _ _ _⟩ hP0 (.inl (by decide))
 have hgAP:w.heap.size ≠ gP:=by omega
 clear hL hE a b XB hh
 go_wp2_with fail
 go_loopg [19] n (fun gk ix wr=>∃ (M:List CV) (m:Nat),Hid (gk+m=n)∧ix=.int .i64 (m:Int)∧Hid (M.length=n)∧BoxAt 67 wr gP (cvs M).toArray∧Hid (EachC wr (M.take m) (l.take m) (QaN ax ay bx by_) k (k2+k2+1+(k+k2+1)+(k2+k2+1+(k+k2+1))+1))∧B6 wr gW (.bool s_y) (.slice A_y n_y c_y) (.slice B_y m_y d_y) (.bool t_y) (.slice E_y i_y e_y) (.slice F_y j_y f_y)∧B6 wr w.heap.size (.bool s_a) (.slice A_a n_a c_a) (.slice B_a m_a d_a) (.bool t_a) (.slice E_a i_a e_a) (.slice F_a j_a f_a)∧Hid (PG wr s_y A_y n_y c_y B_y m_y d_y t_y E_y i_y e_y F_y j_y f_y (bx - ax) (by_ - ay) (k2+k2+1))∧Below w.heap.size w wr)
 case atStart=>exact ⟨List.replicate n zcv,0,Nat.add_zero _,rfl,by show _=_;rw [List.length_replicate],hP0,EachC.nil,XW,XA,y,hb⟩
 case round =>
  clear hP0 XW XA y
  obtain ⟨M,m,HG,rfl,HM,hP,HQ,XW,XA,HY,hb⟩:=hrel
  by_cases hmn:m < n
  · have hmn':m < M.length:=by rw [HM.out];exact hmn
    obtain ⟨pm,hpm⟩:∃ pm,M[m]?=some pm:=⟨_,List.getElem?_eq_getElem hmn'⟩
    have HPM:=Lib.hid hpm
    have HL1:=Lib.hid hmn'
    have hixq:∀ w',(Instr.indexAt 64 (.slice (some ⟨gP,0,none⟩) n n) (.int .i64 (m:Int))).run Tryz.prog w'=.ok (.pointer (some ⟨gP,m*9,none⟩)) w':=idx_ct hmn
    obtain ⟨P,u,hP1,hu1,p⟩:=(E0.out.imp (fun p u h=>PR.below h hb)).at_ (i:=m) (by rw [HN.out];exact hmn)
    obtain ⟨g0,o0,hix0,E,_⟩:=(HL0.out.below hb).pt hP1
    have hixa:∀ w',(Instr.indexAt 22 (.slice A n c) (.int .i64 (m:Int))).run Tryz.prog w'=.ok (.pointer (some ⟨g0,o0,none⟩)) w':=fun w'=>hix0 n c w' hmn
    have hlt:(m:Int) < (n:Int):=by omega
    have a:=PR.below RA.out hb;have y:=HY.out;have HU:=Lib.hid hu1
    obtain ⟨ux,uy⟩:=u
    obtain ⟨s_p,A_p,n_p,c_p,B_p,m_p,d_p,t_p,E_p,i_p,e_p,F_p,j_p,f_p⟩:=P
    replace p:PR wr s_p A_p n_p c_p B_p m_p d_p t_p E_p i_p e_p F_p j_p f_p ux uy k:=p
    replace HQ:=HQ.out
    have hx1:wr.heap.size ≠ gP:=by have:=hP.lt;omega
    obtain ⟨e0,e1,e2,e3,e4,e5⟩:=E.all
    simp only at e0 e1 e2 e3 e4 e5
    clear hpm hP1 hu1 hix0 hmn' hmn HY
    go_upto_region 5 with (fail)
    generalize hW:World.alloc _ _=W2
    obtain ⟨hh,X,hzW2⟩:=QaD hW;clear hW;(try replace p:=p.below hh);(try replace a:=a.below hh);(try replace y:=y.below hh);(try replace hP:=hP.below hh);(try replace HQ:=HQ.below hh);(try replace XW:=XW.below hh);(try replace XA:=XA.below hh);replace hb:=Qaj hb hh
    replace p:=p.below (Below.refl _ _).drew
    replace a:=a.below (Below.refl _ _).drew
    replace y:=y.below (Below.refl _ _).drew
    replace hP:=hP.below (Below.refl _ _).drew
    replace HQ:=HQ.below (Below.refl _ _).drew
    replace XW:=XW.below (Below.refl _ _).drew
    replace XA:=XA.below (Below.refl _ _).drew
    replace X:=X.below (Below.refl _ _).drew
    replace hb:=hb.drew
    go_region_held3 (fun w'=>w'.cell? ⟨wr.heap.size,0,none⟩=some (.bool s_p)∧w'.cell? ⟨wr.heap.size,1,none⟩=some (.slice A_p n_p c_p)∧w'.cell? ⟨wr.heap.size,2,none⟩=some (.slice B_p m_p d_p)∧w'.cell? ⟨wr.heap.size,3,none⟩=some (.bool t_p)∧w'.cell? ⟨wr.heap.size,4,none⟩=some (.slice E_p i_p e_p)∧w'.cell? ⟨wr.heap.size,5,none⟩=some (.slice F_p j_p f_p)∧w'.cell? ⟨gW,0,none⟩=some (.bool s_y)∧w'.cell? ⟨gW,1,none⟩=some (.slice A_y n_y c_y)∧w'.cell? ⟨gW,2,none⟩=some (.slice B_y m_y d_y)∧w'.cell? ⟨gW,3,none⟩=some (.bool t_y)∧w'.cell? ⟨gW,4,none⟩=some (.slice E_y i_y e_y)∧w'.cell? ⟨gW,5,none⟩=some (.slice F_y j_y f_y)∧w'.cell? ⟨w.heap.size,0,none⟩=some (.bool s_a)∧w'.cell? ⟨w.heap.size,1,none⟩=some (.slice A_a n_a c_a)∧w'.cell? ⟨w.heap.size,2,none⟩=some (.slice B_a m_a d_a)∧w'.cell? ⟨w.heap.size,3,none⟩=some (.bool t_a)∧w'.cell? ⟨w.heap.size,4,none⟩=some (.slice E_a i_a e_a)∧w'.cell? ⟨w.heap.size,5,none⟩=some (.slice F_a j_a f_a))
     (first | with_reducible exact ⟨X.c0,X.c1,X.c2,X.c3,X.c4,X.c5,XW.c0,XW.c1,XW.c2,XW.c3,XW.c4,XW.c5,XA.c0,XA.c1,XA.c2,XA.c3,XA.c4,XA.c5⟩ | with_reducible exact ⟨(QaO _ _ _ _ _ _ _ _ _ _ _ _ _ _ hx1).trans X.c0,(QaO _ _ _ _ _ _ _ _ _ _ _ _ _ _ hx1).trans X.c1,(QaO _ _ _ _ _ _ _ _ _ _ _ _ _ _ hx1).trans X.c2,(QaO _ _ _ _ _ _ _ _ _ _ _ _ _ _ hx1).trans X.c3,(QaO _ _ _ _ _ _ _ _ _ _ _ _ _ _ hx1).trans X.c4,(QaO _ _ _ _ _ _ _ _ _ _ _ _ _ _ hx1).trans X.c5,(QaO _ _ _ _ _ _ _ _ _ _ _ _ _ _ hgWP).trans XW.c0,(QaO _ _ _ _ _ _ _ _ _ _ _ _ _ _ hgWP).trans XW.c1,(QaO _ _ _ _ _ _ _ _ _ _ _ _ _ _ hgWP).trans XW.c2,(QaO _ _ _ _ _ _ _ _ _ _ _ _ _ _ hgWP).trans XW.c3,(QaO _ _ _ _ _ _ _ _ _ _ _ _ _ _ hgWP).trans XW.c4,(QaO _ _ _ _ _ _ _ _ _ _ _ _ _ _ hgWP).trans XW.c5,(QaO _ _ _ _ _ _ _ _ _ _ _ _ _ _ hgAP).trans XA.c0,(QaO _ _ _ _ _ _ _ _ _ _ _ _ _ _ hgAP).trans XA.c1,(QaO _ _ _ _ _ _ _ _ _ _ _ _ _ _ hgAP).trans XA.c2,(QaO _ _ _ _ _ _ _ _ _ _ _ _ _ _ hgAP).trans XA.c3,(QaO _ _ _ _ _ _ _ _ _ _ _ _ _ _ hgAP).trans XA.c4,(QaO _ _ _ _ _ _ _ _ _ _ _ _ _ _ hgAP).trans XA.c5⟩)
     (first
     | (go_at_call 46;(with_reducible refine (QfD p a (by omega) (by omega) (.inl (by omega)) h1 h2).mono ?_);rintro e w_s ⟨s_s,A_s,n_s,c_s,B_s,m_s,d_s,t_s,E_s,i_s,e_s,F_s,j_s,f_s,rfl,s,hh⟩
        (try replace p:=p.below hh);(try replace a:=a.below hh);(try replace y:=y.below hh);(try replace hP:=hP.below hh);(try replace HQ:=HQ.below hh);(try replace XW:=XW.below hh);(try replace XA:=XA.below hh);(try replace X:=X.below hh);replace hb:=Qaj hb hh;have Eq:=hP.c9 HPM.out;obtain ⟨q0,q1,q2,q3,q4,q5,q6,q7,q8⟩:=Eq.all
        have qf0:=hP.frz (j:=m*9)
        have qf1:=hP.frz (j:=m*9+1)
        have qf2:=hP.frz (j:=m*9+2)
        have qf3:=hP.frz (j:=m*9+3)
        have qf4:=hP.frz (j:=m*9+4)
        have qf5:=hP.frz (j:=m*9+5)
        have qf6:=hP.frz (j:=m*9+6)
        have qf7:=hP.frz (j:=m*9+7)
        have qf8:=hP.frz (j:=m*9+8))
     | (go_at_call 37;(with_reducible refine (QeH y.pr s.pr hk (by omega) (by omega)).mono ?_);rintro e w_x ⟨s_x,A_x,n_x,c_x,B_x,m_x,d_x,rfl,x,hh⟩
        (try replace p:=p.below hh);(try replace a:=a.below hh);(try replace y:=y.below hh);(try replace hP:=hP.below hh);(try replace HQ:=HQ.below hh);(try replace XW:=XW.below hh);(try replace XA:=XA.below hh);(try replace X:=X.below hh);replace hb:=Qaj hb hh;have Eq:=hP.c9 HPM.out;obtain ⟨q0,q1,q2,q3,q4,q5,q6,q7,q8⟩:=Eq.all
        have qf0:=hP.frz (j:=m*9)
        have qf1:=hP.frz (j:=m*9+1)
        have qf2:=hP.frz (j:=m*9+2)
        have qf3:=hP.frz (j:=m*9+3)
        have qf4:=hP.frz (j:=m*9+4)
        have qf5:=hP.frz (j:=m*9+5)
        have qf6:=hP.frz (j:=m*9+6)
        have qf7:=hP.frz (j:=m*9+7)
        have qf8:=hP.frz (j:=m*9+8)))
    have ho:=onlyc w_x gP (m*9) (.bool s_p) (.slice A_p n_p c_p) (.slice B_p m_p d_p) (.bool t_p) (.slice E_p i_p e_p) (.slice F_p j_p f_p) (.bool s_x) (.slice A_x n_x c_x) (.slice B_x m_x d_x)
    have hP2:=hP.setc HL1.out (CV.mk (PV.mk s_p A_p n_p c_p B_p m_p d_p t_p E_p i_p e_p F_p j_p f_p) (QV.mk s_x A_x n_x c_x B_x m_x d_x))
    replace x:=x.box hP ho;replace p:=PR.box p hP ho;replace y:=PG.box y hP ho
    replace HQ:=(HQ.box hP ho).push (c:=(CV.mk (PV.mk s_p A_p n_p c_p B_p m_p d_p t_p E_p i_p e_p F_p j_p f_p) (QV.mk s_x A_x n_x c_x B_x m_x d_x))) (u:=(ux,uy)) p x
    replace XW:B6 (((((((((w_x.setCell ⟨gP,m*9,none⟩ (.bool s_p)).setCell ⟨gP,m*9+1,none⟩ (.slice A_p n_p c_p)).setCell ⟨gP,m*9+2,none⟩ (.slice B_p m_p d_p)).setCell ⟨gP,m*9+3,none⟩ (.bool t_p)).setCell ⟨gP,m*9+4,none⟩ (.slice E_p i_p e_p)).setCell ⟨gP,m*9+5,none⟩ (.slice F_p j_p f_p)).setCell ⟨gP,m*9+6,none⟩ (.bool s_x)).setCell ⟨gP,m*9+7,none⟩ (.slice A_x n_x c_x)).setCell ⟨gP,m*9+8,none⟩ (.slice B_x m_x d_x)) gW (.bool s_y) (.slice A_y n_y c_y) (.slice B_y m_y d_y) (.bool t_y) (.slice E_y i_y e_y) (.slice F_y j_y f_y):=(ho.block _ XW.lt hgWP).trans XW
    replace XA:B6 (((((((((w_x.setCell ⟨gP,m*9,none⟩ (.bool s_p)).setCell ⟨gP,m*9+1,none⟩ (.slice A_p n_p c_p)).setCell ⟨gP,m*9+2,none⟩ (.slice B_p m_p d_p)).setCell ⟨gP,m*9+3,none⟩ (.bool t_p)).setCell ⟨gP,m*9+4,none⟩ (.slice E_p i_p e_p)).setCell ⟨gP,m*9+5,none⟩ (.slice F_p j_p f_p)).setCell ⟨gP,m*9+6,none⟩ (.bool s_x)).setCell ⟨gP,m*9+7,none⟩ (.slice A_x n_x c_x)).setCell ⟨gP,m*9+8,none⟩ (.slice B_x m_x d_x)) w.heap.size (.bool s_a) (.slice A_a n_a c_a) (.slice B_a m_a d_a) (.bool t_a) (.slice E_a i_a e_a) (.slice F_a j_a f_a):=(ho.block _ XA.lt hgAP).trans XA
    replace hb:=Below.only hb (by omega) hb.size ho
    rw [← Qgo HU.out,← QhX HL1.out (CV.mk (PV.mk s_p A_p n_p c_p B_p m_p d_p t_p E_p i_p e_p F_p j_p f_p) (QV.mk s_x A_x n_x c_x B_x m_x d_x))] at HQ
    have HQ2:=Lib.hid HQ;have HY2:=Lib.hid y;clear hP ho Eq q0 qf0 q1 qf1 q2 qf2 q3 qf3 q4 qf4 q5 qf5 q6 qf6 q7 qf7 q8 qf8 X p a x y HQ s
    generalize (((((((((w_x.setCell ⟨gP,m*9,none⟩ (.bool s_p)).setCell ⟨gP,m*9+1,none⟩ (.slice A_p n_p c_p)).setCell ⟨gP,m*9+2,none⟩ (.slice B_p m_p d_p)).setCell ⟨gP,m*9+3,none⟩ (.bool t_p)).setCell ⟨gP,m*9+4,none⟩ (.slice E_p i_p e_p)).setCell ⟨gP,m*9+5,none⟩ (.slice F_p j_p f_p)).setCell ⟨gP,m*9+6,none⟩ (.bool s_x)).setCell ⟨gP,m*9+7,none⟩ (.slice A_x n_x c_x)).setCell ⟨gP,m*9+8,none⟩ (.slice B_x m_x d_x))=W3 at *
    go_wp2_with fail
    go_roundg (gk - 1)
    case measure=>have:=HG.out;omega
    case rel=>exact ⟨M.set m (CV.mk (PV.mk s_p A_p n_p c_p B_p m_p d_p t_p E_p i_p e_p F_p j_p f_p) (QV.mk s_x A_x n_x c_x B_x m_x d_x)),m+1,by have:=HG.out;show _=_;omega,by go_num,by show _=_;rw [List.length_set];exact HM.out,hP2,HQ2.out,XW,XA,HY2,hb⟩
  · have hlt:¬ (m:Int) < (n:Int):=by omega
    obtain rfl:m=n:=by have:=HG.out;omega
    replace HQ:=HQ.out
    rw [List.take_of_length_le (by rw [HM.out];exact Nat.le_refl _),List.take_of_length_le (by rw [← E0.out.1,HN.out];exact Nat.le_refl _)] at HQ
    clear hmn
    go_wp2_with fail
    (try rw [Exit.noGoto_ret])
    go_ret
    exact ⟨gP,M,rfl,by omega,hP,HM.out,HQ,hb⟩
end
section
open Go Go.RowKit
theorem Qsd (s_p:Bool) (A_p:Option Addr) (n_p:Nat) (c_p:Nat) (B_p:Option Addr) (m_p:Nat) (d_p:Nat) (t_p:Bool) (E_p:Option Addr) (i_p:Nat) (e_p:Nat) (F_p:Option Addr) (j_p:Nat) (f_p:Nat) (s_a:Bool) (A_a:Option Addr) (n_a:Nat) (c_a:Nat) (B_a:Option Addr) (m_a:Nat) (d_a:Nat):∀ (x:Nat) (k:IntKind) (v:Int),(#[.bool s_p,.slice A_p n_p c_p,.slice B_p m_p d_p,.bool t_p,.slice E_p i_p e_p,.slice F_p j_p f_p,.bool s_a,.slice A_a n_a c_a,.slice B_a m_a d_a]:Array Value)[x]? ≠ some (.int k v):=by
 intro x k v h
 match x,h with
 | 0,h=>cases h
 | 1,h=>cases h
 | 2,h=>cases h
 | 3,h=>cases h
 | 4,h=>cases h
 | 5,h=>cases h
 | 6,h=>cases h
 | 7,h=>cases h
 | 8,h=>cases h
 | x+9,h=>cases h
theorem QhD {e1:Operand→Value} {d1:Option Tmp} {y1:Nat} {pos:String} {af:Array Edge} :
 (execOp e1 ⟨d1,.alloc 67,y1,pos,af,none⟩).run Tryz.prog w=.ok (.value (.pointer (some ⟨w.heap.size,0,none⟩))) (w.alloc (.cells #[.bool false,.slice none 0 0,.slice none 0 0,.bool false,.slice none 0 0,.slice none 0 0,.bool false,.slice none 0 0,.slice none 0 0] 67)):=by
 go_simp
theorem Qmi {e1:Operand→Value} {d1:Option Tmp} {y1:Nat} {pos:String} {af:Array Edge} {x1 z1:Operand} {g:Nat} {v0 v1 v2 v3 v4 v5 v6 v7 v8:Value} (h:e1 x1=.pointer (some ⟨g,0,none⟩)) (hz:e1 z1=.agg #[.bool s_p,.slice A_p n_p c_p,.slice B_p m_p d_p,.bool t_p,.slice E_p i_p e_p,.slice F_p j_p f_p,.bool s_a,.slice A_a n_a c_a,.slice B_a m_a d_a]) (Z:B9 w g v0 v1 v2 v3 v4 v5 v6 v7 v8) :
 (execOp e1 ⟨d1,.store 67 x1 z1,y1,pos,af,none⟩).run Tryz.prog w=.ok .skip (((((((((w.setCell ⟨g,0,none⟩ (.bool s_p)).setCell ⟨g,1,none⟩ (.slice A_p n_p c_p)).setCell ⟨g,2,none⟩ (.slice B_p m_p d_p)).setCell ⟨g,3,none⟩ (.bool t_p)).setCell ⟨g,4,none⟩ (.slice E_p i_p e_p)).setCell ⟨g,5,none⟩ (.slice F_p j_p f_p)).setCell ⟨g,6,none⟩ (.bool s_a)).setCell ⟨g,7,none⟩ (.slice A_a n_a c_a)).setCell ⟨g,8,none⟩ (.slice B_a m_a d_a)):=by
 have c0:=Z.c0;have f0:=Z.f0;have c1:=Z.c1;have f1:=Z.f1;have c2:=Z.c2;have f2:=Z.f2;have c3:=Z.c3;have f3:=Z.f3;have c4:=Z.c4;have f4:=Z.f4;have c5:=Z.c5;have f5:=Z.f5;have c6:=Z.c6;have f6:=Z.f6;have c7:=Z.c7;have f7:=Z.f7;have c8:=Z.c8;have f8:=Z.f8
 go_simp
theorem B9.set9 {W:World} {g:Nat} {v0 v1 v2 v3 v4 v5 v6 v7 v8:Value} (h:B9 W g v0 v1 v2 v3 v4 v5 v6 v7 v8) (xv0 xv1 xv2 xv3 xv4 xv5 xv6 xv7 xv8:Value):B9 (((((((((W.setCell ⟨g,0,none⟩ (xv0)).setCell ⟨g,1,none⟩ (xv1)).setCell ⟨g,2,none⟩ (xv2)).setCell ⟨g,3,none⟩ (xv3)).setCell ⟨g,4,none⟩ (xv4)).setCell ⟨g,5,none⟩ (xv5)).setCell ⟨g,6,none⟩ (xv6)).setCell ⟨g,7,none⟩ (xv7)).setCell ⟨g,8,none⟩ (xv8)) g xv0 xv1 xv2 xv3 xv4 xv5 xv6 xv7 xv8:=by
 unfold B9 at h ⊢
 simp [World.setCell,Array.getElem?_modify,h]
theorem QlI {ac:Act} {x1 z:Operand} {y1 g:Nat} {pos:String} {af:Array Edge} {Q:Exit→Act→World→Prop} (p1:ac.eval x1=.pointer (some ⟨g,0,none⟩)) (h:VK #[.bool s_p,.slice A_p n_p c_p,.slice B_p m_p d_p,.bool t_p,.slice E_p i_p e_p,.slice F_p j_p f_p,.bool s_a,.slice A_a n_a c_a,.slice B_a m_a d_a] (ac.eval z) w) (Z0:BoxAt 67 w g #[.bool false,.slice none 0 0,.slice none 0 0,.bool false,.slice none 0 0,.slice none 0 0,.bool false,.slice none 0 0,.slice none 0 0]) :
 (⟨none,.store 67 x1 z,y1,pos,af,none⟩:Oper).wp Tryz.prog ac w (fun a'' w''=>a''=ac∧Only g w w''∧∃ cs',BoxAt 67 w'' g cs'∧(fun cs _=>cs=#[.bool s_p,.slice A_p n_p c_p,.slice B_p m_p d_p,.bool t_p,.slice E_p i_p e_p,.slice F_p j_p f_p,.bool s_a,.slice A_a n_a c_a,.slice B_a m_a d_a]) cs' w'') Q:=by
 have Z:B9 w g (.bool false) (.slice none 0 0) (.slice none 0 0) (.bool false) (.slice none 0 0) (.slice none 0 0) (.bool false) (.slice none 0 0) (.slice none 0 0):=Z0.at_
 unfold Oper.wp
 rw [Qmi p1 h Z,Oper.upon_skip]
 have ho:=onlyc w g 0 (.bool s_p) (.slice A_p n_p c_p) (.slice B_p m_p d_p) (.bool t_p) (.slice E_p i_p e_p) (.slice F_p j_p f_p) (.bool s_a) (.slice A_a n_a c_a) (.slice B_a m_a d_a)
 exact ⟨Qd7 ac undef,ho,_,⟨Z.set9 _ _ _ _ _ _ _ _ _ ,Qsd _ _ _ _ _ _ _ _ _ _ _ _ _ _ _ _ _ _ _ _ _ ⟩,rfl⟩
theorem Qpc {e1:Operand→Value} {d1:Option Tmp} {y1:Nat} {pos:String} {af:Array Edge} {x1 x2:Operand} {A:Option Addr} {n c g o:Nat} {M:Int} (h:e1 x1=.slice A n c) (h2:e1 x2=.int .i64 M) (hx:∀ w',(Instr.indexAt 64 (.slice A n c) (.int .i64 M)).run Tryz.prog w'=.ok (.pointer (some ⟨g,o,none⟩)) w') :
 (execOp e1 ⟨d1,.indexAddr 64 x1 x2,y1,pos,af,none⟩).run Tryz.prog w=.ok (.value (.pointer (some ⟨g,o,none⟩))) w:=by
 have h1:=hx w
 go_simp
theorem Qna {e1:Operand→Value} {d1:Option Tmp} {y1:Nat} {pos:String} {af:Array Edge} {x1:Operand} {g o:Nat} {p:CV} (h:e1 x1=.pointer (some ⟨g,o,none⟩)) (E:E9x w g o p) :
 (execOp e1 ⟨d1,.load 67 x1,y1,pos,af,none⟩).run Tryz.prog w=.ok (.value (.agg #[.bool p.p.s,.slice p.p.A p.p.n p.p.c,.slice p.p.B p.p.m p.p.d,.bool p.p.t,.slice p.p.E p.p.i p.p.e,.slice p.p.F p.p.j p.p.f,.bool p.q.s,.slice p.q.A p.q.n p.q.c,.slice p.q.B p.q.m p.q.d])) w:=by
 obtain ⟨e0,e1,e2,e3,e4,e5,e6,e7,e8⟩:=E.all
 go_simp
theorem Ln.own_lt {T:TypeId} {base g:Nat} {v:Value} {L:List PV} (h:Ln T base w v L) (hg:v.ownBlock=some g):g < w.heap.size:=by
 obtain ⟨cs,hc⟩:=h.free g hg;exact hc.lt
theorem B9.push {w w':World} {g:Nat} {v0 v1 v2 v3 v4 v5 v6 v7 v8:Value} {row:Option Nat} (h:B9 w g v0 v1 v2 v3 v4 v5 v6 v7 v8) (hg:w.grownBy w' row) (hne:∀ k,row=some k→k ≠ g):B9 w' g v0 v1 v2 v3 v4 v5 v6 v7 v8 :=
 (hg.block g h.lt (fun e=>hne g e.symm rfl)).trans h
def QfR (u v:Rat × Rat) (t:Rat):Rat × Rat:=(u.1+(v.1 - u.1)*t,u.2+(v.2 - u.2)*t)
def QaM (f:Rat × Rat→Rat) (u v:Rat × Rat):List (Rat × Rat):=(if 0≤f u then [u] else []) ++ (if f u*f v < 0 then [QfR u v (f u / (f u - f v))] else [])
def QcI (f:Rat × Rat→Rat) (r:List (Rat × Rat)):Nat→List (Rat × Rat)
 | 0=>[]
 | m+1=>QcI f r m ++ QaM f (r.getD m (0,0)) (r.getD (m+1) (0,0))
theorem QgU {f:Rat × Rat→Rat} {r:List (Rat × Rat)} {m:Nat} {u v:Rat × Rat} (hu:r[m]?=some u) (hv:r[m+1]?=some v):QcI f r (m+1)=QcI f r m ++ QaM f u v:=by
 rw [QcI,List.getD_eq_getElem?_getD,List.getD_eq_getElem?_getD,hu,hv];rfl
def QaH (f:Rat × Rat→Rat) (l:List (Rat × Rat)):List (Rat × Rat):=QcI f (Qav l) l.length
theorem Qjx (x y:Rat):IntKind.i64.wrap (Qck x*Qck y)=Qck x*Qck y:=by
 rcases QbG x with h | h | h <;> rcases QbG y with g | g | g <;> rw [h.1,g.1] <;> decide +kernel
theorem Qd9 (x y:Rat):Qck x*Qck y < 0 ↔ x*y < 0:=by
 have:=QrV x y
 constructor
 · intro h;exact Rat.not_le.1 fun e=>by have:=this.2 e;omega
 · intro h;exact Int.not_le.1 fun e=>by have:=this.1 e;grind
theorem QhP (x:Rat):0≤Qck x ↔ 0≤x:=by
 rcases QbG x with h | h | h <;> rw [h.1]
 · exact ⟨fun _=>Rat.le_of_lt h.2,fun _=>by decide⟩
 · exact ⟨fun _=>by rw [h.2];exact Rat.le_refl,fun _=>by decide⟩
 · exact ⟨fun e=>absurd e (by decide),fun e=>by have:=h.2;grind⟩
abbrev L_half6:List Nat:=[22,23,24,25,26,27,28,29,30,10,11]
def Qf0:Oper:=⟨some 22,.move (.tmp 8),64, "half.go:16",#[],none⟩
def Qf7:Oper:=⟨some 23,.move (.tmp 9),3, "half.go:16",#[],none⟩
def Qd1:Oper:=⟨some 24,.indexAddr 64 (.tmp 22) (.tmp 23),0, "half.go:16",#[⟨0,.data⟩,⟨1,.data⟩],none⟩
def Qfa:Oper:=⟨some 25,.load 67 (.tmp 24),67, "half.go:16",#[⟨2,.data⟩],none⟩
def QfT:Oper:=⟨some 26,.move (.tmp 8),64, "half.go:16",#[⟨11,.gcOnly .lateStores⟩],none⟩
def Qgb:Oper:=⟨some 27,.move (.tmp 9),3, "half.go:16",#[⟨11,.gcOnly .lateStores⟩],none⟩
def QeE:Oper:=⟨some 28,.binOp BinOp.add 3 (.tmp 27) (.const (Value.int IntKind.i64 1)) 3,3, "half.go:16",#[⟨5,.data⟩,⟨11,.gcOnly .lateStores⟩],none⟩
def Qd2:Oper:=⟨some 29,.indexAddr 64 (.tmp 26) (.tmp 28),0, "half.go:16",#[⟨4,.data⟩,⟨6,.data⟩,⟨11,.gcOnly .lateStores⟩],none⟩
def Qez:Oper:=⟨some 30,.load 67 (.tmp 29),67, "half.go:16",#[⟨7,.data⟩,⟨11,.gcOnly .lateStores⟩],none⟩
def QlU:Oper:=⟨some 10,.alloc 67,0, "half.go:16",#[],none⟩
def QiP:Oper:=⟨some 11,.alloc 67,0, "half.go:16",#[],none⟩
def QdL:Oper:=⟨none,.store 67 (.tmp 10) (.tmp 25),0, "half.go:16",#[⟨9,.data⟩,⟨3,.data⟩,⟨0,.phase⟩,⟨1,.phase⟩,⟨2,.phase⟩,⟨3,.phase⟩,⟨4,.textOnly .lateStores⟩,⟨5,.textOnly .lateStores⟩,⟨6,.textOnly .lateStores⟩,⟨7,.textOnly .lateStores⟩,⟨8,.textOnly .lateStores⟩,⟨9,.phase⟩,⟨10,.phase⟩],none⟩
def QdY:Oper:=⟨none,.store 67 (.tmp 11) (.tmp 30),0, "half.go:16",#[⟨10,.data⟩,⟨8,.data⟩,⟨11,.chain⟩,⟨0,.phase⟩,⟨1,.phase⟩,⟨2,.phase⟩,⟨3,.phase⟩,⟨4,.phase⟩,⟨5,.phase⟩,⟨6,.phase⟩,⟨7,.phase⟩,⟨8,.phase⟩,⟨9,.phase⟩,⟨10,.phase⟩,⟨11,.phase⟩],none⟩
def QnN (A1:Option Addr) (N1:Nat) (c1:Nat) (m:Nat) (g0:Nat) (o0:Nat) (g1:Nat) (o1:Nat) (s_p:Bool) (t_p:Bool) (A_p:Option Addr) (B_p:Option Addr) (E_p:Option Addr) (F_p:Option Addr) (n_p:Nat) (c_p:Nat) (m_p:Nat) (d_p:Nat) (i_p:Nat) (e_p:Nat) (j_p:Nat) (f_p:Nat) (s_a:Bool) (A_a:Option Addr) (B_a:Option Addr) (n_a:Nat) (c_a:Nat) (m_a:Nat) (d_a:Nat) (s_q:Bool) (t_q:Bool) (A_q:Option Addr) (B_q:Option Addr) (E_q:Option Addr) (F_q:Option Addr) (n_q:Nat) (c_q:Nat) (m_q:Nat) (d_q:Nat) (i_q:Nat) (e_q:Nat) (j_q:Nat) (f_q:Nat) (s_b:Bool) (A_b:Option Addr) (B_b:Option Addr) (n_b:Nat) (c_b:Nat) (m_b:Nat) (d_b:Nat) (sl:Nat):Value→World→Prop :=
 match sl with
 | 22=>fun x _=>x=Value.slice A1 N1 c1
 | 23=>fun x _=>x=Value.int .i64 (m:Int)
 | 24=>fun x _=>x=Value.pointer (some ⟨g0,o0,none⟩)
 | 25=>VK (#[.bool s_p,.slice A_p n_p c_p,.slice B_p m_p d_p,.bool t_p,.slice E_p i_p e_p,.slice F_p j_p f_p,.bool s_a,.slice A_a n_a c_a,.slice B_a m_a d_a])
 | 26=>fun x _=>x=Value.slice A1 N1 c1
 | 27=>fun x _=>x=Value.int .i64 (m:Int)
 | 28=>fun x _=>x=Value.int .i64 ((m:Int)+1)
 | 29=>fun x _=>x=Value.pointer (some ⟨g1,o1,none⟩)
 | 30=>VK (#[.bool s_q,.slice A_q n_q c_q,.slice B_q m_q d_q,.bool t_q,.slice E_q i_q e_q,.slice F_q j_q f_q,.bool s_b,.slice A_b n_b c_b,.slice B_b m_b d_b])
 | _=>fun _ _=>True
def Qdw (s_p:Bool) (t_p:Bool) (A_p:Option Addr) (B_p:Option Addr) (E_p:Option Addr) (F_p:Option Addr) (n_p:Nat) (c_p:Nat) (m_p:Nat) (d_p:Nat) (i_p:Nat) (e_p:Nat) (j_p:Nat) (f_p:Nat) (s_a:Bool) (A_a:Option Addr) (B_a:Option Addr) (n_a:Nat) (c_a:Nat) (m_a:Nat) (d_a:Nat):QbU :=
 ⟨9,11,10,67,#[.bool false,.slice none 0 0,.slice none 0 0,.bool false,.slice none 0 0,.slice none 0 0,.bool false,.slice none 0 0,.slice none 0 0],fun cs _=>cs=#[.bool s_p,.slice A_p n_p c_p,.slice B_p m_p d_p,.bool t_p,.slice E_p i_p e_p,.slice F_p j_p f_p,.bool s_a,.slice A_a n_a c_a,.slice B_a m_a d_a]⟩
def Qdp (s_q:Bool) (t_q:Bool) (A_q:Option Addr) (B_q:Option Addr) (E_q:Option Addr) (F_q:Option Addr) (n_q:Nat) (c_q:Nat) (m_q:Nat) (d_q:Nat) (i_q:Nat) (e_q:Nat) (j_q:Nat) (f_q:Nat) (s_b:Bool) (A_b:Option Addr) (B_b:Option Addr) (n_b:Nat) (c_b:Nat) (m_b:Nat) (d_b:Nat):QbU :=
 ⟨10,12,11,67,#[.bool false,.slice none 0 0,.slice none 0 0,.bool false,.slice none 0 0,.slice none 0 0,.bool false,.slice none 0 0,.slice none 0 0],fun cs _=>cs=#[.bool s_q,.slice A_q n_q c_q,.slice B_q m_q d_q,.bool t_q,.slice E_q i_q e_q,.slice F_q j_q f_q,.bool s_b,.slice A_b n_b c_b,.slice B_b m_b d_b]⟩
theorem Qi3 {id:Nat} {ac:Act} {Q:Exit→Act→World→Prop} {A1:Option Addr} {N1 c1 m g0 o0 g1 o1:Nat} 
 (hsz:30 < ac.tmps.size) (e8:ac.eval (.tmp 8)=Value.slice A1 N1 c1) (e9:ac.eval (.tmp 9)=Value.int .i64 (m:Int)) (Ep:E9x w g0 o0 (CV.mk (PV.mk s_p A_p n_p c_p B_p m_p d_p t_p E_p i_p e_p F_p j_p f_p) (QV.mk s_a A_a n_a c_a B_a m_a d_a))) (Eq:E9x w g1 o1 (CV.mk (PV.mk s_q A_q n_q c_q B_q m_q d_q t_q E_q i_q e_q F_q j_q f_q) (QV.mk s_b A_b n_b c_b B_b m_b d_b))) (hixa:∀ w',(Instr.indexAt 64 (.slice A1 N1 c1) (.int .i64 (m:Int))).run Tryz.prog w'=.ok (.pointer (some ⟨g0,o0,none⟩)) w') (hixb:∀ w',(Instr.indexAt 64 (.slice A1 N1 c1) (.int .i64 ((m:Int)+1))).run Tryz.prog w'=.ok (.pointer (some ⟨g1,o1,none⟩)) w') (hwr:IntKind.i64.wrap ((m:Int)+1)=(m:Int)+1)
 (hend:∀ (V:Nat→Value) (w':World) (g0:Nat) (g1:Nat),B9 w' g0 (.bool s_p) (.slice A_p n_p c_p) (.slice B_p m_p d_p) (.bool t_p) (.slice E_p i_p e_p) (.slice F_p j_p f_p) (.bool s_a) (.slice A_a n_a c_a) (.slice B_a m_a d_a)→w.heap.size≤g0→V 10=.pointer (some ⟨g0,0,none⟩)→B9 w' g1 (.bool s_q) (.slice A_q n_q c_q) (.slice B_q m_q d_q) (.bool t_q) (.slice E_q i_q e_q) (.slice F_q j_q f_q) (.bool s_b) (.slice A_b n_b c_b) (.slice B_b m_b d_b)→w.heap.size≤g1→V 11=.pointer (some ⟨g1,0,none⟩)→g1 ≠ g0→Below w.heap.size w w'→Q .normal (Qam ac [22,23,24,25,26,27,28,29,30,10,11] V) w') :
 (Code.region id #[Qf0,Qf7,Qd1,Qfa,QfT,Qgb,QeE,Qd2,Qez,QlU,QiP,QdL,QdY] true).wp Tryz.prog Q ac w:=by
 have hnd:L_half6.Nodup:=by decide
 have G:∀ (sv:Nat→Value) (t:Nat),t ∈ L_half6→t≤30→(Qam ac L_half6 sv).eval (.tmp t)=sv t:=fun sv t ht h=>Qaz (t:=t) L_half6 ac hnd ht (Nat.lt_of_le_of_lt h hsz)
 have E8:∀ sv:Nat→Value,(Qam ac L_half6 sv).eval (.tmp 8)=Value.slice A1 N1 c1:=fun sv=>(Qap (v:=sv) L_half6 ac (show 8 ∉ _ by decide)).trans e8
 have E9:∀ sv:Nat→Value,(Qam ac L_half6 sv).eval (.tmp 9)=Value.int .i64 (m:Int):=fun sv=>(Qap (v:=sv) L_half6 ac (show 9 ∉ _ by decide)).trans e9
 have NE:∀ t:Nat,(t ≠ 10∧t ≠ 11)→∀ p ∈ [Qdw s_p t_p A_p B_p E_p F_p n_p c_p m_p d_p i_p e_p j_p f_p s_a A_a B_a n_a c_a m_a d_a,Qdp s_q t_q A_q B_q E_q F_q n_q c_q m_q d_q i_q e_q j_q f_q s_b A_b B_b n_b c_b m_b d_b],t ≠ p.tA:=by
  intro t ht p hp
  simp only [List.mem_cons,List.not_mem_nil,or_false] at hp
  rcases hp with rfl | rfl
  · exact ht.1
  · exact ht.2
 refine QaB L_half6 [Qdw s_p t_p A_p B_p E_p F_p n_p c_p m_p d_p i_p e_p j_p f_p s_a A_a B_a n_a c_a m_a d_a,Qdp s_q t_q A_q B_q E_q F_q n_q c_q m_q d_q i_q e_q j_q f_q s_b A_b B_b n_b c_b m_b d_b] (QnN A1 N1 c1 m g0 o0 g1 o1 s_p t_p A_p B_p E_p F_p n_p c_p m_p d_p i_p e_p j_p f_p s_a A_a B_a n_a c_a m_a d_a s_q t_q A_q B_q E_q F_q n_q c_q m_q d_q i_q e_q j_q f_q s_b A_b B_b n_b c_b m_b d_b) (by kernel_rfl) (by kernel_rfl) rfl hnd ?_ ?_ ?_ ?_ ?_ ?_ ?_ ?_
 · intro p hp
   simp only [List.mem_cons,List.not_mem_nil,or_false] at hp
   rcases hp with rfl | rfl
   · refine ⟨⟨QlU,rfl,rfl,rfl,fun e w'=>QhD⟩,⟨QdL,rfl,rfl,rfl,⟨9,.data⟩,by simp [QdL],rfl,rfl⟩,Qsd _ _ _ _ _ _ _ _ _ _ _ _ _ _ _ _ _ _ _ _ _,?_,?_⟩
     · rintro cs w1 w2 rfl hb;rfl
     · rintro T cs w1 w2 g c0 rfl hB ho;rfl
   · refine ⟨⟨QiP,rfl,rfl,rfl,fun e w'=>QhD⟩,⟨QdY,rfl,rfl,rfl,⟨10,.data⟩,by simp [QdY],rfl,rfl⟩,Qsd _ _ _ _ _ _ _ _ _ _ _ _ _ _ _ _ _ _ _ _ _,?_,?_⟩
     · rintro cs w1 w2 rfl hb;rfl
     · rintro T cs w1 w2 g c0 rfl hB ho;rfl
 · intro p hp q hq h
   simp only [List.mem_cons,List.not_mem_nil,or_false] at hp hq
   rcases hp with rfl | rfl <;> rcases hq with rfl | rfl
   · rfl
   · exact absurd (show (10:Nat)=11 from h) (by decide)
   · exact absurd (show (11:Nat)=10 from h) (by decide)
   · rfl
 · intro p hp q hq h
   simp only [List.mem_cons,List.not_mem_nil,or_false] at hp hq
   rcases hp with rfl | rfl <;> rcases hq with rfl | rfl
   · rfl
   · exact absurd (show (11:Nat)=12 from h) (by decide)
   · exact absurd (show (12:Nat)=11 from h) (by decide)
   · rfl
 · intro i o h1 h2
   match i,h1 with
   | 0,h1=>cases h1;cases h2
   | 1,h1=>cases h1;cases h2
   | 2,h1=>cases h1;cases h2
   | 3,h1=>cases h1;cases h2
   | 4,h1=>cases h1;cases h2
   | 5,h1=>cases h1;cases h2
   | 6,h1=>cases h1;cases h2
   | 7,h1=>cases h1;cases h2
   | 8,h1=>cases h1;cases h2
   | 9,h1=>cases h1;cases h2
   | 10,h1=>cases h1;cases h2
   | 11,h1=>exact ⟨Qdw s_p t_p A_p B_p E_p F_p n_p c_p m_p d_p i_p e_p j_p f_p s_a A_a B_a n_a c_a m_a d_a,List.Mem.head _,rfl⟩
   | 12,h1=>exact ⟨Qdp s_q t_q A_q B_q E_q F_q n_q c_q m_q d_q i_q e_q j_q f_q s_b A_b B_b n_b c_b m_b d_b,List.Mem.tail _ (List.Mem.head _),rfl⟩
   | i+13,h1=>cases h1
 · intro t
   unfold QnN
   split <;> first | exact (QbF _).inn _ | exact (QbS _ _).inn _ | exact (Qct _ _).inn _ | exact (Qco _ _).inn _ | exact (QbO _ _).inn _ | exact (QbQ _ _ _).inn _ | exact (Qa4).inn _
 · intro i o t sv w' ho hia hd J0 hf
   have Ep:=Ep.below J0;have Eq:=Eq.below J0
   match i,ho with
   | 0,ho =>
     obtain rfl:Qf0=o:=Option.some.inj ho
     cases hd
     refine Qaa (o:=Qf0) rfl rfl ?_
     unfold Oper.wp Qf0
     rw [Qaw (E8 sv),Oper.upon_value]
     exact ⟨_,rfl,Below.refl _ _,rfl⟩
   | 1,ho =>
     obtain rfl:Qf7=o:=Option.some.inj ho
     cases hd
     refine Qaa (o:=Qf7) rfl rfl ?_
     unfold Oper.wp Qf7
     rw [Qaw (E9 sv),Oper.upon_value]
     exact ⟨_,rfl,Below.refl _ _,rfl⟩
   | 2,ho =>
     obtain rfl:Qd1=o:=Option.some.inj ho
     cases hd
     have f22:sv 22=Value.slice A1 N1 c1:=hf ⟨0,.data⟩ (by simp [Qd1]) rfl _ 22 rfl rfl (NE _ (by decide))
     have f23:sv 23=Value.int .i64 (m:Int):=hf ⟨1,.data⟩ (by simp [Qd1]) rfl _ 23 rfl rfl (NE _ (by decide))
     refine Qaa (o:=Qd1) rfl rfl ?_
     unfold Oper.wp Qd1
     rw [Qpc ((G sv 22 (by decide) (by decide)).trans f22) ((G sv 23 (by decide) (by decide)).trans f23) hixa,Oper.upon_value]
     exact ⟨_,rfl,Below.refl _ _,rfl⟩
   | 3,ho =>
     obtain rfl:Qfa=o:=Option.some.inj ho
     cases hd
     have f24:sv 24=Value.pointer (some ⟨g0,o0,none⟩):=hf ⟨2,.data⟩ (by simp [Qfa]) rfl _ 24 rfl rfl (NE _ (by decide))
     refine Qaa (o:=Qfa) rfl rfl ?_
     unfold Oper.wp Qfa
     rw [Qna ((G sv 24 (by decide) (by decide)).trans f24) Ep,Oper.upon_value]
     exact ⟨_,rfl,Below.refl _ _,rfl⟩
   | 4,ho =>
     obtain rfl:QfT=o:=Option.some.inj ho
     cases hd
     refine Qaa (o:=QfT) rfl rfl ?_
     unfold Oper.wp QfT
     rw [Qaw (E8 sv),Oper.upon_value]
     exact ⟨_,rfl,Below.refl _ _,rfl⟩
   | 5,ho =>
     obtain rfl:Qgb=o:=Option.some.inj ho
     cases hd
     refine Qaa (o:=Qgb) rfl rfl ?_
     unfold Oper.wp Qgb
     rw [Qaw (E9 sv),Oper.upon_value]
     exact ⟨_,rfl,Below.refl _ _,rfl⟩
   | 6,ho =>
     obtain rfl:QeE=o:=Option.some.inj ho
     cases hd
     have f27:sv 27=Value.int .i64 (m:Int):=hf ⟨5,.data⟩ (by simp [QeE]) rfl _ 27 rfl rfl (NE _ (by decide))
     refine Qaa (o:=QeE) rfl rfl ?_
     unfold Oper.wp QeE
     rw [Qid ((G sv 27 (by decide) (by decide)).trans f27) (show (Qam ac L_half6 sv).eval (.const (Value.int IntKind.i64 1))=(Value.int IntKind.i64 1) from rfl) hwr,Oper.upon_value]
     exact ⟨_,rfl,Below.refl _ _,rfl⟩
   | 7,ho =>
     obtain rfl:Qd2=o:=Option.some.inj ho
     cases hd
     have f26:sv 26=Value.slice A1 N1 c1:=hf ⟨4,.data⟩ (by simp [Qd2]) rfl _ 26 rfl rfl (NE _ (by decide))
     have f28:sv 28=Value.int .i64 ((m:Int)+1):=hf ⟨6,.data⟩ (by simp [Qd2]) rfl _ 28 rfl rfl (NE _ (by decide))
     refine Qaa (o:=Qd2) rfl rfl ?_
     unfold Oper.wp Qd2
     rw [Qpc ((G sv 26 (by decide) (by decide)).trans f26) ((G sv 28 (by decide) (by decide)).trans f28) hixb,Oper.upon_value]
     exact ⟨_,rfl,Below.refl _ _,rfl⟩
   | 8,ho =>
     obtain rfl:Qez=o:=Option.some.inj ho
     cases hd
     have f29:sv 29=Value.pointer (some ⟨g1,o1,none⟩):=hf ⟨7,.data⟩ (by simp [Qez]) rfl _ 29 rfl rfl (NE _ (by decide))
     refine Qaa (o:=Qez) rfl rfl ?_
     unfold Oper.wp Qez
     rw [Qna ((G sv 29 (by decide) (by decide)).trans f29) Eq,Oper.upon_value]
     exact ⟨_,rfl,Below.refl _ _,rfl⟩
   | 9,ho=>cases ho;cases hd;exact absurd rfl (hia (Qdw s_p t_p A_p B_p E_p F_p n_p c_p m_p d_p i_p e_p j_p f_p s_a A_a B_a n_a c_a m_a d_a) (List.Mem.head _))
   | 10,ho=>cases ho;cases hd;exact absurd rfl (hia (Qdp s_q t_q A_q B_q E_q F_q n_q c_q m_q d_q i_q e_q j_q f_q s_b A_b B_b n_b c_b m_b d_b) (List.Mem.tail _ (List.Mem.head _)))
   | 11,ho=>cases ho;cases hd
   | 12,ho=>cases ho;cases hd
   | i+13,ho=>cases ho
 · intro p hp os sv w' g hos J0 p1 p3 hf
   simp only [List.mem_cons,List.not_mem_nil,or_false] at hp
   rcases hp with rfl | rfl
   · obtain rfl:QdL=os:=Option.some.inj hos
     have h1:VK (#[.bool s_p,.slice A_p n_p c_p,.slice B_p m_p d_p,.bool t_p,.slice E_p i_p e_p,.slice F_p j_p f_p,.bool s_a,.slice A_a n_a c_a,.slice B_a m_a d_a]) (sv 25) w':=hf ⟨3,.data⟩ (by simp [QdL]) rfl _ 25 rfl rfl (NE _ (by decide))
     rw [← G sv 25 (by decide) (by decide)] at h1
     refine QlI  (ac:=Qam ac L_half6 sv) (z:=.tmp 25) ?_ ?_ ?_
     · exact (G sv 10 (by decide) (by decide)).trans p1
     · exact h1
     · exact p3
   · obtain rfl:QdY=os:=Option.some.inj hos
     have h1:VK (#[.bool s_q,.slice A_q n_q c_q,.slice B_q m_q d_q,.bool t_q,.slice E_q i_q e_q,.slice F_q j_q f_q,.bool s_b,.slice A_b n_b c_b,.slice B_b m_b d_b]) (sv 30) w':=hf ⟨8,.data⟩ (by simp [QdY]) rfl _ 30 rfl rfl (NE _ (by decide))
     rw [← G sv 30 (by decide) (by decide)] at h1
     refine QlI  (ac:=Qam ac L_half6 sv) (z:=.tmp 30) ?_ ?_ ?_
     · exact (G sv 11 (by decide) (by decide)).trans p1
     · exact h1
     · exact p3
 · intro sv w' J0 hF hB hap
   obtain ⟨g0,cs0,p0,r0,b0,rfl⟩:=hB (Qdw s_p t_p A_p B_p E_p F_p n_p c_p m_p d_p i_p e_p j_p f_p s_a A_a B_a n_a c_a m_a d_a) (List.Mem.head _)
   obtain ⟨g1,cs1,p1,r1,b1,rfl⟩:=hB (Qdp s_q t_q A_q B_q E_q F_q n_q c_q m_q d_q i_q e_q j_q f_q s_b A_b B_b n_b c_b m_b d_b) (List.Mem.tail _ (List.Mem.head _))
   have p0':sv 10=.pointer (some ⟨g0,0,none⟩):=p0
   have p1':sv 11=.pointer (some ⟨g1,0,none⟩):=p1
   exact hend sv w' g0 g1 b0.at_ r0 p0' b1.at_ r1 p1' (fun q=>hap (Qdp s_q t_q A_q B_q E_q F_q n_q c_q m_q d_q i_q e_q j_q f_q s_b A_b B_b n_b c_b m_b d_b) (List.Mem.tail _ (List.Mem.head _)) (Qdw s_p t_p A_p B_p E_p F_p n_p c_p m_p d_p i_p e_p j_p f_p s_a A_a B_a n_a c_a m_a d_a) (List.Mem.head _) (show (11:Nat) ≠ 10 by decide) (by rw [show (Qdp s_q t_q A_q B_q E_q F_q n_q c_q m_q d_q i_q e_q j_q f_q s_b A_b B_b n_b c_b m_b d_b).tA=11 from rfl,show (Qdw s_p t_p A_p B_p E_p F_p n_p c_p m_p d_p i_p e_p j_p f_p s_a A_a B_a n_a c_a m_a d_a).tA=10 from rfl,p1',p0',q]))   J0
end
end Go.Proofs.YthbhngeiiabagaaGreat
