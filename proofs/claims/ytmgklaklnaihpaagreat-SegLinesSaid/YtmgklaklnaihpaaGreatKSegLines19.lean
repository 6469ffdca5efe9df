/- SegLines: part 19. -/
import Derived.Test.YtmgklaklnaihpaaGreatKSegLines13
import Derived.Test.YtmgklaklnaihpaaGreatKSegLines18
set_option linter.unusedVariables false
set_option maxRecDepth 100000
set_option maxHeartbeats 16000000
variable {w:Go.World}
variable {s_p t_p:Bool} {A_p B_p E_p F_p:Option Go.Addr} {n_p c_p m_p d_p i_p e_p j_p f_p:Nat}
variable {s_q t_q:Bool} {A_q B_q E_q F_q:Option Go.Addr} {n_q c_q m_q d_q i_q e_q j_q f_q:Nat}
variable {s_y:Bool} {A_y B_y:Option Go.Addr} {n_y c_y m_y d_y:Nat}
namespace Go.Proofs.YtmgklaklnaihpaaGreat
open Go Go.RowKit
def RQo (w:World) (s:Bool) (A:Option Addr) (n c:Nat) (B:Option Addr) (m d:Nat) (o ok:Bool) (v:Rat) (k:Nat):Prop:=o=ok∧(ok=true→RQ w s A n c B m d v k)
theorem RQo.below {w w':World} {s:Bool} {A:Option Addr} {n c:Nat} {B:Option Addr} {m d:Nat} {o ok:Bool} {v:Rat} {k:Nat} (h:RQo w s A n c B m d o ok v k) (hb:Below w.heap.size w w'):RQo w' s A n c B m d o ok v k:=⟨h.1,fun q=>(h.2 q).below hb⟩
theorem RQo.box {T:TypeId} {g:Nat} {cs:Array Value} {w w':World} {s:Bool} {A:Option Addr} {n c:Nat} {B:Option Addr} {m d:Nat} {o ok:Bool} {v:Rat} {k:Nat} (h:RQo w s A n c B m d o ok v k) (hB:BoxAt T w g cs) (ho:Only g w w'):RQo w' s A n c B m d o ok v k:=⟨h.1,fun q=>(h.2 q).box hB ho⟩
def VAB (ok:Bool) (v:Rat) (k:Nat) (x:Value) (w:World):Prop:=∃ s A n c B m d o,x=.agg #[.bool s,.slice A n c,.slice B m d,.bool o]∧RQo w s A n c B m d o ok v k
theorem stays_ab (ok:Bool) (v:Rat) (k:Nat):Stays (VAB ok v k) :=
 ⟨fun _ _ _ ⟨s,A,n,c,B,m,d,o,h1,h2⟩ hb=>⟨s,A,n,c,B,m,d,o,h1,h2.below hb⟩,fun _ _ _ _ _ _ ⟨s,A,n,c,B,m,d,o,h1,h2⟩ hB ho=>⟨s,A,n,c,B,m,d,o,h1,h2.box hB ho⟩⟩
def GivesAtB (w:World) (ok:Bool) (v:Rat) (k:Nat) (e:Ending) (w':World):Prop :=
 ∃ s A n c B m d o,e=.returned (.agg #[.bool s,.slice A n c,.slice B m d,.bool o])∧RQo w' s A n c B m d o ok v k∧Below w.heap.size w w'
theorem run_allocT {e:Operand→Value} {d:Option Tmp} {y:Nat} {pos:String} {af:Array Edge} :
 (execOp e ⟨d,.alloc 76,y,pos,af,none⟩).run Tryz.prog w=.ok (.value (.pointer (some ⟨w.heap.size,0,none⟩))) (w.alloc (.cells #[.bool false,.slice none 0 0,.slice none 0 0,.bool false] 76)):=by
 go_simp
theorem run_storeT {e:Operand→Value} {x z:Operand} {d:Option Tmp} {y g:Nat} {pos:String} {af:Array Edge} {s t:Bool} {A B:Option Addr} {n c m k:Nat} {v0 v1 v2 v3:Value} (h:e x=.pointer (some ⟨g,0,none⟩)) (hz:e z=.agg #[.bool s,.slice A n c,.slice B m k,.bool t]) (Z:B4A w g v0 v1 v2 v3) :
 (execOp e ⟨d,.store 76 x z,y,pos,af,none⟩).run Tryz.prog w=.ok .skip ((((w.setCell ⟨g,0,none⟩ (.bool s)).setCell ⟨g,1,none⟩ (.slice A n c)).setCell ⟨g,2,none⟩ (.slice B m k)).setCell ⟨g,3,none⟩ (.bool t)):=by
 obtain ⟨c0,c1,c2,c3⟩:=Z.all;have f0:=Z.f0;have f1:=Z.f1;have f2:=Z.f2;have f3:=Z.f3
 go_simp
theorem store_ab {ac:Act} {x z:Operand} {y g:Nat} {pos:String} {af:Array Edge} {Q:Exit→Act→World→Prop} {o1:Bool} {V:Rat} {k:Nat} (p1:ac.eval x=.pointer (some ⟨g,0,none⟩)) (h:VAB o1 V k (ac.eval z) w) (B:BoxAt 76 w g #[.bool false,.slice none 0 0,.slice none 0 0,.bool false]) :
 (⟨none,.store 76 x z,y,pos,af,none⟩:Oper).wp Tryz.prog ac w (fun a'' w''=>a''=ac∧Only g w w''∧∃ cs',BoxAt 76 w'' g cs'∧(fun cs w=>∃ s A n c B m d o,cs=#[.bool s,.slice A n c,.slice B m d,.bool o]∧RQo w s A n c B m d o o1 V k) cs' w'') Q:=by
 obtain ⟨s,A,n,c,B1,m,d,o,h1,h2⟩:=h
 have Z:B4A w g (.bool false) (.slice none 0 0) (.slice none 0 0) (.bool false):=B.at_
 unfold Oper.wp
 rw [run_storeT p1 h1 Z,Oper.upon_skip]
 have ho:=((((Only.refl g w).setCell 0 (.bool s)).setCell 1 (.slice A n c)).setCell 2 (.slice B1 m d)).setCell 3 (.bool o)
 exact ⟨put_none ac undef,ho,#[.bool s,.slice A n c,.slice B1 m d,.bool o],⟨Z.set4 _ _ _ _,free4 _ _ _ _ _ _ _ _⟩,s,A,n,c,B1,m,d,o,rfl,h2.box B ho⟩
theorem share_iff {v a b:Rat}:shareOK (v - a) (b - a) ↔ a ≠ b∧inQ v a b:=by
 by_cases h:a=b
 · exact ⟨fun q=>absurd (show b - a=0 by rw [h];grind) q.1,fun q=>absurd h q.1⟩
 · exact ⟨fun q=>⟨h,(share_in h).1 q⟩,fun q=>(share_in h).2 q.2⟩
theorem run_load7 {e1:Operand→Value} {x1:Operand} {d1:Option Tmp} {y1 g:Nat} {pos:String} {af:Array Edge} {a b c d e f:Value} (h:e1 x1=.pointer (some ⟨g,0,none⟩)) (h0:w.cell? ⟨g,0,none⟩=some a) (h1:w.cell? ⟨g,1,none⟩=some b) (h2:w.cell? ⟨g,2,none⟩=some c) (h3:w.cell? ⟨g,3,none⟩=some d) (h4:w.cell? ⟨g,4,none⟩=some e) (h5:w.cell? ⟨g,5,none⟩=some f) :
 (execOp e1 ⟨d1,.load 60 x1,y1,pos,af,none⟩).run Tryz.prog w=.ok (.value (.agg #[a,b,c,d,e,f])) w:=by
 go_simp
theorem rlevel_no {k:Nat} {ax ay bx by_ yv:Rat} (p:RP w s_p A_p n_p c_p B_p m_p d_p t_p E_p i_p e_p F_p j_p f_p ax ay k) (q:RP w s_q A_q n_q c_q B_q m_q d_q t_q E_q i_q e_q F_q j_q f_q bx by_ k) (y:RQ w s_y A_y n_y c_y B_y m_y d_y yv k) (hk:k≤50) (h:¬ shareOK (yv - ay) (by_ - ay)):Calls Tryz.prog 41 #[.agg #[.bool s_p,.slice A_p n_p c_p,.slice B_p m_p d_p,.bool t_p,.slice E_p i_p e_p,.slice F_p j_p f_p],.agg #[.bool s_q,.slice A_q n_q c_q,.slice B_q m_q d_q,.bool t_q,.slice E_q i_q e_q,.slice F_q j_q f_q],.agg #[.bool s_y,.slice A_y n_y c_y,.slice B_y m_y d_y]] w (GivesNoAt w):=by
 by_cases he:ay=by_
 · exact rlevel_eq p q y hk he
 · exact rlevel_out p q y hk he (fun e=>h (share_iff.2 ⟨he,e⟩))
theorem rlevel_b {k:Nat} {ax ay bx by_ yv:Rat} (p:RP w s_p A_p n_p c_p B_p m_p d_p t_p E_p i_p e_p F_p j_p f_p ax ay k) (q:RP w s_q A_q n_q c_q B_q m_q d_q t_q E_q i_q e_q F_q j_q f_q bx by_ k) (y:RQ w s_y A_y n_y c_y B_y m_y d_y yv k) (hk:k≤50) (ok:Bool) (h:ok=true ↔ shareOK (yv - ay) (by_ - ay)):Calls Tryz.prog 41 #[.agg #[.bool s_p,.slice A_p n_p c_p,.slice B_p m_p d_p,.bool t_p,.slice E_p i_p e_p,.slice F_p j_p f_p],.agg #[.bool s_q,.slice A_q n_q c_q,.slice B_q m_q d_q,.bool t_q,.slice E_q i_q e_q,.slice F_q j_q f_q],.agg #[.bool s_y,.slice A_y n_y c_y,.slice B_y m_y d_y]] w (GivesAtB w ok (ax+(bx - ax)*((yv - ay) / (by_ - ay))) (k+(k+k+1+(k+k+1+(k+k+1)))+1)):=by
 cases ok with
 | true =>
   have hs:=share_iff.1 (h.1 rfl)
   refine (rlevel_yes p q y hk hs.1 hs.2).mono fun e w' hg=>?_
   obtain ⟨s,A,n,c,B,m,d,h1,h2,h3⟩:=hg
   exact ⟨s,A,n,c,B,m,d,true,h1,⟨rfl,fun _=>h2⟩,h3⟩
 | false =>
   refine (rlevel_no p q y hk (fun q=>by cases h.2 q)).mono fun e w' hg=>?_
   exact ⟨_,_,_,_,_,_,_,false,hg.1,⟨rfl,fun q=>by cases q⟩,hg.2⟩
theorem rupright_no {k:Nat} {ax ay bx by_ yv:Rat} (p:RP w s_p A_p n_p c_p B_p m_p d_p t_p E_p i_p e_p F_p j_p f_p ax ay k) (q:RP w s_q A_q n_q c_q B_q m_q d_q t_q E_q i_q e_q F_q j_q f_q bx by_ k) (y:RQ w s_y A_y n_y c_y B_y m_y d_y yv k) (hk:k≤50) (h:¬ shareOK (yv - ax) (bx - ax)):Calls Tryz.prog 42 #[.agg #[.bool s_p,.slice A_p n_p c_p,.slice B_p m_p d_p,.bool t_p,.slice E_p i_p e_p,.slice F_p j_p f_p],.agg #[.bool s_q,.slice A_q n_q c_q,.slice B_q m_q d_q,.bool t_q,.slice E_q i_q e_q,.slice F_q j_q f_q],.agg #[.bool s_y,.slice A_y n_y c_y,.slice B_y m_y d_y]] w (GivesNoAt w):=by
 by_cases he:ax=bx
 · exact rupright_eq p q y hk he
 · exact rupright_out p q y hk he (fun e=>h (share_iff.2 ⟨he,e⟩))
theorem rupright_b {k:Nat} {ax ay bx by_ yv:Rat} (p:RP w s_p A_p n_p c_p B_p m_p d_p t_p E_p i_p e_p F_p j_p f_p ax ay k) (q:RP w s_q A_q n_q c_q B_q m_q d_q t_q E_q i_q e_q F_q j_q f_q bx by_ k) (y:RQ w s_y A_y n_y c_y B_y m_y d_y yv k) (hk:k≤50) (ok:Bool) (h:ok=true ↔ shareOK (yv - ax) (bx - ax)):Calls Tryz.prog 42 #[.agg #[.bool s_p,.slice A_p n_p c_p,.slice B_p m_p d_p,.bool t_p,.slice E_p i_p e_p,.slice F_p j_p f_p],.agg #[.bool s_q,.slice A_q n_q c_q,.slice B_q m_q d_q,.bool t_q,.slice E_q i_q e_q,.slice F_q j_q f_q],.agg #[.bool s_y,.slice A_y n_y c_y,.slice B_y m_y d_y]] w (GivesAtB w ok (ay+(by_ - ay)*((yv - ax) / (bx - ax))) (k+(k+k+1+(k+k+1+(k+k+1)))+1)):=by
 cases ok with
 | true =>
   have hs:=share_iff.1 (h.1 rfl)
   refine (rupright_yes p q y hk hs.1 hs.2).mono fun e w' hg=>?_
   obtain ⟨s,A,n,c,B,m,d,h1,h2,h3⟩:=hg
   exact ⟨s,A,n,c,B,m,d,true,h1,⟨rfl,fun _=>h2⟩,h3⟩
 | false =>
   refine (rupright_no p q y hk (fun q=>by cases h.2 q)).mono fun e w' hg=>?_
   exact ⟨_,_,_,_,_,_,_,false,hg.1,⟨rfl,fun q=>by cases q⟩,hg.2⟩
abbrev L_lin5:List Nat:=[41,42,43,44,45,46,11,12,13]
def o0_lin5:Oper:=⟨some 41,.load 56 (.tmp 3),56, "law.go:45",#[],none⟩
def o1_lin5:Oper:=⟨some 42,.call ⟨.value (.func 31),#[.tmp 41],#[56]⟩,60, "law.go:45",#[⟨0,.data⟩],none⟩
def o2_lin5:Oper:=⟨some 43,.load 56 (.tmp 4),56, "law.go:45",#[],none⟩
def o3_lin5:Oper:=⟨some 44,.call ⟨.value (.func 31),#[.tmp 43],#[56]⟩,60, "law.go:45",#[⟨2,.data⟩,⟨1,.chain⟩],none⟩
def o4_lin5:Oper:=⟨some 45,.load 26 (.tmp 5),26, "law.go:45",#[],none⟩
def o5_lin5:Oper:=⟨some 46,.call ⟨.value (.func 17),#[.tmp 45],#[26]⟩,37, "law.go:45",#[⟨4,.data⟩,⟨3,.chain⟩],none⟩
def o6_lin5:Oper:=⟨some 11,.alloc 60,0, "law.go:45",#[],none⟩
def o7_lin5:Oper:=⟨some 12,.alloc 60,0, "law.go:45",#[],none⟩
def o8_lin5:Oper:=⟨some 13,.alloc 37,0, "law.go:45",#[],none⟩
def o9_lin5:Oper:=⟨none,.store 60 (.tmp 11) (.tmp 42),0, "law.go:45",#[⟨6,.data⟩,⟨1,.data⟩,⟨5,.chain⟩,⟨0,.phase⟩,⟨1,.phase⟩,⟨2,.textOnly .lateStores⟩,⟨3,.textOnly .lateStoresUnsure⟩,⟨4,.textOnly .lateStores⟩,⟨5,.textOnly .lateStoresUnsure⟩,⟨6,.phase⟩,⟨7,.phase⟩,⟨8,.phase⟩],none⟩
def o10_lin5:Oper:=⟨none,.store 60 (.tmp 12) (.tmp 44),0, "law.go:45",#[⟨7,.data⟩,⟨3,.data⟩,⟨9,.chain⟩,⟨0,.phase⟩,⟨1,.phase⟩,⟨2,.phase⟩,⟨3,.phase⟩,⟨4,.textOnly .lateStores⟩,⟨5,.textOnly .lateStoresUnsure⟩,⟨6,.phase⟩,⟨7,.phase⟩,⟨8,.phase⟩,⟨9,.phase⟩],none⟩
def o11_lin5:Oper:=⟨none,.store 37 (.tmp 13) (.tmp 46),0, "law.go:45",#[⟨8,.data⟩,⟨5,.data⟩,⟨10,.chain⟩,⟨0,.phase⟩,⟨1,.phase⟩,⟨2,.phase⟩,⟨3,.phase⟩,⟨4,.phase⟩,⟨5,.phase⟩,⟨6,.phase⟩,⟨7,.phase⟩,⟨8,.phase⟩,⟨9,.phase⟩,⟨10,.phase⟩],none⟩
def F_lin5 (s_p:Bool) (t_p:Bool) (A_p:Option Addr) (B_p:Option Addr) (E_p:Option Addr) (F_p:Option Addr) (n_p:Nat) (c_p:Nat) (m_p:Nat) (d_p:Nat) (i_p:Nat) (e_p:Nat) (j_p:Nat) (f_p:Nat) (s_q:Bool) (t_q:Bool) (A_q:Option Addr) (B_q:Option Addr) (E_q:Option Addr) (F_q:Option Addr) (n_q:Nat) (c_q:Nat) (m_q:Nat) (d_q:Nat) (i_q:Nat) (e_q:Nat) (j_q:Nat) (f_q:Nat) (s_y:Bool) (A_y:Option Addr) (B_y:Option Addr) (n_y:Nat) (c_y:Nat) (m_y:Nat) (d_y:Nat) (ax:Rat) (ay:Rat) (bx:Rat) (by_:Rat) (yv:Rat) (sl:Nat):Value→World→Prop :=
 match sl with
 | 41=>fun x _=>x=Value.agg #[.bool s_p,.slice A_p n_p c_p,.slice B_p m_p d_p,.bool t_p,.slice E_p i_p e_p,.slice F_p j_p f_p]
 | 42=>VRP (ax) (ay) (2*6)
 | 43=>fun x _=>x=Value.agg #[.bool s_q,.slice A_q n_q c_q,.slice B_q m_q d_q,.bool t_q,.slice E_q i_q e_q,.slice F_q j_q f_q]
 | 44=>VRP (bx) (by_) (2*6)
 | 45=>fun x _=>x=Value.agg #[.bool s_y,.slice A_y n_y c_y,.slice B_y m_y d_y]
 | 46=>VRQ (yv) (2*6)
 | _=>fun _ _=>True
def B0_lin5 (ax:Rat) (ay:Rat):BoxOp :=
 ⟨6,9,11,60,#[.bool false,.slice none 0 0,.slice none 0 0,.bool false,.slice none 0 0,.slice none 0 0],fun cs w=>∃ s A n c B m d t E i e F j f,cs=#[.bool s,.slice A n c,.slice B m d,.bool t,.slice E i e,.slice F j f]∧RP w s A n c B m d t E i e F j f (ax) (ay) (2*6)⟩
def B1_lin5 (bx:Rat) (by_:Rat):BoxOp :=
 ⟨7,10,12,60,#[.bool false,.slice none 0 0,.slice none 0 0,.bool false,.slice none 0 0,.slice none 0 0],fun cs w=>∃ s A n c B m d t E i e F j f,cs=#[.bool s,.slice A n c,.slice B m d,.bool t,.slice E i e,.slice F j f]∧RP w s A n c B m d t E i e F j f (bx) (by_) (2*6)⟩
def B2_lin5 (yv:Rat):BoxOp :=
 ⟨8,11,13,37,#[.bool false,.slice none 0 0,.slice none 0 0],fun cs w=>∃ s A n c B m d,cs=#[.bool s,.slice A n c,.slice B m d]∧RQ w s A n c B m d (yv) (2*6)⟩
theorem lin5_region {id:Nat} {ac:Act} {Q:Exit→Act→World→Prop} {ax ay bx by_ yv:Rat} {gp gq gy:Nat}
 (hsz:46 < ac.tmps.size) (e3:ac.eval (.tmp 3)=Value.pointer (some ⟨gp,0,none⟩)) (e4:ac.eval (.tmp 4)=Value.pointer (some ⟨gq,0,none⟩)) (e5:ac.eval (.tmp 5)=Value.pointer (some ⟨gy,0,none⟩)) (XA:B6 w gp (.bool s_p) (.slice A_p n_p c_p) (.slice B_p m_p d_p) (.bool t_p) (.slice E_p i_p e_p) (.slice F_p j_p f_p)) (XB:B6 w gq (.bool s_q) (.slice A_q n_q c_q) (.slice B_q m_q d_q) (.bool t_q) (.slice E_q i_q e_q) (.slice F_q j_q f_q)) (XC:B3 w gy (.bool s_y) (.slice A_y n_y c_y) (.slice B_y m_y d_y)) (p:PR w s_p A_p n_p c_p B_p m_p d_p t_p E_p i_p e_p F_p j_p f_p ax ay 6) (q:PR w s_q A_q n_q c_q B_q m_q d_q t_q E_q i_q e_q F_q j_q f_q bx by_ 6) (y:QR w s_y A_y n_y c_y B_y m_y d_y yv 6)
 (hend:∀ (V:Nat→Value) (w':World) (g0:Nat) (s0:Bool) (A0:Option Addr) (n0:Nat) (c0:Nat) (B0:Option Addr) (m0:Nat) (d0:Nat) (t0:Bool) (E0:Option Addr) (i0:Nat) (e0:Nat) (F0:Option Addr) (j0:Nat) (f0:Nat) (g1:Nat) (s1:Bool) (A1:Option Addr) (n1:Nat) (c1:Nat) (B1:Option Addr) (m1:Nat) (d1:Nat) (t1:Bool) (E1:Option Addr) (i1:Nat) (e1:Nat) (F1:Option Addr) (j1:Nat) (f1:Nat) (g2:Nat) (s2:Bool) (A2:Option Addr) (n2:Nat) (c2:Nat) (B2:Option Addr) (m2:Nat) (d2:Nat),RP w' s0 A0 n0 c0 B0 m0 d0 t0 E0 i0 e0 F0 j0 f0 (ax) (ay) (2*6)→B6R w' g0 (.bool s0) (.slice A0 n0 c0) (.slice B0 m0 d0) (.bool t0) (.slice E0 i0 e0) (.slice F0 j0 f0)→w.heap.size≤g0→V 11=.pointer (some ⟨g0,0,none⟩)→RP w' s1 A1 n1 c1 B1 m1 d1 t1 E1 i1 e1 F1 j1 f1 (bx) (by_) (2*6)→B6R w' g1 (.bool s1) (.slice A1 n1 c1) (.slice B1 m1 d1) (.bool t1) (.slice E1 i1 e1) (.slice F1 j1 f1)→w.heap.size≤g1→V 12=.pointer (some ⟨g1,0,none⟩)→RQ w' s2 A2 n2 c2 B2 m2 d2 (yv) (2*6)→B3R w' g2 (.bool s2) (.slice A2 n2 c2) (.slice B2 m2 d2)→w.heap.size≤g2→V 13=.pointer (some ⟨g2,0,none⟩)→g1 ≠ g0→g2 ≠ g0→g2 ≠ g1→Below w.heap.size w w'→Q .normal (putAll ac [41,42,43,44,45,46,11,12,13] V) w') :
 (Code.region id #[o0_lin5,o1_lin5,o2_lin5,o3_lin5,o4_lin5,o5_lin5,o6_lin5,o7_lin5,o8_lin5,o9_lin5,o10_lin5,o11_lin5] true).wp Tryz.prog Q ac w:=by
 have hnd:L_lin5.Nodup:=by decide
 have G:∀ (sv:Nat→Value) (t:Nat),t ∈ L_lin5→t≤46→(putAll ac L_lin5 sv).eval (.tmp t)=sv t:=fun sv t ht h=>eval_putAll_mem (t:=t) L_lin5 ac hnd ht (Nat.lt_of_le_of_lt h hsz)
 have E3:∀ sv:Nat→Value,(putAll ac L_lin5 sv).eval (.tmp 3)=Value.pointer (some ⟨gp,0,none⟩):=fun sv=>(eval_putAll_not (v:=sv) L_lin5 ac (show 3 ∉ _ by decide)).trans e3
 have E4:∀ sv:Nat→Value,(putAll ac L_lin5 sv).eval (.tmp 4)=Value.pointer (some ⟨gq,0,none⟩):=fun sv=>(eval_putAll_not (v:=sv) L_lin5 ac (show 4 ∉ _ by decide)).trans e4
 have E5:∀ sv:Nat→Value,(putAll ac L_lin5 sv).eval (.tmp 5)=Value.pointer (some ⟨gy,0,none⟩):=fun sv=>(eval_putAll_not (v:=sv) L_lin5 ac (show 5 ∉ _ by decide)).trans e5
 have NE:∀ t:Nat,(t ≠ 11∧t ≠ 12∧t ≠ 13)→∀ p ∈ [B0_lin5 ax ay,B1_lin5 bx by_,B2_lin5 yv],t ≠ p.tA:=by
  intro t ht p hp
  simp only [List.mem_cons,List.not_mem_nil,or_false] at hp
  rcases hp with rfl | rfl | rfl
  · exact ht.1
  · exact ht.2.1
  · exact ht.2.2
 refine wp_region_flows L_lin5 [B0_lin5 ax ay,B1_lin5 bx by_,B2_lin5 yv] (F_lin5 s_p t_p A_p B_p E_p F_p n_p c_p m_p d_p i_p e_p j_p f_p s_q t_q A_q B_q E_q F_q n_q c_q m_q d_q i_q e_q j_q f_q s_y A_y B_y n_y c_y m_y d_y ax ay bx by_ yv) (by kernel_rfl) (by kernel_rfl) rfl hnd ?_ ?_ ?_ ?_ ?_ ?_ ?_ ?_
 · intro p hp
   simp only [List.mem_cons,List.not_mem_nil,or_false] at hp
   rcases hp with rfl | rfl | rfl
   · refine ⟨⟨o6_lin5,rfl,rfl,rfl,fun e w'=>run_alloc7⟩,⟨o9_lin5,rfl,rfl,rfl,⟨6,.data⟩,by simp [o9_lin5],rfl,rfl⟩,free6 _ _ _ _ _ _ _ _ _ _ _ _ _ _,?_,?_⟩
     · rintro cs w1 w2 ⟨s_,A_,n_,c_,B_,m_,d_,t_,E_,i_,e_,F_,j_,f_,rfl,h⟩ hb;exact ⟨s_,A_,n_,c_,B_,m_,d_,t_,E_,i_,e_,F_,j_,f_,rfl,h.below hb⟩
     · rintro T cs w1 w2 g c0 ⟨s_,A_,n_,c_,B_,m_,d_,t_,E_,i_,e_,F_,j_,f_,rfl,h⟩ hB ho;exact ⟨s_,A_,n_,c_,B_,m_,d_,t_,E_,i_,e_,F_,j_,f_,rfl,h.box hB ho⟩
   · refine ⟨⟨o7_lin5,rfl,rfl,rfl,fun e w'=>run_alloc7⟩,⟨o10_lin5,rfl,rfl,rfl,⟨7,.data⟩,by simp [o10_lin5],rfl,rfl⟩,free6 _ _ _ _ _ _ _ _ _ _ _ _ _ _,?_,?_⟩
     · rintro cs w1 w2 ⟨s_,A_,n_,c_,B_,m_,d_,t_,E_,i_,e_,F_,j_,f_,rfl,h⟩ hb;exact ⟨s_,A_,n_,c_,B_,m_,d_,t_,E_,i_,e_,F_,j_,f_,rfl,h.below hb⟩
     · rintro T cs w1 w2 g c0 ⟨s_,A_,n_,c_,B_,m_,d_,t_,E_,i_,e_,F_,j_,f_,rfl,h⟩ hB ho;exact ⟨s_,A_,n_,c_,B_,m_,d_,t_,E_,i_,e_,F_,j_,f_,rfl,h.box hB ho⟩
   · refine ⟨⟨o8_lin5,rfl,rfl,rfl,fun e w'=>run_alloc3⟩,⟨o11_lin5,rfl,rfl,rfl,⟨8,.data⟩,by simp [o11_lin5],rfl,rfl⟩,free3 _ _ _ _ _ _ _,?_,?_⟩
     · rintro cs w1 w2 ⟨s_,A_,n_,c_,B_,m_,d_,rfl,h⟩ hb;exact ⟨s_,A_,n_,c_,B_,m_,d_,rfl,h.below hb⟩
     · rintro T cs w1 w2 g c0 ⟨s_,A_,n_,c_,B_,m_,d_,rfl,h⟩ hB ho;exact ⟨s_,A_,n_,c_,B_,m_,d_,rfl,h.box hB ho⟩
 · intro p hp q hq h
   simp only [List.mem_cons,List.not_mem_nil,or_false] at hp hq
   rcases hp with rfl | rfl | rfl <;> rcases hq with rfl | rfl | rfl
   · rfl
   · exact absurd (show (11:Nat)=12 from h) (by decide)
   · exact absurd (show (11:Nat)=13 from h) (by decide)
   · exact absurd (show (12:Nat)=11 from h) (by decide)
   · rfl
   · exact absurd (show (12:Nat)=13 from h) (by decide)
   · exact absurd (show (13:Nat)=11 from h) (by decide)
   · exact absurd (show (13:Nat)=12 from h) (by decide)
   · rfl
 · intro p hp q hq h
   simp only [List.mem_cons,List.not_mem_nil,or_false] at hp hq
   rcases hp with rfl | rfl | rfl <;> rcases hq with rfl | rfl | rfl
   · rfl
   · exact absurd (show (9:Nat)=10 from h) (by decide)
   · exact absurd (show (9:Nat)=11 from h) (by decide)
   · exact absurd (show (10:Nat)=9 from h) (by decide)
   · rfl
   · exact absurd (show (10:Nat)=11 from h) (by decide)
   · exact absurd (show (11:Nat)=9 from h) (by decide)
   · exact absurd (show (11:Nat)=10 from h) (by decide)
   · rfl
 · intro i o h1 h2
   match i,h1 with
   | 0,h1=>cases h1;cases h2
   | 1,h1=>cases h1;cases h2
   | 2,h1=>cases h1;cases h2
   | 3,h1=>cases h1;cases h2
   | 4,h1=>cases h1;cases h2
   | 5,h1=>cases h1;cases h2
   | 6,h1=>cases h1;cases h2
   | 7,h1=>cases h1;cases h2
   | 8,h1=>cases h1;cases h2
   | 9,h1=>exact ⟨B0_lin5 ax ay,List.Mem.head _,rfl⟩
   | 10,h1=>exact ⟨B1_lin5 bx by_,List.Mem.tail _ (List.Mem.head _),rfl⟩
   | 11,h1=>exact ⟨B2_lin5 yv,List.Mem.tail _ (List.Mem.tail _ (List.Mem.head _)),rfl⟩
   | i+12,h1=>cases h1
 · intro t
   unfold F_lin5
   split <;> first | exact stays_eq _ | exact stays_q _ _ | exact stays_z _ _ | exact stays_r _ _ | exact stays_rq _ _ | exact stays_pg _ _ _ | exact stays_rp _ _ _ | exact stays_true
 · intro i o t sv w' ho hia hd J0 hf
   have p:=p.below J0;have q:=q.below J0;have y:=y.below J0;have XA:=XA.below J0;have XB:=XB.below J0;have XC:=XC.below J0
   match i,ho with
   | 0,ho =>
     obtain rfl:o0_lin5=o:=Option.some.inj ho
     cases hd
     refine wpOp_plain' (o:=o0_lin5) rfl rfl ?_
     unfold Oper.wp o0_lin5
     rw [run_load6 (E3 sv) XA.c0 XA.c1 XA.c2 XA.c3 XA.c4 XA.c5,Oper.upon_value]
     exact ⟨_,rfl,Below.refl _ _,rfl⟩
   | 1,ho =>
     obtain rfl:o1_lin5=o:=Option.some.inj ho
     cases hd
     have f41:sv 41=Value.agg #[.bool s_p,.slice A_p n_p c_p,.slice B_p m_p d_p,.bool t_p,.slice E_p i_p e_p,.slice F_p j_p f_p]:=hf ⟨0,.data⟩ (by simp [o1_lin5]) rfl _ 41 rfl rfl (NE _ (by decide))
     refine wpOp_plain' (o:=o1_lin5) rfl rfl ?_
     unfold Oper.wp o1_lin5
     rw [rc_gesso_gessoref06_In ((G sv 41 (by decide) (by decide)).trans f41) rfl,Oper.upon_enter]
     refine (rin6 p (by decide) (by decide)).mono ?_
     rintro e w1 ⟨s_,A_,n_,c_,B_,m_,d_,t_,E_,i_,e_,F_,j_,f_,rfl,hq,hh⟩
     exact ⟨_,rfl,hh,s_,A_,n_,c_,B_,m_,d_,t_,E_,i_,e_,F_,j_,f_,rfl,hq⟩
   | 2,ho =>
     obtain rfl:o2_lin5=o:=Option.some.inj ho
     cases hd
     refine wpOp_plain' (o:=o2_lin5) rfl rfl ?_
     unfold Oper.wp o2_lin5
     rw [run_load6 (E4 sv) XB.c0 XB.c1 XB.c2 XB.c3 XB.c4 XB.c5,Oper.upon_value]
     exact ⟨_,rfl,Below.refl _ _,rfl⟩
   | 3,ho =>
     obtain rfl:o3_lin5=o:=Option.some.inj ho
     cases hd
     have f43:sv 43=Value.agg #[.bool s_q,.slice A_q n_q c_q,.slice B_q m_q d_q,.bool t_q,.slice E_q i_q e_q,.slice F_q j_q f_q]:=hf ⟨2,.data⟩ (by simp [o3_lin5]) rfl _ 43 rfl rfl (NE _ (by decide))
     refine wpOp_plain' (o:=o3_lin5) rfl rfl ?_
     unfold Oper.wp o3_lin5
     rw [rc_gesso_gessoref06_In ((G sv 43 (by decide) (by decide)).trans f43) rfl,Oper.upon_enter]
     refine (rin6 q (by decide) (by decide)).mono ?_
     rintro e w1 ⟨s_,A_,n_,c_,B_,m_,d_,t_,E_,i_,e_,F_,j_,f_,rfl,hq,hh⟩
     exact ⟨_,rfl,hh,s_,A_,n_,c_,B_,m_,d_,t_,E_,i_,e_,F_,j_,f_,rfl,hq⟩
   | 4,ho =>
     obtain rfl:o4_lin5=o:=Option.some.inj ho
     cases hd
     refine wpOp_plain' (o:=o4_lin5) rfl rfl ?_
     unfold Oper.wp o4_lin5
     rw [run_loadQ (E5 sv) XC.c0 XC.c1 XC.c2,Oper.upon_value]
     exact ⟨_,rfl,Below.refl _ _,rfl⟩
   | 5,ho =>
     obtain rfl:o5_lin5=o:=Option.some.inj ho
     cases hd
     have f45:sv 45=Value.agg #[.bool s_y,.slice A_y n_y c_y,.slice B_y m_y d_y]:=hf ⟨4,.data⟩ (by simp [o5_lin5]) rfl _ 45 rfl rfl (NE _ (by decide))
     refine wpOp_plain' (o:=o5_lin5) rfl rfl ?_
     unfold Oper.wp o5_lin5
     rw [rc_gesso_gessoref03_In ((G sv 45 (by decide) (by decide)).trans f45) rfl,Oper.upon_enter]
     refine (rin3 y (by decide) (by decide)).mono ?_
     rintro e w1 ⟨s_,A_,n_,c_,B_,m_,d_,rfl,hq,hh⟩
     exact ⟨_,rfl,hh,s_,A_,n_,c_,B_,m_,d_,rfl,hq⟩
   | 6,ho=>cases ho;cases hd;exact absurd rfl (hia (B0_lin5 ax ay) (List.Mem.head _))
   | 7,ho=>cases ho;cases hd;exact absurd rfl (hia (B1_lin5 bx by_) (List.Mem.tail _ (List.Mem.head _)))
   | 8,ho=>cases ho;cases hd;exact absurd rfl (hia (B2_lin5 yv) (List.Mem.tail _ (List.Mem.tail _ (List.Mem.head _))))
   | 9,ho=>cases ho;cases hd
   | 10,ho=>cases ho;cases hd
   | 11,ho=>cases ho;cases hd
   | i+12,ho=>cases ho
 · intro p hp os sv w' g hos J0 p1 p3 hf
   simp only [List.mem_cons,List.not_mem_nil,or_false] at hp
   rcases hp with rfl | rfl | rfl
   · obtain rfl:o9_lin5=os:=Option.some.inj hos
     have h1:VRP (ax) (ay) (2*6) (sv 42) w':=hf ⟨1,.data⟩ (by simp [o9_lin5]) rfl _ 42 rfl rfl (NE _ (by decide))
     rw [← G sv 42 (by decide) (by decide)] at h1
     refine store_rp (x:=ax) (y:=ay) (k:=2*6) (ac:=putAll ac L_lin5 sv) (z:=.tmp 42) ?_ ?_ ?_
     · exact (G sv 11 (by decide) (by decide)).trans p1
     · exact h1
     · exact p3
   · obtain rfl:o10_lin5=os:=Option.some.inj hos
     have h1:VRP (bx) (by_) (2*6) (sv 44) w':=hf ⟨3,.data⟩ (by simp [o10_lin5]) rfl _ 44 rfl rfl (NE _ (by decide))
     rw [← G sv 44 (by decide) (by decide)] at h1
     refine store_rp (x:=bx) (y:=by_) (k:=2*6) (ac:=putAll ac L_lin5 sv) (z:=.tmp 44) ?_ ?_ ?_
     · exact (G sv 12 (by decide) (by decide)).trans p1
     · exact h1
     · exact p3
   · obtain rfl:o11_lin5=os:=Option.some.inj hos
     have h1:VRQ (yv) (2*6) (sv 46) w':=hf ⟨5,.data⟩ (by simp [o11_lin5]) rfl _ 46 rfl rfl (NE _ (by decide))
     rw [← G sv 46 (by decide) (by decide)] at h1
     refine store_rq (V:=yv) (k:=2*6) (ac:=putAll ac L_lin5 sv) (z:=.tmp 46) ?_ ?_ ?_
     · exact (G sv 13 (by decide) (by decide)).trans p1
     · exact h1
     · exact p3
 · intro sv w' J0 hF hB hap
   obtain ⟨g0,cs0,p0,r0,b0,⟨s0,A0,n0,c0,B0,m0,d0,t0,E0,i0,e0,F0,j0,f0,rfl,h0⟩⟩:=hB (B0_lin5 ax ay) (List.Mem.head _)
   obtain ⟨g1,cs1,p1,r1,b1,⟨s1,A1,n1,c1,B1,m1,d1,t1,E1,i1,e1,F1,j1,f1,rfl,h1⟩⟩:=hB (B1_lin5 bx by_) (List.Mem.tail _ (List.Mem.head _))
   obtain ⟨g2,cs2,p2,r2,b2,⟨s2,A2,n2,c2,B2,m2,d2,rfl,h2⟩⟩:=hB (B2_lin5 yv) (List.Mem.tail _ (List.Mem.tail _ (List.Mem.head _)))
   have p0':sv 11=.pointer (some ⟨g0,0,none⟩):=p0
   have p1':sv 12=.pointer (some ⟨g1,0,none⟩):=p1
   have p2':sv 13=.pointer (some ⟨g2,0,none⟩):=p2
   exact hend sv w' g0 _ _ _ _ _ _ _ _ _ _ _ _ _ _ g1 _ _ _ _ _ _ _ _ _ _ _ _ _ _ g2 _ _ _ _ _ _ _ h0 b0.at_ r0 p0' h1 b1.at_ r1 p1' h2 b2.at_ r2 p2' (fun q=>hap (B1_lin5 bx by_) (List.Mem.tail _ (List.Mem.head _)) (B0_lin5 ax ay) (List.Mem.head _) (show (12:Nat) ≠ 11 by decide) (by rw [show (B1_lin5 bx by_).tA=12 from rfl,show (B0_lin5 ax ay).tA=11 from rfl,p1',p0',q])) (fun q=>hap (B2_lin5 yv) (List.Mem.tail _ (List.Mem.tail _ (List.Mem.head _))) (B0_lin5 ax ay) (List.Mem.head _) (show (13:Nat) ≠ 11 by decide) (by rw [show (B2_lin5 yv).tA=13 from rfl,show (B0_lin5 ax ay).tA=11 from rfl,p2',p0',q])) (fun q=>hap (B2_lin5 yv) (List.Mem.tail _ (List.Mem.tail _ (List.Mem.head _))) (B1_lin5 bx by_) (List.Mem.tail _ (List.Mem.head _)) (show (13:Nat) ≠ 12 by decide) (by rw [show (B2_lin5 yv).tA=13 from rfl,show (B1_lin5 bx by_).tA=12 from rfl,p2',p1',q]))  J0
abbrev L_lin6:List Nat:=[47,48,49,50,51,52,53,54,14,15]
def o0_lin6:Oper:=⟨some 47,.load 60 (.tmp 11),60, "law.go:46",#[],none⟩
def o1_lin6:Oper:=⟨some 48,.load 60 (.tmp 12),60, "law.go:46",#[],none⟩
def o2_lin6:Oper:=⟨some 49,.load 37 (.tmp 13),37, "law.go:46",#[],none⟩
def o3_lin6:Oper:=⟨some 50,.call ⟨.value (.func 41),#[.tmp 47,.tmp 48,.tmp 49],#[60,60,37]⟩,76, "law.go:46",#[⟨0,.data⟩,⟨1,.data⟩,⟨2,.data⟩],none⟩
def o4_lin6:Oper:=⟨some 51,.load 60 (.tmp 11),60, "law.go:46",#[],none⟩
def o5_lin6:Oper:=⟨some 52,.load 60 (.tmp 12),60, "law.go:46",#[],none⟩
def o6_lin6:Oper:=⟨some 53,.load 37 (.tmp 13),37, "law.go:46",#[],none⟩
def o7_lin6:Oper:=⟨some 54,.call ⟨.value (.func 42),#[.tmp 51,.tmp 52,.tmp 53],#[60,60,37]⟩,76, "law.go:46",#[⟨4,.data⟩,⟨5,.data⟩,⟨6,.data⟩,⟨3,.chain⟩],none⟩
def o8_lin6:Oper:=⟨some 14,.alloc 76,0, "law.go:46",#[],none⟩
def o9_lin6:Oper:=⟨some 15,.alloc 76,0, "law.go:46",#[],none⟩
def o10_lin6:Oper:=⟨none,.store 76 (.tmp 14) (.tmp 50),0, "law.go:46",#[⟨8,.data⟩,⟨3,.data⟩,⟨7,.chain⟩,⟨0,.phase⟩,⟨1,.phase⟩,⟨2,.phase⟩,⟨3,.phase⟩,⟨4,.textOnly .lateStores⟩,⟨5,.textOnly .lateStores⟩,⟨6,.textOnly .lateStores⟩,⟨7,.textOnly .lateStoresUnsure⟩,⟨8,.phase⟩,⟨9,.phase⟩],none⟩
def o11_lin6:Oper:=⟨none,.store 76 (.tmp 15) (.tmp 54),0, "law.go:46",#[⟨9,.data⟩,⟨7,.data⟩,⟨10,.chain⟩,⟨0,.phase⟩,⟨1,.phase⟩,⟨2,.phase⟩,⟨3,.phase⟩,⟨4,.phase⟩,⟨5,.phase⟩,⟨6,.phase⟩,⟨7,.phase⟩,⟨8,.phase⟩,⟨9,.phase⟩,⟨10,.phase⟩],none⟩
theorem rc_gesso_gessoref07_Level {e:Operand→Value} {x0 x1 x2:Operand} {d:Option Tmp} {y:Nat} {pos:String} {af:Array Edge} {u0 u1 u2:Value} (h0:e x0=u0) (h1:e x1=u1) (h2:e x2=u2) (hf:e (.func 41)=.func (.func 41) #[] #[]) :
 (execOp e ⟨d,.call ⟨.value (.func 41),#[x0,x1,x2],#[60,60,37]⟩,y,pos,af,none⟩).run Tryz.prog w=.ok (.enter 41 #[u0,u1,u2]) w:=by
 go_simp
theorem rc_gesso_gessoref07_Upright {e:Operand→Value} {x0 x1 x2:Operand} {d:Option Tmp} {y:Nat} {pos:String} {af:Array Edge} {u0 u1 u2:Value} (h0:e x0=u0) (h1:e x1=u1) (h2:e x2=u2) (hf:e (.func 42)=.func (.func 42) #[] #[]) :
 (execOp e ⟨d,.call ⟨.value (.func 42),#[x0,x1,x2],#[60,60,37]⟩,y,pos,af,none⟩).run Tryz.prog w=.ok (.enter 42 #[u0,u1,u2]) w:=by
 go_simp
def F_lin6 (s_p:Bool) (t_p:Bool) (A_p:Option Addr) (B_p:Option Addr) (E_p:Option Addr) (F_p:Option Addr) (n_p:Nat) (c_p:Nat) (m_p:Nat) (d_p:Nat) (i_p:Nat) (e_p:Nat) (j_p:Nat) (f_p:Nat) (s_q:Bool) (t_q:Bool) (A_q:Option Addr) (B_q:Option Addr) (E_q:Option Addr) (F_q:Option Addr) (n_q:Nat) (c_q:Nat) (m_q:Nat) (d_q:Nat) (i_q:Nat) (e_q:Nat) (j_q:Nat) (f_q:Nat) (s_y:Bool) (A_y:Option Addr) (B_y:Option Addr) (n_y:Nat) (c_y:Nat) (m_y:Nat) (d_y:Nat) (ax:Rat) (ay:Rat) (bx:Rat) (by_:Rat) (yv:Rat) (okl:Bool) (oku:Bool) (sl:Nat):Value→World→Prop :=
 match sl with
 | 47=>fun x _=>x=Value.agg #[.bool s_p,.slice A_p n_p c_p,.slice B_p m_p d_p,.bool t_p,.slice E_p i_p e_p,.slice F_p j_p f_p]
 | 48=>fun x _=>x=Value.agg #[.bool s_q,.slice A_q n_q c_q,.slice B_q m_q d_q,.bool t_q,.slice E_q i_q e_q,.slice F_q j_q f_q]
 | 49=>fun x _=>x=Value.agg #[.bool s_y,.slice A_y n_y c_y,.slice B_y m_y d_y]
 | 50=>VAB (okl) ((ax+(bx - ax)*((yv - ay) / (by_ - ay)))) (2*6+(2*6+2*6+1+(2*6+2*6+1+(2*6+2*6+1)))+1)
 | 51=>fun x _=>x=Value.agg #[.bool s_p,.slice A_p n_p c_p,.slice B_p m_p d_p,.bool t_p,.slice E_p i_p e_p,.slice F_p j_p f_p]
 | 52=>fun x _=>x=Value.agg #[.bool s_q,.slice A_q n_q c_q,.slice B_q m_q d_q,.bool t_q,.slice E_q i_q e_q,.slice F_q j_q f_q]
 | 53=>fun x _=>x=Value.agg #[.bool s_y,.slice A_y n_y c_y,.slice B_y m_y d_y]
 | 54=>VAB (oku) ((ay+(by_ - ay)*((yv - ax) / (bx - ax)))) (2*6+(2*6+2*6+1+(2*6+2*6+1+(2*6+2*6+1)))+1)
 | _=>fun _ _=>True
def B0_lin6 (ax:Rat) (ay:Rat) (bx:Rat) (by_:Rat) (yv:Rat) (okl:Bool):BoxOp :=
 ⟨8,10,14,76,#[.bool false,.slice none 0 0,.slice none 0 0,.bool false],fun cs w=>∃ s A n c B m d o,cs=#[.bool s,.slice A n c,.slice B m d,.bool o]∧RQo w s A n c B m d o (okl) ((ax+(bx - ax)*((yv - ay) / (by_ - ay)))) (2*6+(2*6+2*6+1+(2*6+2*6+1+(2*6+2*6+1)))+1)⟩
def B1_lin6 (ax:Rat) (ay:Rat) (bx:Rat) (by_:Rat) (yv:Rat) (oku:Bool):BoxOp :=
 ⟨9,11,15,76,#[.bool false,.slice none 0 0,.slice none 0 0,.bool false],fun cs w=>∃ s A n c B m d o,cs=#[.bool s,.slice A n c,.slice B m d,.bool o]∧RQo w s A n c B m d o (oku) ((ay+(by_ - ay)*((yv - ax) / (bx - ax)))) (2*6+(2*6+2*6+1+(2*6+2*6+1+(2*6+2*6+1)))+1)⟩
theorem lin6_region {id:Nat} {ac:Act} {Q:Exit→Act→World→Prop} {ax ay bx by_ yv:Rat} {gp gq gy:Nat} {okl oku:Bool}
 (hsz:54 < ac.tmps.size) (e11:ac.eval (.tmp 11)=Value.pointer (some ⟨gp,0,none⟩)) (e12:ac.eval (.tmp 12)=Value.pointer (some ⟨gq,0,none⟩)) (e13:ac.eval (.tmp 13)=Value.pointer (some ⟨gy,0,none⟩)) (XA:B6R w gp (.bool s_p) (.slice A_p n_p c_p) (.slice B_p m_p d_p) (.bool t_p) (.slice E_p i_p e_p) (.slice F_p j_p f_p)) (XB:B6R w gq (.bool s_q) (.slice A_q n_q c_q) (.slice B_q m_q d_q) (.bool t_q) (.slice E_q i_q e_q) (.slice F_q j_q f_q)) (XC:B3R w gy (.bool s_y) (.slice A_y n_y c_y) (.slice B_y m_y d_y)) (p:RP w s_p A_p n_p c_p B_p m_p d_p t_p E_p i_p e_p F_p j_p f_p ax ay (2*6)) (q:RP w s_q A_q n_q c_q B_q m_q d_q t_q E_q i_q e_q F_q j_q f_q bx by_ (2*6)) (y:RQ w s_y A_y n_y c_y B_y m_y d_y yv (2*6)) (hl:okl=true ↔ shareOK (yv - ay) (by_ - ay)) (hu:oku=true ↔ shareOK (yv - ax) (bx - ax))
 (hend:∀ (V:Nat→Value) (w':World) (g0:Nat) (s0:Bool) (A0:Option Addr) (n0:Nat) (c0:Nat) (B0:Option Addr) (m0:Nat) (d0:Nat) (o0:Bool) (g1:Nat) (s1:Bool) (A1:Option Addr) (n1:Nat) (c1:Nat) (B1:Option Addr) (m1:Nat) (d1:Nat) (o1:Bool),RQo w' s0 A0 n0 c0 B0 m0 d0 o0 (okl) ((ax+(bx - ax)*((yv - ay) / (by_ - ay)))) (2*6+(2*6+2*6+1+(2*6+2*6+1+(2*6+2*6+1)))+1)→B4A w' g0 (.bool s0) (.slice A0 n0 c0) (.slice B0 m0 d0) (.bool o0)→w.heap.size≤g0→V 14=.pointer (some ⟨g0,0,none⟩)→RQo w' s1 A1 n1 c1 B1 m1 d1 o1 (oku) ((ay+(by_ - ay)*((yv - ax) / (bx - ax)))) (2*6+(2*6+2*6+1+(2*6+2*6+1+(2*6+2*6+1)))+1)→B4A w' g1 (.bool s1) (.slice A1 n1 c1) (.slice B1 m1 d1) (.bool o1)→w.heap.size≤g1→V 15=.pointer (some ⟨g1,0,none⟩)→g1 ≠ g0→Below w.heap.size w w'→Q .normal (putAll ac [47,48,49,50,51,52,53,54,14,15] V) w') :
 (Code.region id #[o0_lin6,o1_lin6,o2_lin6,o3_lin6,o4_lin6,o5_lin6,o6_lin6,o7_lin6,o8_lin6,o9_lin6,o10_lin6,o11_lin6] true).wp Tryz.prog Q ac w:=by
 have hnd:L_lin6.Nodup:=by decide
 have G:∀ (sv:Nat→Value) (t:Nat),t ∈ L_lin6→t≤54→(putAll ac L_lin6 sv).eval (.tmp t)=sv t:=fun sv t ht h=>eval_putAll_mem (t:=t) L_lin6 ac hnd ht (Nat.lt_of_le_of_lt h hsz)
 have E11:∀ sv:Nat→Value,(putAll ac L_lin6 sv).eval (.tmp 11)=Value.pointer (some ⟨gp,0,none⟩):=fun sv=>(eval_putAll_not (v:=sv) L_lin6 ac (show 11 ∉ _ by decide)).trans e11
 have E12:∀ sv:Nat→Value,(putAll ac L_lin6 sv).eval (.tmp 12)=Value.pointer (some ⟨gq,0,none⟩):=fun sv=>(eval_putAll_not (v:=sv) L_lin6 ac (show 12 ∉ _ by decide)).trans e12
 have E13:∀ sv:Nat→Value,(putAll ac L_lin6 sv).eval (.tmp 13)=Value.pointer (some ⟨gy,0,none⟩):=fun sv=>(eval_putAll_not (v:=sv) L_lin6 ac (show 13 ∉ _ by decide)).trans e13
 have NE:∀ t:Nat,(t ≠ 14∧t ≠ 15)→∀ p ∈ [B0_lin6 ax ay bx by_ yv okl,B1_lin6 ax ay bx by_ yv oku],t ≠ p.tA:=by
  intro t ht p hp
  simp only [List.mem_cons,List.not_mem_nil,or_false] at hp
  rcases hp with rfl | rfl
  · exact ht.1
  · exact ht.2
 refine wp_region_flows L_lin6 [B0_lin6 ax ay bx by_ yv okl,B1_lin6 ax ay bx by_ yv oku] (F_lin6 s_p t_p A_p B_p E_p F_p n_p c_p m_p d_p i_p e_p j_p f_p s_q t_q A_q B_q E_q F_q n_q c_q m_q d_q i_q e_q j_q f_q s_y A_y B_y n_y c_y m_y d_y ax ay bx by_ yv okl oku) (by kernel_rfl) (by kernel_rfl) rfl hnd ?_ ?_ ?_ ?_ ?_ ?_ ?_ ?_
 · intro p hp
   simp only [List.mem_cons,List.not_mem_nil,or_false] at hp
   rcases hp with rfl | rfl
   · refine ⟨⟨o8_lin6,rfl,rfl,rfl,fun e w'=>run_allocT⟩,⟨o10_lin6,rfl,rfl,rfl,⟨8,.data⟩,by simp [o10_lin6],rfl,rfl⟩,free4 _ _ _ _ _ _ _ _,?_,?_⟩
     · rintro cs w1 w2 ⟨s_,A_,n_,c_,B_,m_,d_,o_,rfl,h⟩ hb;exact ⟨s_,A_,n_,c_,B_,m_,d_,o_,rfl,h.below hb⟩
     · rintro T cs w1 w2 g c0 ⟨s_,A_,n_,c_,B_,m_,d_,o_,rfl,h⟩ hB ho;exact ⟨s_,A_,n_,c_,B_,m_,d_,o_,rfl,h.box hB ho⟩
   · refine ⟨⟨o9_lin6,rfl,rfl,rfl,fun e w'=>run_allocT⟩,⟨o11_lin6,rfl,rfl,rfl,⟨9,.data⟩,by simp [o11_lin6],rfl,rfl⟩,free4 _ _ _ _ _ _ _ _,?_,?_⟩
     · rintro cs w1 w2 ⟨s_,A_,n_,c_,B_,m_,d_,o_,rfl,h⟩ hb;exact ⟨s_,A_,n_,c_,B_,m_,d_,o_,rfl,h.below hb⟩
     · rintro T cs w1 w2 g c0 ⟨s_,A_,n_,c_,B_,m_,d_,o_,rfl,h⟩ hB ho;exact ⟨s_,A_,n_,c_,B_,m_,d_,o_,rfl,h.box hB ho⟩
 · intro p hp q hq h
   simp only [List.mem_cons,List.not_mem_nil,or_false] at hp hq
   rcases hp with rfl | rfl <;> rcases hq with rfl | rfl
   · rfl
   · exact absurd (show (14:Nat)=15 from h) (by decide)
   · exact absurd (show (15:Nat)=14 from h) (by decide)
   · rfl
 · intro p hp q hq h
   simp only [List.mem_cons,List.not_mem_nil,or_false] at hp hq
   rcases hp with rfl | rfl <;> rcases hq with rfl | rfl
   · rfl
   · exact absurd (show (10:Nat)=11 from h) (by decide)
   · exact absurd (show (11:Nat)=10 from h) (by decide)
   · rfl
 · intro i o h1 h2
   match i,h1 with
   | 0,h1=>cases h1;cases h2
   | 1,h1=>cases h1;cases h2
   | 2,h1=>cases h1;cases h2
   | 3,h1=>cases h1;cases h2
   | 4,h1=>cases h1;cases h2
   | 5,h1=>cases h1;cases h2
   | 6,h1=>cases h1;cases h2
   | 7,h1=>cases h1;cases h2
   | 8,h1=>cases h1;cases h2
   | 9,h1=>cases h1;cases h2
   | 10,h1=>exact ⟨B0_lin6 ax ay bx by_ yv okl,List.Mem.head _,rfl⟩
   | 11,h1=>exact ⟨B1_lin6 ax ay bx by_ yv oku,List.Mem.tail _ (List.Mem.head _),rfl⟩
   | i+12,h1=>cases h1
 · intro t
   unfold F_lin6
   split <;> first | exact stays_eq _ | exact stays_q _ _ | exact stays_z _ _ | exact stays_r _ _ | exact stays_rq _ _ | exact stays_pg _ _ _ | exact stays_ab _ _ _ | exact stays_true
 · intro i o t sv w' ho hia hd J0 hf
   have p:=p.below J0;have q:=q.below J0;have y:=y.below J0;have XA:=XA.below J0;have XB:=XB.below J0;have XC:=XC.below J0
   match i,ho with
   | 0,ho =>
     obtain rfl:o0_lin6=o:=Option.some.inj ho
     cases hd
     refine wpOp_plain' (o:=o0_lin6) rfl rfl ?_
     unfold Oper.wp o0_lin6
     rw [run_load7 (E11 sv) XA.c0 XA.c1 XA.c2 XA.c3 XA.c4 XA.c5,Oper.upon_value]
     exact ⟨_,rfl,Below.refl _ _,rfl⟩
   | 1,ho =>
     obtain rfl:o1_lin6=o:=Option.some.inj ho
     cases hd
     refine wpOp_plain' (o:=o1_lin6) rfl rfl ?_
     unfold Oper.wp o1_lin6
     rw [run_load7 (E12 sv) XB.c0 XB.c1 XB.c2 XB.c3 XB.c4 XB.c5,Oper.upon_value]
     exact ⟨_,rfl,Below.refl _ _,rfl⟩
   | 2,ho =>
     obtain rfl:o2_lin6=o:=Option.some.inj ho
     cases hd
     refine wpOp_plain' (o:=o2_lin6) rfl rfl ?_
     unfold Oper.wp o2_lin6
     rw [run_load3 (E13 sv) XC.c0 XC.c1 XC.c2,Oper.upon_value]
     exact ⟨_,rfl,Below.refl _ _,rfl⟩
   | 3,ho =>
     obtain rfl:o3_lin6=o:=Option.some.inj ho
     cases hd
     have f47:sv 47=Value.agg #[.bool s_p,.slice A_p n_p c_p,.slice B_p m_p d_p,.bool t_p,.slice E_p i_p e_p,.slice F_p j_p f_p]:=hf ⟨0,.data⟩ (by simp [o3_lin6]) rfl _ 47 rfl rfl (NE _ (by decide))
     have f48:sv 48=Value.agg #[.bool s_q,.slice A_q n_q c_q,.slice B_q m_q d_q,.bool t_q,.slice E_q i_q e_q,.slice F_q j_q f_q]:=hf ⟨1,.data⟩ (by simp [o3_lin6]) rfl _ 48 rfl rfl (NE _ (by decide))
     have f49:sv 49=Value.agg #[.bool s_y,.slice A_y n_y c_y,.slice B_y m_y d_y]:=hf ⟨2,.data⟩ (by simp [o3_lin6]) rfl _ 49 rfl rfl (NE _ (by decide))
     refine wpOp_plain' (o:=o3_lin6) rfl rfl ?_
     unfold Oper.wp o3_lin6
     rw [rc_gesso_gessoref07_Level ((G sv 47 (by decide) (by decide)).trans f47) ((G sv 48 (by decide) (by decide)).trans f48) ((G sv 49 (by decide) (by decide)).trans f49) rfl,Oper.upon_enter]
     refine (rlevel_b p q y (by decide) okl hl).mono ?_
     rintro e w1 ⟨s_,A_,n_,c_,B_,m_,d_,o_,rfl,hq,hh⟩
     exact ⟨_,rfl,hh,s_,A_,n_,c_,B_,m_,d_,o_,rfl,hq⟩
   | 4,ho =>
     obtain rfl:o4_lin6=o:=Option.some.inj ho
     cases hd
     refine wpOp_plain' (o:=o4_lin6) rfl rfl ?_
     unfold Oper.wp o4_lin6
     rw [run_load7 (E11 sv) XA.c0 XA.c1 XA.c2 XA.c3 XA.c4 XA.c5,Oper.upon_value]
     exact ⟨_,rfl,Below.refl _ _,rfl⟩
   | 5,ho =>
     obtain rfl:o5_lin6=o:=Option.some.inj ho
     cases hd
     refine wpOp_plain' (o:=o5_lin6) rfl rfl ?_
     unfold Oper.wp o5_lin6
     rw [run_load7 (E12 sv) XB.c0 XB.c1 XB.c2 XB.c3 XB.c4 XB.c5,Oper.upon_value]
     exact ⟨_,rfl,Below.refl _ _,rfl⟩
   | 6,ho =>
     obtain rfl:o6_lin6=o:=Option.some.inj ho
     cases hd
     refine wpOp_plain' (o:=o6_lin6) rfl rfl ?_
     unfold Oper.wp o6_lin6
     rw [run_load3 (E13 sv) XC.c0 XC.c1 XC.c2,Oper.upon_value]
     exact ⟨_,rfl,Below.refl _ _,rfl⟩
   | 7,ho =>
     obtain rfl:o7_lin6=o:=Option.some.inj ho
     cases hd
     have f51:sv 51=Value.agg #[.bool s_p,.slice A_p n_p c_p,.slice B_p m_p d_p,.bool t_p,.slice E_p i_p e_p,.slice F_p j_p f_p]:=hf ⟨4,.data⟩ (by simp [o7_lin6]) rfl _ 51 rfl rfl (NE _ (by decide))
     have f52:sv 52=Value.agg #[.bool s_q,.slice A_q n_q c_q,.slice B_q m_q d_q,.bool t_q,.slice E_q i_q e_q,.slice F_q j_q f_q]:=hf ⟨5,.data⟩ (by simp [o7_lin6]) rfl _ 52 rfl rfl (NE _ (by decide))
     have f53:sv 53=Value.agg #[.bool s_y,.slice A_y n_y c_y,.slice B_y m_y d_y]:=hf ⟨6,.data⟩ (by simp [o7_lin6]) rfl _ 53 rfl rfl (NE _ (by decide))
     refine wpOp_plain' (o:=o7_lin6) rfl rfl ?_
     unfold Oper.wp o7_lin6
     rw [rc_gesso_gessoref07_Upright ((G sv 51 (by decide) (by decide)).trans f51) ((G sv 52 (by decide) (by decide)).trans f52) ((G sv 53 (by decide) (by decide)).trans f53) rfl,Oper.upon_enter]
     refine (rupright_b p q y (by decide) oku hu).mono ?_
     rintro e w1 ⟨s_,A_,n_,c_,B_,m_,d_,o_,rfl,hq,hh⟩
     exact ⟨_,rfl,hh,s_,A_,n_,c_,B_,m_,d_,o_,rfl,hq⟩
   | 8,ho=>cases ho;cases hd;exact absurd rfl (hia (B0_lin6 ax ay bx by_ yv okl) (List.Mem.head _))
   | 9,ho=>cases ho;cases hd;exact absurd rfl (hia (B1_lin6 ax ay bx by_ yv oku) (List.Mem.tail _ (List.Mem.head _)))
   | 10,ho=>cases ho;cases hd
   | 11,ho=>cases ho;cases hd
   | i+12,ho=>cases ho
 · intro p hp os sv w' g hos J0 p1 p3 hf
   simp only [List.mem_cons,List.not_mem_nil,or_false] at hp
   rcases hp with rfl | rfl
   · obtain rfl:o10_lin6=os:=Option.some.inj hos
     have h1:VAB (okl) ((ax+(bx - ax)*((yv - ay) / (by_ - ay)))) (2*6+(2*6+2*6+1+(2*6+2*6+1+(2*6+2*6+1)))+1) (sv 50) w':=hf ⟨3,.data⟩ (by simp [o10_lin6]) rfl _ 50 rfl rfl (NE _ (by decide))
     rw [← G sv 50 (by decide) (by decide)] at h1
     refine store_ab (o1:=okl) (V:=(ax+(bx - ax)*((yv - ay) / (by_ - ay)))) (k:=2*6+(2*6+2*6+1+(2*6+2*6+1+(2*6+2*6+1)))+1) (ac:=putAll ac L_lin6 sv) (z:=.tmp 50) ?_ ?_ ?_
     · exact (G sv 14 (by decide) (by decide)).trans p1
     · exact h1
     · exact p3
   · obtain rfl:o11_lin6=os:=Option.some.inj hos
     have h1:VAB (oku) ((ay+(by_ - ay)*((yv - ax) / (bx - ax)))) (2*6+(2*6+2*6+1+(2*6+2*6+1+(2*6+2*6+1)))+1) (sv 54) w':=hf ⟨7,.data⟩ (by simp [o11_lin6]) rfl _ 54 rfl rfl (NE _ (by decide))
     rw [← G sv 54 (by decide) (by decide)] at h1
     refine store_ab (o1:=oku) (V:=(ay+(by_ - ay)*((yv - ax) / (bx - ax)))) (k:=2*6+(2*6+2*6+1+(2*6+2*6+1+(2*6+2*6+1)))+1) (ac:=putAll ac L_lin6 sv) (z:=.tmp 54) ?_ ?_ ?_
     · exact (G sv 15 (by decide) (by decide)).trans p1
     · exact h1
     · exact p3
 · intro sv w' J0 hF hB hap
   obtain ⟨g0,cs0,p0,r0,b0,⟨s0,A0,n0,c0,B0,m0,d0,o0,rfl,h0⟩⟩:=hB (B0_lin6 ax ay bx by_ yv okl) (List.Mem.head _)
   obtain ⟨g1,cs1,p1,r1,b1,⟨s1,A1,n1,c1,B1,m1,d1,o1,rfl,h1⟩⟩:=hB (B1_lin6 ax ay bx by_ yv oku) (List.Mem.tail _ (List.Mem.head _))
   have p0':sv 14=.pointer (some ⟨g0,0,none⟩):=p0
   have p1':sv 15=.pointer (some ⟨g1,0,none⟩):=p1
   exact hend sv w' g0 _ _ _ _ _ _ _ _ g1 _ _ _ _ _ _ _ _ h0 b0.at_ r0 p0' h1 b1.at_ r1 p1' (fun q=>hap (B1_lin6 ax ay bx by_ yv oku) (List.Mem.tail _ (List.Mem.head _)) (B0_lin6 ax ay bx by_ yv okl) (List.Mem.head _) (show (15:Nat) ≠ 14 by decide) (by rw [show (B1_lin6 ax ay bx by_ yv oku).tA=15 from rfl,show (B0_lin6 ax ay bx by_ yv okl).tA=14 from rfl,p1',p0',q]))  J0
theorem mkbx43_19 {w W:World} {x0 x1 x2 x3 x4 x5 x6 x7 x8 x9 x10 x11 x12 x13 x14 x15 x16 x17 x18 x19 x20 x21 x22 x23 x24 x25 x26:Value} (h:((((w.alloc (Obj.cells #[x0,x1,x2,x3,x4,x5] 56)).alloc (Obj.cells #[x6,x7,x8,x9,x10,x11] 56)).alloc (Obj.cells #[x12,x13,x14] 26)).alloc (Obj.cells #[x15,x16,x17,x18,x19,x20,x21,x22,x23,x24,x25,x26] 56))=W):Below w.heap.size w W∧B6 W (w.heap.size) x0 x1 x2 x3 x4 x5∧B6 W (w.heap.size+1) x6 x7 x8 x9 x10 x11∧B3 W (w.heap.size+1+1) x12 x13 x14∧BL2 W (w.heap.size+1+1+1) x15 x16 x17 x18 x19 x20 x21 x22 x23 x24 x25 x26∧W.heap.size=w.heap.size+4:=by subst h;exact ⟨by exact (((((Below.refl _ _).alloc (Nat.le_refl _) _).alloc (by simp) _).alloc (by simp;omega) _).alloc (by simp;omega) _),by exact (((B6.new' _ _ _ _ _ _ _ _ rfl).alloc _).alloc _).alloc _,by exact ((B6.new' _ _ _ _ _ _ _ _ (by simp)).alloc _).alloc _,by exact (B3.new' _ _ _ _ _ (by simp)).alloc _,by exact BL2.new' _ _ _ _ _ _ _ _ _ _ _ _ _ _ (by simp),by simp⟩
theorem lines_l (h:¬ (((n_p≤6∧m_p≤6)∧i_p≤6∧j_p≤6)∧((n_q≤6∧m_q≤6)∧i_q≤6∧j_q≤6))) :
 Calls Tryz.prog 6 #[.agg #[.bool s_p,.slice A_p n_p c_p,.slice B_p m_p d_p,.bool t_p,.slice E_p i_p e_p,.slice F_p j_p f_p],.agg #[.bool s_q,.slice A_q n_q c_q,.slice B_q m_q d_q,.bool t_q,.slice E_q i_q e_q,.slice F_q j_q f_q],.agg #[.bool s_y,.slice A_y n_y c_y,.slice B_y m_y d_y]] w fun e w'=>e=.returned (.bool true)∧Below w.heap.size w w':=by
 have HL:Hid (decide (((n_p≤6∧m_p≤6)∧i_p≤6∧j_p≤6)∧((n_q≤6∧m_q≤6)∧i_q≤6∧j_q≤6))=false):=decide_eq_false h
 clear h
 go_enter Tryz.func6,Tryz.ntmps6
 go_wp2_with fail
 generalize hW:World.alloc _ _=W
 obtain ⟨hb,XA,XB,XC,XL,hzW⟩:=mkbx43_19 hW;clear hW
 go_wp2_with (first
  | (go_at_call 29;(with_reducible refine (fair2 XL false HL.out).mono ?_);rintro e w_z ⟨rfl,hh⟩
     replace hb:=bend hb hh)
  | (go_at_call 30;(with_reducible refine (segwakes_any _).mono ?_);rintro e w_z ⟨rfl,hh⟩
     replace hb:=bend hb hh))
 go_ret;exact ⟨rfl,hb⟩
theorem lines_v (h:(((n_p≤6∧m_p≤6)∧i_p≤6∧j_p≤6)∧((n_q≤6∧m_q≤6)∧i_q≤6∧j_q≤6))) (hv:¬ (n_y≤6∧m_y≤6)) :
 Calls Tryz.prog 6 #[.agg #[.bool s_p,.slice A_p n_p c_p,.slice B_p m_p d_p,.bool t_p,.slice E_p i_p e_p,.slice F_p j_p f_p],.agg #[.bool s_q,.slice A_q n_q c_q,.slice B_q m_q d_q,.bool t_q,.slice E_q i_q e_q,.slice F_q j_q f_q],.agg #[.bool s_y,.slice A_y n_y c_y,.slice B_y m_y d_y]] w fun e w'=>e=.returned (.bool true)∧Below w.heap.size w w':=by
 have HL:Hid (decide (((n_p≤6∧m_p≤6)∧i_p≤6∧j_p≤6)∧((n_q≤6∧m_q≤6)∧i_q≤6∧j_q≤6))=true):=decide_eq_true h
 have HV:Hid (decide (n_y≤6∧m_y≤6)=false):=decide_eq_false hv
 clear h hv
 go_enter Tryz.func6,Tryz.ntmps6
 go_wp2_with fail
 generalize hW:World.alloc _ _=W
 obtain ⟨hb,XA,XB,XC,XL,hzW⟩:=mkbx43_19 hW;clear hW;obtain ⟨xc0,xc1,xc2⟩:=XC.all
 go_wp2_with (first
  | (go_at_call 29;(with_reducible refine (fair2 XL true HL.out).mono ?_);rintro e w_z ⟨rfl,hh⟩
     clear XL;(try replace XC:=XC.below hh);replace hb:=bend hb hh;obtain ⟨xc0,xc1,xc2⟩:=XC.all)
  | (go_at_call 38;(with_reducible refine (small_6 (s:=s_y) (A:=A_y) (n:=n_y) (c:=c_y) (A':=B_y) (n':=m_y) (c':=d_y) _ false HV.out).mono ?_);rintro e w_z ⟨rfl,hh⟩
     replace hb:=bend hb hh)
  | (go_at_call 30;(with_reducible refine (segwakes_any _).mono ?_);rintro e w_z ⟨rfl,hh⟩
     replace hb:=bend hb hh))
 go_ret;exact ⟨rfl,hb⟩
theorem lines_yy {ax ay bx by_ yv:Rat} (p:PR w s_p A_p n_p c_p B_p m_p d_p t_p E_p i_p e_p F_p j_p f_p ax ay 6) (q:PR w s_q A_q n_q c_q B_q m_q d_q t_q E_q i_q e_q F_q j_q f_q bx by_ 6) (y:QR w s_y A_y n_y c_y B_y m_y d_y yv 6) (h:(((n_p≤6∧m_p≤6)∧i_p≤6∧j_p≤6)∧((n_q≤6∧m_q≤6)∧i_q≤6∧j_q≤6))) (hv:(n_y≤6∧m_y≤6)) (hl:shareOK (yv - ay) (by_ - ay)) (hu:shareOK (yv - ax) (bx - ax)) :
 Calls Tryz.prog 6 #[.agg #[.bool s_p,.slice A_p n_p c_p,.slice B_p m_p d_p,.bool t_p,.slice E_p i_p e_p,.slice F_p j_p f_p],.agg #[.bool s_q,.slice A_q n_q c_q,.slice B_q m_q d_q,.bool t_q,.slice E_q i_q e_q,.slice F_q j_q f_q],.agg #[.bool s_y,.slice A_y n_y c_y,.slice B_y m_y d_y]] w fun e w'=>e=.returned (.bool true)∧Below w.heap.size w w':=by
 have HL:Hid (decide (((n_p≤6∧m_p≤6)∧i_p≤6∧j_p≤6)∧((n_q≤6∧m_q≤6)∧i_q≤6∧j_q≤6))=true):=decide_eq_true h
 have HV:Hid (decide (n_y≤6∧m_y≤6)=true):=decide_eq_true hv
 have SL:=Lib.hid hl;have SU:=Lib.hid hu
 have EL:Hid (ax+(yv - ay) / (by_ - ay)*(bx - ax)=ax+(bx - ax)*((yv - ay) / (by_ - ay))):=by show _=_;rw [Rat.mul_comm]
 have EU:Hid (ay+(yv - ax) / (bx - ax)*(by_ - ay)=ay+(by_ - ay)*((yv - ax) / (bx - ax))):=by show _=_;rw [Rat.mul_comm]
 clear h hv hl hu
 go_enter Tryz.func6,Tryz.ntmps6
 go_wp2_with fail
 generalize hW:World.alloc _ _=W
 obtain ⟨hb,XA,XB,XC,XL,hzW⟩:=mkbx43_19 hW;clear hW;replace p:=p.below hb;replace q:=q.below hb;replace y:=y.below hb;obtain ⟨xa0,xa1,xa2,xa3,xa4,xa5⟩:=XA.all;obtain ⟨xb0,xb1,xb2,xb3,xb4,xb5⟩:=XB.all;obtain ⟨xc0,xc1,xc2⟩:=XC.all
 go_upto_region 3 with (first
  | (go_at_call 29;(with_reducible refine (fair2 XL true HL.out).mono ?_);rintro e w_z ⟨rfl,hh⟩
     clear XL;(try replace p:=p.below hh);(try replace q:=q.below hh);(try replace y:=y.below hh);(try replace XA:=XA.below hh);(try replace XB:=XB.below hh);(try replace XC:=XC.below hh);replace hb:=bend hb hh;obtain ⟨xa0,xa1,xa2,xa3,xa4,xa5⟩:=XA.all;obtain ⟨xb0,xb1,xb2,xb3,xb4,xb5⟩:=XB.all;obtain ⟨xc0,xc1,xc2⟩:=XC.all)
  | (go_at_call 38;(with_reducible refine (small_6 (s:=s_y) (A:=A_y) (n:=n_y) (c:=c_y) (A':=B_y) (n':=m_y) (c':=d_y) _ true HV.out).mono ?_);rintro e w_z ⟨rfl,hh⟩
     (try replace p:=p.below hh);(try replace q:=q.below hh);(try replace y:=y.below hh);(try replace XA:=XA.below hh);(try replace XB:=XB.below hh);(try replace XC:=XC.below hh);replace hb:=bend hb hh;obtain ⟨xa0,xa1,xa2,xa3,xa4,xa5⟩:=XA.all;obtain ⟨xb0,xb1,xb2,xb3,xb4,xb5⟩:=XB.all;obtain ⟨xc0,xc1,xc2⟩:=XC.all))
 go_upto_region 4 with (first
  | (go_at_call 39;(with_reducible refine (level_yes p q y (by decide) (by decide) SL.out).mono ?_);rintro e w_f ⟨s_f,A_f,n_f,c_f,B_f,m_f,d_f,rfl,f,hh⟩
     (try replace p:=p.below hh);(try replace q:=q.below hh);(try replace y:=y.below hh);(try replace XA:=XA.below hh);(try replace XB:=XB.below hh);(try replace XC:=XC.below hh);replace hb:=bend hb hh))
 generalize hW:World.alloc _ _=W2
 obtain ⟨hh,XF,hzW2⟩:=mkbx13_8 hW;clear hW;(try replace p:=p.below hh);(try replace q:=q.below hh);(try replace y:=y.below hh);(try replace XA:=XA.below hh);(try replace XB:=XB.below hh);(try replace XC:=XC.below hh);(try replace f:=f.below hh);replace hb:=bend hb hh;obtain ⟨xa0,xa1,xa2,xa3,xa4,xa5⟩:=XA.all;obtain ⟨xb0,xb1,xb2,xb3,xb4,xb5⟩:=XB.all;obtain ⟨xc0,xc1,xc2⟩:=XC.all
 go_upto_region 5 with (first
  | (go_at_call 40;(with_reducible refine (upright_yes p q y (by decide) (by decide) SU.out).mono ?_);rintro e w_g ⟨s_g,A_g,n_g,c_g,B_g,m_g,d_g,rfl,g,hh⟩
     (try replace p:=p.below hh);(try replace q:=q.below hh);(try replace y:=y.below hh);(try replace XA:=XA.below hh);(try replace XB:=XB.below hh);(try replace XC:=XC.below hh);(try replace XF:=XF.below hh);(try replace f:=f.below hh);replace hb:=bend hb hh))
 generalize hW:World.alloc _ _=W3
 obtain ⟨hh,XG,hzW3⟩:=mkbx13_8 hW;clear hW;(try replace p:=p.below hh);(try replace q:=q.below hh);(try replace y:=y.below hh);(try replace XA:=XA.below hh);(try replace XB:=XB.below hh);(try replace XC:=XC.below hh);(try replace XF:=XF.below hh);(try replace f:=f.below hh);(try replace g:=g.below hh);replace hb:=bend hb hh
 refine lin5_region (by simp) rfl rfl rfl XA XB XC p q y ?_
 intro V w_1 g_x s_x A_x n_x c_x B_x m_x d_x t_x E_x i_x e_x F_x j_x f_x g_z s_z A_z n_z c_z B_z m_z d_z t_z E_z i_z e_z F_z j_z f_z g_v s_v A_v n_v c_v B_v m_v d_v x X7 hg_x hvx z Z7 hg_z hvz v V7 hg_v hvv hne1 hne2 hne3 hh
 simp only [putAll,Act.put,List.setIfInBounds_toArray,List.set_cons_zero,List.set_cons_succ,hvx,hvz,hvv]
 clear hvx hvz hvv hne1 hne2 hne3;replace p:=p.below hh;replace q:=q.below hh;replace y:=y.below hh;replace XA:=XA.below hh;replace XB:=XB.below hh;replace XC:=XC.below hh;replace XF:=XF.below hh;replace f:=f.below hh;replace XG:=XG.below hh;replace g:=g.below hh;replace hb:=bend hb hh
 go_upto_region 6 with (fail)
 refine lin6_region (okl:=true) (oku:=true) (by simp) rfl rfl rfl X7 Z7 V7 x z v ⟨fun _=>SL.out,fun _=>rfl⟩ ⟨fun _=>SU.out,fun _=>rfl⟩ ?_
 intro V w_2 g_m s_m A_m n_m c_m B_m m_m d_m o_m g_n s_n A_n n_n c_n B_n m_n d_n o_n ⟨hm1,hm2⟩ XM hg_m hvm ⟨hn1,hn2⟩ XN hg_n hvn hne hh
 subst hm1 hn1
 have m:=hm2 rfl;have n:=hn2 rfl
 simp only [putAll,Act.put,List.setIfInBounds_toArray,List.set_cons_zero,List.set_cons_succ,hvm,hvn]
 clear hvm hvn hne;replace p:=p.below hh;replace q:=q.below hh;replace y:=y.below hh;replace XA:=XA.below hh;replace XB:=XB.below hh;replace XC:=XC.below hh;replace XF:=XF.below hh;replace f:=f.below hh;replace XG:=XG.below hh;replace g:=g.below hh;replace x:=x.below hh;replace z:=z.below hh;replace v:=v.below hh;replace X7:=X7.below hh;replace Z7:=Z7.below hh;replace V7:=V7.below hh;replace hb:=bend hb hh;obtain ⟨xf0,xf1,xf2⟩:=XF.all;obtain ⟨xg0,xg1,xg2⟩:=XG.all;obtain ⟨xm0,xm1,xm2,xm3⟩:=XM.all;obtain ⟨xn0,xn1,xn2,xn3⟩:=XN.all
 go_wp2_with (first
  | (go_at_call 14;(with_reducible refine (same3 f m EL.out (by decide) (by decide)).mono ?_);rintro e w_z ⟨rfl,hh⟩
     (try replace XF:=XF.below hh);(try replace XG:=XG.below hh);(try replace XM:=XM.below hh);(try replace XN:=XN.below hh);(try replace f:=f.below hh);(try replace m:=m.below hh);(try replace g:=g.below hh);(try replace n:=n.below hh);replace hb:=bend hb hh;obtain ⟨xf0,xf1,xf2⟩:=XF.all;obtain ⟨xg0,xg1,xg2⟩:=XG.all;obtain ⟨xm0,xm1,xm2,xm3⟩:=XM.all;obtain ⟨xn0,xn1,xn2,xn3⟩:=XN.all)
  | (go_at_call 14;(with_reducible refine (same3 g n EU.out (by decide) (by decide)).mono ?_);rintro e w_z ⟨rfl,hh⟩
     (try replace XF:=XF.below hh);(try replace XG:=XG.below hh);(try replace XM:=XM.below hh);(try replace XN:=XN.below hh);(try replace f:=f.below hh);(try replace m:=m.below hh);(try replace g:=g.below hh);(try replace n:=n.below hh);replace hb:=bend hb hh;obtain ⟨xf0,xf1,xf2⟩:=XF.all;obtain ⟨xg0,xg1,xg2⟩:=XG.all;obtain ⟨xm0,xm1,xm2,xm3⟩:=XM.all;obtain ⟨xn0,xn1,xn2,xn3⟩:=XN.all)
  | (go_at_call 30;(with_reducible refine (segwakes_any _).mono ?_);rintro e w_z ⟨rfl,hh⟩
     (try replace XF:=XF.below hh);(try replace XG:=XG.below hh);(try replace XM:=XM.below hh);(try replace XN:=XN.below hh);(try replace f:=f.below hh);(try replace m:=m.below hh);(try replace g:=g.below hh);(try replace n:=n.below hh);replace hb:=bend hb hh;obtain ⟨xf0,xf1,xf2⟩:=XF.all;obtain ⟨xg0,xg1,xg2⟩:=XG.all;obtain ⟨xm0,xm1,xm2,xm3⟩:=XM.all;obtain ⟨xn0,xn1,xn2,xn3⟩:=XN.all))
 go_ret;exact ⟨rfl,hb⟩
theorem lines_yn {ax ay bx by_ yv:Rat} (p:PR w s_p A_p n_p c_p B_p m_p d_p t_p E_p i_p e_p F_p j_p f_p ax ay 6) (q:PR w s_q A_q n_q c_q B_q m_q d_q t_q E_q i_q e_q F_q j_q f_q bx by_ 6) (y:QR w s_y A_y n_y c_y B_y m_y d_y yv 6) (h:(((n_p≤6∧m_p≤6)∧i_p≤6∧j_p≤6)∧((n_q≤6∧m_q≤6)∧i_q≤6∧j_q≤6))) (hv:(n_y≤6∧m_y≤6)) (hl:shareOK (yv - ay) (by_ - ay)) (hu:¬ shareOK (yv - ax) (bx - ax)) :
 Calls Tryz.prog 6 #[.agg #[.bool s_p,.slice A_p n_p c_p,.slice B_p m_p d_p,.bool t_p,.slice E_p i_p e_p,.slice F_p j_p f_p],.agg #[.bool s_q,.slice A_q n_q c_q,.slice B_q m_q d_q,.bool t_q,.slice E_q i_q e_q,.slice F_q j_q f_q],.agg #[.bool s_y,.slice A_y n_y c_y,.slice B_y m_y d_y]] w fun e w'=>e=.returned (.bool true)∧Below w.heap.size w w':=by
 have HL:Hid (decide (((n_p≤6∧m_p≤6)∧i_p≤6∧j_p≤6)∧((n_q≤6∧m_q≤6)∧i_q≤6∧j_q≤6))=true):=decide_eq_true h
 have HV:Hid (decide (n_y≤6∧m_y≤6)=true):=decide_eq_true hv
 have SL:=Lib.hid hl;have SU:=Lib.hid hu
 have EL:Hid (ax+(yv - ay) / (by_ - ay)*(bx - ax)=ax+(bx - ax)*((yv - ay) / (by_ - ay))):=by show _=_;rw [Rat.mul_comm]
 clear h hv hl hu
 go_enter Tryz.func6,Tryz.ntmps6
 go_wp2_with fail
 generalize hW:World.alloc _ _=W
 obtain ⟨hb,XA,XB,XC,XL,hzW⟩:=mkbx43_19 hW;clear hW;replace p:=p.below hb;replace q:=q.below hb;replace y:=y.below hb;obtain ⟨xa0,xa1,xa2,xa3,xa4,xa5⟩:=XA.all;obtain ⟨xb0,xb1,xb2,xb3,xb4,xb5⟩:=XB.all;obtain ⟨xc0,xc1,xc2⟩:=XC.all
 go_upto_region 3 with (first
  | (go_at_call 29;(with_reducible refine (fair2 XL true HL.out).mono ?_);rintro e w_z ⟨rfl,hh⟩
     clear XL;(try replace p:=p.below hh);(try replace q:=q.below hh);(try replace y:=y.below hh);(try replace XA:=XA.below hh);(try replace XB:=XB.below hh);(try replace XC:=XC.below hh);replace hb:=bend hb hh;obtain ⟨xa0,xa1,xa2,xa3,xa4,xa5⟩:=XA.all;obtain ⟨xb0,xb1,xb2,xb3,xb4,xb5⟩:=XB.all;obtain ⟨xc0,xc1,xc2⟩:=XC.all)
  | (go_at_call 38;(with_reducible refine (small_6 (s:=s_y) (A:=A_y) (n:=n_y) (c:=c_y) (A':=B_y) (n':=m_y) (c':=d_y) _ true HV.out).mono ?_);rintro e w_z ⟨rfl,hh⟩
     (try replace p:=p.below hh);(try replace q:=q.below hh);(try replace y:=y.below hh);(try replace XA:=XA.below hh);(try replace XB:=XB.below hh);(try replace XC:=XC.below hh);replace hb:=bend hb hh;obtain ⟨xa0,xa1,xa2,xa3,xa4,xa5⟩:=XA.all;obtain ⟨xb0,xb1,xb2,xb3,xb4,xb5⟩:=XB.all;obtain ⟨xc0,xc1,xc2⟩:=XC.all))
 go_upto_region 4 with (first
  | (go_at_call 39;(with_reducible refine (level_yes p q y (by decide) (by decide) SL.out).mono ?_);rintro e w_f ⟨s_f,A_f,n_f,c_f,B_f,m_f,d_f,rfl,f,hh⟩
     (try replace p:=p.below hh);(try replace q:=q.below hh);(try replace y:=y.below hh);(try replace XA:=XA.below hh);(try replace XB:=XB.below hh);(try replace XC:=XC.below hh);replace hb:=bend hb hh))
 generalize hW:World.alloc _ _=W2
 obtain ⟨hh,XF,hzW2⟩:=mkbx13_8 hW;clear hW;(try replace p:=p.below hh);(try replace q:=q.below hh);(try replace y:=y.below hh);(try replace XA:=XA.below hh);(try replace XB:=XB.below hh);(try replace XC:=XC.below hh);(try replace f:=f.below hh);replace hb:=bend hb hh;obtain ⟨xa0,xa1,xa2,xa3,xa4,xa5⟩:=XA.all;obtain ⟨xb0,xb1,xb2,xb3,xb4,xb5⟩:=XB.all;obtain ⟨xc0,xc1,xc2⟩:=XC.all
 go_upto_region 5 with (first
  | (go_at_call 40;(with_reducible refine (upright_no p q y (by decide) (by decide) SU.out).mono ?_);rintro e w_g ⟨rfl,hh⟩
     (try replace p:=p.below hh);(try replace q:=q.below hh);(try replace y:=y.below hh);(try replace XA:=XA.below hh);(try replace XB:=XB.below hh);(try replace XC:=XC.below hh);(try replace XF:=XF.below hh);(try replace f:=f.below hh);replace hb:=bend hb hh))
 generalize hW:World.alloc _ _=W3
 obtain ⟨hh,XG,hzW3⟩:=mkbx13_8 hW;clear hW;(try replace p:=p.below hh);(try replace q:=q.below hh);(try replace y:=y.below hh);(try replace XA:=XA.below hh);(try replace XB:=XB.below hh);(try replace XC:=XC.below hh);(try replace XF:=XF.below hh);(try replace f:=f.below hh);replace hb:=bend hb hh
 refine lin5_region (by simp) rfl rfl rfl XA XB XC p q y ?_
 intro V w_1 g_x s_x A_x n_x c_x B_x m_x d_x t_x E_x i_x e_x F_x j_x f_x g_z s_z A_z n_z c_z B_z m_z d_z t_z E_z i_z e_z F_z j_z f_z g_v s_v A_v n_v c_v B_v m_v d_v x X7 hg_x hvx z Z7 hg_z hvz v V7 hg_v hvv hne1 hne2 hne3 hh
 simp only [putAll,Act.put,List.setIfInBounds_toArray,List.set_cons_zero,List.set_cons_succ,hvx,hvz,hvv]
 clear hvx hvz hvv hne1 hne2 hne3;replace p:=p.below hh;replace q:=q.below hh;replace y:=y.below hh;replace XA:=XA.below hh;replace XB:=XB.below hh;replace XC:=XC.below hh;replace XF:=XF.below hh;replace f:=f.below hh;replace XG:=XG.below hh;replace hb:=bend hb hh
 go_upto_region 6 with (fail)
 refine lin6_region (okl:=true) (oku:=false) (by simp) rfl rfl rfl X7 Z7 V7 x z v ⟨fun _=>SL.out,fun _=>rfl⟩ ⟨fun e=>absurd e (by decide),fun e=>absurd e SU.out⟩ ?_
 intro V w_2 g_m s_m A_m n_m c_m B_m m_m d_m o_m g_n s_n A_n n_n c_n B_n m_n d_n o_n ⟨hm1,hm2⟩ XM hg_m hvm ⟨hn1,hn2⟩ XN hg_n hvn hne hh
 subst hm1 hn1
 have m:=hm2 rfl;clear hn2
 simp only [putAll,Act.put,List.setIfInBounds_toArray,List.set_cons_zero,List.set_cons_succ,hvm,hvn]
 clear hvm hvn hne;replace p:=p.below hh;replace q:=q.below hh;replace y:=y.below hh;replace XA:=XA.below hh;replace XB:=XB.below hh;replace XC:=XC.below hh;replace XF:=XF.below hh;replace f:=f.below hh;replace XG:=XG.below hh;replace x:=x.below hh;replace z:=z.below hh;replace v:=v.below hh;replace X7:=X7.below hh;replace Z7:=Z7.below hh;replace V7:=V7.below hh;replace hb:=bend hb hh;obtain ⟨xf0,xf1,xf2⟩:=XF.all;obtain ⟨xg0,xg1,xg2⟩:=XG.all;obtain ⟨xm0,xm1,xm2,xm3⟩:=XM.all;obtain ⟨xn0,xn1,xn2,xn3⟩:=XN.all
 go_wp2_with (first
  | (go_at_call 14;(with_reducible refine (same3 f m EL.out (by decide) (by decide)).mono ?_);rintro e w_z ⟨rfl,hh⟩
     (try replace XF:=XF.below hh);(try replace XG:=XG.below hh);(try replace XM:=XM.below hh);(try replace XN:=XN.below hh);(try replace f:=f.below hh);(try replace m:=m.below hh);replace hb:=bend hb hh;obtain ⟨xf0,xf1,xf2⟩:=XF.all;obtain ⟨xg0,xg1,xg2⟩:=XG.all;obtain ⟨xm0,xm1,xm2,xm3⟩:=XM.all;obtain ⟨xn0,xn1,xn2,xn3⟩:=XN.all)
  | (go_at_call 30;(with_reducible refine (segwakes_any _).mono ?_);rintro e w_z ⟨rfl,hh⟩
     (try replace XF:=XF.below hh);(try replace XG:=XG.below hh);(try replace XM:=XM.below hh);(try replace XN:=XN.below hh);(try replace f:=f.below hh);(try replace m:=m.below hh);replace hb:=bend hb hh;obtain ⟨xf0,xf1,xf2⟩:=XF.all;obtain ⟨xg0,xg1,xg2⟩:=XG.all;obtain ⟨xm0,xm1,xm2,xm3⟩:=XM.all;obtain ⟨xn0,xn1,xn2,xn3⟩:=XN.all))
 go_ret;exact ⟨rfl,hb⟩
theorem lines_ny {ax ay bx by_ yv:Rat} (p:PR w s_p A_p n_p c_p B_p m_p d_p t_p E_p i_p e_p F_p j_p f_p ax ay 6) (q:PR w s_q A_q n_q c_q B_q m_q d_q t_q E_q i_q e_q F_q j_q f_q bx by_ 6) (y:QR w s_y A_y n_y c_y B_y m_y d_y yv 6) (h:(((n_p≤6∧m_p≤6)∧i_p≤6∧j_p≤6)∧((n_q≤6∧m_q≤6)∧i_q≤6∧j_q≤6))) (hv:(n_y≤6∧m_y≤6)) (hl:¬ shareOK (yv - ay) (by_ - ay)) (hu:shareOK (yv - ax) (bx - ax)) :
 Calls Tryz.prog 6 #[.agg #[.bool s_p,.slice A_p n_p c_p,.slice B_p m_p d_p,.bool t_p,.slice E_p i_p e_p,.slice F_p j_p f_p],.agg #[.bool s_q,.slice A_q n_q c_q,.slice B_q m_q d_q,.bool t_q,.slice E_q i_q e_q,.slice F_q j_q f_q],.agg #[.bool s_y,.slice A_y n_y c_y,.slice B_y m_y d_y]] w fun e w'=>e=.returned (.bool true)∧Below w.heap.size w w':=by
 have HL:Hid (decide (((n_p≤6∧m_p≤6)∧i_p≤6∧j_p≤6)∧((n_q≤6∧m_q≤6)∧i_q≤6∧j_q≤6))=true):=decide_eq_true h
 have HV:Hid (decide (n_y≤6∧m_y≤6)=true):=decide_eq_true hv
 have SL:=Lib.hid hl;have SU:=Lib.hid hu
 have EU:Hid (ay+(yv - ax) / (bx - ax)*(by_ - ay)=ay+(by_ - ay)*((yv - ax) / (bx - ax))):=by show _=_;rw [Rat.mul_comm]
 clear h hv hl hu
 go_enter Tryz.func6,Tryz.ntmps6
 go_wp2_with fail
 generalize hW:World.alloc _ _=W
 obtain ⟨hb,XA,XB,XC,XL,hzW⟩:=mkbx43_19 hW;clear hW;replace p:=p.below hb;replace q:=q.below hb;replace y:=y.below hb;obtain ⟨xa0,xa1,xa2,xa3,xa4,xa5⟩:=XA.all;obtain ⟨xb0,xb1,xb2,xb3,xb4,xb5⟩:=XB.all;obtain ⟨xc0,xc1,xc2⟩:=XC.all
 go_upto_region 3 with (first
  | (go_at_call 29;(with_reducible refine (fair2 XL true HL.out).mono ?_);rintro e w_z ⟨rfl,hh⟩
     clear XL;(try replace p:=p.below hh);(try replace q:=q.below hh);(try replace y:=y.below hh);(try replace XA:=XA.below hh);(try replace XB:=XB.below hh);(try replace XC:=XC.below hh);replace hb:=bend hb hh;obtain ⟨xa0,xa1,xa2,xa3,xa4,xa5⟩:=XA.all;obtain ⟨xb0,xb1,xb2,xb3,xb4,xb5⟩:=XB.all;obtain ⟨xc0,xc1,xc2⟩:=XC.all)
  | (go_at_call 38;(with_reducible refine (small_6 (s:=s_y) (A:=A_y) (n:=n_y) (c:=c_y) (A':=B_y) (n':=m_y) (c':=d_y) _ true HV.out).mono ?_);rintro e w_z ⟨rfl,hh⟩
     (try replace p:=p.below hh);(try replace q:=q.below hh);(try replace y:=y.below hh);(try replace XA:=XA.below hh);(try replace XB:=XB.below hh);(try replace XC:=XC.below hh);replace hb:=bend hb hh;obtain ⟨xa0,xa1,xa2,xa3,xa4,xa5⟩:=XA.all;obtain ⟨xb0,xb1,xb2,xb3,xb4,xb5⟩:=XB.all;obtain ⟨xc0,xc1,xc2⟩:=XC.all))
 go_upto_region 4 with (first
  | (go_at_call 39;(with_reducible refine (level_no p q y (by decide) (by decide) SL.out).mono ?_);rintro e w_f ⟨rfl,hh⟩
     (try replace p:=p.below hh);(try replace q:=q.below hh);(try replace y:=y.below hh);(try replace XA:=XA.below hh);(try replace XB:=XB.below hh);(try replace XC:=XC.below hh);replace hb:=bend hb hh))
 generalize hW:World.alloc _ _=W2
 obtain ⟨hh,XF,hzW2⟩:=mkbx13_8 hW;clear hW;(try replace p:=p.below hh);(try replace q:=q.below hh);(try replace y:=y.below hh);(try replace XA:=XA.below hh);(try replace XB:=XB.below hh);(try replace XC:=XC.below hh);replace hb:=bend hb hh;obtain ⟨xa0,xa1,xa2,xa3,xa4,xa5⟩:=XA.all;obtain ⟨xb0,xb1,xb2,xb3,xb4,xb5⟩:=XB.all;obtain ⟨xc0,xc1,xc2⟩:=XC.all
 go_upto_region 5 with (first
  | (go_at_call 40;(with_reducible refine (upright_yes p q y (by decide) (by decide) SU.out).mono ?_);rintro e w_g ⟨s_g,A_g,n_g,c_g,B_g,m_g,d_g,rfl,g,hh⟩
     (try replace p:=p.below hh);(try replace q:=q.below hh);(try replace y:=y.below hh);(try replace XA:=XA.below hh);(try replace XB:=XB.below hh);(try replace XC:=XC.below hh);(try replace XF:=XF.below hh);replace hb:=bend hb hh))
 generalize hW:World.alloc _ _=W3
 obtain ⟨hh,XG,hzW3⟩:=mkbx13_8 hW;clear hW;(try replace p:=p.below hh);(try replace q:=q.below hh);(try replace y:=y.below hh);(try replace XA:=XA.below hh);(try replace XB:=XB.below hh);(try replace XC:=XC.below hh);(try replace XF:=XF.below hh);(try replace g:=g.below hh);replace hb:=bend hb hh
 refine lin5_region (by simp) rfl rfl rfl XA XB XC p q y ?_
 intro V w_1 g_x s_x A_x n_x c_x B_x m_x d_x t_x E_x i_x e_x F_x j_x f_x g_z s_z A_z n_z c_z B_z m_z d_z t_z E_z i_z e_z F_z j_z f_z g_v s_v A_v n_v c_v B_v m_v d_v x X7 hg_x hvx z Z7 hg_z hvz v V7 hg_v hvv hne1 hne2 hne3 hh
 simp only [putAll,Act.put,List.setIfInBounds_toArray,List.set_cons_zero,List.set_cons_succ,hvx,hvz,hvv]
 clear hvx hvz hvv hne1 hne2 hne3;replace p:=p.below hh;replace q:=q.below hh;replace y:=y.below hh;replace XA:=XA.below hh;replace XB:=XB.below hh;replace XC:=XC.below hh;replace XF:=XF.below hh;replace XG:=XG.below hh;replace g:=g.below hh;replace hb:=bend hb hh
 go_upto_region 6 with (fail)
 refine lin6_region (okl:=false) (oku:=true) (by simp) rfl rfl rfl X7 Z7 V7 x z v ⟨fun e=>absurd e (by decide),fun e=>absurd e SL.out⟩ ⟨fun _=>SU.out,fun _=>rfl⟩ ?_
 intro V w_2 g_m s_m A_m n_m c_m B_m m_m d_m o_m g_n s_n A_n n_n c_n B_n m_n d_n o_n ⟨hm1,hm2⟩ XM hg_m hvm ⟨hn1,hn2⟩ XN hg_n hvn hne hh
 subst hm1 hn1
 clear hm2;have n:=hn2 rfl
 simp only [putAll,Act.put,List.setIfInBounds_toArray,List.set_cons_zero,List.set_cons_succ,hvm,hvn]
 clear hvm hvn hne;replace p:=p.below hh;replace q:=q.below hh;replace y:=y.below hh;replace XA:=XA.below hh;replace XB:=XB.below hh;replace XC:=XC.below hh;replace XF:=XF.below hh;replace XG:=XG.below hh;replace g:=g.below hh;replace x:=x.below hh;replace z:=z.below hh;replace v:=v.below hh;replace X7:=X7.below hh;replace Z7:=Z7.below hh;replace V7:=V7.below hh;replace hb:=bend hb hh;obtain ⟨xf0,xf1,xf2⟩:=XF.all;obtain ⟨xg0,xg1,xg2⟩:=XG.all;obtain ⟨xm0,xm1,xm2,xm3⟩:=XM.all;obtain ⟨xn0,xn1,xn2,xn3⟩:=XN.all
 go_wp2_with (first
  | (go_at_call 14;(with_reducible refine (same3 g n EU.out (by decide) (by decide)).mono ?_);rintro e w_z ⟨rfl,hh⟩
     (try replace XF:=XF.below hh);(try replace XG:=XG.below hh);(try replace XM:=XM.below hh);(try replace XN:=XN.below hh);(try replace g:=g.below hh);(try replace n:=n.below hh);replace hb:=bend hb hh;obtain ⟨xf0,xf1,xf2⟩:=XF.all;obtain ⟨xg0,xg1,xg2⟩:=XG.all;obtain ⟨xm0,xm1,xm2,xm3⟩:=XM.all;obtain ⟨xn0,xn1,xn2,xn3⟩:=XN.all)
  | (go_at_call 30;(with_reducible refine (segwakes_any _).mono ?_);rintro e w_z ⟨rfl,hh⟩
     (try replace XF:=XF.below hh);(try replace XG:=XG.below hh);(try replace XM:=XM.below hh);(try replace XN:=XN.below hh);(try replace g:=g.below hh);(try replace n:=n.below hh);replace hb:=bend hb hh;obtain ⟨xf0,xf1,xf2⟩:=XF.all;obtain ⟨xg0,xg1,xg2⟩:=XG.all;obtain ⟨xm0,xm1,xm2,xm3⟩:=XM.all;obtain ⟨xn0,xn1,xn2,xn3⟩:=XN.all))
 go_ret;exact ⟨rfl,hb⟩
theorem lines_nn {ax ay bx by_ yv:Rat} (p:PR w s_p A_p n_p c_p B_p m_p d_p t_p E_p i_p e_p F_p j_p f_p ax ay 6) (q:PR w s_q A_q n_q c_q B_q m_q d_q t_q E_q i_q e_q F_q j_q f_q bx by_ 6) (y:QR w s_y A_y n_y c_y B_y m_y d_y yv 6) (h:(((n_p≤6∧m_p≤6)∧i_p≤6∧j_p≤6)∧((n_q≤6∧m_q≤6)∧i_q≤6∧j_q≤6))) (hv:(n_y≤6∧m_y≤6)) (hl:¬ shareOK (yv - ay) (by_ - ay)) (hu:¬ shareOK (yv - ax) (bx - ax)) :
 Calls Tryz.prog 6 #[.agg #[.bool s_p,.slice A_p n_p c_p,.slice B_p m_p d_p,.bool t_p,.slice E_p i_p e_p,.slice F_p j_p f_p],.agg #[.bool s_q,.slice A_q n_q c_q,.slice B_q m_q d_q,.bool t_q,.slice E_q i_q e_q,.slice F_q j_q f_q],.agg #[.bool s_y,.slice A_y n_y c_y,.slice B_y m_y d_y]] w fun e w'=>e=.returned (.bool true)∧Below w.heap.size w w':=by
 have HL:Hid (decide (((n_p≤6∧m_p≤6)∧i_p≤6∧j_p≤6)∧((n_q≤6∧m_q≤6)∧i_q≤6∧j_q≤6))=true):=decide_eq_true h
 have HV:Hid (decide (n_y≤6∧m_y≤6)=true):=decide_eq_true hv
 have SL:=Lib.hid hl;have SU:=Lib.hid hu;clear h hv hl hu
 go_enter Tryz.func6,Tryz.ntmps6
 go_wp2_with fail
 generalize hW:World.alloc _ _=W
 obtain ⟨hb,XA,XB,XC,XL,hzW⟩:=mkbx43_19 hW;clear hW;replace p:=p.below hb;replace q:=q.below hb;replace y:=y.below hb;obtain ⟨xa0,xa1,xa2,xa3,xa4,xa5⟩:=XA.all;obtain ⟨xb0,xb1,xb2,xb3,xb4,xb5⟩:=XB.all;obtain ⟨xc0,xc1,xc2⟩:=XC.all
 go_upto_region 3 with (first
  | (go_at_call 29;(with_reducible refine (fair2 XL true HL.out).mono ?_);rintro e w_z ⟨rfl,hh⟩
     clear XL;(try replace p:=p.below hh);(try replace q:=q.below hh);(try replace y:=y.below hh);(try replace XA:=XA.below hh);(try replace XB:=XB.below hh);(try replace XC:=XC.below hh);replace hb:=bend hb hh;obtain ⟨xa0,xa1,xa2,xa3,xa4,xa5⟩:=XA.all;obtain ⟨xb0,xb1,xb2,xb3,xb4,xb5⟩:=XB.all;obtain ⟨xc0,xc1,xc2⟩:=XC.all)
  | (go_at_call 38;(with_reducible refine (small_6 (s:=s_y) (A:=A_y) (n:=n_y) (c:=c_y) (A':=B_y) (n':=m_y) (c':=d_y) _ true HV.out).mono ?_);rintro e w_z ⟨rfl,hh⟩
     (try replace p:=p.below hh);(try replace q:=q.below hh);(try replace y:=y.below hh);(try replace XA:=XA.below hh);(try replace XB:=XB.below hh);(try replace XC:=XC.below hh);replace hb:=bend hb hh;obtain ⟨xa0,xa1,xa2,xa3,xa4,xa5⟩:=XA.all;obtain ⟨xb0,xb1,xb2,xb3,xb4,xb5⟩:=XB.all;obtain ⟨xc0,xc1,xc2⟩:=XC.all))
 go_upto_region 4 with (first
  | (go_at_call 39;(with_reducible refine (level_no p q y (by decide) (by decide) SL.out).mono ?_);rintro e w_f ⟨rfl,hh⟩
     (try replace p:=p.below hh);(try replace q:=q.below hh);(try replace y:=y.below hh);(try replace XA:=XA.below hh);(try replace XB:=XB.below hh);(try replace XC:=XC.below hh);replace hb:=bend hb hh))
 generalize hW:World.alloc _ _=W2
 obtain ⟨hh,XF,hzW2⟩:=mkbx13_8 hW;clear hW;(try replace p:=p.below hh);(try replace q:=q.below hh);(try replace y:=y.below hh);(try replace XA:=XA.below hh);(try replace XB:=XB.below hh);(try replace XC:=XC.below hh);replace hb:=bend hb hh;obtain ⟨xa0,xa1,xa2,xa3,xa4,xa5⟩:=XA.all;obtain ⟨xb0,xb1,xb2,xb3,xb4,xb5⟩:=XB.all;obtain ⟨xc0,xc1,xc2⟩:=XC.all
 go_upto_region 5 with (first
  | (go_at_call 40;(with_reducible refine (upright_no p q y (by decide) (by decide) SU.out).mono ?_);rintro e w_g ⟨rfl,hh⟩
     (try replace p:=p.below hh);(try replace q:=q.below hh);(try replace y:=y.below hh);(try replace XA:=XA.below hh);(try replace XB:=XB.below hh);(try replace XC:=XC.below hh);(try replace XF:=XF.below hh);replace hb:=bend hb hh))
 generalize hW:World.alloc _ _=W3
 obtain ⟨hh,XG,hzW3⟩:=mkbx13_8 hW;clear hW;(try replace p:=p.below hh);(try replace q:=q.below hh);(try replace y:=y.below hh);(try replace XA:=XA.below hh);(try replace XB:=XB.below hh);(try replace XC:=XC.below hh);(try replace XF:=XF.below hh);replace hb:=bend hb hh
 refine lin5_region (by simp) rfl rfl rfl XA XB XC p q y ?_
 intro V w_1 g_x s_x A_x n_x c_x B_x m_x d_x t_x E_x i_x e_x F_x j_x f_x g_z s_z A_z n_z c_z B_z m_z d_z t_z E_z i_z e_z F_z j_z f_z g_v s_v A_v n_v c_v B_v m_v d_v x X7 hg_x hvx z Z7 hg_z hvz v V7 hg_v hvv hne1 hne2 hne3 hh
 simp only [putAll,Act.put,List.setIfInBounds_toArray,List.set_cons_zero,List.set_cons_succ,hvx,hvz,hvv]
 clear hvx hvz hvv hne1 hne2 hne3;replace p:=p.below hh;replace q:=q.below hh;replace y:=y.below hh;replace XA:=XA.below hh;replace XB:=XB.below hh;replace XC:=XC.below hh;replace XF:=XF.below hh;replace XG:=XG.below hh;replace hb:=bend hb hh
 go_upto_region 6 with (fail)
 refine lin6_region (okl:=false) (oku:=false) (by simp) rfl rfl rfl X7 Z7 V7 x z v ⟨fun e=>absurd e (by decide),fun e=>absurd e SL.out⟩ ⟨fun e=>absurd e (by decide),fun e=>absurd e SU.out⟩ ?_
 intro V w_2 g_m s_m A_m n_m c_m B_m m_m d_m o_m g_n s_n A_n n_n c_n B_n m_n d_n o_n ⟨hm1,hm2⟩ XM hg_m hvm ⟨hn1,hn2⟩ XN hg_n hvn hne hh
 subst hm1 hn1
 clear hm2;clear hn2
 simp only [putAll,Act.put,List.setIfInBounds_toArray,List.set_cons_zero,List.set_cons_succ,hvm,hvn]
 clear hvm hvn hne;replace p:=p.below hh;replace q:=q.below hh;replace y:=y.below hh;replace XA:=XA.below hh;replace XB:=XB.below hh;replace XC:=XC.below hh;replace XF:=XF.below hh;replace XG:=XG.below hh;replace x:=x.below hh;replace z:=z.below hh;replace v:=v.below hh;replace X7:=X7.below hh;replace Z7:=Z7.below hh;replace V7:=V7.below hh;replace hb:=bend hb hh;obtain ⟨xf0,xf1,xf2⟩:=XF.all;obtain ⟨xg0,xg1,xg2⟩:=XG.all;obtain ⟨xm0,xm1,xm2,xm3⟩:=XM.all;obtain ⟨xn0,xn1,xn2,xn3⟩:=XN.all
 go_wp2_with (first
  | (go_at_call 30;(with_reducible refine (segwakes_any _).mono ?_);rintro e w_z ⟨rfl,hh⟩
     (try replace XF:=XF.below hh);(try replace XG:=XG.below hh);(try replace XM:=XM.below hh);(try replace XN:=XN.below hh);replace hb:=bend hb hh;obtain ⟨xf0,xf1,xf2⟩:=XF.all;obtain ⟨xg0,xg1,xg2⟩:=XG.all;obtain ⟨xm0,xm1,xm2,xm3⟩:=XM.all;obtain ⟨xn0,xn1,xn2,xn3⟩:=XN.all))
 go_ret;exact ⟨rfl,hb⟩
theorem law_lines {lap lbp lcp ldp:List Nat} {laq lbq lcq ldq:List Nat} {lay lby:List Nat} (ap:Rd .u64 w A_p n_p lap) (bp:Rd .u64 w B_p m_p lbp) (up:Rd .u64 w E_p i_p lcp) (vp:Rd .u64 w F_p j_p ldp) (tap:Lim B64 lap) (tbp:Lim B64 lbp) (tcp:Lim B64 lcp) (tdp:Lim B64 ldp) (cap:n_p≤c_p) (cbp:m_p≤d_p) (ccp:i_p≤e_p) (cdp:j_p≤f_p) (aq:Rd .u64 w A_q n_q laq) (bq:Rd .u64 w B_q m_q lbq) (uq:Rd .u64 w E_q i_q lcq) (vq:Rd .u64 w F_q j_q ldq) (taq:Lim B64 laq) (tbq:Lim B64 lbq) (tcq:Lim B64 lcq) (tdq:Lim B64 ldq) (caq:n_q≤c_q) (cbq:m_q≤d_q) (ccq:i_q≤e_q) (cdq:j_q≤f_q) (ay:Rd .u64 w A_y n_y lay) (by':Rd .u64 w B_y m_y lby) (tay:Lim B64 lay) (tby:Lim B64 lby) (cay:n_y≤c_y) (cby:m_y≤d_y) :
 Calls Tryz.prog 6 #[.agg #[.bool s_p,.slice A_p n_p c_p,.slice B_p m_p d_p,.bool t_p,.slice E_p i_p e_p,.slice F_p j_p f_p],.agg #[.bool s_q,.slice A_q n_q c_q,.slice B_q m_q d_q,.bool t_q,.slice E_q i_q e_q,.slice F_q j_q f_q],.agg #[.bool s_y,.slice A_y n_y c_y,.slice B_y m_y d_y]] w fun e w'=>e=.returned (.bool true)∧Below w.heap.size w w':=by
 by_cases h:(((n_p≤6∧m_p≤6)∧i_p≤6∧j_p≤6)∧((n_q≤6∧m_q≤6)∧i_q≤6∧j_q≤6))
 case neg=>exact lines_l h
 by_cases hv:(n_y≤6∧m_y≤6)
 case neg=>exact lines_v h hv
 have p:PR w s_p A_p n_p c_p B_p m_p d_p t_p E_p i_p e_p F_p j_p f_p (mkRat (iv s_p (val B64 lap)) (den1 (val B64 lbp))) (mkRat (iv t_p (val B64 lcp)) (den1 (val B64 ldp))) 6:=⟨QR.of_rd ap tap cap bp tbp cbp h.1.1.1 h.1.1.2,QR.of_rd up tcp ccp vp tdp cdp h.1.2.1 h.1.2.2⟩
 have q:PR w s_q A_q n_q c_q B_q m_q d_q t_q E_q i_q e_q F_q j_q f_q (mkRat (iv s_q (val B64 laq)) (den1 (val B64 lbq))) (mkRat (iv t_q (val B64 lcq)) (den1 (val B64 ldq))) 6:=⟨QR.of_rd aq taq caq bq tbq cbq h.2.1.1 h.2.1.2,QR.of_rd uq tcq ccq vq tdq cdq h.2.2.1 h.2.2.2⟩
 have y:QR w s_y A_y n_y c_y B_y m_y d_y (mkRat (iv s_y (val B64 lay)) (den1 (val B64 lby))) 6:=QR.of_rd ay tay cay by' tby cby hv.1 hv.2
 generalize mkRat (iv s_p (val B64 lap)) (den1 (val B64 lbp))=ax_ at p
 generalize mkRat (iv t_p (val B64 lcp)) (den1 (val B64 ldp))=ay_ at p
 generalize mkRat (iv s_q (val B64 laq)) (den1 (val B64 lbq))=bx_ at q
 generalize mkRat (iv t_q (val B64 lcq)) (den1 (val B64 ldq))=by_ at q
 generalize mkRat (iv s_y (val B64 lay)) (den1 (val B64 lby))=yv at y
 by_cases hl:shareOK (yv - ay_) (by_ - ay_) <;> by_cases hu:shareOK (yv - ax_) (bx_ - ax_)
 · exact lines_yy p q y h hv hl hu
 · exact lines_yn p q y h hv hl hu
 · exact lines_ny p q y h hv hl hu
 · exact lines_nn p q y h hv hl hu
end Go.Proofs.YtmgklaklnaihpaaGreat
