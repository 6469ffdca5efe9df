/- AreaBoxes: part 15. -/
import Derived.Test.YtghmejlikfiegaaGreatKAreaBoxes13
import Derived.Test.YtghmejlikfiegaaGreatKAreaBoxes14
set_option linter.unusedVariables false
set_option maxRecDepth 100000
set_option maxHeartbeats 16000000
variable {w:Go.World}
variable {s_a t_a:Bool} {A_a B_a E_a F_a:Option Go.Addr} {n_a c_a m_a d_a i_a e_a j_a f_a:Nat}
variable {s_b t_b:Bool} {A_b B_b E_b F_b:Option Go.Addr} {n_b c_b m_b d_b i_b e_b j_b f_b:Nat}
variable {s_p t_p:Bool} {A_p B_p E_p F_p:Option Go.Addr} {n_p c_p m_p d_p i_p e_p j_p f_p:Nat}
variable {s_q t_q:Bool} {A_q B_q E_q F_q:Option Go.Addr} {n_q c_q m_q d_q i_q e_q j_q f_q:Nat}
namespace Go.Proofs.YtghmejlikfiegaaGreat
section
open Go Go.RowKit
theorem free9 (s_p:Bool) (A_p:Option Addr) (n_p:Nat) (c_p:Nat) (B_p:Option Addr) (m_p:Nat) (d_p:Nat) (t_p:Bool) (E_p:Option Addr) (i_p:Nat) (e_p:Nat) (F_p:Option Addr) (j_p:Nat) (f_p:Nat) (s_a:Bool) (A_a:Option Addr) (n_a:Nat) (c_a:Nat) (B_a:Option Addr) (m_a:Nat) (d_a:Nat):∀ (x:Nat) (k:IntKind) (v:Int),(#[.bool s_p,.slice A_p n_p c_p,.slice B_p m_p d_p,.bool t_p,.slice E_p i_p e_p,.slice F_p j_p f_p,.bool s_a,.slice A_a n_a c_a,.slice B_a m_a d_a]:Array Value)[x]? ≠ some (.int k v):=by
 intro x k v h
 match x,h with
 | 0,h=>cases h
 | 1,h=>cases h
 | 2,h=>cases h
 | 3,h=>cases h
 | 4,h=>cases h
 | 5,h=>cases h
 | 6,h=>cases h
 | 7,h=>cases h
 | 8,h=>cases h
 | x+9,h=>cases h
theorem run_alloc9 {e1:Operand→Value} {d1:Option Tmp} {y1:Nat} {pos:String} {af:Array Edge} :
 (execOp e1 ⟨d1,.alloc 96,y1,pos,af,none⟩).run Tryz.prog w=.ok (.value (.pointer (some ⟨w.heap.size,0,none⟩))) (w.alloc (.cells #[.bool false,.slice none 0 0,.slice none 0 0,.bool false,.slice none 0 0,.slice none 0 0,.bool false,.slice none 0 0,.slice none 0 0] 96)):=by
 go_simp
theorem run_store9 {e1:Operand→Value} {d1:Option Tmp} {y1:Nat} {pos:String} {af:Array Edge} {x1 z1:Operand} {g:Nat} {v0 v1 v2 v3 v4 v5 v6 v7 v8:Value} (h:e1 x1=.pointer (some ⟨g,0,none⟩)) (hz:e1 z1=.agg #[.bool s_p,.slice A_p n_p c_p,.slice B_p m_p d_p,.bool t_p,.slice E_p i_p e_p,.slice F_p j_p f_p,.bool s_a,.slice A_a n_a c_a,.slice B_a m_a d_a]) (Z:B9 w g v0 v1 v2 v3 v4 v5 v6 v7 v8) :
 (execOp e1 ⟨d1,.store 96 x1 z1,y1,pos,af,none⟩).run Tryz.prog w=.ok .skip (((((((((w.setCell ⟨g,0,none⟩ (.bool s_p)).setCell ⟨g,1,none⟩ (.slice A_p n_p c_p)).setCell ⟨g,2,none⟩ (.slice B_p m_p d_p)).setCell ⟨g,3,none⟩ (.bool t_p)).setCell ⟨g,4,none⟩ (.slice E_p i_p e_p)).setCell ⟨g,5,none⟩ (.slice F_p j_p f_p)).setCell ⟨g,6,none⟩ (.bool s_a)).setCell ⟨g,7,none⟩ (.slice A_a n_a c_a)).setCell ⟨g,8,none⟩ (.slice B_a m_a d_a)):=by
 have c0:=Z.c0;have f0:=Z.f0;have c1:=Z.c1;have f1:=Z.f1;have c2:=Z.c2;have f2:=Z.f2;have c3:=Z.c3;have f3:=Z.f3;have c4:=Z.c4;have f4:=Z.f4;have c5:=Z.c5;have f5:=Z.f5;have c6:=Z.c6;have f6:=Z.f6;have c7:=Z.c7;have f7:=Z.f7;have c8:=Z.c8;have f8:=Z.f8
 go_simp
theorem B9.set9 {W:World} {g:Nat} {v0 v1 v2 v3 v4 v5 v6 v7 v8:Value} (h:B9 W g v0 v1 v2 v3 v4 v5 v6 v7 v8) (xv0 xv1 xv2 xv3 xv4 xv5 xv6 xv7 xv8:Value):B9 (((((((((W.setCell ⟨g,0,none⟩ (xv0)).setCell ⟨g,1,none⟩ (xv1)).setCell ⟨g,2,none⟩ (xv2)).setCell ⟨g,3,none⟩ (xv3)).setCell ⟨g,4,none⟩ (xv4)).setCell ⟨g,5,none⟩ (xv5)).setCell ⟨g,6,none⟩ (xv6)).setCell ⟨g,7,none⟩ (xv7)).setCell ⟨g,8,none⟩ (xv8)) g xv0 xv1 xv2 xv3 xv4 xv5 xv6 xv7 xv8:=by
 unfold B9 at h ⊢
 simp [World.setCell,Array.getElem?_modify,h]
theorem store_k9 {ac:Act} {x1 z:Operand} {y1 g:Nat} {pos:String} {af:Array Edge} {Q:Exit→Act→World→Prop} (p1:ac.eval x1=.pointer (some ⟨g,0,none⟩)) (h:VK #[.bool s_p,.slice A_p n_p c_p,.slice B_p m_p d_p,.bool t_p,.slice E_p i_p e_p,.slice F_p j_p f_p,.bool s_a,.slice A_a n_a c_a,.slice B_a m_a d_a] (ac.eval z) w) (Z0:BoxAt 96 w g #[.bool false,.slice none 0 0,.slice none 0 0,.bool false,.slice none 0 0,.slice none 0 0,.bool false,.slice none 0 0,.slice none 0 0]) :
 (⟨none,.store 96 x1 z,y1,pos,af,none⟩:Oper).wp Tryz.prog ac w (fun a'' w''=>a''=ac∧Only g w w''∧∃ cs',BoxAt 96 w'' g cs'∧(fun cs _=>cs=#[.bool s_p,.slice A_p n_p c_p,.slice B_p m_p d_p,.bool t_p,.slice E_p i_p e_p,.slice F_p j_p f_p,.bool s_a,.slice A_a n_a c_a,.slice B_a m_a d_a]) cs' w'') Q:=by
 have Z:B9 w g (.bool false) (.slice none 0 0) (.slice none 0 0) (.bool false) (.slice none 0 0) (.slice none 0 0) (.bool false) (.slice none 0 0) (.slice none 0 0):=Z0.at_
 unfold Oper.wp
 rw [run_store9 p1 h Z,Oper.upon_skip]
 have ho:=onlyc w g 0 (.bool s_p) (.slice A_p n_p c_p) (.slice B_p m_p d_p) (.bool t_p) (.slice E_p i_p e_p) (.slice F_p j_p f_p) (.bool s_a) (.slice A_a n_a c_a) (.slice B_a m_a d_a)
 exact ⟨put_none ac undef,ho,_,⟨Z.set9 _ _ _ _ _ _ _ _ _ ,free9 _ _ _ _ _ _ _ _ _ _ _ _ _ _ _ _ _ _ _ _ _ ⟩,rfl⟩
theorem run_ixc {e1:Operand→Value} {d1:Option Tmp} {y1:Nat} {pos:String} {af:Array Edge} {x1 x2:Operand} {A:Option Addr} {n c g o:Nat} {M:Int} (h:e1 x1=.slice A n c) (h2:e1 x2=.int .i64 M) (hx:∀ w',(Instr.indexAt 93 (.slice A n c) (.int .i64 M)).run Tryz.prog w'=.ok (.pointer (some ⟨g,o,none⟩)) w') :
 (execOp e1 ⟨d1,.indexAddr 93 x1 x2,y1,pos,af,none⟩).run Tryz.prog w=.ok (.value (.pointer (some ⟨g,o,none⟩))) w:=by
 have h1:=hx w
 go_simp
theorem run_ldc {e1:Operand→Value} {d1:Option Tmp} {y1:Nat} {pos:String} {af:Array Edge} {x1:Operand} {g o:Nat} {p:CV} (h:e1 x1=.pointer (some ⟨g,o,none⟩)) (E:E9x w g o p) :
 (execOp e1 ⟨d1,.load 96 x1,y1,pos,af,none⟩).run Tryz.prog w=.ok (.value (.agg #[.bool p.p.s,.slice p.p.A p.p.n p.p.c,.slice p.p.B p.p.m p.p.d,.bool p.p.t,.slice p.p.E p.p.i p.p.e,.slice p.p.F p.p.j p.p.f,.bool p.q.s,.slice p.q.A p.q.n p.q.c,.slice p.q.B p.q.m p.q.d])) w:=by
 obtain ⟨e0,e1,e2,e3,e4,e5,e6,e7,e8⟩:=E.all
 go_simp
theorem Ln.own_lt {T:TypeId} {base g:Nat} {v:Value} {L:List PV} (h:Ln T base w v L) (hg:v.ownBlock=some g):g < w.heap.size:=by
 obtain ⟨cs,hc⟩:=h.free g hg;exact hc.lt
theorem B9.push {w w':World} {g:Nat} {v0 v1 v2 v3 v4 v5 v6 v7 v8:Value} {row:Option Nat} (h:B9 w g v0 v1 v2 v3 v4 v5 v6 v7 v8) (hg:w.grownBy w' row) (hne:∀ k,row=some k→k ≠ g):B9 w' g v0 v1 v2 v3 v4 v5 v6 v7 v8 :=
 (hg.block g h.lt (fun e=>hne g e.symm rfl)).trans h
def mixP (u v:Rat × Rat) (t:Rat):Rat × Rat:=(u.1+(v.1 - u.1)*t,u.2+(v.2 - u.2)*t)
def halfStep (f:Rat × Rat→Rat) (u v:Rat × Rat):List (Rat × Rat):=(if 0≤f u then [u] else []) ++ (if f u*f v < 0 then [mixP u v (f u / (f u - f v))] else [])
def halfUpto (f:Rat × Rat→Rat) (r:List (Rat × Rat)):Nat→List (Rat × Rat)
 | 0=>[]
 | m+1=>halfUpto f r m ++ halfStep f (r.getD m (0,0)) (r.getD (m+1) (0,0))
theorem halfUpto_at {f:Rat × Rat→Rat} {r:List (Rat × Rat)} {m:Nat} {u v:Rat × Rat} (hu:r[m]?=some u) (hv:r[m+1]?=some v):halfUpto f r (m+1)=halfUpto f r m ++ halfStep f u v:=by
 rw [halfUpto,List.getD_eq_getElem?_getD,List.getD_eq_getElem?_getD,hu,hv];rfl
def halfQ (f:Rat × Rat→Rat) (l:List (Rat × Rat)):List (Rat × Rat):=halfUpto f (ringL l) l.length
theorem sgn_mul_wrap (x y:Rat):IntKind.i64.wrap (sgnQ x*sgnQ y)=sgnQ x*sgnQ y:=by
 rcases sgnQ_cases x with h | h | h <;> rcases sgnQ_cases y with g | g | g <;> rw [h.1,g.1] <;> decide +kernel
theorem sgn_mul_lt (x y:Rat):sgnQ x*sgnQ y < 0 ↔ x*y < 0:=by
 have:=sgn_mul x y
 constructor
 · intro h;exact Rat.not_le.1 fun e=>by have:=this.2 e;omega
 · intro h;exact Int.not_le.1 fun e=>by have:=this.1 e;grind
theorem sgn_nn (x:Rat):0≤sgnQ x ↔ 0≤x:=by
 rcases sgnQ_cases x with h | h | h <;> rw [h.1]
 · exact ⟨fun _=>Rat.le_of_lt h.2,fun _=>by decide⟩
 · exact ⟨fun _=>by rw [h.2];exact Rat.le_refl,fun _=>by decide⟩
 · exact ⟨fun e=>absurd e (by decide),fun e=>by have:=h.2;grind⟩
abbrev L_half6:List Nat:=[22,23,24,25,26,27,28,29,30,10,11]
def o0_half6:Oper:=⟨some 22,.move (.tmp 8),93, "half.go:16",#[],none⟩
def o1_half6:Oper:=⟨some 23,.move (.tmp 9),3, "half.go:16",#[],none⟩
def o2_half6:Oper:=⟨some 24,.indexAddr 93 (.tmp 22) (.tmp 23),0, "half.go:16",#[⟨0,.data⟩,⟨1,.data⟩],none⟩
def o3_half6:Oper:=⟨some 25,.load 96 (.tmp 24),96, "half.go:16",#[⟨2,.data⟩],none⟩
def o4_half6:Oper:=⟨some 26,.move (.tmp 8),93, "half.go:16",#[⟨11,.gcOnly .lateStores⟩],none⟩
def o5_half6:Oper:=⟨some 27,.move (.tmp 9),3, "half.go:16",#[⟨11,.gcOnly .lateStores⟩],none⟩
def o6_half6:Oper:=⟨some 28,.binOp BinOp.add 3 (.tmp 27) (.const (Value.int IntKind.i64 1)) 3,3, "half.go:16",#[⟨5,.data⟩,⟨11,.gcOnly .lateStores⟩],none⟩
def o7_half6:Oper:=⟨some 29,.indexAddr 93 (.tmp 26) (.tmp 28),0, "half.go:16",#[⟨4,.data⟩,⟨6,.data⟩,⟨11,.gcOnly .lateStores⟩],none⟩
def o8_half6:Oper:=⟨some 30,.load 96 (.tmp 29),96, "half.go:16",#[⟨7,.data⟩,⟨11,.gcOnly .lateStores⟩],none⟩
def o9_half6:Oper:=⟨some 10,.alloc 96,0, "half.go:16",#[],none⟩
def o10_half6:Oper:=⟨some 11,.alloc 96,0, "half.go:16",#[],none⟩
def o11_half6:Oper:=⟨none,.store 96 (.tmp 10) (.tmp 25),0, "half.go:16",#[⟨9,.data⟩,⟨3,.data⟩,⟨0,.phase⟩,⟨1,.phase⟩,⟨2,.phase⟩,⟨3,.phase⟩,⟨4,.textOnly .lateStores⟩,⟨5,.textOnly .lateStores⟩,⟨6,.textOnly .lateStores⟩,⟨7,.textOnly .lateStores⟩,⟨8,.textOnly .lateStores⟩,⟨9,.phase⟩,⟨10,.phase⟩],none⟩
def o12_half6:Oper:=⟨none,.store 96 (.tmp 11) (.tmp 30),0, "half.go:16",#[⟨10,.data⟩,⟨8,.data⟩,⟨11,.chain⟩,⟨0,.phase⟩,⟨1,.phase⟩,⟨2,.phase⟩,⟨3,.phase⟩,⟨4,.phase⟩,⟨5,.phase⟩,⟨6,.phase⟩,⟨7,.phase⟩,⟨8,.phase⟩,⟨9,.phase⟩,⟨10,.phase⟩,⟨11,.phase⟩],none⟩
def F_half6 (A1:Option Addr) (N1:Nat) (c1:Nat) (m:Nat) (g0:Nat) (o0:Nat) (g1:Nat) (o1:Nat) (s_p:Bool) (t_p:Bool) (A_p:Option Addr) (B_p:Option Addr) (E_p:Option Addr) (F_p:Option Addr) (n_p:Nat) (c_p:Nat) (m_p:Nat) (d_p:Nat) (i_p:Nat) (e_p:Nat) (j_p:Nat) (f_p:Nat) (s_a:Bool) (A_a:Option Addr) (B_a:Option Addr) (n_a:Nat) (c_a:Nat) (m_a:Nat) (d_a:Nat) (s_q:Bool) (t_q:Bool) (A_q:Option Addr) (B_q:Option Addr) (E_q:Option Addr) (F_q:Option Addr) (n_q:Nat) (c_q:Nat) (m_q:Nat) (d_q:Nat) (i_q:Nat) (e_q:Nat) (j_q:Nat) (f_q:Nat) (s_b:Bool) (A_b:Option Addr) (B_b:Option Addr) (n_b:Nat) (c_b:Nat) (m_b:Nat) (d_b:Nat) (sl:Nat):Value→World→Prop :=
 match sl with
 | 22=>fun x _=>x=Value.slice A1 N1 c1
 | 23=>fun x _=>x=Value.int .i64 (m:Int)
 | 24=>fun x _=>x=Value.pointer (some ⟨g0,o0,none⟩)
 | 25=>VK (#[.bool s_p,.slice A_p n_p c_p,.slice B_p m_p d_p,.bool t_p,.slice E_p i_p e_p,.slice F_p j_p f_p,.bool s_a,.slice A_a n_a c_a,.slice B_a m_a d_a])
 | 26=>fun x _=>x=Value.slice A1 N1 c1
 | 27=>fun x _=>x=Value.int .i64 (m:Int)
 | 28=>fun x _=>x=Value.int .i64 ((m:Int)+1)
 | 29=>fun x _=>x=Value.pointer (some ⟨g1,o1,none⟩)
 | 30=>VK (#[.bool s_q,.slice A_q n_q c_q,.slice B_q m_q d_q,.bool t_q,.slice E_q i_q e_q,.slice F_q j_q f_q,.bool s_b,.slice A_b n_b c_b,.slice B_b m_b d_b])
 | _=>fun _ _=>True
def B0_half6 (s_p:Bool) (t_p:Bool) (A_p:Option Addr) (B_p:Option Addr) (E_p:Option Addr) (F_p:Option Addr) (n_p:Nat) (c_p:Nat) (m_p:Nat) (d_p:Nat) (i_p:Nat) (e_p:Nat) (j_p:Nat) (f_p:Nat) (s_a:Bool) (A_a:Option Addr) (B_a:Option Addr) (n_a:Nat) (c_a:Nat) (m_a:Nat) (d_a:Nat):BoxOp :=
 ⟨9,11,10,96,#[.bool false,.slice none 0 0,.slice none 0 0,.bool false,.slice none 0 0,.slice none 0 0,.bool false,.slice none 0 0,.slice none 0 0],fun cs _=>cs=#[.bool s_p,.slice A_p n_p c_p,.slice B_p m_p d_p,.bool t_p,.slice E_p i_p e_p,.slice F_p j_p f_p,.bool s_a,.slice A_a n_a c_a,.slice B_a m_a d_a]⟩
def B1_half6 (s_q:Bool) (t_q:Bool) (A_q:Option Addr) (B_q:Option Addr) (E_q:Option Addr) (F_q:Option Addr) (n_q:Nat) (c_q:Nat) (m_q:Nat) (d_q:Nat) (i_q:Nat) (e_q:Nat) (j_q:Nat) (f_q:Nat) (s_b:Bool) (A_b:Option Addr) (B_b:Option Addr) (n_b:Nat) (c_b:Nat) (m_b:Nat) (d_b:Nat):BoxOp :=
 ⟨10,12,11,96,#[.bool false,.slice none 0 0,.slice none 0 0,.bool false,.slice none 0 0,.slice none 0 0,.bool false,.slice none 0 0,.slice none 0 0],fun cs _=>cs=#[.bool s_q,.slice A_q n_q c_q,.slice B_q m_q d_q,.bool t_q,.slice E_q i_q e_q,.slice F_q j_q f_q,.bool s_b,.slice A_b n_b c_b,.slice B_b m_b d_b]⟩
theorem half6_region {id:Nat} {ac:Act} {Q:Exit→Act→World→Prop} {A1:Option Addr} {N1 c1 m g0 o0 g1 o1:Nat} 
 (hsz:30 < ac.tmps.size) (e8:ac.eval (.tmp 8)=Value.slice A1 N1 c1) (e9:ac.eval (.tmp 9)=Value.int .i64 (m:Int)) (Ep:E9x w g0 o0 (CV.mk (PV.mk s_p A_p n_p c_p B_p m_p d_p t_p E_p i_p e_p F_p j_p f_p) (QV.mk s_a A_a n_a c_a B_a m_a d_a))) (Eq:E9x w g1 o1 (CV.mk (PV.mk s_q A_q n_q c_q B_q m_q d_q t_q E_q i_q e_q F_q j_q f_q) (QV.mk s_b A_b n_b c_b B_b m_b d_b))) (hixa:∀ w',(Instr.indexAt 93 (.slice A1 N1 c1) (.int .i64 (m:Int))).run Tryz.prog w'=.ok (.pointer (some ⟨g0,o0,none⟩)) w') (hixb:∀ w',(Instr.indexAt 93 (.slice A1 N1 c1) (.int .i64 ((m:Int)+1))).run Tryz.prog w'=.ok (.pointer (some ⟨g1,o1,none⟩)) w') (hwr:IntKind.i64.wrap ((m:Int)+1)=(m:Int)+1)
 (hend:∀ (V:Nat→Value) (w':World) (g0:Nat) (g1:Nat),B9 w' g0 (.bool s_p) (.slice A_p n_p c_p) (.slice B_p m_p d_p) (.bool t_p) (.slice E_p i_p e_p) (.slice F_p j_p f_p) (.bool s_a) (.slice A_a n_a c_a) (.slice B_a m_a d_a)→w.heap.size≤g0→V 10=.pointer (some ⟨g0,0,none⟩)→B9 w' g1 (.bool s_q) (.slice A_q n_q c_q) (.slice B_q m_q d_q) (.bool t_q) (.slice E_q i_q e_q) (.slice F_q j_q f_q) (.bool s_b) (.slice A_b n_b c_b) (.slice B_b m_b d_b)→w.heap.size≤g1→V 11=.pointer (some ⟨g1,0,none⟩)→g1 ≠ g0→Below w.heap.size w w'→Q .normal (putAll ac [22,23,24,25,26,27,28,29,30,10,11] V) w') :
 (Code.region id #[o0_half6,o1_half6,o2_half6,o3_half6,o4_half6,o5_half6,o6_half6,o7_half6,o8_half6,o9_half6,o10_half6,o11_half6,o12_half6] true).wp Tryz.prog Q ac w:=by
 have hnd:L_half6.Nodup:=by decide
 have G:∀ (sv:Nat→Value) (t:Nat),t ∈ L_half6→t≤30→(putAll ac L_half6 sv).eval (.tmp t)=sv t:=fun sv t ht h=>eval_putAll_mem (t:=t) L_half6 ac hnd ht (Nat.lt_of_le_of_lt h hsz)
 have E8:∀ sv:Nat→Value,(putAll ac L_half6 sv).eval (.tmp 8)=Value.slice A1 N1 c1:=fun sv=>(eval_putAll_not (v:=sv) L_half6 ac (show 8 ∉ _ by decide)).trans e8
 have E9:∀ sv:Nat→Value,(putAll ac L_half6 sv).eval (.tmp 9)=Value.int .i64 (m:Int):=fun sv=>(eval_putAll_not (v:=sv) L_half6 ac (show 9 ∉ _ by decide)).trans e9
 have NE:∀ t:Nat,(t ≠ 10∧t ≠ 11)→∀ p ∈ [B0_half6 s_p t_p A_p B_p E_p F_p n_p c_p m_p d_p i_p e_p j_p f_p s_a A_a B_a n_a c_a m_a d_a,B1_half6 s_q t_q A_q B_q E_q F_q n_q c_q m_q d_q i_q e_q j_q f_q s_b A_b B_b n_b c_b m_b d_b],t ≠ p.tA:=by
  intro t ht p hp
  simp only [List.mem_cons,List.not_mem_nil,or_false] at hp
  rcases hp with rfl | rfl
  · exact ht.1
  · exact ht.2
 refine wp_region_flowsT L_half6 [B0_half6 s_p t_p A_p B_p E_p F_p n_p c_p m_p d_p i_p e_p j_p f_p s_a A_a B_a n_a c_a m_a d_a,B1_half6 s_q t_q A_q B_q E_q F_q n_q c_q m_q d_q i_q e_q j_q f_q s_b A_b B_b n_b c_b m_b d_b] (F_half6 A1 N1 c1 m g0 o0 g1 o1 s_p t_p A_p B_p E_p F_p n_p c_p m_p d_p i_p e_p j_p f_p s_a A_a B_a n_a c_a m_a d_a s_q t_q A_q B_q E_q F_q n_q c_q m_q d_q i_q e_q j_q f_q s_b A_b B_b n_b c_b m_b d_b) (by kernel_rfl) (by kernel_rfl) rfl hnd ?_ ?_ ?_ ?_ ?_ ?_ ?_ ?_
 · intro p hp
   simp only [List.mem_cons,List.not_mem_nil,or_false] at hp
   rcases hp with rfl | rfl
   · refine ⟨⟨o9_half6,rfl,rfl,rfl,fun e w'=>run_alloc9⟩,⟨o11_half6,rfl,rfl,rfl,⟨9,.data⟩,by simp [o11_half6],rfl,rfl⟩,free9 _ _ _ _ _ _ _ _ _ _ _ _ _ _ _ _ _ _ _ _ _,?_,?_⟩
     · rintro cs w1 w2 rfl hb;rfl
     · rintro T cs w1 w2 g c0 rfl hB ho;rfl
   · refine ⟨⟨o10_half6,rfl,rfl,rfl,fun e w'=>run_alloc9⟩,⟨o12_half6,rfl,rfl,rfl,⟨10,.data⟩,by simp [o12_half6],rfl,rfl⟩,free9 _ _ _ _ _ _ _ _ _ _ _ _ _ _ _ _ _ _ _ _ _,?_,?_⟩
     · rintro cs w1 w2 rfl hb;rfl
     · rintro T cs w1 w2 g c0 rfl hB ho;rfl
 · intro p hp q hq h
   simp only [List.mem_cons,List.not_mem_nil,or_false] at hp hq
   rcases hp with rfl | rfl <;> rcases hq with rfl | rfl
   · rfl
   · exact absurd (show (10:Nat)=11 from h) (by decide)
   · exact absurd (show (11:Nat)=10 from h) (by decide)
   · rfl
 · intro p hp q hq h
   simp only [List.mem_cons,List.not_mem_nil,or_false] at hp hq
   rcases hp with rfl | rfl <;> rcases hq with rfl | rfl
   · rfl
   · exact absurd (show (11:Nat)=12 from h) (by decide)
   · exact absurd (show (12:Nat)=11 from h) (by decide)
   · rfl
 · intro i o h1 h2
   match i,h1 with
   | 0,h1=>cases h1;cases h2
   | 1,h1=>cases h1;cases h2
   | 2,h1=>cases h1;cases h2
   | 3,h1=>cases h1;cases h2
   | 4,h1=>cases h1;cases h2
   | 5,h1=>cases h1;cases h2
   | 6,h1=>cases h1;cases h2
   | 7,h1=>cases h1;cases h2
   | 8,h1=>cases h1;cases h2
   | 9,h1=>cases h1;cases h2
   | 10,h1=>cases h1;cases h2
   | 11,h1=>exact ⟨B0_half6 s_p t_p A_p B_p E_p F_p n_p c_p m_p d_p i_p e_p j_p f_p s_a A_a B_a n_a c_a m_a d_a,List.Mem.head _,rfl⟩
   | 12,h1=>exact ⟨B1_half6 s_q t_q A_q B_q E_q F_q n_q c_q m_q d_q i_q e_q j_q f_q s_b A_b B_b n_b c_b m_b d_b,List.Mem.tail _ (List.Mem.head _),rfl⟩
   | i+13,h1=>cases h1
 · intro t
   unfold F_half6
   split <;> first | exact (stays_eq _).inn _ | exact (stays_q _ _).inn _ | exact (stays_z _ _).inn _ | exact (stays_r _ _).inn _ | exact (stays_rq _ _).inn _ | exact (stays_pg _ _ _).inn _ | exact (stays_true).inn _
 · intro i o t sv w' ho hia hd J0 hf
   have Ep:=Ep.below J0;have Eq:=Eq.below J0
   match i,ho with
   | 0,ho =>
     obtain rfl:o0_half6=o:=Option.some.inj ho
     cases hd
     refine wpOp_plain' (o:=o0_half6) rfl rfl ?_
     unfold Oper.wp o0_half6
     rw [run_move (E8 sv),Oper.upon_value]
     exact ⟨_,rfl,Below.refl _ _,rfl⟩
   | 1,ho =>
     obtain rfl:o1_half6=o:=Option.some.inj ho
     cases hd
     refine wpOp_plain' (o:=o1_half6) rfl rfl ?_
     unfold Oper.wp o1_half6
     rw [run_move (E9 sv),Oper.upon_value]
     exact ⟨_,rfl,Below.refl _ _,rfl⟩
   | 2,ho =>
     obtain rfl:o2_half6=o:=Option.some.inj ho
     cases hd
     have f22:sv 22=Value.slice A1 N1 c1:=hf ⟨0,.data⟩ (by simp [o2_half6]) rfl _ 22 rfl rfl (NE _ (by decide))
     have f23:sv 23=Value.int .i64 (m:Int):=hf ⟨1,.data⟩ (by simp [o2_half6]) rfl _ 23 rfl rfl (NE _ (by decide))
     refine wpOp_plain' (o:=o2_half6) rfl rfl ?_
     unfold Oper.wp o2_half6
     rw [run_ixc ((G sv 22 (by decide) (by decide)).trans f22) ((G sv 23 (by decide) (by decide)).trans f23) hixa,Oper.upon_value]
     exact ⟨_,rfl,Below.refl _ _,rfl⟩
   | 3,ho =>
     obtain rfl:o3_half6=o:=Option.some.inj ho
     cases hd
     have f24:sv 24=Value.pointer (some ⟨g0,o0,none⟩):=hf ⟨2,.data⟩ (by simp [o3_half6]) rfl _ 24 rfl rfl (NE _ (by decide))
     refine wpOp_plain' (o:=o3_half6) rfl rfl ?_
     unfold Oper.wp o3_half6
     rw [run_ldc ((G sv 24 (by decide) (by decide)).trans f24) Ep,Oper.upon_value]
     exact ⟨_,rfl,Below.refl _ _,rfl⟩
   | 4,ho =>
     obtain rfl:o4_half6=o:=Option.some.inj ho
     cases hd
     refine wpOp_plain' (o:=o4_half6) rfl rfl ?_
     unfold Oper.wp o4_half6
     rw [run_move (E8 sv),Oper.upon_value]
     exact ⟨_,rfl,Below.refl _ _,rfl⟩
   | 5,ho =>
     obtain rfl:o5_half6=o:=Option.some.inj ho
     cases hd
     refine wpOp_plain' (o:=o5_half6) rfl rfl ?_
     unfold Oper.wp o5_half6
     rw [run_move (E9 sv),Oper.upon_value]
     exact ⟨_,rfl,Below.refl _ _,rfl⟩
   | 6,ho =>
     obtain rfl:o6_half6=o:=Option.some.inj ho
     cases hd
     have f27:sv 27=Value.int .i64 (m:Int):=hf ⟨5,.data⟩ (by simp [o6_half6]) rfl _ 27 rfl rfl (NE _ (by decide))
     refine wpOp_plain' (o:=o6_half6) rfl rfl ?_
     unfold Oper.wp o6_half6
     rw [run_add1 ((G sv 27 (by decide) (by decide)).trans f27) (show (putAll ac L_half6 sv).eval (.const (Value.int IntKind.i64 1))=(Value.int IntKind.i64 1) from rfl) hwr,Oper.upon_value]
     exact ⟨_,rfl,Below.refl _ _,rfl⟩
   | 7,ho =>
     obtain rfl:o7_half6=o:=Option.some.inj ho
     cases hd
     have f26:sv 26=Value.slice A1 N1 c1:=hf ⟨4,.data⟩ (by simp [o7_half6]) rfl _ 26 rfl rfl (NE _ (by decide))
     have f28:sv 28=Value.int .i64 ((m:Int)+1):=hf ⟨6,.data⟩ (by simp [o7_half6]) rfl _ 28 rfl rfl (NE _ (by decide))
     refine wpOp_plain' (o:=o7_half6) rfl rfl ?_
     unfold Oper.wp o7_half6
     rw [run_ixc ((G sv 26 (by decide) (by decide)).trans f26) ((G sv 28 (by decide) (by decide)).trans f28) hixb,Oper.upon_value]
     exact ⟨_,rfl,Below.refl _ _,rfl⟩
   | 8,ho =>
     obtain rfl:o8_half6=o:=Option.some.inj ho
     cases hd
     have f29:sv 29=Value.pointer (some ⟨g1,o1,none⟩):=hf ⟨7,.data⟩ (by simp [o8_half6]) rfl _ 29 rfl rfl (NE _ (by decide))
     refine wpOp_plain' (o:=o8_half6) rfl rfl ?_
     unfold Oper.wp o8_half6
     rw [run_ldc ((G sv 29 (by decide) (by decide)).trans f29) Eq,Oper.upon_value]
     exact ⟨_,rfl,Below.refl _ _,rfl⟩
   | 9,ho=>cases ho;cases hd;exact absurd rfl (hia (B0_half6 s_p t_p A_p B_p E_p F_p n_p c_p m_p d_p i_p e_p j_p f_p s_a A_a B_a n_a c_a m_a d_a) (List.Mem.head _))
   | 10,ho=>cases ho;cases hd;exact absurd rfl (hia (B1_half6 s_q t_q A_q B_q E_q F_q n_q c_q m_q d_q i_q e_q j_q f_q s_b A_b B_b n_b c_b m_b d_b) (List.Mem.tail _ (List.Mem.head _)))
   | 11,ho=>cases ho;cases hd
   | 12,ho=>cases ho;cases hd
   | i+13,ho=>cases ho
 · intro p hp os sv w' g hos J0 p1 p3 hf
   simp only [List.mem_cons,List.not_mem_nil,or_false] at hp
   rcases hp with rfl | rfl
   · obtain rfl:o11_half6=os:=Option.some.inj hos
     have h1:VK (#[.bool s_p,.slice A_p n_p c_p,.slice B_p m_p d_p,.bool t_p,.slice E_p i_p e_p,.slice F_p j_p f_p,.bool s_a,.slice A_a n_a c_a,.slice B_a m_a d_a]) (sv 25) w':=hf ⟨3,.data⟩ (by simp [o11_half6]) rfl _ 25 rfl rfl (NE _ (by decide))
     rw [← G sv 25 (by decide) (by decide)] at h1
     refine store_k9  (ac:=putAll ac L_half6 sv) (z:=.tmp 25) ?_ ?_ ?_
     · exact (G sv 10 (by decide) (by decide)).trans p1
     · exact h1
     · exact p3
   · obtain rfl:o12_half6=os:=Option.some.inj hos
     have h1:VK (#[.bool s_q,.slice A_q n_q c_q,.slice B_q m_q d_q,.bool t_q,.slice E_q i_q e_q,.slice F_q j_q f_q,.bool s_b,.slice A_b n_b c_b,.slice B_b m_b d_b]) (sv 30) w':=hf ⟨8,.data⟩ (by simp [o12_half6]) rfl _ 30 rfl rfl (NE _ (by decide))
     rw [← G sv 30 (by decide) (by decide)] at h1
     refine store_k9  (ac:=putAll ac L_half6 sv) (z:=.tmp 30) ?_ ?_ ?_
     · exact (G sv 11 (by decide) (by decide)).trans p1
     · exact h1
     · exact p3
 · intro sv w' J0 hF hB hap
   obtain ⟨g0,cs0,p0,r0,b0,rfl⟩:=hB (B0_half6 s_p t_p A_p B_p E_p F_p n_p c_p m_p d_p i_p e_p j_p f_p s_a A_a B_a n_a c_a m_a d_a) (List.Mem.head _)
   obtain ⟨g1,cs1,p1,r1,b1,rfl⟩:=hB (B1_half6 s_q t_q A_q B_q E_q F_q n_q c_q m_q d_q i_q e_q j_q f_q s_b A_b B_b n_b c_b m_b d_b) (List.Mem.tail _ (List.Mem.head _))
   have p0':sv 10=.pointer (some ⟨g0,0,none⟩):=p0
   have p1':sv 11=.pointer (some ⟨g1,0,none⟩):=p1
   exact hend sv w' g0 g1 b0.at_ r0 p0' b1.at_ r1 p1' (fun q=>hap (B1_half6 s_q t_q A_q B_q E_q F_q n_q c_q m_q d_q i_q e_q j_q f_q s_b A_b B_b n_b c_b m_b d_b) (List.Mem.tail _ (List.Mem.head _)) (B0_half6 s_p t_p A_p B_p E_p F_p n_p c_p m_p d_p i_p e_p j_p f_p s_a A_a B_a n_a c_a m_a d_a) (List.Mem.head _) (show (11:Nat) ≠ 10 by decide) (by rw [show (B1_half6 s_q t_q A_q B_q E_q F_q n_q c_q m_q d_q i_q e_q j_q f_q s_b A_b B_b n_b c_b m_b d_b).tA=11 from rfl,show (B0_half6 s_p t_p A_p B_p E_p F_p n_p c_p m_p d_p i_p e_p j_p f_p s_a A_a B_a n_a c_a m_a d_a).tA=10 from rfl,p1',p0',q]))   J0
end
section
open Go Go.RowKit
theorem half_p {A:Option Addr} {n c k k2 ka:Nat} {L:List PV} {l:List (Rat × Rat)} {ax ay bx by_:Rat} (hL:SV w A (pvs L)) (hE:Each PV.PR w L l k) (a:PR w s_a A_a n_a c_a B_a m_a d_a t_a E_a i_a e_a F_a j_a f_a ax ay k2) (b:PR w s_b A_b n_b c_b B_b m_b d_b t_b E_b i_b e_b F_b j_b f_b bx by_ k2) (hn:L.length=n) (hm:n≤1000) (hnc:n≤c) (h1:1≤k) (h2:1≤k2) (hk:k2+k2+1+(k+k2+1)≤200) (hk6:k≤60) (hka:ka=(k2+k2+1+(k+k2+1)+(k2+k2+1+(k+k2+1))+1)) (hka2:ka+(ka+ka+1)≤170) :
 Calls Tryz.prog 25 #[.slice A n c,.agg #[.bool s_a,.slice A_a n_a c_a,.slice B_a m_a d_a,.bool t_a,.slice E_a i_a e_a,.slice F_a j_a f_a],.agg #[.bool s_b,.slice A_b n_b c_b,.slice B_b m_b d_b,.bool t_b,.slice E_b i_b e_b,.slice F_b j_b f_b]] w (GivesLn w (halfQ (asideP ax ay bx by_) l) (k+(k+k+1+(ka+(ka+ka+1)))+1)):=by
 have HN:=Lib.hid hn
 have HNl:Hid (l.length=n):=hE.1.symm.trans hn
 have HKA:=Lib.hid hka
 have hka1:1≤ka:=by omega
 clear hka
 go_enter Tryz.func25,Tryz.ntmps25
 go_upto_region 1 with (fail)
 generalize hW:World.alloc _ _=W
 obtain ⟨hb,XA,XB,hzW⟩:=mkbx21_10 hW;clear hW;replace hL:=hL.below hb;replace a:=a.below hb;replace b:=b.below hb;obtain ⟨xa0,xa1,xa2,xa3,xa4,xa5⟩:=XA.all;obtain ⟨xb0,xb1,xb2,xb3,xb4,xb5⟩:=XB.all
 replace hE:=hE.imp (fun p u h=>PR.below h hb)
 go_upto_region 3 with (first
  | (go_at_call 68;(with_reducible refine (beside_p hL hE a b hn hm h1 h2 hk).mono ?_);rintro e w_y ⟨gW,M,rfl,hgW,hW,hM,hQ,hb1⟩
     have hWS:=hW.sv)
  | (go_at_call 67;(with_reducible refine (closed_c hWS hM (by omega) (Nat.le_refl _) (Nat.le_trans hb.size hb1.size)).mono ?_);rintro e w_c ⟨A1,c1,rfl,hR1_,hh⟩
     replace hb:=bend (bend hb hb1) hh))
 have E0:Hid (EachC w_c M l (asideP ax ay bx by_) k ka):=by rw [HKA.out];exact hQ.below hh
 rw [show n+min 1 n=(ringL M).length by unfold ringL;rw [List.length_append,List.length_take,hM,Nat.min_comm]]
 have HR1:Hid ((ringL M).length=n+min 1 n):=by show _=_;unfold ringL;rw [List.length_append,List.length_take,hM,Nat.min_comm]
 generalize hN1:(ringL M).length=N1 at HR1 ⊢
 have HR2:=Lib.hid hN1
 have hR0:SNr 96 w.heap.size n (cvs (ringL M)) w_c A1:=hR1_
 clear hN1 hL hE hWS hW hQ hb1 hh hR1_ hM a b XA XB
 go_wp2_with fail
 go_loopg [7,19] n (fun gk out ix wr=>∃ (M':List PV) (m:Nat),Hid (gk+m=n)∧ix=.int .i64 (m:Int)∧Ln 29 w_c.heap.size wr out M'∧Hid (M'.length≤2*m)∧Hid (Each PV.PG wr M' (halfUpto (asideP ax ay bx by_) (ringL l) m) (k+(k+k+1+(ka+(ka+ka+1)))+1))∧Below w_c.heap.size w_c wr)
 case atStart=>exact ⟨[],0,Nat.add_zero _,rfl,Ln.nil _ _ _,by show _≤_;simp,Each.nil,Below.refl _ _⟩
 case round =>
  obtain ⟨M',m,HG,rfl,LT,HLn,HQ,hB⟩:=hrel
  by_cases hmn:m < n
  · have HMN:=Lib.hid hmn
    obtain ⟨P,u,hP1,hu1,p0,a0⟩:=E0.out.ring.at_ (i:=m) (by have h:=HR1.out;have h2:=HR2.out;rw [h2,h];omega)
    obtain ⟨Q,v,hP2,hu2,q0,b0⟩:=E0.out.ring.at_ (i:=m+1) (by have h:=HR1.out;have h2:=HR2.out;rw [h2,h];omega)
    obtain ⟨g0,o0,hix0,Ep,_⟩:=((hR0.below hB).sv (by omega)).ct hP1
    obtain ⟨g1,o1,hix1,Eq,_⟩:=((hR0.below hB).sv (by omega)).ct hP2
    have hixa:∀ w',(Instr.indexAt 93 (.slice A1 N1 c1) (.int .i64 (m:Int))).run Tryz.prog w'=.ok (.pointer (some ⟨g0,o0,none⟩)) w':=fun w'=>hix0 N1 c1 w' (by have:=HR1.out;omega)
    have hixb:∀ w',(Instr.indexAt 93 (.slice A1 N1 c1) (.int .i64 ((m:Int)+1))).run Tryz.prog w'=.ok (.pointer (some ⟨g1,o1,none⟩)) w':=fun w'=>hix1 N1 c1 w' (by have:=HR1.out;omega)
    have hwr:IntKind.i64.wrap ((m:Int)+1)=(m:Int)+1:=IntWalk.i64_in _ (by omega)
    have hlt:(m:Int) < (n:Int):=by omega
    have HS0:=halfUpto_at (f:=(asideP ax ay bx by_)) hu1 hu2
    unfold halfStep at HS0
    have hMl:M'.length≤1000000:=by have:=HLn.out;omega
    generalize hfu:(asideP ax ay bx by_) u=fu at a0 HS0
    generalize hfv:(asideP ax ay bx by_) v=fv at b0 HS0
    have HS:=Lib.hid HS0;clear HS0
    obtain ⟨ux,uy⟩:=u
    obtain ⟨vx,vy⟩:=v
    obtain ⟨⟨s_p,A_p,n_p,c_p,B_p,m_p,d_p,t_p,E_p,i_p,e_p,F_p,j_p,f_p⟩,⟨s_a,A_a,n_a,c_a,B_a,m_a,d_a⟩⟩:=P
    obtain ⟨⟨s_q,A_q,n_q,c_q,B_q,m_q,d_q,t_q,E_q,i_q,e_q,F_q,j_q,f_q⟩,⟨s_b,A_b,n_b,c_b,B_b,m_b,d_b⟩⟩:=Q
    replace p0:PR w_c s_p A_p n_p c_p B_p m_p d_p t_p E_p i_p e_p F_p j_p f_p ux uy k:=p0
    replace q0:PR w_c s_q A_q n_q c_q B_q m_q d_q t_q E_q i_q e_q F_q j_q f_q vx vy k:=q0
    replace a0:QG w_c s_a A_a n_a c_a B_a m_a d_a fu ka:=a0
    replace b0:QG w_c s_b A_b n_b c_b B_b m_b d_b fv ka:=b0
    have P0:=Lib.hid p0;have Q0:=Lib.hid q0;have A0:=Lib.hid a0;have B0:=Lib.hid b0
    obtain ⟨K1,hK1⟩:∃ K,sgnQ fu=K:=⟨_,rfl⟩
    obtain ⟨K2,hK2⟩:∃ K,sgnQ fv=K:=⟨_,rfl⟩
    have HK1:=Lib.hid hK1;have HK2:=Lib.hid hK2
    have hw12:IntKind.i64.wrap (K1*K2)=K1*K2:=by rw [← hK1,← hK2];exact sgn_mul_wrap fu fv
    have hL0:=LT;clear hP1 hP2 hu1 hu2 hix0 hix1 hmn hK1 hK2 hfu hfv p0 q0 a0 b0
    go_upto_region 6 with (fail)
    refine half6_region (by simp) rfl rfl Ep Eq hixa hixb hwr ?_
    intro V w_b gX gY X hgX hv10 Y hgY hv11 hXY hh
    simp only [putAll,Act.put,List.setIfInBounds_toArray,List.set_cons_zero,List.set_cons_succ,hv10,hv11]
    have hXo:∀ g,u7.ownBlock=some g→g ≠ gX:=fun g hg=>by have:=LT.own_lt hg;omega
    have hYo:∀ g,u7.ownBlock=some g→g ≠ gY:=fun g hg=>by have:=LT.own_lt hg;omega
    clear hv10 hv11 Ep Eq hixa hixb hL0;replace LT:=LT.below hh
    replace HQ:=Lib.hid (Each.below HQ.out hh)
    replace hB:=bend hB hh;have p:=PR.below P0.out hB;have a:=QG.below A0.out hB;have q:=PR.below Q0.out hB;have b:=QG.below B0.out hB;have x0:=X.c0;have y0:=Y.c0;have x1:=X.c1;have y1:=Y.c1;have x2:=X.c2;have y2:=Y.c2;have x3:=X.c3;have y3:=Y.c3;have x4:=X.c4;have y4:=Y.c4;have x5:=X.c5;have y5:=Y.c5;have x6:=X.c6;have y6:=Y.c6;have x7:=X.c7;have y7:=Y.c7;have x8:=X.c8;have y8:=Y.c8
    by_cases hx1:0≤fu
    · have hk1:0≤K1:=by rw [← HK1.out];exact (sgn_nn fu).2 hx1
      have HX1:=Lib.hid hx1;clear hx1
      go_upto_region 9 with (first
       | (go_at_call 31;(with_reducible refine (rsign_q a.qr (by omega) (by omega)).mono ?_);rintro e w_z ⟨rfl,hh⟩
          rw [HK1.out];(try replace p:=p.below hh);(try replace a:=a.below hh);(try replace q:=q.below hh);(try replace b:=b.below hh);(try replace LT:=LT.below hh);(try replace X:=X.below hh);(try replace Y:=Y.below hh)
          replace HQ:=Lib.hid (Each.below HQ.out hh)
          replace hB:=bend hB hh;have x0:=X.c0;have y0:=Y.c0;have x1:=X.c1;have y1:=Y.c1;have x2:=X.c2;have y2:=Y.c2;have x3:=X.c3;have y3:=Y.c3;have x4:=X.c4;have y4:=Y.c4;have x5:=X.c5;have y5:=Y.c5;have x6:=X.c6;have y6:=Y.c6;have x7:=X.c7;have y7:=Y.c7;have x8:=X.c8;have y8:=Y.c8)
       | (go_at_call 48;(with_reducible refine (afresh_p p (by omega) h1).mono ?_);rintro e w_r ⟨s_r,A_r,n_r,c_r,B_r,m_r,d_r,t_r,E_r,i_r,e_r,F_r,j_r,f_r,rfl,r,hh⟩
          (try replace p:=p.below hh);(try replace a:=a.below hh);(try replace q:=q.below hh);(try replace b:=b.below hh);(try replace LT:=LT.below hh);(try replace X:=X.below hh);(try replace Y:=Y.below hh)
          replace HQ:=Lib.hid (Each.below HQ.out hh)
          replace hB:=bend hB hh;have x0:=X.c0;have y0:=Y.c0;have x1:=X.c1;have y1:=Y.c1;have x2:=X.c2;have y2:=Y.c2;have x3:=X.c3;have y3:=Y.c3;have x4:=X.c4;have y4:=Y.c4;have x5:=X.c5;have y5:=Y.c5;have x6:=X.c6;have y6:=Y.c6;have x7:=X.c7;have y7:=Y.c7;have x8:=X.c8;have y8:=Y.c8)
       | (at_builtin
          have hal:Below w_r.heap.size w_r (w_r.alloc (Obj.cells #[Value.bool s_r,Value.slice A_r n_r c_r,Value.slice B_r m_r d_r,Value.bool t_r,Value.slice E_r i_r e_r,Value.slice F_r j_r f_r] 29)):=(Below.refl _ _).alloc (Nat.le_refl _) _
          refine wpList_push Tryz.underlying22 info_pt rfl (.tmp 35) (.tmp 39) rfl (p:=(PV.mk s_r A_r n_r c_r B_r m_r d_r t_r E_r i_r e_r F_r j_r f_r)) (k0:=1) (b:=w_r.heap.size) rfl rfl (LT.below hal) (Nat.le_trans hB.size hal.size) (by omega) (heap_alloc_new w_r _) ?_
          intro v_r w3r hnr hgr))
      have hE3:Each PV.PG (w_r.alloc (Obj.cells #[Value.bool s_r,Value.slice A_r n_r c_r,Value.slice B_r m_r d_r,Value.bool t_r,Value.slice E_r i_r e_r,Value.slice F_r j_r f_r] 29)) _ _ (k+(k+k+1+(ka+(ka+ka+1)))+1):=Each.below HQ.out hal
      have hp3:PV.PG (w_r.alloc (Obj.cells #[Value.bool s_r,Value.slice A_r n_r c_r,Value.slice B_r m_r d_r,Value.bool t_r,Value.slice E_r i_r e_r,Value.slice F_r j_r f_r] 29)) (PV.mk s_r A_r n_r c_r B_r m_r d_r t_r E_r i_r e_r F_r j_r f_r) (ux,uy) (k+(k+k+1+(ka+(ka+ka+1)))+1):=PG.more (PG.below r hal) (by omega)
      have hst:=Each.stays hE3 (LT.below hal) hgr
      replace X:=(X.below hal).push hgr hXo
      replace Y:=(Y.below hal).push hgr hYo
      replace hB:=Ln.under (LT.below hal) hgr (bend hB hal) (Nat.le_refl _)
      have HQ2:=Lib.hid (Each.push hE3 hst (hst _ _ hp3))
      clear hE3 hp3 hst r;have HLr:=Lib.hid hnr;replace LT:=hnr;clear hgr hal;replace HQ:=HQ2;clear hXo hYo hnr;replace p:=PR.below P0.out hB;replace a:=QG.below A0.out hB;replace q:=PR.below Q0.out hB;replace b:=QG.below B0.out hB
      have hMr:(M' ++ [(PV.mk s_r A_r n_r c_r B_r m_r d_r t_r E_r i_r e_r F_r j_r f_r)]).length≤1000000:=by have:=HLn.out;have:=HMN.out;rw [List.length_append];show M'.length+1≤_;omega
      replace p:=p.below (Below.refl _ _).drew
      replace a:=a.below (Below.refl _ _).drew
      replace q:=q.below (Below.refl _ _).drew
      replace b:=b.below (Below.refl _ _).drew
      replace LT:=LT.below (Below.refl _ _).drew
      replace X:=X.below (Below.refl _ _).drew
      replace Y:=Y.below (Below.refl _ _).drew
      replace HQ:=Lib.hid (Each.below HQ.out (Below.refl _ _).drew)
      replace hB:=hB.drew
      go_region_held3 (fun w'=>w'.cell? ⟨gX,6,none⟩=some (.bool s_a)∧w'.cell? ⟨gX,7,none⟩=some (.slice A_a n_a c_a)∧w'.cell? ⟨gX,8,none⟩=some (.slice B_a m_a d_a)∧w'.cell? ⟨gY,6,none⟩=some (.bool s_b)∧w'.cell? ⟨gY,7,none⟩=some (.slice A_b n_b c_b)∧w'.cell? ⟨gY,8,none⟩=some (.slice B_b m_b d_b))
       (first | with_reducible exact ⟨X.c6,X.c7,X.c8,Y.c6,Y.c7,Y.c8⟩)
       (first
        | (go_at_call 31;(with_reducible refine (rsign_q a.qr (by omega) (by omega)).mono ?_);rintro e w_z ⟨rfl,hh⟩
           rw [HK1.out];(try replace p:=p.below hh);(try replace a:=a.below hh);(try replace q:=q.below hh);(try replace b:=b.below hh);(try replace LT:=LT.below hh);(try replace X:=X.below hh);(try replace Y:=Y.below hh)
           replace HQ:=Lib.hid (Each.below HQ.out hh)
           replace hB:=bend hB hh)
        | (go_at_call 31;(with_reducible refine (rsign_q b.qr (by omega) (by omega)).mono ?_);rintro e w_z ⟨rfl,hh⟩
           rw [HK2.out];(try replace p:=p.below hh);(try replace a:=a.below hh);(try replace q:=q.below hh);(try replace b:=b.below hh);(try replace LT:=LT.below hh);(try replace X:=X.below hh);(try replace Y:=Y.below hh)
           replace HQ:=Lib.hid (Each.below HQ.out hh)
           replace hB:=bend hB hh))
      have x0:=X.c0;have y0:=Y.c0;have x1:=X.c1;have y1:=Y.c1;have x2:=X.c2;have y2:=Y.c2;have x3:=X.c3;have y3:=Y.c3;have x4:=X.c4;have y4:=Y.c4;have x5:=X.c5;have y5:=Y.c5;have x6:=X.c6;have y6:=Y.c6;have x7:=X.c7;have y7:=Y.c7;have x8:=X.c8;have y8:=Y.c8
      by_cases hx2:fu*fv < 0
      · have hk12:K1*K2 < 0:=by rw [← HK1.out,← HK2.out];exact (sgn_mul_lt fu fv).2 hx2
        have HNE:Hid (fu - fv ≠ 0):=fun e=>by
         have e2:fv=fu:=by grind
         rw [e2] at hx2
         have:=sq_nonneg fu
         grind
        have HX2:=Lib.hid hx2;clear hx2
        go_wp2_with (first
         | (go_at_call 69;(with_reducible refine (between_p p q a.qr b.qr hk6 h1 hka2 (by omega) HNE.out).mono ?_);rintro e w_t ⟨s_t,A_t,n_t,c_t,B_t,m_t,d_t,t_t,E_t,i_t,e_t,F_t,j_t,f_t,rfl,t,hh⟩
            (try replace p:=p.below hh);(try replace a:=a.below hh);(try replace q:=q.below hh);(try replace b:=b.below hh);(try replace LT:=LT.below hh);(try replace X:=X.below hh);(try replace Y:=Y.below hh)
            replace HQ:=Lib.hid (Each.below HQ.out hh)
            replace hB:=bend hB hh)
         | (at_builtin
            have hal:Below w_t.heap.size w_t (w_t.alloc (Obj.cells #[Value.bool s_t,Value.slice A_t n_t c_t,Value.slice B_t m_t d_t,Value.bool t_t,Value.slice E_t i_t e_t,Value.slice F_t j_t f_t] 29)):=(Below.refl _ _).alloc (Nat.le_refl _) _
            refine wpList_push Tryz.underlying22 info_pt rfl (.tmp 49) (.tmp 53) rfl (p:=(PV.mk s_t A_t n_t c_t B_t m_t d_t t_t E_t i_t e_t F_t j_t f_t)) (k0:=1) (b:=w_t.heap.size) rfl rfl (LT.below hal) (Nat.le_trans hB.size hal.size) (by omega) (heap_alloc_new w_t _) ?_
            intro v_t w3t hnt hgt))
        have hE3:Each PV.PG (w_t.alloc (Obj.cells #[Value.bool s_t,Value.slice A_t n_t c_t,Value.slice B_t m_t d_t,Value.bool t_t,Value.slice E_t i_t e_t,Value.slice F_t j_t f_t] 29)) _ _ (k+(k+k+1+(ka+(ka+ka+1)))+1):=Each.below HQ.out hal
        have hp3:PV.PG (w_t.alloc (Obj.cells #[Value.bool s_t,Value.slice A_t n_t c_t,Value.slice B_t m_t d_t,Value.bool t_t,Value.slice E_t i_t e_t,Value.slice F_t j_t f_t] 29)) (PV.mk s_t A_t n_t c_t B_t m_t d_t t_t E_t i_t e_t F_t j_t f_t) (mixP (ux,uy) (vx,vy) (fu / (fu - fv))) (k+(k+k+1+(ka+(ka+ka+1)))+1):=PG.below t hal
        have hst:=Each.stays hE3 (LT.below hal) hgt
        replace hB:=Ln.under (LT.below hal) hgt (bend hB hal) (Nat.le_refl _)
        have HQ3:=Lib.hid (Each.push hE3 hst (hst _ _ hp3))
        clear hE3 hp3 hst t
        go_roundg (gk - 1)
        case measure=>have:=HG.out;have:=HMN.out;omega
        case rel =>
         refine ⟨(M' ++ [(PV.mk s_r A_r n_r c_r B_r m_r d_r t_r E_r i_r e_r F_r j_r f_r)]) ++ [(PV.mk s_t A_t n_t c_t B_t m_t d_t t_t E_t i_t e_t F_t j_t f_t)],m+1,by have:=HG.out;have:=HMN.out;show _=_;omega,by go_num,?_,?_,?_,hB⟩
         · exact hnt
         · have:=HLn.out;show List.length _≤_;(try simp only [List.length_append,List.length_cons,List.length_nil]);omega
         · rw [HS.out,if_pos HX1.out,if_pos HX2.out];exact Lib.hid (by simpa [List.append_assoc] using HQ3.out)
      · have hk12:¬ K1*K2 < 0:=by rw [← HK1.out,← HK2.out];exact fun e=>hx2 ((sgn_mul_lt fu fv).1 e)
        have HX2:=Lib.hid hx2;clear hx2
        go_wp2_with fail
        go_roundg (gk - 1)
        case measure=>have:=HG.out;have:=HMN.out;omega
        case rel =>
         refine ⟨M' ++ [(PV.mk s_r A_r n_r c_r B_r m_r d_r t_r E_r i_r e_r F_r j_r f_r)],m+1,by have:=HG.out;have:=HMN.out;show _=_;omega,by go_num,?_,?_,?_,hB⟩
         · exact LT
         · have:=HLn.out;show List.length _≤_;(try simp only [List.length_append,List.length_cons,List.length_nil]);omega
         · rw [HS.out,if_pos HX1.out,if_neg HX2.out];exact Lib.hid (by simpa using HQ.out)
    · have hk1:¬ 0≤K1:=by rw [← HK1.out];exact fun e=>hx1 ((sgn_nn fu).1 e)
      have HX1:=Lib.hid hx1;clear hx1
      go_upto_region 9 with (first
       | (go_at_call 31;(with_reducible refine (rsign_q a.qr (by omega) (by omega)).mono ?_);rintro e w_z ⟨rfl,hh⟩
          rw [HK1.out];(try replace p:=p.below hh);(try replace a:=a.below hh);(try replace q:=q.below hh);(try replace b:=b.below hh);(try replace LT:=LT.below hh);(try replace X:=X.below hh);(try replace Y:=Y.below hh)
          replace HQ:=Lib.hid (Each.below HQ.out hh)
          replace hB:=bend hB hh;have x0:=X.c0;have y0:=Y.c0;have x1:=X.c1;have y1:=Y.c1;have x2:=X.c2;have y2:=Y.c2;have x3:=X.c3;have y3:=Y.c3;have x4:=X.c4;have y4:=Y.c4;have x5:=X.c5;have y5:=Y.c5;have x6:=X.c6;have y6:=Y.c6;have x7:=X.c7;have y7:=Y.c7;have x8:=X.c8;have y8:=Y.c8))
      replace p:=p.below (Below.refl _ _).drew
      replace a:=a.below (Below.refl _ _).drew
      replace q:=q.below (Below.refl _ _).drew
      replace b:=b.below (Below.refl _ _).drew
      replace LT:=LT.below (Below.refl _ _).drew
      replace X:=X.below (Below.refl _ _).drew
      replace Y:=Y.below (Below.refl _ _).drew
      replace HQ:=Lib.hid (Each.below HQ.out (Below.refl _ _).drew)
      replace hB:=hB.drew
      go_region_held3 (fun w'=>w'.cell? ⟨gX,6,none⟩=some (.bool s_a)∧w'.cell? ⟨gX,7,none⟩=some (.slice A_a n_a c_a)∧w'.cell? ⟨gX,8,none⟩=some (.slice B_a m_a d_a)∧w'.cell? ⟨gY,6,none⟩=some (.bool s_b)∧w'.cell? ⟨gY,7,none⟩=some (.slice A_b n_b c_b)∧w'.cell? ⟨gY,8,none⟩=some (.slice B_b m_b d_b))
       (first | with_reducible exact ⟨X.c6,X.c7,X.c8,Y.c6,Y.c7,Y.c8⟩)
       (first
        | (go_at_call 31;(with_reducible refine (rsign_q a.qr (by omega) (by omega)).mono ?_);rintro e w_z ⟨rfl,hh⟩
           rw [HK1.out];(try replace p:=p.below hh);(try replace a:=a.below hh);(try replace q:=q.below hh);(try replace b:=b.below hh);(try replace LT:=LT.below hh);(try replace X:=X.below hh);(try replace Y:=Y.below hh)
           replace HQ:=Lib.hid (Each.below HQ.out hh)
           replace hB:=bend hB hh)
        | (go_at_call 31;(with_reducible refine (rsign_q b.qr (by omega) (by omega)).mono ?_);rintro e w_z ⟨rfl,hh⟩
           rw [HK2.out];(try replace p:=p.below hh);(try replace a:=a.below hh);(try replace q:=q.below hh);(try replace b:=b.below hh);(try replace LT:=LT.below hh);(try replace X:=X.below hh);(try replace Y:=Y.below hh)
           replace HQ:=Lib.hid (Each.below HQ.out hh)
           replace hB:=bend hB hh))
      have x0:=X.c0;have y0:=Y.c0;have x1:=X.c1;have y1:=Y.c1;have x2:=X.c2;have y2:=Y.c2;have x3:=X.c3;have y3:=Y.c3;have x4:=X.c4;have y4:=Y.c4;have x5:=X.c5;have y5:=Y.c5;have x6:=X.c6;have y6:=Y.c6;have x7:=X.c7;have y7:=Y.c7;have x8:=X.c8;have y8:=Y.c8
      by_cases hx2:fu*fv < 0
      · have hk12:K1*K2 < 0:=by rw [← HK1.out,← HK2.out];exact (sgn_mul_lt fu fv).2 hx2
        have HNE:Hid (fu - fv ≠ 0):=fun e=>by
         have e2:fv=fu:=by grind
         rw [e2] at hx2
         have:=sq_nonneg fu
         grind
        have HX2:=Lib.hid hx2;clear hx2
        go_wp2_with (first
         | (go_at_call 69;(with_reducible refine (between_p p q a.qr b.qr hk6 h1 hka2 (by omega) HNE.out).mono ?_);rintro e w_t ⟨s_t,A_t,n_t,c_t,B_t,m_t,d_t,t_t,E_t,i_t,e_t,F_t,j_t,f_t,rfl,t,hh⟩
            (try replace p:=p.below hh);(try replace a:=a.below hh);(try replace q:=q.below hh);(try replace b:=b.below hh);(try replace LT:=LT.below hh);(try replace X:=X.below hh);(try replace Y:=Y.below hh)
            replace HQ:=Lib.hid (Each.below HQ.out hh)
            replace hB:=bend hB hh)
         | (at_builtin
            have hal:Below w_t.heap.size w_t (w_t.alloc (Obj.cells #[Value.bool s_t,Value.slice A_t n_t c_t,Value.slice B_t m_t d_t,Value.bool t_t,Value.slice E_t i_t e_t,Value.slice F_t j_t f_t] 29)):=(Below.refl _ _).alloc (Nat.le_refl _) _
            refine wpList_push Tryz.underlying22 info_pt rfl (.tmp 49) (.tmp 53) rfl (p:=(PV.mk s_t A_t n_t c_t B_t m_t d_t t_t E_t i_t e_t F_t j_t f_t)) (k0:=1) (b:=w_t.heap.size) rfl rfl (LT.below hal) (Nat.le_trans hB.size hal.size) (by omega) (heap_alloc_new w_t _) ?_
            intro v_t w3t hnt hgt))
        have hE3:Each PV.PG (w_t.alloc (Obj.cells #[Value.bool s_t,Value.slice A_t n_t c_t,Value.slice B_t m_t d_t,Value.bool t_t,Value.slice E_t i_t e_t,Value.slice F_t j_t f_t] 29)) _ _ (k+(k+k+1+(ka+(ka+ka+1)))+1):=Each.below HQ.out hal
        have hp3:PV.PG (w_t.alloc (Obj.cells #[Value.bool s_t,Value.slice A_t n_t c_t,Value.slice B_t m_t d_t,Value.bool t_t,Value.slice E_t i_t e_t,Value.slice F_t j_t f_t] 29)) (PV.mk s_t A_t n_t c_t B_t m_t d_t t_t E_t i_t e_t F_t j_t f_t) (mixP (ux,uy) (vx,vy) (fu / (fu - fv))) (k+(k+k+1+(ka+(ka+ka+1)))+1):=PG.below t hal
        have hst:=Each.stays hE3 (LT.below hal) hgt
        replace hB:=Ln.under (LT.below hal) hgt (bend hB hal) (Nat.le_refl _)
        have HQ2:=Lib.hid (Each.push hE3 hst (hst _ _ hp3))
        clear hE3 hp3 hst t
        go_roundg (gk - 1)
        case measure=>have:=HG.out;have:=HMN.out;omega
        case rel =>
         refine ⟨M' ++ [(PV.mk s_t A_t n_t c_t B_t m_t d_t t_t E_t i_t e_t F_t j_t f_t)],m+1,by have:=HG.out;have:=HMN.out;show _=_;omega,by go_num,?_,?_,?_,hB⟩
         · exact hnt
         · have:=HLn.out;show List.length _≤_;(try simp only [List.length_append,List.length_cons,List.length_nil]);omega
         · rw [HS.out,if_neg HX1.out,if_pos HX2.out];exact Lib.hid (by simpa using HQ2.out)
      · have hk12:¬ K1*K2 < 0:=by rw [← HK1.out,← HK2.out];exact fun e=>hx2 ((sgn_mul_lt fu fv).1 e)
        have HX2:=Lib.hid hx2;clear hx2
        go_wp2_with fail
        go_roundg (gk - 1)
        case measure=>have:=HG.out;have:=HMN.out;omega
        case rel =>
         refine ⟨M',m+1,by have:=HG.out;have:=HMN.out;show _=_;omega,by go_num,?_,?_,?_,hB⟩
         · exact LT
         · have:=HLn.out;show List.length _≤_;(try simp only [List.length_append,List.length_cons,List.length_nil]);omega
         · rw [HS.out,if_neg HX1.out,if_neg HX2.out];exact Lib.hid (by simpa using HQ.out)
  · have hlt:¬ (m:Int) < (n:Int):=by omega
    obtain rfl:m=n:=by have:=HG.out;omega
    clear hmn
    go_wp2_with fail
    (try rw [Exit.noGoto_ret])
    go_ret;have HQ3:=HQ.out
    unfold halfQ
    rw [HNl.out]
    exact ⟨_,M',rfl,LT.base_le hb.size,HQ3,bend hb hB⟩
end
section
open Go Go.RowKit
theorem cmpQ_lt {x y:Rat}:cmpQ x y < 0 ↔ x < y:=by
 unfold cmpQ
 by_cases h:x < y
 · rw [if_pos h];exact ⟨fun _=>h,fun _=>by decide⟩
 · rw [if_neg h]
   refine ⟨fun e=>?_,fun e=>absurd e h⟩
   exfalso
   split at e <;> exact absurd e (by decide)
theorem cmpQ_gt {x y:Rat}:0 < cmpQ x y ↔ y < x:=by
 rw [cmpQ_swap y x]
 constructor
 · intro h;exact cmpQ_lt.1 (by omega)
 · intro h;have:=cmpQ_lt.2 h;omega
theorem byX_p {k:Nat} {px py qx qy:Rat} (p:PR w s_p A_p n_p c_p B_p m_p d_p t_p E_p i_p e_p F_p j_p f_p px py k) (q:PR w s_q A_q n_q c_q B_q m_q d_q t_q E_q i_q e_q F_q j_q f_q qx qy k) (hk:k≤400) (h1:1≤k) (K:Int) (hK:cmpQ px qx=K) :
 Calls Tryz.prog 45 #[.agg #[.bool s_p,.slice A_p n_p c_p,.slice B_p m_p d_p,.bool t_p,.slice E_p i_p e_p,.slice F_p j_p f_p],.agg #[.bool s_q,.slice A_q n_q c_q,.slice B_q m_q d_q,.bool t_q,.slice E_q i_q e_q,.slice F_q j_q f_q]] w fun e w'=>e=.returned (.int .i64 K)∧Below w.heap.size w w':=by
 have HK:=Lib.hid hK;clear hK
 go_enter Tryz.func45,Tryz.ntmps45
 go_upto_region 1 with (fail)
 generalize hW:World.alloc _ _=W
 obtain ⟨hb,XA,XB,hzW⟩:=mkbx21_10 hW;clear hW;replace p:=p.below hb;replace q:=q.below hb;obtain ⟨xa0,xa1,xa2,xa3,xa4,xa5⟩:=XA.all;obtain ⟨xb0,xb1,xb2,xb3,xb4,xb5⟩:=XB.all
 go_wp2_with (first
  | (go_at_call 29;(with_reducible refine (rcmp_q p.qx q.qx hk hk (.inl hk) h1 h1).mono ?_);rintro e w_z ⟨rfl,hh⟩
     rw [HK.out];replace hb:=bend hb hh))
 (try rw [Exit.noGoto_ret])
 go_ret;exact ⟨rfl,hb⟩
theorem byY_p {k:Nat} {px py qx qy:Rat} (p:PR w s_p A_p n_p c_p B_p m_p d_p t_p E_p i_p e_p F_p j_p f_p px py k) (q:PR w s_q A_q n_q c_q B_q m_q d_q t_q E_q i_q e_q F_q j_q f_q qx qy k) (hk:k≤400) (h1:1≤k) (K:Int) (hK:cmpQ py qy=K) :
 Calls Tryz.prog 46 #[.agg #[.bool s_p,.slice A_p n_p c_p,.slice B_p m_p d_p,.bool t_p,.slice E_p i_p e_p,.slice F_p j_p f_p],.agg #[.bool s_q,.slice A_q n_q c_q,.slice B_q m_q d_q,.bool t_q,.slice E_q i_q e_q,.slice F_q j_q f_q]] w fun e w'=>e=.returned (.int .i64 K)∧Below w.heap.size w w':=by
 have HK:=Lib.hid hK;clear hK
 go_enter Tryz.func46,Tryz.ntmps46
 go_upto_region 1 with (fail)
 generalize hW:World.alloc _ _=W
 obtain ⟨hb,XA,XB,hzW⟩:=mkbx21_10 hW;clear hW;replace p:=p.below hb;replace q:=q.below hb;obtain ⟨xa0,xa1,xa2,xa3,xa4,xa5⟩:=XA.all;obtain ⟨xb0,xb1,xb2,xb3,xb4,xb5⟩:=XB.all
 go_wp2_with (first
  | (go_at_call 29;(with_reducible refine (rcmp_q p.qy q.qy hk hk (.inl hk) h1 h1).mono ?_);rintro e w_z ⟨rfl,hh⟩
     rw [HK.out];replace hb:=bend hb hh))
 (try rw [Exit.noGoto_ret])
 go_ret;exact ⟨rfl,hb⟩
def Gives_min_byX (w:World) (L:List PV) (l:List (Rat × Rat)) (e:Ending) (w':World):Prop:=∃ (j:Nat) (p:PV) (v:Rat × Rat),L[j]?=some p∧l[j]?=some v∧(∀ (i:Nat) (u:Rat × Rat),l[i]?=some u→v.1≤u.1)∧e=.returned (.agg #[.bool p.s,.slice p.A p.n p.c,.slice p.B p.m p.d,.bool p.t,.slice p.E p.i p.e,.slice p.F p.j p.f])∧Below w.heap.size w w'
theorem min_byX {A:Option Addr} {n c k:Nat} {L:List PV} {l:List (Rat × Rat)} (hL:SV w A (pvs L)) (hE:Each PV.PR w L l k) (hn:L.length=n) (h0:0 < n) (hm:n≤1000) (hnc:n≤c) (h1:1≤k) (hk:k≤400) :
 Calls Tryz.prog 44 #[.slice A n c,.func (.func 45) #[] #[]] w (Gives_min_byX w L l):=by
 have HN:=Lib.hid hn;have HL0:=Lib.hid hL;have E0:=Lib.hid hE;have H0:=Lib.hid h0
 obtain ⟨P,u,hP1,hu1,p⟩:=hE.at_ (i:=0) (by rw [hn];exact h0)
 obtain ⟨g0,o0,hix0,E,_⟩:=hL.pt hP1
 have hixa:∀ w',(Instr.indexAt 22 (.slice A n c) (.int .i64 0)).run Tryz.prog w'=.ok (.pointer (some ⟨g0,o0,none⟩)) w':=fun w'=>hix0 n c w' h0
 have h4:¬ (n:Int) < 1:=by omega
 have HP0:=Lib.hid hP1;have HU0:=Lib.hid hu1
 obtain ⟨s_p,A_p,n_p,c_p,B_p,m_p,d_p,t_p,E_p,i_p,e_p,F_p,j_p,f_p⟩:=P
 clear hix0 hP1 hu1 p hL hE
 go_enter Tryz.func44,Tryz.ntmps44
 go_upto_region 1 with (fail)
 generalize hW:World.alloc _ _=W
 obtain ⟨hb,Z,hzW⟩:=mkbx15_9 hW;clear hW;replace E:=E.below hb;obtain ⟨e0,e1,e2,e3,e4,e5⟩:=E.all
 simp only at e0 e1 e2 e3 e4 e5
 go_upto_region 4 with (fail)
 generalize hW:World.alloc _ _=W2
 obtain ⟨hh,X,hzW2⟩:=mkbx15_9 hW;clear hW;(try replace Z:=Z.below hh);replace hb:=bend hb hh;clear E e0 e1 e2 e3 e4 e5 hixa;rw [hzW] at X
 have hgZ:w.heap.size < w.heap.size+1:=by omega
 have hgZ2:w.heap.size+1≤W.heap.size:=by omega
 clear hzW hzW2
 generalize w.heap.size+1=gM at X hgZ hgZ2 ⊢
 go_wp2_with fail
 go_loopg [6] n (fun gk ix wr=>∃ (m j:Nat) (P:PV),Hid (gk+m=n+1∧m≤n)∧ix=.int .i64 (m:Int)∧Hid (1≤m)∧Hid (j < m)∧Hid (L[j]?=some P)∧B6 wr gM (.bool P.s) (.slice P.A P.n P.c) (.slice P.B P.m P.d) (.bool P.t) (.slice P.E P.i P.e) (.slice P.F P.j P.f)∧Hid (∀ i,i < m→∀ u v:Rat × Rat,l[i]?=some u→l[j]?=some v→v.1≤u.1)∧B6 wr w.heap.size (.bool false) (.slice none 0 0) (.slice none 0 0) (.bool false) (.slice none 0 0) (.slice none 0 0)∧Below w.heap.size w wr)
 case atStart =>
  refine ⟨1,0,(PV.mk s_p A_p n_p c_p B_p m_p d_p t_p E_p i_p e_p F_p j_p f_p),by have:=H0.out;exact ⟨by omega,by omega⟩,rfl,by show _≤_;decide,by show _ < _;decide,HP0.out,X,fun i hi u v h5 h6=>?_,Z,hb⟩
  obtain rfl:i=0:=by omega
  rw [h5] at h6;cases h6;exact Rat.le_refl
 case round =>
  clear X Z HP0 HU0
  obtain ⟨m,j,P,HG,rfl,HM1,HJ,HPj,X,HS,Z,hb⟩:=hrel
  obtain ⟨s_q,A_q,n_q,c_q,B_q,m_q,d_q,t_q,E_q,i_q,e_q,F_q,j_q,f_q⟩:=P
  replace X:B6 wr gM (.bool s_q) (.slice A_q n_q c_q) (.slice B_q m_q d_q) (.bool t_q) (.slice E_q i_q e_q) (.slice F_q j_q f_q):=X
  by_cases hmn:m < n
  · have HMN:=Lib.hid hmn
    obtain ⟨P,u,hP1,hu1,p⟩:=(E0.out.imp (fun p u h=>PR.below h hb)).at_ (i:=m) (by rw [HN.out];exact hmn)
    obtain ⟨Pj,v,hPj,hvj,q⟩:=(E0.out.imp (fun p u h=>PR.below h hb)).at_ (i:=j) (by have:=HJ.out;rw [HN.out];omega)
    rw [HPj.out] at hPj
    cases hPj
    obtain ⟨g1,o1,hix0,E,_⟩:=(HL0.out.below hb).pt hP1
    have hixa:∀ w',(Instr.indexAt 22 (.slice A n c) (.int .i64 (m:Int))).run Tryz.prog w'=.ok (.pointer (some ⟨g1,o1,none⟩)) w':=fun w'=>hix0 n c w' hmn
    have hlt:(m:Int) < (n:Int):=by omega
    have hwr:IntKind.i64.wrap ((m:Int)+1)=(m:Int)+1:=IntWalk.i64_in _ (by omega)
    have hg1:g1 ≠ gM:=fun e=>by
     obtain ⟨g2,o2,e2,h3,_⟩:=HL0.out (by rw [show (pvs L).length=L.length*6 from rows_length pvc_len L,HN.out];omega)
     have h5:=hix0 n c wr hmn;rw [e2] at h5
     have h6:=(SV.pt HL0.out hP1)
     obtain ⟨g3,o3,h7,h8,o4,h9⟩:=h6
     have h10:=h7 n c wr hmn;rw [e2] at h10;rw [h5] at h10
     cases h10
     have:=h8.lt
     omega
    have HU:=Lib.hid hu1;have HV:=Lib.hid hvj;have HPm:=Lib.hid hP1
    obtain ⟨ux,uy⟩:=u
    obtain ⟨vx,vy⟩:=v
    obtain ⟨s_p,A_p,n_p,c_p,B_p,m_p,d_p,t_p,E_p,i_p,e_p,F_p,j_p,f_p⟩:=P
    replace p:PR wr s_p A_p n_p c_p B_p m_p d_p t_p E_p i_p e_p F_p j_p f_p ux uy k:=p
    replace q:PR wr s_q A_q n_q c_q B_q m_q d_q t_q E_q i_q e_q F_q j_q f_q vx vy k:=q
    obtain ⟨K,hK⟩:∃ K,cmpQ ux vx=K:=⟨_,rfl⟩
    have HK:=Lib.hid hK;obtain ⟨e0,e1,e2,e3,e4,e5⟩:=E.all
    simp only at e0 e1 e2 e3 e4 e5
    clear hP1 hu1 hvj hix0 hmn hK
    go_upto_region 7 with (fail)
    replace p:=p.below (Below.refl _ _).drew
    replace q:=q.below (Below.refl _ _).drew
    replace E:=E.below (Below.refl _ _).drew
    replace X:=X.below (Below.refl _ _).drew
    replace Z:=Z.below (Below.refl _ _).drew
    replace hb:=hb.drew
    go_region_held3 (fun w'=>w'.cell? ⟨gM,0,none⟩=some (.bool s_q)∧w'.cell? ⟨gM,1,none⟩=some (.slice A_q n_q c_q)∧w'.cell? ⟨gM,2,none⟩=some (.slice B_q m_q d_q)∧w'.cell? ⟨gM,3,none⟩=some (.bool t_q)∧w'.cell? ⟨gM,4,none⟩=some (.slice E_q i_q e_q)∧w'.cell? ⟨gM,5,none⟩=some (.slice F_q j_q f_q)∧w'.cell? ⟨g1,o1,none⟩=some (.bool s_p)∧w'.cell? ⟨g1,o1+1,none⟩=some (.slice A_p n_p c_p)∧w'.cell? ⟨g1,o1+2,none⟩=some (.slice B_p m_p d_p)∧w'.cell? ⟨g1,o1+3,none⟩=some (.bool t_p)∧w'.cell? ⟨g1,o1+4,none⟩=some (.slice E_p i_p e_p)∧w'.cell? ⟨g1,o1+5,none⟩=some (.slice F_p j_p f_p))
     (first | with_reducible exact ⟨X.c0,X.c1,X.c2,X.c3,X.c4,X.c5,E.c0,E.c1,E.c2,E.c3,E.c4,E.c5⟩)
     (first
     | (go_at_call 45;(with_reducible refine (byX_p p q hk h1 K HK.out).mono ?_);rintro e w_z ⟨rfl,hh⟩
        (try replace p:=p.below hh);(try replace q:=q.below hh);(try replace E:=E.below hh);(try replace X:=X.below hh);(try replace Z:=Z.below hh);replace hb:=bend hb hh;obtain ⟨x0,x1,x2,x3,x4,x5⟩:=X.all;have xf0:=X.f0;have xf1:=X.f1;have xf2:=X.f2;have xf3:=X.f3;have xf4:=X.f4;have xf5:=X.f5;obtain ⟨e0,e1,e2,e3,e4,e5⟩:=E.all
        simp only at e0 e1 e2 e3 e4 e5))
    by_cases hK2:K < 0
    · have hlt2:ux < vx:=by rw [← HK.out] at hK2;exact cmpQ_lt.1 hK2
      have HLT:=Lib.hid hlt2;clear hlt2
      go_wp2_with fail
      have ho:=only6 w_z gM (.bool s_p) (.slice A_p n_p c_p) (.slice B_p m_p d_p) (.bool t_p) (.slice E_p i_p e_p) (.slice F_p j_p f_p)
      have X2:=X.set6 (.bool s_p) (.slice A_p n_p c_p) (.slice B_p m_p d_p) (.bool t_p) (.slice E_p i_p e_p) (.slice F_p j_p f_p)
      replace Z:=(ho.block _ Z.lt (by omega)).trans Z
      replace hb:=Below.only hb (by omega) hb.size ho
      clear X ho p q E x0 xf0 x1 xf1 x2 xf2 x3 xf3 x4 xf4 x5 xf5 e0 e1 e2 e3 e4 e5
      generalize ((((((w_z.setCell ⟨gM,0,none⟩ (.bool s_p)).setCell ⟨gM,1,none⟩ (.slice A_p n_p c_p)).setCell ⟨gM,2,none⟩ (.slice B_p m_p d_p)).setCell ⟨gM,3,none⟩ (.bool t_p)).setCell ⟨gM,4,none⟩ (.slice E_p i_p e_p)).setCell ⟨gM,5,none⟩ (.slice F_p j_p f_p))=W3 at *
      go_roundg (gk - 1)
      case measure=>have:=HG.out;have:=HMN.out;omega
      case rel =>
       refine ⟨m+1,m,(PV.mk s_p A_p n_p c_p B_p m_p d_p t_p E_p i_p e_p F_p j_p f_p),by have:=HG.out;have:=HMN.out;exact ⟨by omega,by omega⟩,by go_num,by show _≤_;omega,by show _ < _;omega,HPm.out,X2,fun i hi u v h5 h6=>?_,Z,hb⟩
       rw [HU.out] at h6
       cases h6
       rcases Nat.lt_or_ge i m with h | h
       · have:=HS.out i h u _ h5 HV.out
         have:=HLT.out
         grind
       · obtain rfl:i=m:=by omega
         rw [HU.out] at h5;cases h5;exact Rat.le_refl
    · have hlt2:vx≤ux:=by rw [← HK.out] at hK2;exact Rat.not_lt.1 (fun e=>hK2 (cmpQ_lt.2 e))
      have HLT:=Lib.hid hlt2;clear hlt2
      go_wp2_with fail
      go_roundg (gk - 1)
      case measure=>have:=HG.out;have:=HMN.out;omega
      case rel =>
       refine ⟨m+1,j,(PV.mk s_q A_q n_q c_q B_q m_q d_q t_q E_q i_q e_q F_q j_q f_q),by have:=HG.out;have:=HMN.out;exact ⟨by omega,by omega⟩,by go_num,by show _≤_;omega,by have:=HJ.out;show _ < _;omega,HPj.out,X,fun i hi u v h5 h6=>?_,Z,hb⟩
       rcases Nat.lt_or_ge i m with h | h
       · exact HS.out i h u v h5 h6
       · obtain rfl:i=m:=by omega
         rw [HU.out] at h5;rw [HV.out] at h6;cases h5;cases h6;exact HLT.out
  · have hlt:¬ (m:Int) < (n:Int):=by omega
    obtain rfl:m=n:=by have:=HG.out;omega
    obtain ⟨Pj,v,hPj,hvj,_⟩:=E0.out.at_ (i:=j) (by have:=HJ.out;rw [HN.out];omega)
    have HV:=Lib.hid hvj;clear hmn hPj hvj;obtain ⟨x0,x1,x2,x3,x4,x5⟩:=X.all;have zg0:=Z.f0;have zc0:=Z.c0;have zg1:=Z.f1;have zc1:=Z.c1;have zg2:=Z.f2;have zc2:=Z.c2;have zg3:=Z.f3;have zc3:=Z.c3;have zg4:=Z.f4;have zc4:=Z.c4;have zg5:=Z.f5;have zc5:=Z.c5
    go_wp2_with fail
    have Z2:=Z.set6 (.bool s_q) (.slice A_q n_q c_q) (.slice B_q m_q d_q) (.bool t_q) (.slice E_q i_q e_q) (.slice F_q j_q f_q)
    obtain ⟨g0,g1,g2,g3,g4,g5⟩:=Z2.all
    refine bodyPost_ret (v:=.agg #[.bool s_q,.slice A_q n_q c_q,.slice B_q m_q d_q,.bool t_q,.slice E_q i_q e_q,.slice F_q j_q f_q]) (by simp [results,Tryz.results44,go_sem,g0,g1,g2,g3,g4,g5]) rfl ?_
    refine ⟨j,(PV.mk s_q A_q n_q c_q B_q m_q d_q t_q E_q i_q e_q F_q j_q f_q),v,HPj.out,HV.out,fun i u h5=>HS.out i ?_ u v h5 HV.out,rfl,below_set6 hb (Nat.le_refl _) _ _ _ _ _ _⟩
    have h7:=(List.getElem?_eq_some_iff.1 h5).1
    rw [← E0.out.1,HN.out] at h7
    exact h7
def Gives_min_byY (w:World) (L:List PV) (l:List (Rat × Rat)) (e:Ending) (w':World):Prop:=∃ (j:Nat) (p:PV) (v:Rat × Rat),L[j]?=some p∧l[j]?=some v∧(∀ (i:Nat) (u:Rat × Rat),l[i]?=some u→v.2≤u.2)∧e=.returned (.agg #[.bool p.s,.slice p.A p.n p.c,.slice p.B p.m p.d,.bool p.t,.slice p.E p.i p.e,.slice p.F p.j p.f])∧Below w.heap.size w w'
theorem min_byY {A:Option Addr} {n c k:Nat} {L:List PV} {l:List (Rat × Rat)} (hL:SV w A (pvs L)) (hE:Each PV.PR w L l k) (hn:L.length=n) (h0:0 < n) (hm:n≤1000) (hnc:n≤c) (h1:1≤k) (hk:k≤400) :
 Calls Tryz.prog 44 #[.slice A n c,.func (.func 46) #[] #[]] w (Gives_min_byY w L l):=by
 have HN:=Lib.hid hn;have HL0:=Lib.hid hL;have E0:=Lib.hid hE;have H0:=Lib.hid h0
 obtain ⟨P,u,hP1,hu1,p⟩:=hE.at_ (i:=0) (by rw [hn];exact h0)
 obtain ⟨g0,o0,hix0,E,_⟩:=hL.pt hP1
 have hixa:∀ w',(Instr.indexAt 22 (.slice A n c) (.int .i64 0)).run Tryz.prog w'=.ok (.pointer (some ⟨g0,o0,none⟩)) w':=fun w'=>hix0 n c w' h0
 have h4:¬ (n:Int) < 1:=by omega
 have HP0:=Lib.hid hP1;have HU0:=Lib.hid hu1
 obtain ⟨s_p,A_p,n_p,c_p,B_p,m_p,d_p,t_p,E_p,i_p,e_p,F_p,j_p,f_p⟩:=P
 clear hix0 hP1 hu1 p hL hE
 go_enter Tryz.func44,Tryz.ntmps44
 go_upto_region 1 with (fail)
 generalize hW:World.alloc _ _=W
 obtain ⟨hb,Z,hzW⟩:=mkbx15_9 hW;clear hW;replace E:=E.below hb;obtain ⟨e0,e1,e2,e3,e4,e5⟩:=E.all
 simp only at e0 e1 e2 e3 e4 e5
 go_upto_region 4 with (fail)
 generalize hW:World.alloc _ _=W2
 obtain ⟨hh,X,hzW2⟩:=mkbx15_9 hW;clear hW;(try replace Z:=Z.below hh);replace hb:=bend hb hh;clear E e0 e1 e2 e3 e4 e5 hixa;rw [hzW] at X
 have hgZ:w.heap.size < w.heap.size+1:=by omega
 have hgZ2:w.heap.size+1≤W.heap.size:=by omega
 clear hzW hzW2
 generalize w.heap.size+1=gM at X hgZ hgZ2 ⊢
 go_wp2_with fail
 go_loopg [6] n (fun gk ix wr=>∃ (m j:Nat) (P:PV),Hid (gk+m=n+1∧m≤n)∧ix=.int .i64 (m:Int)∧Hid (1≤m)∧Hid (j < m)∧Hid (L[j]?=some P)∧B6 wr gM (.bool P.s) (.slice P.A P.n P.c) (.slice P.B P.m P.d) (.bool P.t) (.slice P.E P.i P.e) (.slice P.F P.j P.f)∧Hid (∀ i,i < m→∀ u v:Rat × Rat,l[i]?=some u→l[j]?=some v→v.2≤u.2)∧B6 wr w.heap.size (.bool false) (.slice none 0 0) (.slice none 0 0) (.bool false) (.slice none 0 0) (.slice none 0 0)∧Below w.heap.size w wr)
 case atStart =>
  refine ⟨1,0,(PV.mk s_p A_p n_p c_p B_p m_p d_p t_p E_p i_p e_p F_p j_p f_p),by have:=H0.out;exact ⟨by omega,by omega⟩,rfl,by show _≤_;decide,by show _ < _;decide,HP0.out,X,fun i hi u v h5 h6=>?_,Z,hb⟩
  obtain rfl:i=0:=by omega
  rw [h5] at h6;cases h6;exact Rat.le_refl
 case round =>
  clear X Z HP0 HU0
  obtain ⟨m,j,P,HG,rfl,HM1,HJ,HPj,X,HS,Z,hb⟩:=hrel
  obtain ⟨s_q,A_q,n_q,c_q,B_q,m_q,d_q,t_q,E_q,i_q,e_q,F_q,j_q,f_q⟩:=P
  replace X:B6 wr gM (.bool s_q) (.slice A_q n_q c_q) (.slice B_q m_q d_q) (.bool t_q) (.slice E_q i_q e_q) (.slice F_q j_q f_q):=X
  by_cases hmn:m < n
  · have HMN:=Lib.hid hmn
    obtain ⟨P,u,hP1,hu1,p⟩:=(E0.out.imp (fun p u h=>PR.below h hb)).at_ (i:=m) (by rw [HN.out];exact hmn)
    obtain ⟨Pj,v,hPj,hvj,q⟩:=(E0.out.imp (fun p u h=>PR.below h hb)).at_ (i:=j) (by have:=HJ.out;rw [HN.out];omega)
    rw [HPj.out] at hPj
    cases hPj
    obtain ⟨g1,o1,hix0,E,_⟩:=(HL0.out.below hb).pt hP1
    have hixa:∀ w',(Instr.indexAt 22 (.slice A n c) (.int .i64 (m:Int))).run Tryz.prog w'=.ok (.pointer (some ⟨g1,o1,none⟩)) w':=fun w'=>hix0 n c w' hmn
    have hlt:(m:Int) < (n:Int):=by omega
    have hwr:IntKind.i64.wrap ((m:Int)+1)=(m:Int)+1:=IntWalk.i64_in _ (by omega)
    have hg1:g1 ≠ gM:=fun e=>by
     obtain ⟨g2,o2,e2,h3,_⟩:=HL0.out (by rw [show (pvs L).length=L.length*6 from rows_length pvc_len L,HN.out];omega)
     have h5:=hix0 n c wr hmn;rw [e2] at h5
     have h6:=(SV.pt HL0.out hP1)
     obtain ⟨g3,o3,h7,h8,o4,h9⟩:=h6
     have h10:=h7 n c wr hmn;rw [e2] at h10;rw [h5] at h10
     cases h10
     have:=h8.lt
     omega
    have HU:=Lib.hid hu1;have HV:=Lib.hid hvj;have HPm:=Lib.hid hP1
    obtain ⟨ux,uy⟩:=u
    obtain ⟨vx,vy⟩:=v
    obtain ⟨s_p,A_p,n_p,c_p,B_p,m_p,d_p,t_p,E_p,i_p,e_p,F_p,j_p,f_p⟩:=P
    replace p:PR wr s_p A_p n_p c_p B_p m_p d_p t_p E_p i_p e_p F_p j_p f_p ux uy k:=p
    replace q:PR wr s_q A_q n_q c_q B_q m_q d_q t_q E_q i_q e_q F_q j_q f_q vx vy k:=q
    obtain ⟨K,hK⟩:∃ K,cmpQ uy vy=K:=⟨_,rfl⟩
    have HK:=Lib.hid hK;obtain ⟨e0,e1,e2,e3,e4,e5⟩:=E.all
    simp only at e0 e1 e2 e3 e4 e5
    clear hP1 hu1 hvj hix0 hmn hK
    go_upto_region 7 with (fail)
    replace p:=p.below (Below.refl _ _).drew
    replace q:=q.below (Below.refl _ _).drew
    replace E:=E.below (Below.refl _ _).drew
    replace X:=X.below (Below.refl _ _).drew
    replace Z:=Z.below (Below.refl _ _).drew
    replace hb:=hb.drew
    go_region_held3 (fun w'=>w'.cell? ⟨gM,0,none⟩=some (.bool s_q)∧w'.cell? ⟨gM,1,none⟩=some (.slice A_q n_q c_q)∧w'.cell? ⟨gM,2,none⟩=some (.slice B_q m_q d_q)∧w'.cell? ⟨gM,3,none⟩=some (.bool t_q)∧w'.cell? ⟨gM,4,none⟩=some (.slice E_q i_q e_q)∧w'.cell? ⟨gM,5,none⟩=some (.slice F_q j_q f_q)∧w'.cell? ⟨g1,o1,none⟩=some (.bool s_p)∧w'.cell? ⟨g1,o1+1,none⟩=some (.slice A_p n_p c_p)∧w'.cell? ⟨g1,o1+2,none⟩=some (.slice B_p m_p d_p)∧w'.cell? ⟨g1,o1+3,none⟩=some (.bool t_p)∧w'.cell? ⟨g1,o1+4,none⟩=some (.slice E_p i_p e_p)∧w'.cell? ⟨g1,o1+5,none⟩=some (.slice F_p j_p f_p))
     (first | with_reducible exact ⟨X.c0,X.c1,X.c2,X.c3,X.c4,X.c5,E.c0,E.c1,E.c2,E.c3,E.c4,E.c5⟩)
     (first
     | (go_at_call 46;(with_reducible refine (byY_p p q hk h1 K HK.out).mono ?_);rintro e w_z ⟨rfl,hh⟩
        (try replace p:=p.below hh);(try replace q:=q.below hh);(try replace E:=E.below hh);(try replace X:=X.below hh);(try replace Z:=Z.below hh);replace hb:=bend hb hh;obtain ⟨x0,x1,x2,x3,x4,x5⟩:=X.all;have xf0:=X.f0;have xf1:=X.f1;have xf2:=X.f2;have xf3:=X.f3;have xf4:=X.f4;have xf5:=X.f5;obtain ⟨e0,e1,e2,e3,e4,e5⟩:=E.all
        simp only at e0 e1 e2 e3 e4 e5))
    by_cases hK2:K < 0
    · have hlt2:uy < vy:=by rw [← HK.out] at hK2;exact cmpQ_lt.1 hK2
      have HLT:=Lib.hid hlt2;clear hlt2
      go_wp2_with fail
      have ho:=only6 w_z gM (.bool s_p) (.slice A_p n_p c_p) (.slice B_p m_p d_p) (.bool t_p) (.slice E_p i_p e_p) (.slice F_p j_p f_p)
      have X2:=X.set6 (.bool s_p) (.slice A_p n_p c_p) (.slice B_p m_p d_p) (.bool t_p) (.slice E_p i_p e_p) (.slice F_p j_p f_p)
      replace Z:=(ho.block _ Z.lt (by omega)).trans Z
      replace hb:=Below.only hb (by omega) hb.size ho
      clear X ho p q E x0 xf0 x1 xf1 x2 xf2 x3 xf3 x4 xf4 x5 xf5 e0 e1 e2 e3 e4 e5
      generalize ((((((w_z.setCell ⟨gM,0,none⟩ (.bool s_p)).setCell ⟨gM,1,none⟩ (.slice A_p n_p c_p)).setCell ⟨gM,2,none⟩ (.slice B_p m_p d_p)).setCell ⟨gM,3,none⟩ (.bool t_p)).setCell ⟨gM,4,none⟩ (.slice E_p i_p e_p)).setCell ⟨gM,5,none⟩ (.slice F_p j_p f_p))=W3 at *
      go_roundg (gk - 1)
      case measure=>have:=HG.out;have:=HMN.out;omega
      case rel =>
       refine ⟨m+1,m,(PV.mk s_p A_p n_p c_p B_p m_p d_p t_p E_p i_p e_p F_p j_p f_p),by have:=HG.out;have:=HMN.out;exact ⟨by omega,by omega⟩,by go_num,by show _≤_;omega,by show _ < _;omega,HPm.out,X2,fun i hi u v h5 h6=>?_,Z,hb⟩
       rw [HU.out] at h6
       cases h6
       rcases Nat.lt_or_ge i m with h | h
       · have:=HS.out i h u _ h5 HV.out
         have:=HLT.out
         grind
       · obtain rfl:i=m:=by omega
         rw [HU.out] at h5;cases h5;exact Rat.le_refl
    · have hlt2:vy≤uy:=by rw [← HK.out] at hK2;exact Rat.not_lt.1 (fun e=>hK2 (cmpQ_lt.2 e))
      have HLT:=Lib.hid hlt2;clear hlt2
      go_wp2_with fail
      go_roundg (gk - 1)
      case measure=>have:=HG.out;have:=HMN.out;omega
      case rel =>
       refine ⟨m+1,j,(PV.mk s_q A_q n_q c_q B_q m_q d_q t_q E_q i_q e_q F_q j_q f_q),by have:=HG.out;have:=HMN.out;exact ⟨by omega,by omega⟩,by go_num,by show _≤_;omega,by have:=HJ.out;show _ < _;omega,HPj.out,X,fun i hi u v h5 h6=>?_,Z,hb⟩
       rcases Nat.lt_or_ge i m with h | h
       · exact HS.out i h u v h5 h6
       · obtain rfl:i=m:=by omega
         rw [HU.out] at h5;rw [HV.out] at h6;cases h5;cases h6;exact HLT.out
  · have hlt:¬ (m:Int) < (n:Int):=by omega
    obtain rfl:m=n:=by have:=HG.out;omega
    obtain ⟨Pj,v,hPj,hvj,_⟩:=E0.out.at_ (i:=j) (by have:=HJ.out;rw [HN.out];omega)
    have HV:=Lib.hid hvj;clear hmn hPj hvj;obtain ⟨x0,x1,x2,x3,x4,x5⟩:=X.all;have zg0:=Z.f0;have zc0:=Z.c0;have zg1:=Z.f1;have zc1:=Z.c1;have zg2:=Z.f2;have zc2:=Z.c2;have zg3:=Z.f3;have zc3:=Z.c3;have zg4:=Z.f4;have zc4:=Z.c4;have zg5:=Z.f5;have zc5:=Z.c5
    go_wp2_with fail
    have Z2:=Z.set6 (.bool s_q) (.slice A_q n_q c_q) (.slice B_q m_q d_q) (.bool t_q) (.slice E_q i_q e_q) (.slice F_q j_q f_q)
    obtain ⟨g0,g1,g2,g3,g4,g5⟩:=Z2.all
    refine bodyPost_ret (v:=.agg #[.bool s_q,.slice A_q n_q c_q,.slice B_q m_q d_q,.bool t_q,.slice E_q i_q e_q,.slice F_q j_q f_q]) (by simp [results,Tryz.results44,go_sem,g0,g1,g2,g3,g4,g5]) rfl ?_
    refine ⟨j,(PV.mk s_q A_q n_q c_q B_q m_q d_q t_q E_q i_q e_q F_q j_q f_q),v,HPj.out,HV.out,fun i u h5=>HS.out i ?_ u v h5 HV.out,rfl,below_set6 hb (Nat.le_refl _) _ _ _ _ _ _⟩
    have h7:=(List.getElem?_eq_some_iff.1 h5).1
    rw [← E0.out.1,HN.out] at h7
    exact h7
def Gives_max_byX (w:World) (L:List PV) (l:List (Rat × Rat)) (e:Ending) (w':World):Prop:=∃ (j:Nat) (p:PV) (v:Rat × Rat),L[j]?=some p∧l[j]?=some v∧(∀ (i:Nat) (u:Rat × Rat),l[i]?=some u→u.1≤v.1)∧e=.returned (.agg #[.bool p.s,.slice p.A p.n p.c,.slice p.B p.m p.d,.bool p.t,.slice p.E p.i p.e,.slice p.F p.j p.f])∧Below w.heap.size w w'
theorem max_byX {A:Option Addr} {n c k:Nat} {L:List PV} {l:List (Rat × Rat)} (hL:SV w A (pvs L)) (hE:Each PV.PR w L l k) (hn:L.length=n) (h0:0 < n) (hm:n≤1000) (hnc:n≤c) (h1:1≤k) (hk:k≤400) :
 Calls Tryz.prog 47 #[.slice A n c,.func (.func 45) #[] #[]] w (Gives_max_byX w L l):=by
 have HN:=Lib.hid hn;have HL0:=Lib.hid hL;have E0:=Lib.hid hE;have H0:=Lib.hid h0
 obtain ⟨P,u,hP1,hu1,p⟩:=hE.at_ (i:=0) (by rw [hn];exact h0)
 obtain ⟨g0,o0,hix0,E,_⟩:=hL.pt hP1
 have hixa:∀ w',(Instr.indexAt 22 (.slice A n c) (.int .i64 0)).run Tryz.prog w'=.ok (.pointer (some ⟨g0,o0,none⟩)) w':=fun w'=>hix0 n c w' h0
 have h4:¬ (n:Int) < 1:=by omega
 have HP0:=Lib.hid hP1;have HU0:=Lib.hid hu1
 obtain ⟨s_p,A_p,n_p,c_p,B_p,m_p,d_p,t_p,E_p,i_p,e_p,F_p,j_p,f_p⟩:=P
 clear hix0 hP1 hu1 p hL hE
 go_enter Tryz.func47,Tryz.ntmps47
 go_upto_region 1 with (fail)
 generalize hW:World.alloc _ _=W
 obtain ⟨hb,Z,hzW⟩:=mkbx15_9 hW;clear hW;replace E:=E.below hb;obtain ⟨e0,e1,e2,e3,e4,e5⟩:=E.all
 simp only at e0 e1 e2 e3 e4 e5
 go_upto_region 4 with (fail)
 generalize hW:World.alloc _ _=W2
 obtain ⟨hh,X,hzW2⟩:=mkbx15_9 hW;clear hW;(try replace Z:=Z.below hh);replace hb:=bend hb hh;clear E e0 e1 e2 e3 e4 e5 hixa;rw [hzW] at X
 have hgZ:w.heap.size < w.heap.size+1:=by omega
 have hgZ2:w.heap.size+1≤W.heap.size:=by omega
 clear hzW hzW2
 generalize w.heap.size+1=gM at X hgZ hgZ2 ⊢
 go_wp2_with fail
 go_loopg [6] n (fun gk ix wr=>∃ (m j:Nat) (P:PV),Hid (gk+m=n+1∧m≤n)∧ix=.int .i64 (m:Int)∧Hid (1≤m)∧Hid (j < m)∧Hid (L[j]?=some P)∧B6 wr gM (.bool P.s) (.slice P.A P.n P.c) (.slice P.B P.m P.d) (.bool P.t) (.slice P.E P.i P.e) (.slice P.F P.j P.f)∧Hid (∀ i,i < m→∀ u v:Rat × Rat,l[i]?=some u→l[j]?=some v→u.1≤v.1)∧B6 wr w.heap.size (.bool false) (.slice none 0 0) (.slice none 0 0) (.bool false) (.slice none 0 0) (.slice none 0 0)∧Below w.heap.size w wr)
 case atStart =>
  refine ⟨1,0,(PV.mk s_p A_p n_p c_p B_p m_p d_p t_p E_p i_p e_p F_p j_p f_p),by have:=H0.out;exact ⟨by omega,by omega⟩,rfl,by show _≤_;decide,by show _ < _;decide,HP0.out,X,fun i hi u v h5 h6=>?_,Z,hb⟩
  obtain rfl:i=0:=by omega
  rw [h5] at h6;cases h6;exact Rat.le_refl
 case round =>
  clear X Z HP0 HU0
  obtain ⟨m,j,P,HG,rfl,HM1,HJ,HPj,X,HS,Z,hb⟩:=hrel
  obtain ⟨s_q,A_q,n_q,c_q,B_q,m_q,d_q,t_q,E_q,i_q,e_q,F_q,j_q,f_q⟩:=P
  replace X:B6 wr gM (.bool s_q) (.slice A_q n_q c_q) (.slice B_q m_q d_q) (.bool t_q) (.slice E_q i_q e_q) (.slice F_q j_q f_q):=X
  by_cases hmn:m < n
  · have HMN:=Lib.hid hmn
    obtain ⟨P,u,hP1,hu1,p⟩:=(E0.out.imp (fun p u h=>PR.below h hb)).at_ (i:=m) (by rw [HN.out];exact hmn)
    obtain ⟨Pj,v,hPj,hvj,q⟩:=(E0.out.imp (fun p u h=>PR.below h hb)).at_ (i:=j) (by have:=HJ.out;rw [HN.out];omega)
    rw [HPj.out] at hPj
    cases hPj
    obtain ⟨g1,o1,hix0,E,_⟩:=(HL0.out.below hb).pt hP1
    have hixa:∀ w',(Instr.indexAt 22 (.slice A n c) (.int .i64 (m:Int))).run Tryz.prog w'=.ok (.pointer (some ⟨g1,o1,none⟩)) w':=fun w'=>hix0 n c w' hmn
    have hlt:(m:Int) < (n:Int):=by omega
    have hwr:IntKind.i64.wrap ((m:Int)+1)=(m:Int)+1:=IntWalk.i64_in _ (by omega)
    have hg1:g1 ≠ gM:=fun e=>by
     obtain ⟨g2,o2,e2,h3,_⟩:=HL0.out (by rw [show (pvs L).length=L.length*6 from rows_length pvc_len L,HN.out];omega)
     have h5:=hix0 n c wr hmn;rw [e2] at h5
     have h6:=(SV.pt HL0.out hP1)
     obtain ⟨g3,o3,h7,h8,o4,h9⟩:=h6
     have h10:=h7 n c wr hmn;rw [e2] at h10;rw [h5] at h10
     cases h10
     have:=h8.lt
     omega
    have HU:=Lib.hid hu1;have HV:=Lib.hid hvj;have HPm:=Lib.hid hP1
    obtain ⟨ux,uy⟩:=u
    obtain ⟨vx,vy⟩:=v
    obtain ⟨s_p,A_p,n_p,c_p,B_p,m_p,d_p,t_p,E_p,i_p,e_p,F_p,j_p,f_p⟩:=P
    replace p:PR wr s_p A_p n_p c_p B_p m_p d_p t_p E_p i_p e_p F_p j_p f_p ux uy k:=p
    replace q:PR wr s_q A_q n_q c_q B_q m_q d_q t_q E_q i_q e_q F_q j_q f_q vx vy k:=q
    obtain ⟨K,hK⟩:∃ K,cmpQ ux vx=K:=⟨_,rfl⟩
    have HK:=Lib.hid hK;obtain ⟨e0,e1,e2,e3,e4,e5⟩:=E.all
    simp only at e0 e1 e2 e3 e4 e5
    clear hP1 hu1 hvj hix0 hmn hK
    go_upto_region 7 with (fail)
    replace p:=p.below (Below.refl _ _).drew
    replace q:=q.below (Below.refl _ _).drew
    replace E:=E.below (Below.refl _ _).drew
    replace X:=X.below (Below.refl _ _).drew
    replace Z:=Z.below (Below.refl _ _).drew
    replace hb:=hb.drew
    go_region_held3 (fun w'=>w'.cell? ⟨gM,0,none⟩=some (.bool s_q)∧w'.cell? ⟨gM,1,none⟩=some (.slice A_q n_q c_q)∧w'.cell? ⟨gM,2,none⟩=some (.slice B_q m_q d_q)∧w'.cell? ⟨gM,3,none⟩=some (.bool t_q)∧w'.cell? ⟨gM,4,none⟩=some (.slice E_q i_q e_q)∧w'.cell? ⟨gM,5,none⟩=some (.slice F_q j_q f_q)∧w'.cell? ⟨g1,o1,none⟩=some (.bool s_p)∧w'.cell? ⟨g1,o1+1,none⟩=some (.slice A_p n_p c_p)∧w'.cell? ⟨g1,o1+2,none⟩=some (.slice B_p m_p d_p)∧w'.cell? ⟨g1,o1+3,none⟩=some (.bool t_p)∧w'.cell? ⟨g1,o1+4,none⟩=some (.slice E_p i_p e_p)∧w'.cell? ⟨g1,o1+5,none⟩=some (.slice F_p j_p f_p))
     (first | with_reducible exact ⟨X.c0,X.c1,X.c2,X.c3,X.c4,X.c5,E.c0,E.c1,E.c2,E.c3,E.c4,E.c5⟩)
     (first
     | (go_at_call 45;(with_reducible refine (byX_p p q hk h1 K HK.out).mono ?_);rintro e w_z ⟨rfl,hh⟩
        (try replace p:=p.below hh);(try replace q:=q.below hh);(try replace E:=E.below hh);(try replace X:=X.below hh);(try replace Z:=Z.below hh);replace hb:=bend hb hh;obtain ⟨x0,x1,x2,x3,x4,x5⟩:=X.all;have xf0:=X.f0;have xf1:=X.f1;have xf2:=X.f2;have xf3:=X.f3;have xf4:=X.f4;have xf5:=X.f5;obtain ⟨e0,e1,e2,e3,e4,e5⟩:=E.all
        simp only at e0 e1 e2 e3 e4 e5))
    by_cases hK2:0 < K
    · have hlt2:vx < ux:=by rw [← HK.out] at hK2;exact cmpQ_gt.1 hK2
      have HLT:=Lib.hid hlt2;clear hlt2
      go_wp2_with fail
      have ho:=only6 w_z gM (.bool s_p) (.slice A_p n_p c_p) (.slice B_p m_p d_p) (.bool t_p) (.slice E_p i_p e_p) (.slice F_p j_p f_p)
      have X2:=X.set6 (.bool s_p) (.slice A_p n_p c_p) (.slice B_p m_p d_p) (.bool t_p) (.slice E_p i_p e_p) (.slice F_p j_p f_p)
      replace Z:=(ho.block _ Z.lt (by omega)).trans Z
      replace hb:=Below.only hb (by omega) hb.size ho
      clear X ho p q E x0 xf0 x1 xf1 x2 xf2 x3 xf3 x4 xf4 x5 xf5 e0 e1 e2 e3 e4 e5
      generalize ((((((w_z.setCell ⟨gM,0,none⟩ (.bool s_p)).setCell ⟨gM,1,none⟩ (.slice A_p n_p c_p)).setCell ⟨gM,2,none⟩ (.slice B_p m_p d_p)).setCell ⟨gM,3,none⟩ (.bool t_p)).setCell ⟨gM,4,none⟩ (.slice E_p i_p e_p)).setCell ⟨gM,5,none⟩ (.slice F_p j_p f_p))=W3 at *
      go_roundg (gk - 1)
      case measure=>have:=HG.out;have:=HMN.out;omega
      case rel =>
       refine ⟨m+1,m,(PV.mk s_p A_p n_p c_p B_p m_p d_p t_p E_p i_p e_p F_p j_p f_p),by have:=HG.out;have:=HMN.out;exact ⟨by omega,by omega⟩,by go_num,by show _≤_;omega,by show _ < _;omega,HPm.out,X2,fun i hi u v h5 h6=>?_,Z,hb⟩
       rw [HU.out] at h6
       cases h6
       rcases Nat.lt_or_ge i m with h | h
       · have:=HS.out i h u _ h5 HV.out
         have:=HLT.out
         grind
       · obtain rfl:i=m:=by omega
         rw [HU.out] at h5;cases h5;exact Rat.le_refl
    · have hlt2:ux≤vx:=by rw [← HK.out] at hK2;exact Rat.not_lt.1 (fun e=>hK2 (cmpQ_gt.2 e))
      have HLT:=Lib.hid hlt2;clear hlt2
      go_wp2_with fail
      go_roundg (gk - 1)
      case measure=>have:=HG.out;have:=HMN.out;omega
      case rel =>
       refine ⟨m+1,j,(PV.mk s_q A_q n_q c_q B_q m_q d_q t_q E_q i_q e_q F_q j_q f_q),by have:=HG.out;have:=HMN.out;exact ⟨by omega,by omega⟩,by go_num,by show _≤_;omega,by have:=HJ.out;show _ < _;omega,HPj.out,X,fun i hi u v h5 h6=>?_,Z,hb⟩
       rcases Nat.lt_or_ge i m with h | h
       · exact HS.out i h u v h5 h6
       · obtain rfl:i=m:=by omega
         rw [HU.out] at h5;rw [HV.out] at h6;cases h5;cases h6;exact HLT.out
  · have hlt:¬ (m:Int) < (n:Int):=by omega
    obtain rfl:m=n:=by have:=HG.out;omega
    obtain ⟨Pj,v,hPj,hvj,_⟩:=E0.out.at_ (i:=j) (by have:=HJ.out;rw [HN.out];omega)
    have HV:=Lib.hid hvj;clear hmn hPj hvj;obtain ⟨x0,x1,x2,x3,x4,x5⟩:=X.all;have zg0:=Z.f0;have zc0:=Z.c0;have zg1:=Z.f1;have zc1:=Z.c1;have zg2:=Z.f2;have zc2:=Z.c2;have zg3:=Z.f3;have zc3:=Z.c3;have zg4:=Z.f4;have zc4:=Z.c4;have zg5:=Z.f5;have zc5:=Z.c5
    go_wp2_with fail
    have Z2:=Z.set6 (.bool s_q) (.slice A_q n_q c_q) (.slice B_q m_q d_q) (.bool t_q) (.slice E_q i_q e_q) (.slice F_q j_q f_q)
    obtain ⟨g0,g1,g2,g3,g4,g5⟩:=Z2.all
    refine bodyPost_ret (v:=.agg #[.bool s_q,.slice A_q n_q c_q,.slice B_q m_q d_q,.bool t_q,.slice E_q i_q e_q,.slice F_q j_q f_q]) (by simp [results,Tryz.results47,go_sem,g0,g1,g2,g3,g4,g5]) rfl ?_
    refine ⟨j,(PV.mk s_q A_q n_q c_q B_q m_q d_q t_q E_q i_q e_q F_q j_q f_q),v,HPj.out,HV.out,fun i u h5=>HS.out i ?_ u v h5 HV.out,rfl,below_set6 hb (Nat.le_refl _) _ _ _ _ _ _⟩
    have h7:=(List.getElem?_eq_some_iff.1 h5).1
    rw [← E0.out.1,HN.out] at h7
    exact h7
def Gives_max_byY (w:World) (L:List PV) (l:List (Rat × Rat)) (e:Ending) (w':World):Prop:=∃ (j:Nat) (p:PV) (v:Rat × Rat),L[j]?=some p∧l[j]?=some v∧(∀ (i:Nat) (u:Rat × Rat),l[i]?=some u→u.2≤v.2)∧e=.returned (.agg #[.bool p.s,.slice p.A p.n p.c,.slice p.B p.m p.d,.bool p.t,.slice p.E p.i p.e,.slice p.F p.j p.f])∧Below w.heap.size w w'
theorem max_byY {A:Option Addr} {n c k:Nat} {L:List PV} {l:List (Rat × Rat)} (hL:SV w A (pvs L)) (hE:Each PV.PR w L l k) (hn:L.length=n) (h0:0 < n) (hm:n≤1000) (hnc:n≤c) (h1:1≤k) (hk:k≤400) :
 Calls Tryz.prog 47 #[.slice A n c,.func (.func 46) #[] #[]] w (Gives_max_byY w L l):=by
 have HN:=Lib.hid hn;have HL0:=Lib.hid hL;have E0:=Lib.hid hE;have H0:=Lib.hid h0
 obtain ⟨P,u,hP1,hu1,p⟩:=hE.at_ (i:=0) (by rw [hn];exact h0)
 obtain ⟨g0,o0,hix0,E,_⟩:=hL.pt hP1
 have hixa:∀ w',(Instr.indexAt 22 (.slice A n c) (.int .i64 0)).run Tryz.prog w'=.ok (.pointer (some ⟨g0,o0,none⟩)) w':=fun w'=>hix0 n c w' h0
 have h4:¬ (n:Int) < 1:=by omega
 have HP0:=Lib.hid hP1;have HU0:=Lib.hid hu1
 obtain ⟨s_p,A_p,n_p,c_p,B_p,m_p,d_p,t_p,E_p,i_p,e_p,F_p,j_p,f_p⟩:=P
 clear hix0 hP1 hu1 p hL hE
 go_enter Tryz.func47,Tryz.ntmps47
 go_upto_region 1 with (fail)
 generalize hW:World.alloc _ _=W
 obtain ⟨hb,Z,hzW⟩:=mkbx15_9 hW;clear hW;replace E:=E.below hb;obtain ⟨e0,e1,e2,e3,e4,e5⟩:=E.all
 simp only at e0 e1 e2 e3 e4 e5
 go_upto_region 4 with (fail)
 generalize hW:World.alloc _ _=W2
 obtain ⟨hh,X,hzW2⟩:=mkbx15_9 hW;clear hW;(try replace Z:=Z.below hh);replace hb:=bend hb hh;clear E e0 e1 e2 e3 e4 e5 hixa;rw [hzW] at X
 have hgZ:w.heap.size < w.heap.size+1:=by omega
 have hgZ2:w.heap.size+1≤W.heap.size:=by omega
 clear hzW hzW2
 generalize w.heap.size+1=gM at X hgZ hgZ2 ⊢
 go_wp2_with fail
 go_loopg [6] n (fun gk ix wr=>∃ (m j:Nat) (P:PV),Hid (gk+m=n+1∧m≤n)∧ix=.int .i64 (m:Int)∧Hid (1≤m)∧Hid (j < m)∧Hid (L[j]?=some P)∧B6 wr gM (.bool P.s) (.slice P.A P.n P.c) (.slice P.B P.m P.d) (.bool P.t) (.slice P.E P.i P.e) (.slice P.F P.j P.f)∧Hid (∀ i,i < m→∀ u v:Rat × Rat,l[i]?=some u→l[j]?=some v→u.2≤v.2)∧B6 wr w.heap.size (.bool false) (.slice none 0 0) (.slice none 0 0) (.bool false) (.slice none 0 0) (.slice none 0 0)∧Below w.heap.size w wr)
 case atStart =>
  refine ⟨1,0,(PV.mk s_p A_p n_p c_p B_p m_p d_p t_p E_p i_p e_p F_p j_p f_p),by have:=H0.out;exact ⟨by omega,by omega⟩,rfl,by show _≤_;decide,by show _ < _;decide,HP0.out,X,fun i hi u v h5 h6=>?_,Z,hb⟩
  obtain rfl:i=0:=by omega
  rw [h5] at h6;cases h6;exact Rat.le_refl
 case round =>
  clear X Z HP0 HU0
  obtain ⟨m,j,P,HG,rfl,HM1,HJ,HPj,X,HS,Z,hb⟩:=hrel
  obtain ⟨s_q,A_q,n_q,c_q,B_q,m_q,d_q,t_q,E_q,i_q,e_q,F_q,j_q,f_q⟩:=P
  replace X:B6 wr gM (.bool s_q) (.slice A_q n_q c_q) (.slice B_q m_q d_q) (.bool t_q) (.slice E_q i_q e_q) (.slice F_q j_q f_q):=X
  by_cases hmn:m < n
  · have HMN:=Lib.hid hmn
    obtain ⟨P,u,hP1,hu1,p⟩:=(E0.out.imp (fun p u h=>PR.below h hb)).at_ (i:=m) (by rw [HN.out];exact hmn)
    obtain ⟨Pj,v,hPj,hvj,q⟩:=(E0.out.imp (fun p u h=>PR.below h hb)).at_ (i:=j) (by have:=HJ.out;rw [HN.out];omega)
    rw [HPj.out] at hPj
    cases hPj
    obtain ⟨g1,o1,hix0,E,_⟩:=(HL0.out.below hb).pt hP1
    have hixa:∀ w',(Instr.indexAt 22 (.slice A n c) (.int .i64 (m:Int))).run Tryz.prog w'=.ok (.pointer (some ⟨g1,o1,none⟩)) w':=fun w'=>hix0 n c w' hmn
    have hlt:(m:Int) < (n:Int):=by omega
    have hwr:IntKind.i64.wrap ((m:Int)+1)=(m:Int)+1:=IntWalk.i64_in _ (by omega)
    have hg1:g1 ≠ gM:=fun e=>by
     obtain ⟨g2,o2,e2,h3,_⟩:=HL0.out (by rw [show (pvs L).length=L.length*6 from rows_length pvc_len L,HN.out];omega)
     have h5:=hix0 n c wr hmn;rw [e2] at h5
     have h6:=(SV.pt HL0.out hP1)
     obtain ⟨g3,o3,h7,h8,o4,h9⟩:=h6
     have h10:=h7 n c wr hmn;rw [e2] at h10;rw [h5] at h10
     cases h10
     have:=h8.lt
     omega
    have HU:=Lib.hid hu1;have HV:=Lib.hid hvj;have HPm:=Lib.hid hP1
    obtain ⟨ux,uy⟩:=u
    obtain ⟨vx,vy⟩:=v
    obtain ⟨s_p,A_p,n_p,c_p,B_p,m_p,d_p,t_p,E_p,i_p,e_p,F_p,j_p,f_p⟩:=P
    replace p:PR wr s_p A_p n_p c_p B_p m_p d_p t_p E_p i_p e_p F_p j_p f_p ux uy k:=p
    replace q:PR wr s_q A_q n_q c_q B_q m_q d_q t_q E_q i_q e_q F_q j_q f_q vx vy k:=q
    obtain ⟨K,hK⟩:∃ K,cmpQ uy vy=K:=⟨_,rfl⟩
    have HK:=Lib.hid hK;obtain ⟨e0,e1,e2,e3,e4,e5⟩:=E.all
    simp only at e0 e1 e2 e3 e4 e5
    clear hP1 hu1 hvj hix0 hmn hK
    go_upto_region 7 with (fail)
    replace p:=p.below (Below.refl _ _).drew
    replace q:=q.below (Below.refl _ _).drew
    replace E:=E.below (Below.refl _ _).drew
    replace X:=X.below (Below.refl _ _).drew
    replace Z:=Z.below (Below.refl _ _).drew
    replace hb:=hb.drew
    go_region_held3 (fun w'=>w'.cell? ⟨gM,0,none⟩=some (.bool s_q)∧w'.cell? ⟨gM,1,none⟩=some (.slice A_q n_q c_q)∧w'.cell? ⟨gM,2,none⟩=some (.slice B_q m_q d_q)∧w'.cell? ⟨gM,3,none⟩=some (.bool t_q)∧w'.cell? ⟨gM,4,none⟩=some (.slice E_q i_q e_q)∧w'.cell? ⟨gM,5,none⟩=some (.slice F_q j_q f_q)∧w'.cell? ⟨g1,o1,none⟩=some (.bool s_p)∧w'.cell? ⟨g1,o1+1,none⟩=some (.slice A_p n_p c_p)∧w'.cell? ⟨g1,o1+2,none⟩=some (.slice B_p m_p d_p)∧w'.cell? ⟨g1,o1+3,none⟩=some (.bool t_p)∧w'.cell? ⟨g1,o1+4,none⟩=some (.slice E_p i_p e_p)∧w'.cell? ⟨g1,o1+5,none⟩=some (.slice F_p j_p f_p))
     (first | with_reducible exact ⟨X.c0,X.c1,X.c2,X.c3,X.c4,X.c5,E.c0,E.c1,E.c2,E.c3,E.c4,E.c5⟩)
     (first
     | (go_at_call 46;(with_reducible refine (byY_p p q hk h1 K HK.out).mono ?_);rintro e w_z ⟨rfl,hh⟩
        (try replace p:=p.below hh);(try replace q:=q.below hh);(try replace E:=E.below hh);(try replace X:=X.below hh);(try replace Z:=Z.below hh);replace hb:=bend hb hh;obtain ⟨x0,x1,x2,x3,x4,x5⟩:=X.all;have xf0:=X.f0;have xf1:=X.f1;have xf2:=X.f2;have xf3:=X.f3;have xf4:=X.f4;have xf5:=X.f5;obtain ⟨e0,e1,e2,e3,e4,e5⟩:=E.all
        simp only at e0 e1 e2 e3 e4 e5))
    by_cases hK2:0 < K
    · have hlt2:vy < uy:=by rw [← HK.out] at hK2;exact cmpQ_gt.1 hK2
      have HLT:=Lib.hid hlt2;clear hlt2
      go_wp2_with fail
      have ho:=only6 w_z gM (.bool s_p) (.slice A_p n_p c_p) (.slice B_p m_p d_p) (.bool t_p) (.slice E_p i_p e_p) (.slice F_p j_p f_p)
      have X2:=X.set6 (.bool s_p) (.slice A_p n_p c_p) (.slice B_p m_p d_p) (.bool t_p) (.slice E_p i_p e_p) (.slice F_p j_p f_p)
      replace Z:=(ho.block _ Z.lt (by omega)).trans Z
      replace hb:=Below.only hb (by omega) hb.size ho
      clear X ho p q E x0 xf0 x1 xf1 x2 xf2 x3 xf3 x4 xf4 x5 xf5 e0 e1 e2 e3 e4 e5
      generalize ((((((w_z.setCell ⟨gM,0,none⟩ (.bool s_p)).setCell ⟨gM,1,none⟩ (.slice A_p n_p c_p)).setCell ⟨gM,2,none⟩ (.slice B_p m_p d_p)).setCell ⟨gM,3,none⟩ (.bool t_p)).setCell ⟨gM,4,none⟩ (.slice E_p i_p e_p)).setCell ⟨gM,5,none⟩ (.slice F_p j_p f_p))=W3 at *
      go_roundg (gk - 1)
      case measure=>have:=HG.out;have:=HMN.out;omega
      case rel =>
       refine ⟨m+1,m,(PV.mk s_p A_p n_p c_p B_p m_p d_p t_p E_p i_p e_p F_p j_p f_p),by have:=HG.out;have:=HMN.out;exact ⟨by omega,by omega⟩,by go_num,by show _≤_;omega,by show _ < _;omega,HPm.out,X2,fun i hi u v h5 h6=>?_,Z,hb⟩
       rw [HU.out] at h6
       cases h6
       rcases Nat.lt_or_ge i m with h | h
       · have:=HS.out i h u _ h5 HV.out
         have:=HLT.out
         grind
       · obtain rfl:i=m:=by omega
         rw [HU.out] at h5;cases h5;exact Rat.le_refl
    · have hlt2:uy≤vy:=by rw [← HK.out] at hK2;exact Rat.not_lt.1 (fun e=>hK2 (cmpQ_gt.2 e))
      have HLT:=Lib.hid hlt2;clear hlt2
      go_wp2_with fail
      go_roundg (gk - 1)
      case measure=>have:=HG.out;have:=HMN.out;omega
      case rel =>
       refine ⟨m+1,j,(PV.mk s_q A_q n_q c_q B_q m_q d_q t_q E_q i_q e_q F_q j_q f_q),by have:=HG.out;have:=HMN.out;exact ⟨by omega,by omega⟩,by go_num,by show _≤_;omega,by have:=HJ.out;show _ < _;omega,HPj.out,X,fun i hi u v h5 h6=>?_,Z,hb⟩
       rcases Nat.lt_or_ge i m with h | h
       · exact HS.out i h u v h5 h6
       · obtain rfl:i=m:=by omega
         rw [HU.out] at h5;rw [HV.out] at h6;cases h5;cases h6;exact HLT.out
  · have hlt:¬ (m:Int) < (n:Int):=by omega
    obtain rfl:m=n:=by have:=HG.out;omega
    obtain ⟨Pj,v,hPj,hvj,_⟩:=E0.out.at_ (i:=j) (by have:=HJ.out;rw [HN.out];omega)
    have HV:=Lib.hid hvj;clear hmn hPj hvj;obtain ⟨x0,x1,x2,x3,x4,x5⟩:=X.all;have zg0:=Z.f0;have zc0:=Z.c0;have zg1:=Z.f1;have zc1:=Z.c1;have zg2:=Z.f2;have zc2:=Z.c2;have zg3:=Z.f3;have zc3:=Z.c3;have zg4:=Z.f4;have zc4:=Z.c4;have zg5:=Z.f5;have zc5:=Z.c5
    go_wp2_with fail
    have Z2:=Z.set6 (.bool s_q) (.slice A_q n_q c_q) (.slice B_q m_q d_q) (.bool t_q) (.slice E_q i_q e_q) (.slice F_q j_q f_q)
    obtain ⟨g0,g1,g2,g3,g4,g5⟩:=Z2.all
    refine bodyPost_ret (v:=.agg #[.bool s_q,.slice A_q n_q c_q,.slice B_q m_q d_q,.bool t_q,.slice E_q i_q e_q,.slice F_q j_q f_q]) (by simp [results,Tryz.results47,go_sem,g0,g1,g2,g3,g4,g5]) rfl ?_
    refine ⟨j,(PV.mk s_q A_q n_q c_q B_q m_q d_q t_q E_q i_q e_q F_q j_q f_q),v,HPj.out,HV.out,fun i u h5=>HS.out i ?_ u v h5 HV.out,rfl,below_set6 hb (Nat.le_refl _) _ _ _ _ _ _⟩
    have h7:=(List.getElem?_eq_some_iff.1 h5).1
    rw [← E0.out.1,HN.out] at h7
    exact h7
end
end Go.Proofs.YtghmejlikfiegaaGreat
