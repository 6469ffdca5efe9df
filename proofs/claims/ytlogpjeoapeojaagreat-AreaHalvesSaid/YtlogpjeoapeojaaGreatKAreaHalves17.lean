/- AreaHalves: part 17. -/
import Derived.Test.YtlogpjeoapeojaaGreatKAreaHalves15
import Derived.Test.YtlogpjeoapeojaaGreatKAreaHalves16
set_option linter.unusedVariables false
set_option maxRecDepth 100000
set_option maxHeartbeats 16000000
variable {w:Go.World}
variable {s_a t_a:Bool} {A_a B_a E_a F_a:Option Go.Addr} {n_a c_a m_a d_a i_a e_a j_a f_a:Nat}
variable {s_b t_b:Bool} {A_b B_b E_b F_b:Option Go.Addr} {n_b c_b m_b d_b i_b e_b j_b f_b:Nat}
variable {s_p t_p:Bool} {A_p B_p E_p F_p:Option Go.Addr} {n_p c_p m_p d_p i_p e_p j_p f_p:Nat}
variable {s_q t_q:Bool} {A_q B_q E_q F_q:Option Go.Addr} {n_q c_q m_q d_q i_q e_q j_q f_q:Nat}
namespace Go.Proofs.YtlogpjeoapeojaaGreat
section
open Go Go.RowKit
theorem free9 (s_p:Bool) (A_p:Option Addr) (n_p:Nat) (c_p:Nat) (B_p:Option Addr) (m_p:Nat) (d_p:Nat) (t_p:Bool) (E_p:Option Addr) (i_p:Nat) (e_p:Nat) (F_p:Option Addr) (j_p:Nat) (f_p:Nat) (s_a:Bool) (A_a:Option Addr) (n_a:Nat) (c_a:Nat) (B_a:Option Addr) (m_a:Nat) (d_a:Nat):∀ (x:Nat) (k:IntKind) (v:Int),(#[.bool s_p,.slice A_p n_p c_p,.slice B_p m_p d_p,.bool t_p,.slice E_p i_p e_p,.slice F_p j_p f_p,.bool s_a,.slice A_a n_a c_a,.slice B_a m_a d_a]:Array Value)[x]? ≠ some (.int k v):=by
 intro x k v h
 match x,h with
 | 0,h=>cases h
 | 1,h=>cases h
 | 2,h=>cases h
 | 3,h=>cases h
 | 4,h=>cases h
 | 5,h=>cases h
 | 6,h=>cases h
 | 7,h=>cases h
 | 8,h=>cases h
 | x+9,h=>cases h
theorem run_alloc9 {e1:Operand→Value} {d1:Option Tmp} {y1:Nat} {pos:String} {af:Array Edge} :
 (execOp e1 ⟨d1,.alloc 92,y1,pos,af,none⟩).run Tryz.prog w=.ok (.value (.pointer (some ⟨w.heap.size,0,none⟩))) (w.alloc (.cells #[.bool false,.slice none 0 0,.slice none 0 0,.bool false,.slice none 0 0,.slice none 0 0,.bool false,.slice none 0 0,.slice none 0 0] 92)):=by
 go_simp
theorem run_store9 {e1:Operand→Value} {d1:Option Tmp} {y1:Nat} {pos:String} {af:Array Edge} {x1 z1:Operand} {g:Nat} {v0 v1 v2 v3 v4 v5 v6 v7 v8:Value} (h:e1 x1=.pointer (some ⟨g,0,none⟩)) (hz:e1 z1=.agg #[.bool s_p,.slice A_p n_p c_p,.slice B_p m_p d_p,.bool t_p,.slice E_p i_p e_p,.slice F_p j_p f_p,.bool s_a,.slice A_a n_a c_a,.slice B_a m_a d_a]) (Z:B9 w g v0 v1 v2 v3 v4 v5 v6 v7 v8) :
 (execOp e1 ⟨d1,.store 92 x1 z1,y1,pos,af,none⟩).run Tryz.prog w=.ok .skip (((((((((w.setCell ⟨g,0,none⟩ (.bool s_p)).setCell ⟨g,1,none⟩ (.slice A_p n_p c_p)).setCell ⟨g,2,none⟩ (.slice B_p m_p d_p)).setCell ⟨g,3,none⟩ (.bool t_p)).setCell ⟨g,4,none⟩ (.slice E_p i_p e_p)).setCell ⟨g,5,none⟩ (.slice F_p j_p f_p)).setCell ⟨g,6,none⟩ (.bool s_a)).setCell ⟨g,7,none⟩ (.slice A_a n_a c_a)).setCell ⟨g,8,none⟩ (.slice B_a m_a d_a)):=by
 have c0:=Z.c0;have f0:=Z.f0;have c1:=Z.c1;have f1:=Z.f1;have c2:=Z.c2;have f2:=Z.f2;have c3:=Z.c3;have f3:=Z.f3;have c4:=Z.c4;have f4:=Z.f4;have c5:=Z.c5;have f5:=Z.f5;have c6:=Z.c6;have f6:=Z.f6;have c7:=Z.c7;have f7:=Z.f7;have c8:=Z.c8;have f8:=Z.f8
 go_simp
theorem B9.set9 {W:World} {g:Nat} {v0 v1 v2 v3 v4 v5 v6 v7 v8:Value} (h:B9 W g v0 v1 v2 v3 v4 v5 v6 v7 v8) (xv0 xv1 xv2 xv3 xv4 xv5 xv6 xv7 xv8:Value):B9 (((((((((W.setCell ⟨g,0,none⟩ (xv0)).setCell ⟨g,1,none⟩ (xv1)).setCell ⟨g,2,none⟩ (xv2)).setCell ⟨g,3,none⟩ (xv3)).setCell ⟨g,4,none⟩ (xv4)).setCell ⟨g,5,none⟩ (xv5)).setCell ⟨g,6,none⟩ (xv6)).setCell ⟨g,7,none⟩ (xv7)).setCell ⟨g,8,none⟩ (xv8)) g xv0 xv1 xv2 xv3 xv4 xv5 xv6 xv7 xv8:=by
 unfold B9 at h ⊢
 simp [World.setCell,Array.getElem?_modify,h]
theorem store_k9 {ac:Act} {x1 z:Operand} {y1 g:Nat} {pos:String} {af:Array Edge} {Q:Exit→Act→World→Prop} (p1:ac.eval x1=.pointer (some ⟨g,0,none⟩)) (h:VK #[.bool s_p,.slice A_p n_p c_p,.slice B_p m_p d_p,.bool t_p,.slice E_p i_p e_p,.slice F_p j_p f_p,.bool s_a,.slice A_a n_a c_a,.slice B_a m_a d_a] (ac.eval z) w) (Z0:BoxAt 92 w g #[.bool false,.slice none 0 0,.slice none 0 0,.bool false,.slice none 0 0,.slice none 0 0,.bool false,.slice none 0 0,.slice none 0 0]) :
 (⟨none,.store 92 x1 z,y1,pos,af,none⟩:Oper).wp Tryz.prog ac w (fun a'' w''=>a''=ac∧Only g w w''∧∃ cs',BoxAt 92 w'' g cs'∧(fun cs _=>cs=#[.bool s_p,.slice A_p n_p c_p,.slice B_p m_p d_p,.bool t_p,.slice E_p i_p e_p,.slice F_p j_p f_p,.bool s_a,.slice A_a n_a c_a,.slice B_a m_a d_a]) cs' w'') Q:=by
 have Z:B9 w g (.bool false) (.slice none 0 0) (.slice none 0 0) (.bool false) (.slice none 0 0) (.slice none 0 0) (.bool false) (.slice none 0 0) (.slice none 0 0):=Z0.at_
 unfold Oper.wp
 rw [run_store9 p1 h Z,Oper.upon_skip]
 have ho:=onlyc w g 0 (.bool s_p) (.slice A_p n_p c_p) (.slice B_p m_p d_p) (.bool t_p) (.slice E_p i_p e_p) (.slice F_p j_p f_p) (.bool s_a) (.slice A_a n_a c_a) (.slice B_a m_a d_a)
 exact ⟨put_none ac undef,ho,_,⟨Z.set9 _ _ _ _ _ _ _ _ _ ,free9 _ _ _ _ _ _ _ _ _ _ _ _ _ _ _ _ _ _ _ _ _ ⟩,rfl⟩
theorem run_ixc {e1:Operand→Value} {d1:Option Tmp} {y1:Nat} {pos:String} {af:Array Edge} {x1 x2:Operand} {A:Option Addr} {n c g o:Nat} {M:Int} (h:e1 x1=.slice A n c) (h2:e1 x2=.int .i64 M) (hx:∀ w',(Instr.indexAt 89 (.slice A n c) (.int .i64 M)).run Tryz.prog w'=.ok (.pointer (some ⟨g,o,none⟩)) w') :
 (execOp e1 ⟨d1,.indexAddr 89 x1 x2,y1,pos,af,none⟩).run Tryz.prog w=.ok (.value (.pointer (some ⟨g,o,none⟩))) w:=by
 have h1:=hx w
 go_simp
theorem run_ldc {e1:Operand→Value} {d1:Option Tmp} {y1:Nat} {pos:String} {af:Array Edge} {x1:Operand} {g o:Nat} {p:CV} (h:e1 x1=.pointer (some ⟨g,o,none⟩)) (E:E9x w g o p) :
 (execOp e1 ⟨d1,.load 92 x1,y1,pos,af,none⟩).run Tryz.prog w=.ok (.value (.agg #[.bool p.p.s,.slice p.p.A p.p.n p.p.c,.slice p.p.B p.p.m p.p.d,.bool p.p.t,.slice p.p.E p.p.i p.p.e,.slice p.p.F p.p.j p.p.f,.bool p.q.s,.slice p.q.A p.q.n p.q.c,.slice p.q.B p.q.m p.q.d])) w:=by
 obtain ⟨e0,e1,e2,e3,e4,e5,e6,e7,e8⟩:=E.all
 go_simp
theorem Ln.own_lt {T:TypeId} {base g:Nat} {v:Value} {L:List PV} (h:Ln T base w v L) (hg:v.ownBlock=some g):g < w.heap.size:=by
 obtain ⟨cs,hc⟩:=h.free g hg;exact hc.lt
theorem B9.push {w w':World} {g:Nat} {v0 v1 v2 v3 v4 v5 v6 v7 v8:Value} {row:Option Nat} (h:B9 w g v0 v1 v2 v3 v4 v5 v6 v7 v8) (hg:w.grownBy w' row) (hne:∀ k,row=some k→k ≠ g):B9 w' g v0 v1 v2 v3 v4 v5 v6 v7 v8 :=
 (hg.block g h.lt (fun e=>hne g e.symm rfl)).trans h
def mixP (u v:Rat × Rat) (t:Rat):Rat × Rat:=(u.1+(v.1 - u.1)*t,u.2+(v.2 - u.2)*t)
def halfStep (f:Rat × Rat→Rat) (u v:Rat × Rat):List (Rat × Rat):=(if 0≤f u then [u] else []) ++ (if f u*f v < 0 then [mixP u v (f u / (f u - f v))] else [])
def halfUpto (f:Rat × Rat→Rat) (r:List (Rat × Rat)):Nat→List (Rat × Rat)
 | 0=>[]
 | m+1=>halfUpto f r m ++ halfStep f (r.getD m (0,0)) (r.getD (m+1) (0,0))
theorem halfUpto_at {f:Rat × Rat→Rat} {r:List (Rat × Rat)} {m:Nat} {u v:Rat × Rat} (hu:r[m]?=some u) (hv:r[m+1]?=some v):halfUpto f r (m+1)=halfUpto f r m ++ halfStep f u v:=by
 rw [halfUpto,List.getD_eq_getElem?_getD,List.getD_eq_getElem?_getD,hu,hv];rfl
def halfQ (f:Rat × Rat→Rat) (l:List (Rat × Rat)):List (Rat × Rat):=halfUpto f (ringL l) l.length
theorem sgn_mul_wrap (x y:Rat):IntKind.i64.wrap (sgnQ x*sgnQ y)=sgnQ x*sgnQ y:=by
 rcases sgnQ_cases x with h | h | h <;> rcases sgnQ_cases y with g | g | g <;> rw [h.1,g.1] <;> decide +kernel
theorem sgn_mul_lt (x y:Rat):sgnQ x*sgnQ y < 0 ↔ x*y < 0:=by
 have:=sgn_mul x y
 constructor
 · intro h;exact Rat.not_le.1 fun e=>by have:=this.2 e;omega
 · intro h;exact Int.not_le.1 fun e=>by have:=this.1 e;grind
theorem sgn_nn (x:Rat):0≤sgnQ x ↔ 0≤x:=by
 rcases sgnQ_cases x with h | h | h <;> rw [h.1]
 · exact ⟨fun _=>Rat.le_of_lt h.2,fun _=>by decide⟩
 · exact ⟨fun _=>by rw [h.2];exact Rat.le_refl,fun _=>by decide⟩
 · exact ⟨fun e=>absurd e (by decide),fun e=>by have:=h.2;grind⟩
abbrev L_half6:List Nat:=[22,23,24,25,26,27,28,29,30,10,11]
def o0_half6:Oper:=⟨some 22,.move (.tmp 8),89, "half.go:16",#[],none⟩
def o1_half6:Oper:=⟨some 23,.move (.tmp 9),3, "half.go:16",#[],none⟩
def o2_half6:Oper:=⟨some 24,.indexAddr 89 (.tmp 22) (.tmp 23),0, "half.go:16",#[⟨0,.data⟩,⟨1,.data⟩],none⟩
def o3_half6:Oper:=⟨some 25,.load 92 (.tmp 24),92, "half.go:16",#[⟨2,.data⟩],none⟩
def o4_half6:Oper:=⟨some 26,.move (.tmp 8),89, "half.go:16",#[⟨11,.gcOnly .lateStores⟩],none⟩
def o5_half6:Oper:=⟨some 27,.move (.tmp 9),3, "half.go:16",#[⟨11,.gcOnly .lateStores⟩],none⟩
def o6_half6:Oper:=⟨some 28,.binOp BinOp.add 3 (.tmp 27) (.const (Value.int IntKind.i64 1)) 3,3, "half.go:16",#[⟨5,.data⟩,⟨11,.gcOnly .lateStores⟩],none⟩
def o7_half6:Oper:=⟨some 29,.indexAddr 89 (.tmp 26) (.tmp 28),0, "half.go:16",#[⟨4,.data⟩,⟨6,.data⟩,⟨11,.gcOnly .lateStores⟩],none⟩
def o8_half6:Oper:=⟨some 30,.load 92 (.tmp 29),92, "half.go:16",#[⟨7,.data⟩,⟨11,.gcOnly .lateStores⟩],none⟩
def o9_half6:Oper:=⟨some 10,.alloc 92,0, "half.go:16",#[],none⟩
def o10_half6:Oper:=⟨some 11,.alloc 92,0, "half.go:16",#[],none⟩
def o11_half6:Oper:=⟨none,.store 92 (.tmp 10) (.tmp 25),0, "half.go:16",#[⟨9,.data⟩,⟨3,.data⟩,⟨0,.phase⟩,⟨1,.phase⟩,⟨2,.phase⟩,⟨3,.phase⟩,⟨4,.textOnly .lateStores⟩,⟨5,.textOnly .lateStores⟩,⟨6,.textOnly .lateStores⟩,⟨7,.textOnly .lateStores⟩,⟨8,.textOnly .lateStores⟩,⟨9,.phase⟩,⟨10,.phase⟩],none⟩
def o12_half6:Oper:=⟨none,.store 92 (.tmp 11) (.tmp 30),0, "half.go:16",#[⟨10,.data⟩,⟨8,.data⟩,⟨11,.chain⟩,⟨0,.phase⟩,⟨1,.phase⟩,⟨2,.phase⟩,⟨3,.phase⟩,⟨4,.phase⟩,⟨5,.phase⟩,⟨6,.phase⟩,⟨7,.phase⟩,⟨8,.phase⟩,⟨9,.phase⟩,⟨10,.phase⟩,⟨11,.phase⟩],none⟩
def F_half6 (A1:Option Addr) (N1:Nat) (c1:Nat) (m:Nat) (g0:Nat) (o0:Nat) (g1:Nat) (o1:Nat) (s_p:Bool) (t_p:Bool) (A_p:Option Addr) (B_p:Option Addr) (E_p:Option Addr) (F_p:Option Addr) (n_p:Nat) (c_p:Nat) (m_p:Nat) (d_p:Nat) (i_p:Nat) (e_p:Nat) (j_p:Nat) (f_p:Nat) (s_a:Bool) (A_a:Option Addr) (B_a:Option Addr) (n_a:Nat) (c_a:Nat) (m_a:Nat) (d_a:Nat) (s_q:Bool) (t_q:Bool) (A_q:Option Addr) (B_q:Option Addr) (E_q:Option Addr) (F_q:Option Addr) (n_q:Nat) (c_q:Nat) (m_q:Nat) (d_q:Nat) (i_q:Nat) (e_q:Nat) (j_q:Nat) (f_q:Nat) (s_b:Bool) (A_b:Option Addr) (B_b:Option Addr) (n_b:Nat) (c_b:Nat) (m_b:Nat) (d_b:Nat) (sl:Nat):Value→World→Prop :=
 match sl with
 | 22=>fun x _=>x=Value.slice A1 N1 c1
 | 23=>fun x _=>x=Value.int .i64 (m:Int)
 | 24=>fun x _=>x=Value.pointer (some ⟨g0,o0,none⟩)
 | 25=>VK (#[.bool s_p,.slice A_p n_p c_p,.slice B_p m_p d_p,.bool t_p,.slice E_p i_p e_p,.slice F_p j_p f_p,.bool s_a,.slice A_a n_a c_a,.slice B_a m_a d_a])
 | 26=>fun x _=>x=Value.slice A1 N1 c1
 | 27=>fun x _=>x=Value.int .i64 (m:Int)
 | 28=>fun x _=>x=Value.int .i64 ((m:Int)+1)
 | 29=>fun x _=>x=Value.pointer (some ⟨g1,o1,none⟩)
 | 30=>VK (#[.bool s_q,.slice A_q n_q c_q,.slice B_q m_q d_q,.bool t_q,.slice E_q i_q e_q,.slice F_q j_q f_q,.bool s_b,.slice A_b n_b c_b,.slice B_b m_b d_b])
 | _=>fun _ _=>True
def B0_half6 (s_p:Bool) (t_p:Bool) (A_p:Option Addr) (B_p:Option Addr) (E_p:Option Addr) (F_p:Option Addr) (n_p:Nat) (c_p:Nat) (m_p:Nat) (d_p:Nat) (i_p:Nat) (e_p:Nat) (j_p:Nat) (f_p:Nat) (s_a:Bool) (A_a:Option Addr) (B_a:Option Addr) (n_a:Nat) (c_a:Nat) (m_a:Nat) (d_a:Nat):BoxOp :=
 ⟨9,11,10,92,#[.bool false,.slice none 0 0,.slice none 0 0,.bool false,.slice none 0 0,.slice none 0 0,.bool false,.slice none 0 0,.slice none 0 0],fun cs _=>cs=#[.bool s_p,.slice A_p n_p c_p,.slice B_p m_p d_p,.bool t_p,.slice E_p i_p e_p,.slice F_p j_p f_p,.bool s_a,.slice A_a n_a c_a,.slice B_a m_a d_a]⟩
def B1_half6 (s_q:Bool) (t_q:Bool) (A_q:Option Addr) (B_q:Option Addr) (E_q:Option Addr) (F_q:Option Addr) (n_q:Nat) (c_q:Nat) (m_q:Nat) (d_q:Nat) (i_q:Nat) (e_q:Nat) (j_q:Nat) (f_q:Nat) (s_b:Bool) (A_b:Option Addr) (B_b:Option Addr) (n_b:Nat) (c_b:Nat) (m_b:Nat) (d_b:Nat):BoxOp :=
 ⟨10,12,11,92,#[.bool false,.slice none 0 0,.slice none 0 0,.bool false,.slice none 0 0,.slice none 0 0,.bool false,.slice none 0 0,.slice none 0 0],fun cs _=>cs=#[.bool s_q,.slice A_q n_q c_q,.slice B_q m_q d_q,.bool t_q,.slice E_q i_q e_q,.slice F_q j_q f_q,.bool s_b,.slice A_b n_b c_b,.slice B_b m_b d_b]⟩
theorem half6_region {id:Nat} {ac:Act} {Q:Exit→Act→World→Prop} {A1:Option Addr} {N1 c1 m g0 o0 g1 o1:Nat} 
 (hsz:30 < ac.tmps.size) (e8:ac.eval (.tmp 8)=Value.slice A1 N1 c1) (e9:ac.eval (.tmp 9)=Value.int .i64 (m:Int)) (Ep:E9x w g0 o0 (CV.mk (PV.mk s_p A_p n_p c_p B_p m_p d_p t_p E_p i_p e_p F_p j_p f_p) (QV.mk s_a A_a n_a c_a B_a m_a d_a))) (Eq:E9x w g1 o1 (CV.mk (PV.mk s_q A_q n_q c_q B_q m_q d_q t_q E_q i_q e_q F_q j_q f_q) (QV.mk s_b A_b n_b c_b B_b m_b d_b))) (hixa:∀ w',(Instr.indexAt 89 (.slice A1 N1 c1) (.int .i64 (m:Int))).run Tryz.prog w'=.ok (.pointer (some ⟨g0,o0,none⟩)) w') (hixb:∀ w',(Instr.indexAt 89 (.slice A1 N1 c1) (.int .i64 ((m:Int)+1))).run Tryz.prog w'=.ok (.pointer (some ⟨g1,o1,none⟩)) w') (hwr:IntKind.i64.wrap ((m:Int)+1)=(m:Int)+1)
 (hend:∀ (V:Nat→Value) (w':World) (g0:Nat) (g1:Nat),B9 w' g0 (.bool s_p) (.slice A_p n_p c_p) (.slice B_p m_p d_p) (.bool t_p) (.slice E_p i_p e_p) (.slice F_p j_p f_p) (.bool s_a) (.slice A_a n_a c_a) (.slice B_a m_a d_a)→w.heap.size≤g0→V 10=.pointer (some ⟨g0,0,none⟩)→B9 w' g1 (.bool s_q) (.slice A_q n_q c_q) (.slice B_q m_q d_q) (.bool t_q) (.slice E_q i_q e_q) (.slice F_q j_q f_q) (.bool s_b) (.slice A_b n_b c_b) (.slice B_b m_b d_b)→w.heap.size≤g1→V 11=.pointer (some ⟨g1,0,none⟩)→g1 ≠ g0→Below w.heap.size w w'→Q .normal (putAll ac [22,23,24,25,26,27,28,29,30,10,11] V) w') :
 (Code.region id #[o0_half6,o1_half6,o2_half6,o3_half6,o4_half6,o5_half6,o6_half6,o7_half6,o8_half6,o9_half6,o10_half6,o11_half6,o12_half6] true).wp Tryz.prog Q ac w:=by
 have hnd:L_half6.Nodup:=by decide
 have G:∀ (sv:Nat→Value) (t:Nat),t ∈ L_half6→t≤30→(putAll ac L_half6 sv).eval (.tmp t)=sv t:=fun sv t ht h=>eval_putAll_mem (t:=t) L_half6 ac hnd ht (Nat.lt_of_le_of_lt h hsz)
 have E8:∀ sv:Nat→Value,(putAll ac L_half6 sv).eval (.tmp 8)=Value.slice A1 N1 c1:=fun sv=>(eval_putAll_not (v:=sv) L_half6 ac (show 8 ∉ _ by decide)).trans e8
 have E9:∀ sv:Nat→Value,(putAll ac L_half6 sv).eval (.tmp 9)=Value.int .i64 (m:Int):=fun sv=>(eval_putAll_not (v:=sv) L_half6 ac (show 9 ∉ _ by decide)).trans e9
 have NE:∀ t:Nat,(t ≠ 10∧t ≠ 11)→∀ p ∈ [B0_half6 s_p t_p A_p B_p E_p F_p n_p c_p m_p d_p i_p e_p j_p f_p s_a A_a B_a n_a c_a m_a d_a,B1_half6 s_q t_q A_q B_q E_q F_q n_q c_q m_q d_q i_q e_q j_q f_q s_b A_b B_b n_b c_b m_b d_b],t ≠ p.tA:=by
  intro t ht p hp
  simp only [List.mem_cons,List.not_mem_nil,or_false] at hp
  rcases hp with rfl | rfl
  · exact ht.1
  · exact ht.2
 refine wp_region_flowsT L_half6 [B0_half6 s_p t_p A_p B_p E_p F_p n_p c_p m_p d_p i_p e_p j_p f_p s_a A_a B_a n_a c_a m_a d_a,B1_half6 s_q t_q A_q B_q E_q F_q n_q c_q m_q d_q i_q e_q j_q f_q s_b A_b B_b n_b c_b m_b d_b] (F_half6 A1 N1 c1 m g0 o0 g1 o1 s_p t_p A_p B_p E_p F_p n_p c_p m_p d_p i_p e_p j_p f_p s_a A_a B_a n_a c_a m_a d_a s_q t_q A_q B_q E_q F_q n_q c_q m_q d_q i_q e_q j_q f_q s_b A_b B_b n_b c_b m_b d_b) (by kernel_rfl) (by kernel_rfl) rfl hnd ?_ ?_ ?_ ?_ ?_ ?_ ?_ ?_
 · intro p hp
   simp only [List.mem_cons,List.not_mem_nil,or_false] at hp
   rcases hp with rfl | rfl
   · refine ⟨⟨o9_half6,rfl,rfl,rfl,fun e w'=>run_alloc9⟩,⟨o11_half6,rfl,rfl,rfl,⟨9,.data⟩,by simp [o11_half6],rfl,rfl⟩,free9 _ _ _ _ _ _ _ _ _ _ _ _ _ _ _ _ _ _ _ _ _,?_,?_⟩
     · rintro cs w1 w2 rfl hb;rfl
     · rintro T cs w1 w2 g c0 rfl hB ho;rfl
   · refine ⟨⟨o10_half6,rfl,rfl,rfl,fun e w'=>run_alloc9⟩,⟨o12_half6,rfl,rfl,rfl,⟨10,.data⟩,by simp [o12_half6],rfl,rfl⟩,free9 _ _ _ _ _ _ _ _ _ _ _ _ _ _ _ _ _ _ _ _ _,?_,?_⟩
     · rintro cs w1 w2 rfl hb;rfl
     · rintro T cs w1 w2 g c0 rfl hB ho;rfl
 · intro p hp q hq h
   simp only [List.mem_cons,List.not_mem_nil,or_false] at hp hq
   rcases hp with rfl | rfl <;> rcases hq with rfl | rfl
   · rfl
   · exact absurd (show (10:Nat)=11 from h) (by decide)
   · exact absurd (show (11:Nat)=10 from h) (by decide)
   · rfl
 · intro p hp q hq h
   simp only [List.mem_cons,List.not_mem_nil,or_false] at hp hq
   rcases hp with rfl | rfl <;> rcases hq with rfl | rfl
   · rfl
   · exact absurd (show (11:Nat)=12 from h) (by decide)
   · exact absurd (show (12:Nat)=11 from h) (by decide)
   · rfl
 · intro i o h1 h2
   match i,h1 with
   | 0,h1=>cases h1;cases h2
   | 1,h1=>cases h1;cases h2
   | 2,h1=>cases h1;cases h2
   | 3,h1=>cases h1;cases h2
   | 4,h1=>cases h1;cases h2
   | 5,h1=>cases h1;cases h2
   | 6,h1=>cases h1;cases h2
   | 7,h1=>cases h1;cases h2
   | 8,h1=>cases h1;cases h2
   | 9,h1=>cases h1;cases h2
   | 10,h1=>cases h1;cases h2
   | 11,h1=>exact ⟨B0_half6 s_p t_p A_p B_p E_p F_p n_p c_p m_p d_p i_p e_p j_p f_p s_a A_a B_a n_a c_a m_a d_a,List.Mem.head _,rfl⟩
   | 12,h1=>exact ⟨B1_half6 s_q t_q A_q B_q E_q F_q n_q c_q m_q d_q i_q e_q j_q f_q s_b A_b B_b n_b c_b m_b d_b,List.Mem.tail _ (List.Mem.head _),rfl⟩
   | i+13,h1=>cases h1
 · intro t
   unfold F_half6
   split <;> first | exact (stays_eq _).inn _ | exact (stays_q _ _).inn _ | exact (stays_z _ _).inn _ | exact (stays_r _ _).inn _ | exact (stays_rq _ _).inn _ | exact (stays_pg _ _ _).inn _ | exact (stays_true).inn _
 · intro i o t sv w' ho hia hd J0 hf
   have Ep:=Ep.below J0;have Eq:=Eq.below J0
   match i,ho with
   | 0,ho =>
     obtain rfl:o0_half6=o:=Option.some.inj ho
     cases hd
     refine wpOp_plain' (o:=o0_half6) rfl rfl ?_
     unfold Oper.wp o0_half6
     rw [run_move (E8 sv),Oper.upon_value]
     exact ⟨_,rfl,Below.refl _ _,rfl⟩
   | 1,ho =>
     obtain rfl:o1_half6=o:=Option.some.inj ho
     cases hd
     refine wpOp_plain' (o:=o1_half6) rfl rfl ?_
     unfold Oper.wp o1_half6
     rw [run_move (E9 sv),Oper.upon_value]
     exact ⟨_,rfl,Below.refl _ _,rfl⟩
   | 2,ho =>
     obtain rfl:o2_half6=o:=Option.some.inj ho
     cases hd
     have f22:sv 22=Value.slice A1 N1 c1:=hf ⟨0,.data⟩ (by simp [o2_half6]) rfl _ 22 rfl rfl (NE _ (by decide))
     have f23:sv 23=Value.int .i64 (m:Int):=hf ⟨1,.data⟩ (by simp [o2_half6]) rfl _ 23 rfl rfl (NE _ (by decide))
     refine wpOp_plain' (o:=o2_half6) rfl rfl ?_
     unfold Oper.wp o2_half6
     rw [run_ixc ((G sv 22 (by decide) (by decide)).trans f22) ((G sv 23 (by decide) (by decide)).trans f23) hixa,Oper.upon_value]
     exact ⟨_,rfl,Below.refl _ _,rfl⟩
   | 3,ho =>
     obtain rfl:o3_half6=o:=Option.some.inj ho
     cases hd
     have f24:sv 24=Value.pointer (some ⟨g0,o0,none⟩):=hf ⟨2,.data⟩ (by simp [o3_half6]) rfl _ 24 rfl rfl (NE _ (by decide))
     refine wpOp_plain' (o:=o3_half6) rfl rfl ?_
     unfold Oper.wp o3_half6
     rw [run_ldc ((G sv 24 (by decide) (by decide)).trans f24) Ep,Oper.upon_value]
     exact ⟨_,rfl,Below.refl _ _,rfl⟩
   | 4,ho =>
     obtain rfl:o4_half6=o:=Option.some.inj ho
     cases hd
     refine wpOp_plain' (o:=o4_half6) rfl rfl ?_
     unfold Oper.wp o4_half6
     rw [run_move (E8 sv),Oper.upon_value]
     exact ⟨_,rfl,Below.refl _ _,rfl⟩
   | 5,ho =>
     obtain rfl:o5_half6=o:=Option.some.inj ho
     cases hd
     refine wpOp_plain' (o:=o5_half6) rfl rfl ?_
     unfold Oper.wp o5_half6
     rw [run_move (E9 sv),Oper.upon_value]
     exact ⟨_,rfl,Below.refl _ _,rfl⟩
   | 6,ho =>
     obtain rfl:o6_half6=o:=Option.some.inj ho
     cases hd
     have f27:sv 27=Value.int .i64 (m:Int):=hf ⟨5,.data⟩ (by simp [o6_half6]) rfl _ 27 rfl rfl (NE _ (by decide))
     refine wpOp_plain' (o:=o6_half6) rfl rfl ?_
     unfold Oper.wp o6_half6
     rw [run_add1 ((G sv 27 (by decide) (by decide)).trans f27) (show (putAll ac L_half6 sv).eval (.const (Value.int IntKind.i64 1))=(Value.int IntKind.i64 1) from rfl) hwr,Oper.upon_value]
     exact ⟨_,rfl,Below.refl _ _,rfl⟩
   | 7,ho =>
     obtain rfl:o7_half6=o:=Option.some.inj ho
     cases hd
     have f26:sv 26=Value.slice A1 N1 c1:=hf ⟨4,.data⟩ (by simp [o7_half6]) rfl _ 26 rfl rfl (NE _ (by decide))
     have f28:sv 28=Value.int .i64 ((m:Int)+1):=hf ⟨6,.data⟩ (by simp [o7_half6]) rfl _ 28 rfl rfl (NE _ (by decide))
     refine wpOp_plain' (o:=o7_half6) rfl rfl ?_
     unfold Oper.wp o7_half6
     rw [run_ixc ((G sv 26 (by decide) (by decide)).trans f26) ((G sv 28 (by decide) (by decide)).trans f28) hixb,Oper.upon_value]
     exact ⟨_,rfl,Below.refl _ _,rfl⟩
   | 8,ho =>
     obtain rfl:o8_half6=o:=Option.some.inj ho
     cases hd
     have f29:sv 29=Value.pointer (some ⟨g1,o1,none⟩):=hf ⟨7,.data⟩ (by simp [o8_half6]) rfl _ 29 rfl rfl (NE _ (by decide))
     refine wpOp_plain' (o:=o8_half6) rfl rfl ?_
     unfold Oper.wp o8_half6
     rw [run_ldc ((G sv 29 (by decide) (by decide)).trans f29) Eq,Oper.upon_value]
     exact ⟨_,rfl,Below.refl _ _,rfl⟩
   | 9,ho=>cases ho;cases hd;exact absurd rfl (hia (B0_half6 s_p t_p A_p B_p E_p F_p n_p c_p m_p d_p i_p e_p j_p f_p s_a A_a B_a n_a c_a m_a d_a) (List.Mem.head _))
   | 10,ho=>cases ho;cases hd;exact absurd rfl (hia (B1_half6 s_q t_q A_q B_q E_q F_q n_q c_q m_q d_q i_q e_q j_q f_q s_b A_b B_b n_b c_b m_b d_b) (List.Mem.tail _ (List.Mem.head _)))
   | 11,ho=>cases ho;cases hd
   | 12,ho=>cases ho;cases hd
   | i+13,ho=>cases ho
 · intro p hp os sv w' g hos J0 p1 p3 hf
   simp only [List.mem_cons,List.not_mem_nil,or_false] at hp
   rcases hp with rfl | rfl
   · obtain rfl:o11_half6=os:=Option.some.inj hos
     have h1:VK (#[.bool s_p,.slice A_p n_p c_p,.slice B_p m_p d_p,.bool t_p,.slice E_p i_p e_p,.slice F_p j_p f_p,.bool s_a,.slice A_a n_a c_a,.slice B_a m_a d_a]) (sv 25) w':=hf ⟨3,.data⟩ (by simp [o11_half6]) rfl _ 25 rfl rfl (NE _ (by decide))
     rw [← G sv 25 (by decide) (by decide)] at h1
     refine store_k9  (ac:=putAll ac L_half6 sv) (z:=.tmp 25) ?_ ?_ ?_
     · exact (G sv 10 (by decide) (by decide)).trans p1
     · exact h1
     · exact p3
   · obtain rfl:o12_half6=os:=Option.some.inj hos
     have h1:VK (#[.bool s_q,.slice A_q n_q c_q,.slice B_q m_q d_q,.bool t_q,.slice E_q i_q e_q,.slice F_q j_q f_q,.bool s_b,.slice A_b n_b c_b,.slice B_b m_b d_b]) (sv 30) w':=hf ⟨8,.data⟩ (by simp [o12_half6]) rfl _ 30 rfl rfl (NE _ (by decide))
     rw [← G sv 30 (by decide) (by decide)] at h1
     refine store_k9  (ac:=putAll ac L_half6 sv) (z:=.tmp 30) ?_ ?_ ?_
     · exact (G sv 11 (by decide) (by decide)).trans p1
     · exact h1
     · exact p3
 · intro sv w' J0 hF hB hap
   obtain ⟨g0,cs0,p0,r0,b0,rfl⟩:=hB (B0_half6 s_p t_p A_p B_p E_p F_p n_p c_p m_p d_p i_p e_p j_p f_p s_a A_a B_a n_a c_a m_a d_a) (List.Mem.head _)
   obtain ⟨g1,cs1,p1,r1,b1,rfl⟩:=hB (B1_half6 s_q t_q A_q B_q E_q F_q n_q c_q m_q d_q i_q e_q j_q f_q s_b A_b B_b n_b c_b m_b d_b) (List.Mem.tail _ (List.Mem.head _))
   have p0':sv 10=.pointer (some ⟨g0,0,none⟩):=p0
   have p1':sv 11=.pointer (some ⟨g1,0,none⟩):=p1
   exact hend sv w' g0 g1 b0.at_ r0 p0' b1.at_ r1 p1' (fun q=>hap (B1_half6 s_q t_q A_q B_q E_q F_q n_q c_q m_q d_q i_q e_q j_q f_q s_b A_b B_b n_b c_b m_b d_b) (List.Mem.tail _ (List.Mem.head _)) (B0_half6 s_p t_p A_p B_p E_p F_p n_p c_p m_p d_p i_p e_p j_p f_p s_a A_a B_a n_a c_a m_a d_a) (List.Mem.head _) (show (11:Nat) ≠ 10 by decide) (by rw [show (B1_half6 s_q t_q A_q B_q E_q F_q n_q c_q m_q d_q i_q e_q j_q f_q s_b A_b B_b n_b c_b m_b d_b).tA=11 from rfl,show (B0_half6 s_p t_p A_p B_p E_p F_p n_p c_p m_p d_p i_p e_p j_p f_p s_a A_a B_a n_a c_a m_a d_a).tA=10 from rfl,p1',p0',q]))   J0
end
section
open Go Go.RowKit
theorem half_p {A:Option Addr} {n c k k2 ka:Nat} {L:List PV} {l:List (Rat × Rat)} {ax ay bx by_:Rat} (hL:SV w A (pvs L)) (hE:Each PV.PR w L l k) (a:PR w s_a A_a n_a c_a B_a m_a d_a t_a E_a i_a e_a F_a j_a f_a ax ay k2) (b:PR w s_b A_b n_b c_b B_b m_b d_b t_b E_b i_b e_b F_b j_b f_b bx by_ k2) (hn:L.length=n) (hm:n≤1000) (hnc:n≤c) (h1:1≤k) (h2:1≤k2) (hk:k2+k2+1+(k+k2+1)≤200) (hk6:k≤60) (hka:ka=(k2+k2+1+(k+k2+1)+(k2+k2+1+(k+k2+1))+1)) (hka2:ka+(ka+ka+1)≤170) :
 Calls Tryz.prog 23 #[.slice A n c,.agg #[.bool s_a,.slice A_a n_a c_a,.slice B_a m_a d_a,.bool t_a,.slice E_a i_a e_a,.slice F_a j_a f_a],.agg #[.bool s_b,.slice A_b n_b c_b,.slice B_b m_b d_b,.bool t_b,.slice E_b i_b e_b,.slice F_b j_b f_b]] w (GivesLn w (halfQ (asideP ax ay bx by_) l) (k+(k+k+1+(ka+(ka+ka+1)))+1)):=by
 have HN:=Lib.hid hn
 have HNl:Hid (l.length=n):=hE.1.symm.trans hn
 have HKA:=Lib.hid hka
 have hka1:1≤ka:=by omega
 clear hka
 go_enter Tryz.func23,Tryz.ntmps23
 go_upto_region 1 with (fail)
 generalize hW:World.alloc _ _=W
 obtain ⟨hb,XA,XB,hzW⟩:=mkbx24_10 hW;clear hW;replace hL:=hL.below hb;replace a:=a.below hb;replace b:=b.below hb;obtain ⟨xa0,xa1,xa2,xa3,xa4,xa5⟩:=XA.all;obtain ⟨xb0,xb1,xb2,xb3,xb4,xb5⟩:=XB.all
 replace hE:=hE.imp (fun p u h=>PR.below h hb)
 go_upto_region 3 with (first
  | (go_at_call 62;(with_reducible refine (beside_p hL hE a b hn hm h1 h2 hk).mono ?_);rintro e w_y ⟨gW,M,rfl,hgW,hW,hM,hQ,hb1⟩
     have hWS:=hW.sv)
  | (go_at_call 61;(with_reducible refine (closed_c hWS hM (by omega) (Nat.le_refl _) (Nat.le_trans hb.size hb1.size)).mono ?_);rintro e w_c ⟨A1,c1,rfl,hR1_,hh⟩
     replace hb:=bend (bend hb hb1) hh))
 have E0:Hid (EachC w_c M l (asideP ax ay bx by_) k ka):=by rw [HKA.out];exact hQ.below hh
 rw [show n+min 1 n=(ringL M).length by unfold ringL;rw [List.length_append,List.length_take,hM,Nat.min_comm]]
 have HR1:Hid ((ringL M).length=n+min 1 n):=by show _=_;unfold ringL;rw [List.length_append,List.length_take,hM,Nat.min_comm]
 generalize hN1:(ringL M).length=N1 at HR1 ⊢
 have HR2:=Lib.hid hN1
 have hR0:SNr 92 w.heap.size n (cvs (ringL M)) w_c A1:=hR1_
 clear hN1 hL hE hWS hW hQ hb1 hh hR1_ hM a b XA XB
 go_wp2_with fail
 go_loopg [7,19] n (fun gk out ix wr=>∃ (M':List PV) (m:Nat),Hid (gk+m=n)∧ix=.int .i64 (m:Int)∧Ln 29 w_c.heap.size wr out M'∧Hid (M'.length≤2*m)∧Hid (Each PV.PG wr M' (halfUpto (asideP ax ay bx by_) (ringL l) m) (k+(k+k+1+(ka+(ka+ka+1)))+1))∧Below w_c.heap.size w_c wr)
 case atStart=>exact ⟨[],0,Nat.add_zero _,rfl,Ln.nil _ _ _,by show _≤_;simp,Each.nil,Below.refl _ _⟩
 case round =>
  obtain ⟨M',m,HG,rfl,LT,HLn,HQ,hB⟩:=hrel
  by_cases hmn:m < n
  · have HMN:=Lib.hid hmn
    obtain ⟨P,u,hP1,hu1,p0,a0⟩:=E0.out.ring.at_ (i:=m) (by have h:=HR1.out;have h2:=HR2.out;rw [h2,h];omega)
    obtain ⟨Q,v,hP2,hu2,q0,b0⟩:=E0.out.ring.at_ (i:=m+1) (by have h:=HR1.out;have h2:=HR2.out;rw [h2,h];omega)
    obtain ⟨g0,o0,hix0,Ep,_⟩:=((hR0.below hB).sv (by omega)).ct hP1
    obtain ⟨g1,o1,hix1,Eq,_⟩:=((hR0.below hB).sv (by omega)).ct hP2
    have hixa:∀ w',(Instr.indexAt 89 (.slice A1 N1 c1) (.int .i64 (m:Int))).run Tryz.prog w'=.ok (.pointer (some ⟨g0,o0,none⟩)) w':=fun w'=>hix0 N1 c1 w' (by have:=HR1.out;omega)
    have hixb:∀ w',(Instr.indexAt 89 (.slice A1 N1 c1) (.int .i64 ((m:Int)+1))).run Tryz.prog w'=.ok (.pointer (some ⟨g1,o1,none⟩)) w':=fun w'=>hix1 N1 c1 w' (by have:=HR1.out;omega)
    have hwr:IntKind.i64.wrap ((m:Int)+1)=(m:Int)+1:=IntWalk.i64_in _ (by omega)
    have hlt:(m:Int) < (n:Int):=by omega
    have HS0:=halfUpto_at (f:=(asideP ax ay bx by_)) hu1 hu2
    unfold halfStep at HS0
    have hMl:M'.length≤1000000:=by have:=HLn.out;omega
    generalize hfu:(asideP ax ay bx by_) u=fu at a0 HS0
    generalize hfv:(asideP ax ay bx by_) v=fv at b0 HS0
    have HS:=Lib.hid HS0;clear HS0
    obtain ⟨ux,uy⟩:=u
    obtain ⟨vx,vy⟩:=v
    obtain ⟨⟨s_p,A_p,n_p,c_p,B_p,m_p,d_p,t_p,E_p,i_p,e_p,F_p,j_p,f_p⟩,⟨s_a,A_a,n_a,c_a,B_a,m_a,d_a⟩⟩:=P
    obtain ⟨⟨s_q,A_q,n_q,c_q,B_q,m_q,d_q,t_q,E_q,i_q,e_q,F_q,j_q,f_q⟩,⟨s_b,A_b,n_b,c_b,B_b,m_b,d_b⟩⟩:=Q
    replace p0:PR w_c s_p A_p n_p c_p B_p m_p d_p t_p E_p i_p e_p F_p j_p f_p ux uy k:=p0
    replace q0:PR w_c s_q A_q n_q c_q B_q m_q d_q t_q E_q i_q e_q F_q j_q f_q vx vy k:=q0
    replace a0:QG w_c s_a A_a n_a c_a B_a m_a d_a fu ka:=a0
    replace b0:QG w_c s_b A_b n_b c_b B_b m_b d_b fv ka:=b0
    have P0:=Lib.hid p0;have Q0:=Lib.hid q0;have A0:=Lib.hid a0;have B0:=Lib.hid b0
    obtain ⟨K1,hK1⟩:∃ K,sgnQ fu=K:=⟨_,rfl⟩
    obtain ⟨K2,hK2⟩:∃ K,sgnQ fv=K:=⟨_,rfl⟩
    have HK1:=Lib.hid hK1;have HK2:=Lib.hid hK2
    have hw12:IntKind.i64.wrap (K1*K2)=K1*K2:=by rw [← hK1,← hK2];exact sgn_mul_wrap fu fv
    have hL0:=LT;clear hP1 hP2 hu1 hu2 hix0 hix1 hmn hK1 hK2 hfu hfv p0 q0 a0 b0
    go_upto_region 6 with (fail)
    refine half6_region (by simp) rfl rfl Ep Eq hixa hixb hwr ?_
    intro V w_b gX gY X hgX hv10 Y hgY hv11 hXY hh
    simp only [putAll,Act.put,List.setIfInBounds_toArray,List.set_cons_zero,List.set_cons_succ,hv10,hv11]
    have hXo:∀ g,u7.ownBlock=some g→g ≠ gX:=fun g hg=>by have:=LT.own_lt hg;omega
    have hYo:∀ g,u7.ownBlock=some g→g ≠ gY:=fun g hg=>by have:=LT.own_lt hg;omega
    clear hv10 hv11 Ep Eq hixa hixb hL0;replace LT:=LT.below hh
    replace HQ:=Lib.hid (Each.below HQ.out hh)
    replace hB:=bend hB hh;have p:=PR.below P0.out hB;have a:=QG.below A0.out hB;have q:=PR.below Q0.out hB;have b:=QG.below B0.out hB;have x0:=X.c0;have y0:=Y.c0;have x1:=X.c1;have y1:=Y.c1;have x2:=X.c2;have y2:=Y.c2;have x3:=X.c3;have y3:=Y.c3;have x4:=X.c4;have y4:=Y.c4;have x5:=X.c5;have y5:=Y.c5;have x6:=X.c6;have y6:=Y.c6;have x7:=X.c7;have y7:=Y.c7;have x8:=X.c8;have y8:=Y.c8
    by_cases hx1:0≤fu
    · have hk1:0≤K1:=by rw [← HK1.out];exact (sgn_nn fu).2 hx1
      have HX1:=Lib.hid hx1;clear hx1
      go_upto_region 9 with (first
       | (go_at_call 29;(with_reducible refine (rsign_q a.qr (by omega) (by omega)).mono ?_);rintro e w_z ⟨rfl,hh⟩
          rw [HK1.out];(try replace p:=p.below hh);(try replace a:=a.below hh);(try replace q:=q.below hh);(try replace b:=b.below hh);(try replace LT:=LT.below hh);(try replace X:=X.below hh);(try replace Y:=Y.below hh)
          replace HQ:=Lib.hid (Each.below HQ.out hh)
          replace hB:=bend hB hh;have x0:=X.c0;have y0:=Y.c0;have x1:=X.c1;have y1:=Y.c1;have x2:=X.c2;have y2:=Y.c2;have x3:=X.c3;have y3:=Y.c3;have x4:=X.c4;have y4:=Y.c4;have x5:=X.c5;have y5:=Y.c5;have x6:=X.c6;have y6:=Y.c6;have x7:=X.c7;have y7:=Y.c7;have x8:=X.c8;have y8:=Y.c8)
       | (go_at_call 40;(with_reducible refine (afresh_p p (by omega) h1).mono ?_);rintro e w_r ⟨s_r,A_r,n_r,c_r,B_r,m_r,d_r,t_r,E_r,i_r,e_r,F_r,j_r,f_r,rfl,r,hh⟩
          (try replace p:=p.below hh);(try replace a:=a.below hh);(try replace q:=q.below hh);(try replace b:=b.below hh);(try replace LT:=LT.below hh);(try replace X:=X.below hh);(try replace Y:=Y.below hh)
          replace HQ:=Lib.hid (Each.below HQ.out hh)
          replace hB:=bend hB hh;have x0:=X.c0;have y0:=Y.c0;have x1:=X.c1;have y1:=Y.c1;have x2:=X.c2;have y2:=Y.c2;have x3:=X.c3;have y3:=Y.c3;have x4:=X.c4;have y4:=Y.c4;have x5:=X.c5;have y5:=Y.c5;have x6:=X.c6;have y6:=Y.c6;have x7:=X.c7;have y7:=Y.c7;have x8:=X.c8;have y8:=Y.c8)
       | (at_builtin
          have hal:Below w_r.heap.size w_r (w_r.alloc (Obj.cells #[Value.bool s_r,Value.slice A_r n_r c_r,Value.slice B_r m_r d_r,Value.bool t_r,Value.slice E_r i_r e_r,Value.slice F_r j_r f_r] 29)):=(Below.refl _ _).alloc (Nat.le_refl _) _
          refine wpList_push Tryz.underlying22 info_pt rfl (.tmp 35) (.tmp 39) rfl (p:=(PV.mk s_r A_r n_r c_r B_r m_r d_r t_r E_r i_r e_r F_r j_r f_r)) (k0:=1) (b:=w_r.heap.size) rfl rfl (LT.below hal) (Nat.le_trans hB.size hal.size) (by omega) (heap_alloc_new w_r _) ?_
          intro v_r w3r hnr hgr))
      have hE3:Each PV.PG (w_r.alloc (Obj.cells #[Value.bool s_r,Value.slice A_r n_r c_r,Value.slice B_r m_r d_r,Value.bool t_r,Value.slice E_r i_r e_r,Value.slice F_r j_r f_r] 29)) _ _ (k+(k+k+1+(ka+(ka+ka+1)))+1):=Each.below HQ.out hal
      have hp3:PV.PG (w_r.alloc (Obj.cells #[Value.bool s_r,Value.slice A_r n_r c_r,Value.slice B_r m_r d_r,Value.bool t_r,Value.slice E_r i_r e_r,Value.slice F_r j_r f_r] 29)) (PV.mk s_r A_r n_r c_r B_r m_r d_r t_r E_r i_r e_r F_r j_r f_r) (ux,uy) (k+(k+k+1+(ka+(ka+ka+1)))+1):=PG.more (PG.below r hal) (by omega)
      have hst:=Each.stays hE3 (LT.below hal) hgr
      replace X:=(X.below hal).push hgr hXo
      replace Y:=(Y.below hal).push hgr hYo
      replace hB:=Ln.under (LT.below hal) hgr (bend hB hal) (Nat.le_refl _)
      have HQ2:=Lib.hid (Each.push hE3 hst (hst _ _ hp3))
      clear hE3 hp3 hst r;have HLr:=Lib.hid hnr;replace LT:=hnr;clear hgr hal;replace HQ:=HQ2;clear hXo hYo hnr;replace p:=PR.below P0.out hB;replace a:=QG.below A0.out hB;replace q:=PR.below Q0.out hB;replace b:=QG.below B0.out hB
      have hMr:(M' ++ [(PV.mk s_r A_r n_r c_r B_r m_r d_r t_r E_r i_r e_r F_r j_r f_r)]).length≤1000000:=by have:=HLn.out;have:=HMN.out;rw [List.length_append];show M'.length+1≤_;omega
      replace p:=p.below (Below.refl _ _).drew
      replace a:=a.below (Below.refl _ _).drew
      replace q:=q.below (Below.refl _ _).drew
      replace b:=b.below (Below.refl _ _).drew
      replace LT:=LT.below (Below.refl _ _).drew
      replace X:=X.below (Below.refl _ _).drew
      replace Y:=Y.below (Below.refl _ _).drew
      replace HQ:=Lib.hid (Each.below HQ.out (Below.refl _ _).drew)
      replace hB:=hB.drew
      go_region_held3 (fun w'=>w'.cell? ⟨gX,6,none⟩=some (.bool s_a)∧w'.cell? ⟨gX,7,none⟩=some (.slice A_a n_a c_a)∧w'.cell? ⟨gX,8,none⟩=some (.slice B_a m_a d_a)∧w'.cell? ⟨gY,6,none⟩=some (.bool s_b)∧w'.cell? ⟨gY,7,none⟩=some (.slice A_b n_b c_b)∧w'.cell? ⟨gY,8,none⟩=some (.slice B_b m_b d_b))
       (first | with_reducible exact ⟨X.c6,X.c7,X.c8,Y.c6,Y.c7,Y.c8⟩)
       (first
        | (go_at_call 29;(with_reducible refine (rsign_q a.qr (by omega) (by omega)).mono ?_);rintro e w_z ⟨rfl,hh⟩
           rw [HK1.out];(try replace p:=p.below hh);(try replace a:=a.below hh);(try replace q:=q.below hh);(try replace b:=b.below hh);(try replace LT:=LT.below hh);(try replace X:=X.below hh);(try replace Y:=Y.below hh)
           replace HQ:=Lib.hid (Each.below HQ.out hh)
           replace hB:=bend hB hh)
        | (go_at_call 29;(with_reducible refine (rsign_q b.qr (by omega) (by omega)).mono ?_);rintro e w_z ⟨rfl,hh⟩
           rw [HK2.out];(try replace p:=p.below hh);(try replace a:=a.below hh);(try replace q:=q.below hh);(try replace b:=b.below hh);(try replace LT:=LT.below hh);(try replace X:=X.below hh);(try replace Y:=Y.below hh)
           replace HQ:=Lib.hid (Each.below HQ.out hh)
           replace hB:=bend hB hh))
      have x0:=X.c0;have y0:=Y.c0;have x1:=X.c1;have y1:=Y.c1;have x2:=X.c2;have y2:=Y.c2;have x3:=X.c3;have y3:=Y.c3;have x4:=X.c4;have y4:=Y.c4;have x5:=X.c5;have y5:=Y.c5;have x6:=X.c6;have y6:=Y.c6;have x7:=X.c7;have y7:=Y.c7;have x8:=X.c8;have y8:=Y.c8
      by_cases hx2:fu*fv < 0
      · have hk12:K1*K2 < 0:=by rw [← HK1.out,← HK2.out];exact (sgn_mul_lt fu fv).2 hx2
        have HNE:Hid (fu - fv ≠ 0):=fun e=>by
         have e2:fv=fu:=by grind
         rw [e2] at hx2
         have:=sq_nonneg fu
         grind
        have HX2:=Lib.hid hx2;clear hx2
        go_wp2_with (first
         | (go_at_call 63;(with_reducible refine (between_p p q a.qr b.qr hk6 h1 hka2 (by omega) HNE.out).mono ?_);rintro e w_t ⟨s_t,A_t,n_t,c_t,B_t,m_t,d_t,t_t,E_t,i_t,e_t,F_t,j_t,f_t,rfl,t,hh⟩
            (try replace p:=p.below hh);(try replace a:=a.below hh);(try replace q:=q.below hh);(try replace b:=b.below hh);(try replace LT:=LT.below hh);(try replace X:=X.below hh);(try replace Y:=Y.below hh)
            replace HQ:=Lib.hid (Each.below HQ.out hh)
            replace hB:=bend hB hh)
         | (at_builtin
            have hal:Below w_t.heap.size w_t (w_t.alloc (Obj.cells #[Value.bool s_t,Value.slice A_t n_t c_t,Value.slice B_t m_t d_t,Value.bool t_t,Value.slice E_t i_t e_t,Value.slice F_t j_t f_t] 29)):=(Below.refl _ _).alloc (Nat.le_refl _) _
            refine wpList_push Tryz.underlying22 info_pt rfl (.tmp 49) (.tmp 53) rfl (p:=(PV.mk s_t A_t n_t c_t B_t m_t d_t t_t E_t i_t e_t F_t j_t f_t)) (k0:=1) (b:=w_t.heap.size) rfl rfl (LT.below hal) (Nat.le_trans hB.size hal.size) (by omega) (heap_alloc_new w_t _) ?_
            intro v_t w3t hnt hgt))
        have hE3:Each PV.PG (w_t.alloc (Obj.cells #[Value.bool s_t,Value.slice A_t n_t c_t,Value.slice B_t m_t d_t,Value.bool t_t,Value.slice E_t i_t e_t,Value.slice F_t j_t f_t] 29)) _ _ (k+(k+k+1+(ka+(ka+ka+1)))+1):=Each.below HQ.out hal
        have hp3:PV.PG (w_t.alloc (Obj.cells #[Value.bool s_t,Value.slice A_t n_t c_t,Value.slice B_t m_t d_t,Value.bool t_t,Value.slice E_t i_t e_t,Value.slice F_t j_t f_t] 29)) (PV.mk s_t A_t n_t c_t B_t m_t d_t t_t E_t i_t e_t F_t j_t f_t) (mixP (ux,uy) (vx,vy) (fu / (fu - fv))) (k+(k+k+1+(ka+(ka+ka+1)))+1):=PG.below t hal
        have hst:=Each.stays hE3 (LT.below hal) hgt
        replace hB:=Ln.under (LT.below hal) hgt (bend hB hal) (Nat.le_refl _)
        have HQ3:=Lib.hid (Each.push hE3 hst (hst _ _ hp3))
        clear hE3 hp3 hst t
        go_roundg (gk - 1)
        case measure=>have:=HG.out;have:=HMN.out;omega
        case rel =>
         refine ⟨(M' ++ [(PV.mk s_r A_r n_r c_r B_r m_r d_r t_r E_r i_r e_r F_r j_r f_r)]) ++ [(PV.mk s_t A_t n_t c_t B_t m_t d_t t_t E_t i_t e_t F_t j_t f_t)],m+1,by have:=HG.out;have:=HMN.out;show _=_;omega,by go_num,?_,?_,?_,hB⟩
         · exact hnt
         · have:=HLn.out;show List.length _≤_;(try simp only [List.length_append,List.length_cons,List.length_nil]);omega
         · rw [HS.out,if_pos HX1.out,if_pos HX2.out];exact Lib.hid (by simpa [List.append_assoc] using HQ3.out)
      · have hk12:¬ K1*K2 < 0:=by rw [← HK1.out,← HK2.out];exact fun e=>hx2 ((sgn_mul_lt fu fv).1 e)
        have HX2:=Lib.hid hx2;clear hx2
        go_wp2_with fail
        go_roundg (gk - 1)
        case measure=>have:=HG.out;have:=HMN.out;omega
        case rel =>
         refine ⟨M' ++ [(PV.mk s_r A_r n_r c_r B_r m_r d_r t_r E_r i_r e_r F_r j_r f_r)],m+1,by have:=HG.out;have:=HMN.out;show _=_;omega,by go_num,?_,?_,?_,hB⟩
         · exact LT
         · have:=HLn.out;show List.length _≤_;(try simp only [List.length_append,List.length_cons,List.length_nil]);omega
         · rw [HS.out,if_pos HX1.out,if_neg HX2.out];exact Lib.hid (by simpa using HQ.out)
    · have hk1:¬ 0≤K1:=by rw [← HK1.out];exact fun e=>hx1 ((sgn_nn fu).1 e)
      have HX1:=Lib.hid hx1;clear hx1
      go_upto_region 9 with (first
       | (go_at_call 29;(with_reducible refine (rsign_q a.qr (by omega) (by omega)).mono ?_);rintro e w_z ⟨rfl,hh⟩
          rw [HK1.out];(try replace p:=p.below hh);(try replace a:=a.below hh);(try replace q:=q.below hh);(try replace b:=b.below hh);(try replace LT:=LT.below hh);(try replace X:=X.below hh);(try replace Y:=Y.below hh)
          replace HQ:=Lib.hid (Each.below HQ.out hh)
          replace hB:=bend hB hh;have x0:=X.c0;have y0:=Y.c0;have x1:=X.c1;have y1:=Y.c1;have x2:=X.c2;have y2:=Y.c2;have x3:=X.c3;have y3:=Y.c3;have x4:=X.c4;have y4:=Y.c4;have x5:=X.c5;have y5:=Y.c5;have x6:=X.c6;have y6:=Y.c6;have x7:=X.c7;have y7:=Y.c7;have x8:=X.c8;have y8:=Y.c8))
      replace p:=p.below (Below.refl _ _).drew
      replace a:=a.below (Below.refl _ _).drew
      replace q:=q.below (Below.refl _ _).drew
      replace b:=b.below (Below.refl _ _).drew
      replace LT:=LT.below (Below.refl _ _).drew
      replace X:=X.below (Below.refl _ _).drew
      replace Y:=Y.below (Below.refl _ _).drew
      replace HQ:=Lib.hid (Each.below HQ.out (Below.refl _ _).drew)
      replace hB:=hB.drew
      go_region_held3 (fun w'=>w'.cell? ⟨gX,6,none⟩=some (.bool s_a)∧w'.cell? ⟨gX,7,none⟩=some (.slice A_a n_a c_a)∧w'.cell? ⟨gX,8,none⟩=some (.slice B_a m_a d_a)∧w'.cell? ⟨gY,6,none⟩=some (.bool s_b)∧w'.cell? ⟨gY,7,none⟩=some (.slice A_b n_b c_b)∧w'.cell? ⟨gY,8,none⟩=some (.slice B_b m_b d_b))
       (first | with_reducible exact ⟨X.c6,X.c7,X.c8,Y.c6,Y.c7,Y.c8⟩)
       (first
        | (go_at_call 29;(with_reducible refine (rsign_q a.qr (by omega) (by omega)).mono ?_);rintro e w_z ⟨rfl,hh⟩
           rw [HK1.out];(try replace p:=p.below hh);(try replace a:=a.below hh);(try replace q:=q.below hh);(try replace b:=b.below hh);(try replace LT:=LT.below hh);(try replace X:=X.below hh);(try replace Y:=Y.below hh)
           replace HQ:=Lib.hid (Each.below HQ.out hh)
           replace hB:=bend hB hh)
        | (go_at_call 29;(with_reducible refine (rsign_q b.qr (by omega) (by omega)).mono ?_);rintro e w_z ⟨rfl,hh⟩
           rw [HK2.out];(try replace p:=p.below hh);(try replace a:=a.below hh);(try replace q:=q.below hh);(try replace b:=b.below hh);(try replace LT:=LT.below hh);(try replace X:=X.below hh);(try replace Y:=Y.below hh)
           replace HQ:=Lib.hid (Each.below HQ.out hh)
           replace hB:=bend hB hh))
      have x0:=X.c0;have y0:=Y.c0;have x1:=X.c1;have y1:=Y.c1;have x2:=X.c2;have y2:=Y.c2;have x3:=X.c3;have y3:=Y.c3;have x4:=X.c4;have y4:=Y.c4;have x5:=X.c5;have y5:=Y.c5;have x6:=X.c6;have y6:=Y.c6;have x7:=X.c7;have y7:=Y.c7;have x8:=X.c8;have y8:=Y.c8
      by_cases hx2:fu*fv < 0
      · have hk12:K1*K2 < 0:=by rw [← HK1.out,← HK2.out];exact (sgn_mul_lt fu fv).2 hx2
        have HNE:Hid (fu - fv ≠ 0):=fun e=>by
         have e2:fv=fu:=by grind
         rw [e2] at hx2
         have:=sq_nonneg fu
         grind
        have HX2:=Lib.hid hx2;clear hx2
        go_wp2_with (first
         | (go_at_call 63;(with_reducible refine (between_p p q a.qr b.qr hk6 h1 hka2 (by omega) HNE.out).mono ?_);rintro e w_t ⟨s_t,A_t,n_t,c_t,B_t,m_t,d_t,t_t,E_t,i_t,e_t,F_t,j_t,f_t,rfl,t,hh⟩
            (try replace p:=p.below hh);(try replace a:=a.below hh);(try replace q:=q.below hh);(try replace b:=b.below hh);(try replace LT:=LT.below hh);(try replace X:=X.below hh);(try replace Y:=Y.below hh)
            replace HQ:=Lib.hid (Each.below HQ.out hh)
            replace hB:=bend hB hh)
         | (at_builtin
            have hal:Below w_t.heap.size w_t (w_t.alloc (Obj.cells #[Value.bool s_t,Value.slice A_t n_t c_t,Value.slice B_t m_t d_t,Value.bool t_t,Value.slice E_t i_t e_t,Value.slice F_t j_t f_t] 29)):=(Below.refl _ _).alloc (Nat.le_refl _) _
            refine wpList_push Tryz.underlying22 info_pt rfl (.tmp 49) (.tmp 53) rfl (p:=(PV.mk s_t A_t n_t c_t B_t m_t d_t t_t E_t i_t e_t F_t j_t f_t)) (k0:=1) (b:=w_t.heap.size) rfl rfl (LT.below hal) (Nat.le_trans hB.size hal.size) (by omega) (heap_alloc_new w_t _) ?_
            intro v_t w3t hnt hgt))
        have hE3:Each PV.PG (w_t.alloc (Obj.cells #[Value.bool s_t,Value.slice A_t n_t c_t,Value.slice B_t m_t d_t,Value.bool t_t,Value.slice E_t i_t e_t,Value.slice F_t j_t f_t] 29)) _ _ (k+(k+k+1+(ka+(ka+ka+1)))+1):=Each.below HQ.out hal
        have hp3:PV.PG (w_t.alloc (Obj.cells #[Value.bool s_t,Value.slice A_t n_t c_t,Value.slice B_t m_t d_t,Value.bool t_t,Value.slice E_t i_t e_t,Value.slice F_t j_t f_t] 29)) (PV.mk s_t A_t n_t c_t B_t m_t d_t t_t E_t i_t e_t F_t j_t f_t) (mixP (ux,uy) (vx,vy) (fu / (fu - fv))) (k+(k+k+1+(ka+(ka+ka+1)))+1):=PG.below t hal
        have hst:=Each.stays hE3 (LT.below hal) hgt
        replace hB:=Ln.under (LT.below hal) hgt (bend hB hal) (Nat.le_refl _)
        have HQ2:=Lib.hid (Each.push hE3 hst (hst _ _ hp3))
        clear hE3 hp3 hst t
        go_roundg (gk - 1)
        case measure=>have:=HG.out;have:=HMN.out;omega
        case rel =>
         refine ⟨M' ++ [(PV.mk s_t A_t n_t c_t B_t m_t d_t t_t E_t i_t e_t F_t j_t f_t)],m+1,by have:=HG.out;have:=HMN.out;show _=_;omega,by go_num,?_,?_,?_,hB⟩
         · exact hnt
         · have:=HLn.out;show List.length _≤_;(try simp only [List.length_append,List.length_cons,List.length_nil]);omega
         · rw [HS.out,if_neg HX1.out,if_pos HX2.out];exact Lib.hid (by simpa using HQ2.out)
      · have hk12:¬ K1*K2 < 0:=by rw [← HK1.out,← HK2.out];exact fun e=>hx2 ((sgn_mul_lt fu fv).1 e)
        have HX2:=Lib.hid hx2;clear hx2
        go_wp2_with fail
        go_roundg (gk - 1)
        case measure=>have:=HG.out;have:=HMN.out;omega
        case rel =>
         refine ⟨M',m+1,by have:=HG.out;have:=HMN.out;show _=_;omega,by go_num,?_,?_,?_,hB⟩
         · exact LT
         · have:=HLn.out;show List.length _≤_;(try simp only [List.length_append,List.length_cons,List.length_nil]);omega
         · rw [HS.out,if_neg HX1.out,if_neg HX2.out];exact Lib.hid (by simpa using HQ.out)
  · have hlt:¬ (m:Int) < (n:Int):=by omega
    obtain rfl:m=n:=by have:=HG.out;omega
    clear hmn
    go_wp2_with fail
    (try rw [Exit.noGoto_ret])
    go_ret;have HQ3:=HQ.out
    unfold halfQ
    rw [HNl.out]
    exact ⟨_,M',rfl,LT.base_le hb.size,HQ3,bend hb hB⟩
end
section
open Go Go.RowKit
abbrev L_rhx:List Nat:=[37,38,39,40,41,42,43,11]
def o0_rhx:Oper:=⟨some 37,.load 45 (.tmp 5),45, "ref.go:48",#[],none⟩
def o1_rhx:Oper:=⟨some 38,.load 45 (.tmp 4),45, "ref.go:48",#[],none⟩
def o2_rhx:Oper:=⟨some 39,.call ⟨.value (.func 64),#[.tmp 37,.tmp 38],#[45,45]⟩,45, "ref.go:48",#[⟨0,.data⟩,⟨1,.data⟩],none⟩
def o3_rhx:Oper:=⟨some 40,.load 45 (.tmp 9),45, "ref.go:48",#[],none⟩
def o4_rhx:Oper:=⟨some 41,.load 45 (.tmp 4),45, "ref.go:48",#[],none⟩
def o5_rhx:Oper:=⟨some 42,.call ⟨.value (.func 64),#[.tmp 40,.tmp 41],#[45,45]⟩,45, "ref.go:48",#[⟨3,.data⟩,⟨4,.data⟩,⟨2,.chain⟩],none⟩
def o6_rhx:Oper:=⟨some 43,.call ⟨.value (.func 54),#[.tmp 39,.tmp 42],#[45,45]⟩,43, "ref.go:48",#[⟨2,.data⟩,⟨5,.data⟩,⟨5,.chain⟩],none⟩
def o7_rhx:Oper:=⟨some 11,.alloc 43,0, "ref.go:48",#[],none⟩
def o8_rhx:Oper:=⟨none,.store 43 (.tmp 11) (.tmp 43),0, "ref.go:48",#[⟨7,.data⟩,⟨6,.data⟩,⟨6,.chain⟩,⟨0,.phase⟩,⟨1,.phase⟩,⟨2,.phase⟩,⟨3,.phase⟩,⟨4,.phase⟩,⟨5,.phase⟩,⟨6,.phase⟩,⟨7,.phase⟩],none⟩
def F_rhx (s_p:Bool) (t_p:Bool) (A_p:Option Addr) (B_p:Option Addr) (E_p:Option Addr) (F_p:Option Addr) (n_p:Nat) (c_p:Nat) (m_p:Nat) (d_p:Nat) (i_p:Nat) (e_p:Nat) (j_p:Nat) (f_p:Nat) (s_a:Bool) (t_a:Bool) (A_a:Option Addr) (B_a:Option Addr) (E_a:Option Addr) (F_a:Option Addr) (n_a:Nat) (c_a:Nat) (m_a:Nat) (d_a:Nat) (i_a:Nat) (e_a:Nat) (j_a:Nat) (f_a:Nat) (s_b:Bool) (t_b:Bool) (A_b:Option Addr) (B_b:Option Addr) (E_b:Option Addr) (F_b:Option Addr) (n_b:Nat) (c_b:Nat) (m_b:Nat) (d_b:Nat) (i_b:Nat) (e_b:Nat) (j_b:Nat) (f_b:Nat) (ax:Rat) (ay:Rat) (bx:Rat) (by_:Rat) (px:Rat) (py:Rat) (k:Nat) (k2:Nat) (sl:Nat):Value→World→Prop :=
 match sl with
 | 37=>fun x _=>x=Value.agg #[.bool s_b,.slice A_b n_b c_b,.slice B_b m_b d_b,.bool t_b,.slice E_b i_b e_b,.slice F_b j_b f_b]
 | 38=>fun x _=>x=Value.agg #[.bool s_a,.slice A_a n_a c_a,.slice B_a m_a d_a,.bool t_a,.slice E_a i_a e_a,.slice F_a j_a f_a]
 | 39=>VRP (bx - ax) (by_ - ay) (k2+k2+1)
 | 40=>fun x _=>x=Value.agg #[.bool s_p,.slice A_p n_p c_p,.slice B_p m_p d_p,.bool t_p,.slice E_p i_p e_p,.slice F_p j_p f_p]
 | 41=>fun x _=>x=Value.agg #[.bool s_a,.slice A_a n_a c_a,.slice B_a m_a d_a,.bool t_a,.slice E_a i_a e_a,.slice F_a j_a f_a]
 | 42=>VRP (px - ax) (py - ay) (k+k2+1)
 | 43=>VRQ (((bx - ax)*(py - ay) - (by_ - ay)*(px - ax))) ((k2+k2+1+(k+k2+1)+(k2+k2+1+(k+k2+1))+1))
 | _=>fun _ _=>True
def B0_rhx (ax:Rat) (ay:Rat) (bx:Rat) (by_:Rat) (px:Rat) (py:Rat) (k:Nat) (k2:Nat):BoxOp :=
 ⟨7,8,11,43,#[.bool false,.slice none 0 0,.slice none 0 0],fun cs w=>∃ s A n c B m d,cs=#[.bool s,.slice A n c,.slice B m d]∧RQ w s A n c B m d (((bx - ax)*(py - ay) - (by_ - ay)*(px - ax))) ((k2+k2+1+(k+k2+1)+(k2+k2+1+(k+k2+1))+1))⟩
theorem rhx_region {id:Nat} {ac:Act} {Q:Exit→Act→World→Prop} {ax ay bx by_ px py:Rat} {k k2 ga gb gp:Nat}
 (hsz:43 < ac.tmps.size) (e4:ac.eval (.tmp 4)=Value.pointer (some ⟨ga,0,none⟩)) (e5:ac.eval (.tmp 5)=Value.pointer (some ⟨gb,0,none⟩)) (e9:ac.eval (.tmp 9)=Value.pointer (some ⟨gp,0,none⟩)) (XA:B6R w ga (.bool s_a) (.slice A_a n_a c_a) (.slice B_a m_a d_a) (.bool t_a) (.slice E_a i_a e_a) (.slice F_a j_a f_a)) (XB:B6R w gb (.bool s_b) (.slice A_b n_b c_b) (.slice B_b m_b d_b) (.bool t_b) (.slice E_b i_b e_b) (.slice F_b j_b f_b)) (XP:B6R w gp (.bool s_p) (.slice A_p n_p c_p) (.slice B_p m_p d_p) (.bool t_p) (.slice E_p i_p e_p) (.slice F_p j_p f_p)) (a:RP w s_a A_a n_a c_a B_a m_a d_a t_a E_a i_a e_a F_a j_a f_a ax ay k2) (b:RP w s_b A_b n_b c_b B_b m_b d_b t_b E_b i_b e_b F_b j_b f_b bx by_ k2) (p:RP w s_p A_p n_p c_p B_p m_p d_p t_p E_p i_p e_p F_p j_p f_p px py k) (hk:k≤100) (hk2:k2≤100)
 (hend:∀ (V:Nat→Value) (w':World) (g0:Nat) (s0:Bool) (A0:Option Addr) (n0:Nat) (c0:Nat) (B0:Option Addr) (m0:Nat) (d0:Nat),RQ w' s0 A0 n0 c0 B0 m0 d0 (((bx - ax)*(py - ay) - (by_ - ay)*(px - ax))) ((k2+k2+1+(k+k2+1)+(k2+k2+1+(k+k2+1))+1))→B3R w' g0 (.bool s0) (.slice A0 n0 c0) (.slice B0 m0 d0)→w.heap.size≤g0→V 11=.pointer (some ⟨g0,0,none⟩)→Below w.heap.size w w'→Q .normal (putAll ac [37,38,39,40,41,42,43,11] V) w') :
 (Code.region id #[o0_rhx,o1_rhx,o2_rhx,o3_rhx,o4_rhx,o5_rhx,o6_rhx,o7_rhx,o8_rhx] true).wp Tryz.prog Q ac w:=by
 have hnd:L_rhx.Nodup:=by decide
 have G:∀ (sv:Nat→Value) (t:Nat),t ∈ L_rhx→t≤43→(putAll ac L_rhx sv).eval (.tmp t)=sv t:=fun sv t ht h=>eval_putAll_mem (t:=t) L_rhx ac hnd ht (Nat.lt_of_le_of_lt h hsz)
 have E4:∀ sv:Nat→Value,(putAll ac L_rhx sv).eval (.tmp 4)=Value.pointer (some ⟨ga,0,none⟩):=fun sv=>(eval_putAll_not (v:=sv) L_rhx ac (show 4 ∉ _ by decide)).trans e4
 have E5:∀ sv:Nat→Value,(putAll ac L_rhx sv).eval (.tmp 5)=Value.pointer (some ⟨gb,0,none⟩):=fun sv=>(eval_putAll_not (v:=sv) L_rhx ac (show 5 ∉ _ by decide)).trans e5
 have E9:∀ sv:Nat→Value,(putAll ac L_rhx sv).eval (.tmp 9)=Value.pointer (some ⟨gp,0,none⟩):=fun sv=>(eval_putAll_not (v:=sv) L_rhx ac (show 9 ∉ _ by decide)).trans e9
 have NE:∀ t:Nat,(t ≠ 11)→∀ p ∈ [B0_rhx ax ay bx by_ px py k k2],t ≠ p.tA:=by
  intro t ht p hp
  simp only [List.mem_cons,List.not_mem_nil,or_false] at hp
  rcases hp with rfl
  · exact ht
 refine wp_region_flows L_rhx [B0_rhx ax ay bx by_ px py k k2] (F_rhx s_p t_p A_p B_p E_p F_p n_p c_p m_p d_p i_p e_p j_p f_p s_a t_a A_a B_a E_a F_a n_a c_a m_a d_a i_a e_a j_a f_a s_b t_b A_b B_b E_b F_b n_b c_b m_b d_b i_b e_b j_b f_b ax ay bx by_ px py k k2) (by kernel_rfl) (by kernel_rfl) rfl hnd ?_ ?_ ?_ ?_ ?_ ?_ ?_ ?_
 · intro p hp
   simp only [List.mem_cons,List.not_mem_nil,or_false] at hp
   rcases hp with rfl
   · refine ⟨⟨o7_rhx,rfl,rfl,rfl,fun e w'=>run_alloc3⟩,⟨o8_rhx,rfl,rfl,rfl,⟨7,.data⟩,by simp [o8_rhx],rfl,rfl⟩,free3 _ _ _ _ _ _ _,?_,?_⟩
     · rintro cs w1 w2 ⟨s_,A_,n_,c_,B_,m_,d_,rfl,h⟩ hb;exact ⟨s_,A_,n_,c_,B_,m_,d_,rfl,h.below hb⟩
     · rintro T cs w1 w2 g c0 ⟨s_,A_,n_,c_,B_,m_,d_,rfl,h⟩ hB ho;exact ⟨s_,A_,n_,c_,B_,m_,d_,rfl,h.box hB ho⟩
 · intro p hp q hq h
   simp only [List.mem_cons,List.not_mem_nil,or_false] at hp hq
   rcases hp with rfl <;> rcases hq with rfl
   · rfl
 · intro p hp q hq h
   simp only [List.mem_cons,List.not_mem_nil,or_false] at hp hq
   rcases hp with rfl <;> rcases hq with rfl
   · rfl
 · intro i o h1 h2
   match i,h1 with
   | 0,h1=>cases h1;cases h2
   | 1,h1=>cases h1;cases h2
   | 2,h1=>cases h1;cases h2
   | 3,h1=>cases h1;cases h2
   | 4,h1=>cases h1;cases h2
   | 5,h1=>cases h1;cases h2
   | 6,h1=>cases h1;cases h2
   | 7,h1=>cases h1;cases h2
   | 8,h1=>exact ⟨B0_rhx ax ay bx by_ px py k k2,List.Mem.head _,rfl⟩
   | i+9,h1=>cases h1
 · intro t
   unfold F_rhx
   split <;> first | exact stays_eq _ | exact stays_q _ _ | exact stays_z _ _ | exact stays_r _ _ | exact stays_rq _ _ | exact stays_pg _ _ _ | exact stays_rp _ _ _ | exact stays_true
 · intro i o t sv w' ho hia hd J0 hf
   have p:=p.below J0;have a:=a.below J0;have b:=b.below J0;have XA:=XA.below J0;have XB:=XB.below J0;have XP:=XP.below J0
   match i,ho with
   | 0,ho =>
     obtain rfl:o0_rhx=o:=Option.some.inj ho
     cases hd
     refine wpOp_plain' (o:=o0_rhx) rfl rfl ?_
     unfold Oper.wp o0_rhx
     rw [run_load7 (E5 sv) XB.c0 XB.c1 XB.c2 XB.c3 XB.c4 XB.c5,Oper.upon_value]
     exact ⟨_,rfl,Below.refl _ _,rfl⟩
   | 1,ho =>
     obtain rfl:o1_rhx=o:=Option.some.inj ho
     cases hd
     refine wpOp_plain' (o:=o1_rhx) rfl rfl ?_
     unfold Oper.wp o1_rhx
     rw [run_load7 (E4 sv) XA.c0 XA.c1 XA.c2 XA.c3 XA.c4 XA.c5,Oper.upon_value]
     exact ⟨_,rfl,Below.refl _ _,rfl⟩
   | 2,ho =>
     obtain rfl:o2_rhx=o:=Option.some.inj ho
     cases hd
     have f37:sv 37=Value.agg #[.bool s_b,.slice A_b n_b c_b,.slice B_b m_b d_b,.bool t_b,.slice E_b i_b e_b,.slice F_b j_b f_b]:=hf ⟨0,.data⟩ (by simp [o2_rhx]) rfl _ 37 rfl rfl (NE _ (by decide))
     have f38:sv 38=Value.agg #[.bool s_a,.slice A_a n_a c_a,.slice B_a m_a d_a,.bool t_a,.slice E_a i_a e_a,.slice F_a j_a f_a]:=hf ⟨1,.data⟩ (by simp [o2_rhx]) rfl _ 38 rfl rfl (NE _ (by decide))
     refine wpOp_plain' (o:=o2_rhx) rfl rfl ?_
     unfold Oper.wp o2_rhx
     rw [rc_gesso_gessoref06_Sub ((G sv 37 (by decide) (by decide)).trans f37) ((G sv 38 (by decide) (by decide)).trans f38) rfl,Oper.upon_enter]
     refine (rsub6 b a (by omega) (by omega)).mono ?_
     rintro e w1 ⟨s_,A_,n_,c_,B_,m_,d_,t_,E_,i_,e_,F_,j_,f_,rfl,hq,hh⟩
     exact ⟨_,rfl,hh,s_,A_,n_,c_,B_,m_,d_,t_,E_,i_,e_,F_,j_,f_,rfl,hq⟩
   | 3,ho =>
     obtain rfl:o3_rhx=o:=Option.some.inj ho
     cases hd
     refine wpOp_plain' (o:=o3_rhx) rfl rfl ?_
     unfold Oper.wp o3_rhx
     rw [run_load7 (E9 sv) XP.c0 XP.c1 XP.c2 XP.c3 XP.c4 XP.c5,Oper.upon_value]
     exact ⟨_,rfl,Below.refl _ _,rfl⟩
   | 4,ho =>
     obtain rfl:o4_rhx=o:=Option.some.inj ho
     cases hd
     refine wpOp_plain' (o:=o4_rhx) rfl rfl ?_
     unfold Oper.wp o4_rhx
     rw [run_load7 (E4 sv) XA.c0 XA.c1 XA.c2 XA.c3 XA.c4 XA.c5,Oper.upon_value]
     exact ⟨_,rfl,Below.refl _ _,rfl⟩
   | 5,ho =>
     obtain rfl:o5_rhx=o:=Option.some.inj ho
     cases hd
     have f40:sv 40=Value.agg #[.bool s_p,.slice A_p n_p c_p,.slice B_p m_p d_p,.bool t_p,.slice E_p i_p e_p,.slice F_p j_p f_p]:=hf ⟨3,.data⟩ (by simp [o5_rhx]) rfl _ 40 rfl rfl (NE _ (by decide))
     have f41:sv 41=Value.agg #[.bool s_a,.slice A_a n_a c_a,.slice B_a m_a d_a,.bool t_a,.slice E_a i_a e_a,.slice F_a j_a f_a]:=hf ⟨4,.data⟩ (by simp [o5_rhx]) rfl _ 41 rfl rfl (NE _ (by decide))
     refine wpOp_plain' (o:=o5_rhx) rfl rfl ?_
     unfold Oper.wp o5_rhx
     rw [rc_gesso_gessoref06_Sub ((G sv 40 (by decide) (by decide)).trans f40) ((G sv 41 (by decide) (by decide)).trans f41) rfl,Oper.upon_enter]
     refine (rsub6 p a (by omega) (by omega)).mono ?_
     rintro e w1 ⟨s_,A_,n_,c_,B_,m_,d_,t_,E_,i_,e_,F_,j_,f_,rfl,hq,hh⟩
     exact ⟨_,rfl,hh,s_,A_,n_,c_,B_,m_,d_,t_,E_,i_,e_,F_,j_,f_,rfl,hq⟩
   | 6,ho =>
     obtain rfl:o6_rhx=o:=Option.some.inj ho
     cases hd
     have h39:VRP (bx - ax) (by_ - ay) (k2+k2+1) (sv 39) w':=hf ⟨2,.data⟩ (by simp [o6_rhx]) rfl _ 39 rfl rfl (NE _ (by decide))
     obtain ⟨s39_,A39_,n39_,c39_,B39_,m39_,d39_,t39_,E39_,i39_,e39_,F39_,j39_,f39_,f39,q39⟩:=h39
     have h42:VRP (px - ax) (py - ay) (k+k2+1) (sv 42) w':=hf ⟨5,.data⟩ (by simp [o6_rhx]) rfl _ 42 rfl rfl (NE _ (by decide))
     obtain ⟨s42_,A42_,n42_,c42_,B42_,m42_,d42_,t42_,E42_,i42_,e42_,F42_,j42_,f42_,f42,q42⟩:=h42
     refine wpOp_plain' (o:=o6_rhx) rfl rfl ?_
     unfold Oper.wp o6_rhx
     rw [rc_gesso_gessoref06_Cross ((G sv 39 (by decide) (by decide)).trans f39) ((G sv 42 (by decide) (by decide)).trans f42) rfl,Oper.upon_enter]
     refine (rcross6 q39 q42 (by omega) (by omega)).mono ?_
     rintro e w1 ⟨s_,A_,n_,c_,B_,m_,d_,rfl,hq,hh⟩
     exact ⟨_,rfl,hh,s_,A_,n_,c_,B_,m_,d_,rfl,hq⟩
   | 7,ho=>cases ho;cases hd;exact absurd rfl (hia (B0_rhx ax ay bx by_ px py k k2) (List.Mem.head _))
   | 8,ho=>cases ho;cases hd
   | i+9,ho=>cases ho
 · intro p hp os sv w' g hos J0 p1 p3 hf
   simp only [List.mem_cons,List.not_mem_nil,or_false] at hp
   rcases hp with rfl
   · obtain rfl:o8_rhx=os:=Option.some.inj hos
     have h1:VRQ (((bx - ax)*(py - ay) - (by_ - ay)*(px - ax))) ((k2+k2+1+(k+k2+1)+(k2+k2+1+(k+k2+1))+1)) (sv 43) w':=hf ⟨6,.data⟩ (by simp [o8_rhx]) rfl _ 43 rfl rfl (NE _ (by decide))
     rw [← G sv 43 (by decide) (by decide)] at h1
     refine store_rq (V:=((bx - ax)*(py - ay) - (by_ - ay)*(px - ax))) (k:=(k2+k2+1+(k+k2+1)+(k2+k2+1+(k+k2+1))+1)) (ac:=putAll ac L_rhx sv) (z:=.tmp 43) ?_ ?_ ?_
     · exact (G sv 11 (by decide) (by decide)).trans p1
     · exact h1
     · exact p3
 · intro sv w' J0 hF hB hap
   obtain ⟨g0,cs0,p0,r0,b0,⟨s0,A0,n0,c0,B0,m0,d0,rfl,h0⟩⟩:=hB (B0_rhx ax ay bx by_ px py k k2) (List.Mem.head _)
   have p0':sv 11=.pointer (some ⟨g0,0,none⟩):=p0
   exact hend sv w' g0 _ _ _ _ _ _ _ h0 b0.at_ r0 p0'  J0
abbrev L_rhy:List Nat:=[44,45,46,47,48,49,50,12]
def o0_rhy:Oper:=⟨some 44,.load 45 (.tmp 5),45, "ref.go:49",#[],none⟩
def o1_rhy:Oper:=⟨some 45,.load 45 (.tmp 4),45, "ref.go:49",#[],none⟩
def o2_rhy:Oper:=⟨some 46,.call ⟨.value (.func 64),#[.tmp 44,.tmp 45],#[45,45]⟩,45, "ref.go:49",#[⟨0,.data⟩,⟨1,.data⟩],none⟩
def o3_rhy:Oper:=⟨some 47,.load 45 (.tmp 10),45, "ref.go:49",#[],none⟩
def o4_rhy:Oper:=⟨some 48,.load 45 (.tmp 4),45, "ref.go:49",#[],none⟩
def o5_rhy:Oper:=⟨some 49,.call ⟨.value (.func 64),#[.tmp 47,.tmp 48],#[45,45]⟩,45, "ref.go:49",#[⟨3,.data⟩,⟨4,.data⟩,⟨2,.chain⟩],none⟩
def o6_rhy:Oper:=⟨some 50,.call ⟨.value (.func 54),#[.tmp 46,.tmp 49],#[45,45]⟩,43, "ref.go:49",#[⟨2,.data⟩,⟨5,.data⟩,⟨5,.chain⟩],none⟩
def o7_rhy:Oper:=⟨some 12,.alloc 43,0, "ref.go:49",#[],none⟩
def o8_rhy:Oper:=⟨none,.store 43 (.tmp 12) (.tmp 50),0, "ref.go:49",#[⟨7,.data⟩,⟨6,.data⟩,⟨6,.chain⟩,⟨0,.phase⟩,⟨1,.phase⟩,⟨2,.phase⟩,⟨3,.phase⟩,⟨4,.phase⟩,⟨5,.phase⟩,⟨6,.phase⟩,⟨7,.phase⟩],none⟩
def F_rhy (s_p:Bool) (t_p:Bool) (A_p:Option Addr) (B_p:Option Addr) (E_p:Option Addr) (F_p:Option Addr) (n_p:Nat) (c_p:Nat) (m_p:Nat) (d_p:Nat) (i_p:Nat) (e_p:Nat) (j_p:Nat) (f_p:Nat) (s_a:Bool) (t_a:Bool) (A_a:Option Addr) (B_a:Option Addr) (E_a:Option Addr) (F_a:Option Addr) (n_a:Nat) (c_a:Nat) (m_a:Nat) (d_a:Nat) (i_a:Nat) (e_a:Nat) (j_a:Nat) (f_a:Nat) (s_b:Bool) (t_b:Bool) (A_b:Option Addr) (B_b:Option Addr) (E_b:Option Addr) (F_b:Option Addr) (n_b:Nat) (c_b:Nat) (m_b:Nat) (d_b:Nat) (i_b:Nat) (e_b:Nat) (j_b:Nat) (f_b:Nat) (ax:Rat) (ay:Rat) (bx:Rat) (by_:Rat) (px:Rat) (py:Rat) (k:Nat) (k2:Nat) (sl:Nat):Value→World→Prop :=
 match sl with
 | 44=>fun x _=>x=Value.agg #[.bool s_b,.slice A_b n_b c_b,.slice B_b m_b d_b,.bool t_b,.slice E_b i_b e_b,.slice F_b j_b f_b]
 | 45=>fun x _=>x=Value.agg #[.bool s_a,.slice A_a n_a c_a,.slice B_a m_a d_a,.bool t_a,.slice E_a i_a e_a,.slice F_a j_a f_a]
 | 46=>VRP (bx - ax) (by_ - ay) (k2+k2+1)
 | 47=>fun x _=>x=Value.agg #[.bool s_p,.slice A_p n_p c_p,.slice B_p m_p d_p,.bool t_p,.slice E_p i_p e_p,.slice F_p j_p f_p]
 | 48=>fun x _=>x=Value.agg #[.bool s_a,.slice A_a n_a c_a,.slice B_a m_a d_a,.bool t_a,.slice E_a i_a e_a,.slice F_a j_a f_a]
 | 49=>VRP (px - ax) (py - ay) (k+k2+1)
 | 50=>VRQ (((bx - ax)*(py - ay) - (by_ - ay)*(px - ax))) ((k2+k2+1+(k+k2+1)+(k2+k2+1+(k+k2+1))+1))
 | _=>fun _ _=>True
def B0_rhy (ax:Rat) (ay:Rat) (bx:Rat) (by_:Rat) (px:Rat) (py:Rat) (k:Nat) (k2:Nat):BoxOp :=
 ⟨7,8,12,43,#[.bool false,.slice none 0 0,.slice none 0 0],fun cs w=>∃ s A n c B m d,cs=#[.bool s,.slice A n c,.slice B m d]∧RQ w s A n c B m d (((bx - ax)*(py - ay) - (by_ - ay)*(px - ax))) ((k2+k2+1+(k+k2+1)+(k2+k2+1+(k+k2+1))+1))⟩
theorem rhy_region {id:Nat} {ac:Act} {Q:Exit→Act→World→Prop} {ax ay bx by_ px py:Rat} {k k2 ga gb gp:Nat}
 (hsz:50 < ac.tmps.size) (e4:ac.eval (.tmp 4)=Value.pointer (some ⟨ga,0,none⟩)) (e5:ac.eval (.tmp 5)=Value.pointer (some ⟨gb,0,none⟩)) (e10:ac.eval (.tmp 10)=Value.pointer (some ⟨gp,0,none⟩)) (XA:B6R w ga (.bool s_a) (.slice A_a n_a c_a) (.slice B_a m_a d_a) (.bool t_a) (.slice E_a i_a e_a) (.slice F_a j_a f_a)) (XB:B6R w gb (.bool s_b) (.slice A_b n_b c_b) (.slice B_b m_b d_b) (.bool t_b) (.slice E_b i_b e_b) (.slice F_b j_b f_b)) (XP:B6R w gp (.bool s_p) (.slice A_p n_p c_p) (.slice B_p m_p d_p) (.bool t_p) (.slice E_p i_p e_p) (.slice F_p j_p f_p)) (a:RP w s_a A_a n_a c_a B_a m_a d_a t_a E_a i_a e_a F_a j_a f_a ax ay k2) (b:RP w s_b A_b n_b c_b B_b m_b d_b t_b E_b i_b e_b F_b j_b f_b bx by_ k2) (p:RP w s_p A_p n_p c_p B_p m_p d_p t_p E_p i_p e_p F_p j_p f_p px py k) (hk:k≤100) (hk2:k2≤100)
 (hend:∀ (V:Nat→Value) (w':World) (g0:Nat) (s0:Bool) (A0:Option Addr) (n0:Nat) (c0:Nat) (B0:Option Addr) (m0:Nat) (d0:Nat),RQ w' s0 A0 n0 c0 B0 m0 d0 (((bx - ax)*(py - ay) - (by_ - ay)*(px - ax))) ((k2+k2+1+(k+k2+1)+(k2+k2+1+(k+k2+1))+1))→B3R w' g0 (.bool s0) (.slice A0 n0 c0) (.slice B0 m0 d0)→w.heap.size≤g0→V 12=.pointer (some ⟨g0,0,none⟩)→Below w.heap.size w w'→Q .normal (putAll ac [44,45,46,47,48,49,50,12] V) w') :
 (Code.region id #[o0_rhy,o1_rhy,o2_rhy,o3_rhy,o4_rhy,o5_rhy,o6_rhy,o7_rhy,o8_rhy] true).wp Tryz.prog Q ac w:=by
 have hnd:L_rhy.Nodup:=by decide
 have G:∀ (sv:Nat→Value) (t:Nat),t ∈ L_rhy→t≤50→(putAll ac L_rhy sv).eval (.tmp t)=sv t:=fun sv t ht h=>eval_putAll_mem (t:=t) L_rhy ac hnd ht (Nat.lt_of_le_of_lt h hsz)
 have E4:∀ sv:Nat→Value,(putAll ac L_rhy sv).eval (.tmp 4)=Value.pointer (some ⟨ga,0,none⟩):=fun sv=>(eval_putAll_not (v:=sv) L_rhy ac (show 4 ∉ _ by decide)).trans e4
 have E5:∀ sv:Nat→Value,(putAll ac L_rhy sv).eval (.tmp 5)=Value.pointer (some ⟨gb,0,none⟩):=fun sv=>(eval_putAll_not (v:=sv) L_rhy ac (show 5 ∉ _ by decide)).trans e5
 have E10:∀ sv:Nat→Value,(putAll ac L_rhy sv).eval (.tmp 10)=Value.pointer (some ⟨gp,0,none⟩):=fun sv=>(eval_putAll_not (v:=sv) L_rhy ac (show 10 ∉ _ by decide)).trans e10
 have NE:∀ t:Nat,(t ≠ 12)→∀ p ∈ [B0_rhy ax ay bx by_ px py k k2],t ≠ p.tA:=by
  intro t ht p hp
  simp only [List.mem_cons,List.not_mem_nil,or_false] at hp
  rcases hp with rfl
  · exact ht
 refine wp_region_flows L_rhy [B0_rhy ax ay bx by_ px py k k2] (F_rhy s_p t_p A_p B_p E_p F_p n_p c_p m_p d_p i_p e_p j_p f_p s_a t_a A_a B_a E_a F_a n_a c_a m_a d_a i_a e_a j_a f_a s_b t_b A_b B_b E_b F_b n_b c_b m_b d_b i_b e_b j_b f_b ax ay bx by_ px py k k2) (by kernel_rfl) (by kernel_rfl) rfl hnd ?_ ?_ ?_ ?_ ?_ ?_ ?_ ?_
 · intro p hp
   simp only [List.mem_cons,List.not_mem_nil,or_false] at hp
   rcases hp with rfl
   · refine ⟨⟨o7_rhy,rfl,rfl,rfl,fun e w'=>run_alloc3⟩,⟨o8_rhy,rfl,rfl,rfl,⟨7,.data⟩,by simp [o8_rhy],rfl,rfl⟩,free3 _ _ _ _ _ _ _,?_,?_⟩
     · rintro cs w1 w2 ⟨s_,A_,n_,c_,B_,m_,d_,rfl,h⟩ hb;exact ⟨s_,A_,n_,c_,B_,m_,d_,rfl,h.below hb⟩
     · rintro T cs w1 w2 g c0 ⟨s_,A_,n_,c_,B_,m_,d_,rfl,h⟩ hB ho;exact ⟨s_,A_,n_,c_,B_,m_,d_,rfl,h.box hB ho⟩
 · intro p hp q hq h
   simp only [List.mem_cons,List.not_mem_nil,or_false] at hp hq
   rcases hp with rfl <;> rcases hq with rfl
   · rfl
 · intro p hp q hq h
   simp only [List.mem_cons,List.not_mem_nil,or_false] at hp hq
   rcases hp with rfl <;> rcases hq with rfl
   · rfl
 · intro i o h1 h2
   match i,h1 with
   | 0,h1=>cases h1;cases h2
   | 1,h1=>cases h1;cases h2
   | 2,h1=>cases h1;cases h2
   | 3,h1=>cases h1;cases h2
   | 4,h1=>cases h1;cases h2
   | 5,h1=>cases h1;cases h2
   | 6,h1=>cases h1;cases h2
   | 7,h1=>cases h1;cases h2
   | 8,h1=>exact ⟨B0_rhy ax ay bx by_ px py k k2,List.Mem.head _,rfl⟩
   | i+9,h1=>cases h1
 · intro t
   unfold F_rhy
   split <;> first | exact stays_eq _ | exact stays_q _ _ | exact stays_z _ _ | exact stays_r _ _ | exact stays_rq _ _ | exact stays_pg _ _ _ | exact stays_rp _ _ _ | exact stays_true
 · intro i o t sv w' ho hia hd J0 hf
   have p:=p.below J0;have a:=a.below J0;have b:=b.below J0;have XA:=XA.below J0;have XB:=XB.below J0;have XP:=XP.below J0
   match i,ho with
   | 0,ho =>
     obtain rfl:o0_rhy=o:=Option.some.inj ho
     cases hd
     refine wpOp_plain' (o:=o0_rhy) rfl rfl ?_
     unfold Oper.wp o0_rhy
     rw [run_load7 (E5 sv) XB.c0 XB.c1 XB.c2 XB.c3 XB.c4 XB.c5,Oper.upon_value]
     exact ⟨_,rfl,Below.refl _ _,rfl⟩
   | 1,ho =>
     obtain rfl:o1_rhy=o:=Option.some.inj ho
     cases hd
     refine wpOp_plain' (o:=o1_rhy) rfl rfl ?_
     unfold Oper.wp o1_rhy
     rw [run_load7 (E4 sv) XA.c0 XA.c1 XA.c2 XA.c3 XA.c4 XA.c5,Oper.upon_value]
     exact ⟨_,rfl,Below.refl _ _,rfl⟩
   | 2,ho =>
     obtain rfl:o2_rhy=o:=Option.some.inj ho
     cases hd
     have f44:sv 44=Value.agg #[.bool s_b,.slice A_b n_b c_b,.slice B_b m_b d_b,.bool t_b,.slice E_b i_b e_b,.slice F_b j_b f_b]:=hf ⟨0,.data⟩ (by simp [o2_rhy]) rfl _ 44 rfl rfl (NE _ (by decide))
     have f45:sv 45=Value.agg #[.bool s_a,.slice A_a n_a c_a,.slice B_a m_a d_a,.bool t_a,.slice E_a i_a e_a,.slice F_a j_a f_a]:=hf ⟨1,.data⟩ (by simp [o2_rhy]) rfl _ 45 rfl rfl (NE _ (by decide))
     refine wpOp_plain' (o:=o2_rhy) rfl rfl ?_
     unfold Oper.wp o2_rhy
     rw [rc_gesso_gessoref06_Sub ((G sv 44 (by decide) (by decide)).trans f44) ((G sv 45 (by decide) (by decide)).trans f45) rfl,Oper.upon_enter]
     refine (rsub6 b a (by omega) (by omega)).mono ?_
     rintro e w1 ⟨s_,A_,n_,c_,B_,m_,d_,t_,E_,i_,e_,F_,j_,f_,rfl,hq,hh⟩
     exact ⟨_,rfl,hh,s_,A_,n_,c_,B_,m_,d_,t_,E_,i_,e_,F_,j_,f_,rfl,hq⟩
   | 3,ho =>
     obtain rfl:o3_rhy=o:=Option.some.inj ho
     cases hd
     refine wpOp_plain' (o:=o3_rhy) rfl rfl ?_
     unfold Oper.wp o3_rhy
     rw [run_load7 (E10 sv) XP.c0 XP.c1 XP.c2 XP.c3 XP.c4 XP.c5,Oper.upon_value]
     exact ⟨_,rfl,Below.refl _ _,rfl⟩
   | 4,ho =>
     obtain rfl:o4_rhy=o:=Option.some.inj ho
     cases hd
     refine wpOp_plain' (o:=o4_rhy) rfl rfl ?_
     unfold Oper.wp o4_rhy
     rw [run_load7 (E4 sv) XA.c0 XA.c1 XA.c2 XA.c3 XA.c4 XA.c5,Oper.upon_value]
     exact ⟨_,rfl,Below.refl _ _,rfl⟩
   | 5,ho =>
     obtain rfl:o5_rhy=o:=Option.some.inj ho
     cases hd
     have f47:sv 47=Value.agg #[.bool s_p,.slice A_p n_p c_p,.slice B_p m_p d_p,.bool t_p,.slice E_p i_p e_p,.slice F_p j_p f_p]:=hf ⟨3,.data⟩ (by simp [o5_rhy]) rfl _ 47 rfl rfl (NE _ (by decide))
     have f48:sv 48=Value.agg #[.bool s_a,.slice A_a n_a c_a,.slice B_a m_a d_a,.bool t_a,.slice E_a i_a e_a,.slice F_a j_a f_a]:=hf ⟨4,.data⟩ (by simp [o5_rhy]) rfl _ 48 rfl rfl (NE _ (by decide))
     refine wpOp_plain' (o:=o5_rhy) rfl rfl ?_
     unfold Oper.wp o5_rhy
     rw [rc_gesso_gessoref06_Sub ((G sv 47 (by decide) (by decide)).trans f47) ((G sv 48 (by decide) (by decide)).trans f48) rfl,Oper.upon_enter]
     refine (rsub6 p a (by omega) (by omega)).mono ?_
     rintro e w1 ⟨s_,A_,n_,c_,B_,m_,d_,t_,E_,i_,e_,F_,j_,f_,rfl,hq,hh⟩
     exact ⟨_,rfl,hh,s_,A_,n_,c_,B_,m_,d_,t_,E_,i_,e_,F_,j_,f_,rfl,hq⟩
   | 6,ho =>
     obtain rfl:o6_rhy=o:=Option.some.inj ho
     cases hd
     have h46:VRP (bx - ax) (by_ - ay) (k2+k2+1) (sv 46) w':=hf ⟨2,.data⟩ (by simp [o6_rhy]) rfl _ 46 rfl rfl (NE _ (by decide))
     obtain ⟨s46_,A46_,n46_,c46_,B46_,m46_,d46_,t46_,E46_,i46_,e46_,F46_,j46_,f46_,f46,q46⟩:=h46
     have h49:VRP (px - ax) (py - ay) (k+k2+1) (sv 49) w':=hf ⟨5,.data⟩ (by simp [o6_rhy]) rfl _ 49 rfl rfl (NE _ (by decide))
     obtain ⟨s49_,A49_,n49_,c49_,B49_,m49_,d49_,t49_,E49_,i49_,e49_,F49_,j49_,f49_,f49,q49⟩:=h49
     refine wpOp_plain' (o:=o6_rhy) rfl rfl ?_
     unfold Oper.wp o6_rhy
     rw [rc_gesso_gessoref06_Cross ((G sv 46 (by decide) (by decide)).trans f46) ((G sv 49 (by decide) (by decide)).trans f49) rfl,Oper.upon_enter]
     refine (rcross6 q46 q49 (by omega) (by omega)).mono ?_
     rintro e w1 ⟨s_,A_,n_,c_,B_,m_,d_,rfl,hq,hh⟩
     exact ⟨_,rfl,hh,s_,A_,n_,c_,B_,m_,d_,rfl,hq⟩
   | 7,ho=>cases ho;cases hd;exact absurd rfl (hia (B0_rhy ax ay bx by_ px py k k2) (List.Mem.head _))
   | 8,ho=>cases ho;cases hd
   | i+9,ho=>cases ho
 · intro p hp os sv w' g hos J0 p1 p3 hf
   simp only [List.mem_cons,List.not_mem_nil,or_false] at hp
   rcases hp with rfl
   · obtain rfl:o8_rhy=os:=Option.some.inj hos
     have h1:VRQ (((bx - ax)*(py - ay) - (by_ - ay)*(px - ax))) ((k2+k2+1+(k+k2+1)+(k2+k2+1+(k+k2+1))+1)) (sv 50) w':=hf ⟨6,.data⟩ (by simp [o8_rhy]) rfl _ 50 rfl rfl (NE _ (by decide))
     rw [← G sv 50 (by decide) (by decide)] at h1
     refine store_rq (V:=((bx - ax)*(py - ay) - (by_ - ay)*(px - ax))) (k:=(k2+k2+1+(k+k2+1)+(k2+k2+1+(k+k2+1))+1)) (ac:=putAll ac L_rhy sv) (z:=.tmp 50) ?_ ?_ ?_
     · exact (G sv 12 (by decide) (by decide)).trans p1
     · exact h1
     · exact p3
 · intro sv w' J0 hF hB hap
   obtain ⟨g0,cs0,p0,r0,b0,⟨s0,A0,n0,c0,B0,m0,d0,rfl,h0⟩⟩:=hB (B0_rhy ax ay bx by_ px py k k2) (List.Mem.head _)
   have p0':sv 12=.pointer (some ⟨g0,0,none⟩):=p0
   exact hend sv w' g0 _ _ _ _ _ _ _ h0 b0.at_ r0 p0'  J0
theorem run_ixr {e1:Operand→Value} {d1:Option Tmp} {y1:Nat} {pos:String} {af:Array Edge} {x1 x2:Operand} {A:Option Addr} {n c g o:Nat} {M:Int} (h:e1 x1=.slice A n c) (h2:e1 x2=.int .i64 M) (hx:∀ w',(Instr.indexAt 33 (.slice A n c) (.int .i64 M)).run Tryz.prog w'=.ok (.pointer (some ⟨g,o,none⟩)) w') :
 (execOp e1 ⟨d1,.indexAddr 33 x1 x2,y1,pos,af,none⟩).run Tryz.prog w=.ok (.value (.pointer (some ⟨g,o,none⟩))) w:=by
 have h1:=hx w
 go_simp
theorem run_ldr {e1:Operand→Value} {d1:Option Tmp} {y1:Nat} {pos:String} {af:Array Edge} {x1:Operand} {g o:Nat} {p:PV} (h:e1 x1=.pointer (some ⟨g,o,none⟩)) (E:E6x w g o p) :
 (execOp e1 ⟨d1,.load 45 x1,y1,pos,af,none⟩).run Tryz.prog w=.ok (.value (.agg #[.bool p.s,.slice p.A p.n p.c,.slice p.B p.m p.d,.bool p.t,.slice p.E p.i p.e,.slice p.F p.j p.f])) w:=by
 obtain ⟨e0,e1,e2,e3,e4,e5⟩:=E.all
 go_simp
theorem run_lenr {e1:Operand→Value} {d1:Option Tmp} {y1:Nat} {pos:String} {af:Array Edge} {x1:Operand} {A:Option Addr} {n c:Nat} (h:e1 x1=.slice A n c) :
 (execOp e1 ⟨d1,.call ⟨.builtin Builtin.len,#[x1],#[33]⟩,y1,pos,af,none⟩).run Tryz.prog w=.ok (.value (.int .i64 (n:Int))) w:=by
 go_simp
theorem run_remr {e1:Operand→Value} {d1:Option Tmp} {y1:Nat} {pos:String} {af:Array Edge} {x1 x2:Operand} {a b:Int} (h:e1 x1=.int .i64 a) (h2:e1 x2=.int .i64 b) (hb:¬ b=0) :
 (execOp e1 ⟨d1,.binOp BinOp.rem 3 x1 x2 3,y1,pos,af,none⟩).run Tryz.prog w=.ok (.value (.int .i64 (a.tmod b))) w:=by
 go_simp
theorem store_k7 {ac:Act} {x1 z:Operand} {y1 g:Nat} {pos:String} {af:Array Edge} {Q:Exit→Act→World→Prop} {s t:Bool} {A B E F:Option Addr} {n c m d i e j f:Nat} (p1:ac.eval x1=.pointer (some ⟨g,0,none⟩)) (h:VK #[.bool s,.slice A n c,.slice B m d,.bool t,.slice E i e,.slice F j f] (ac.eval z) w) (Z0:BoxAt 45 w g #[.bool false,.slice none 0 0,.slice none 0 0,.bool false,.slice none 0 0,.slice none 0 0]) :
 (⟨none,.store 45 x1 z,y1,pos,af,none⟩:Oper).wp Tryz.prog ac w (fun a'' w''=>a''=ac∧Only g w w''∧∃ cs',BoxAt 45 w'' g cs'∧(fun cs _=>cs=#[.bool s,.slice A n c,.slice B m d,.bool t,.slice E i e,.slice F j f]) cs' w'') Q:=by
 have Z:B6R w g (.bool false) (.slice none 0 0) (.slice none 0 0) (.bool false) (.slice none 0 0) (.slice none 0 0):=Z0.at_
 unfold Oper.wp
 rw [run_store7 p1 h Z,Oper.upon_skip]
 have ho:=((((((Only.refl g w).setCell 0 (.bool s)).setCell 1 (.slice A n c)).setCell 2 (.slice B m d)).setCell 3 (.bool t)).setCell 4 (.slice E i e)).setCell 5 (.slice F j f)
 exact ⟨put_none ac undef,ho,_,⟨Z.set6 _ _ _ _ _ _,free6 _ _ _ _ _ _ _ _ _ _ _ _ _ _⟩,rfl⟩
abbrev L_rh7:List Nat:=[25,26,27,28,29,30,31,32,33,34,35,36,9,10]
def o0_rh7:Oper:=⟨some 25,.move (.tmp 0),33, "ref.go:47",#[],none⟩
def o1_rh7:Oper:=⟨some 26,.move (.tmp 8),3, "ref.go:47",#[],none⟩
def o2_rh7:Oper:=⟨some 27,.indexAddr 33 (.tmp 25) (.tmp 26),0, "ref.go:47",#[⟨0,.data⟩,⟨1,.data⟩],none⟩
def o3_rh7:Oper:=⟨some 28,.load 45 (.tmp 27),45, "ref.go:47",#[⟨2,.data⟩],none⟩
def o4_rh7:Oper:=⟨some 29,.move (.tmp 0),33, "ref.go:47",#[⟨14,.gcOnly .lateStores⟩],none⟩
def o5_rh7:Oper:=⟨some 30,.move (.tmp 8),3, "ref.go:47",#[⟨14,.gcOnly .lateStores⟩],none⟩
def o6_rh7:Oper:=⟨some 31,.binOp BinOp.add 3 (.tmp 30) (.const (Value.int IntKind.i64 1)) 3,3, "ref.go:47",#[⟨5,.data⟩,⟨14,.gcOnly .lateStores⟩],none⟩
def o7_rh7:Oper:=⟨some 32,.move (.tmp 0),33, "ref.go:47",#[],none⟩
def o8_rh7:Oper:=⟨some 33,.call ⟨.builtin Builtin.len,#[.tmp 32],#[33]⟩,3, "ref.go:47",#[⟨7,.data⟩],none⟩
def o9_rh7:Oper:=⟨some 34,.binOp BinOp.rem 3 (.tmp 31) (.tmp 33) 3,3, "ref.go:47",#[⟨6,.data⟩,⟨8,.data⟩,⟨14,.gcOnly .lateStores⟩],none⟩
def o10_rh7:Oper:=⟨some 35,.indexAddr 33 (.tmp 29) (.tmp 34),0, "ref.go:47",#[⟨4,.data⟩,⟨9,.data⟩,⟨14,.gcOnly .lateStores⟩],none⟩
def o11_rh7:Oper:=⟨some 36,.load 45 (.tmp 35),45, "ref.go:47",#[⟨10,.data⟩,⟨14,.gcOnly .lateStores⟩],none⟩
def o12_rh7:Oper:=⟨some 9,.alloc 45,0, "ref.go:47",#[],none⟩
def o13_rh7:Oper:=⟨some 10,.alloc 45,0, "ref.go:47",#[],none⟩
def o14_rh7:Oper:=⟨none,.store 45 (.tmp 9) (.tmp 28),0, "ref.go:47",#[⟨12,.data⟩,⟨3,.data⟩,⟨0,.phase⟩,⟨1,.phase⟩,⟨2,.phase⟩,⟨3,.phase⟩,⟨4,.textOnly .lateStores⟩,⟨5,.textOnly .lateStores⟩,⟨6,.textOnly .lateStores⟩,⟨7,.textOnly .lateStores⟩,⟨8,.textOnly .lateStoresUnsure⟩,⟨9,.textOnly .lateStores⟩,⟨10,.textOnly .lateStores⟩,⟨11,.textOnly .lateStores⟩,⟨12,.phase⟩,⟨13,.phase⟩],none⟩
def o15_rh7:Oper:=⟨none,.store 45 (.tmp 10) (.tmp 36),0, "ref.go:47",#[⟨13,.data⟩,⟨11,.data⟩,⟨14,.chain⟩,⟨0,.phase⟩,⟨1,.phase⟩,⟨2,.phase⟩,⟨3,.phase⟩,⟨4,.phase⟩,⟨5,.phase⟩,⟨6,.phase⟩,⟨7,.phase⟩,⟨8,.phase⟩,⟨9,.phase⟩,⟨10,.phase⟩,⟨11,.phase⟩,⟨12,.phase⟩,⟨13,.phase⟩,⟨14,.phase⟩],none⟩
def F_rh7 (A1:Option Addr) (N1:Nat) (c1:Nat) (m:Nat) (g0:Nat) (o0:Nat) (g1:Nat) (o1:Nat) (s_p:Bool) (t_p:Bool) (A_p:Option Addr) (B_p:Option Addr) (E_p:Option Addr) (F_p:Option Addr) (n_p:Nat) (c_p:Nat) (m_p:Nat) (d_p:Nat) (i_p:Nat) (e_p:Nat) (j_p:Nat) (f_p:Nat) (s_q:Bool) (t_q:Bool) (A_q:Option Addr) (B_q:Option Addr) (E_q:Option Addr) (F_q:Option Addr) (n_q:Nat) (c_q:Nat) (m_q:Nat) (d_q:Nat) (i_q:Nat) (e_q:Nat) (j_q:Nat) (f_q:Nat) (sl:Nat):Value→World→Prop :=
 match sl with
 | 25=>fun x _=>x=Value.slice A1 N1 c1
 | 26=>fun x _=>x=Value.int .i64 (m:Int)
 | 27=>fun x _=>x=Value.pointer (some ⟨g0,o0,none⟩)
 | 28=>VK (#[.bool s_p,.slice A_p n_p c_p,.slice B_p m_p d_p,.bool t_p,.slice E_p i_p e_p,.slice F_p j_p f_p])
 | 29=>fun x _=>x=Value.slice A1 N1 c1
 | 30=>fun x _=>x=Value.int .i64 (m:Int)
 | 31=>fun x _=>x=Value.int .i64 ((m:Int)+1)
 | 32=>fun x _=>x=Value.slice A1 N1 c1
 | 33=>fun x _=>x=Value.int .i64 (N1:Int)
 | 34=>fun x _=>x=Value.int .i64 (((m:Int)+1).tmod (N1:Int))
 | 35=>fun x _=>x=Value.pointer (some ⟨g1,o1,none⟩)
 | 36=>VK (#[.bool s_q,.slice A_q n_q c_q,.slice B_q m_q d_q,.bool t_q,.slice E_q i_q e_q,.slice F_q j_q f_q])
 | _=>fun _ _=>True
def B0_rh7 (s_p:Bool) (t_p:Bool) (A_p:Option Addr) (B_p:Option Addr) (E_p:Option Addr) (F_p:Option Addr) (n_p:Nat) (c_p:Nat) (m_p:Nat) (d_p:Nat) (i_p:Nat) (e_p:Nat) (j_p:Nat) (f_p:Nat):BoxOp :=
 ⟨12,14,9,45,#[.bool false,.slice none 0 0,.slice none 0 0,.bool false,.slice none 0 0,.slice none 0 0],fun cs _=>cs=#[.bool s_p,.slice A_p n_p c_p,.slice B_p m_p d_p,.bool t_p,.slice E_p i_p e_p,.slice F_p j_p f_p]⟩
def B1_rh7 (s_q:Bool) (t_q:Bool) (A_q:Option Addr) (B_q:Option Addr) (E_q:Option Addr) (F_q:Option Addr) (n_q:Nat) (c_q:Nat) (m_q:Nat) (d_q:Nat) (i_q:Nat) (e_q:Nat) (j_q:Nat) (f_q:Nat):BoxOp :=
 ⟨13,15,10,45,#[.bool false,.slice none 0 0,.slice none 0 0,.bool false,.slice none 0 0,.slice none 0 0],fun cs _=>cs=#[.bool s_q,.slice A_q n_q c_q,.slice B_q m_q d_q,.bool t_q,.slice E_q i_q e_q,.slice F_q j_q f_q]⟩
theorem rh7_region {id:Nat} {ac:Act} {Q:Exit→Act→World→Prop} {A1:Option Addr} {N1 c1 m g0 o0 g1 o1:Nat} 
 (hsz:36 < ac.tmps.size) (e0:ac.eval (.tmp 0)=Value.slice A1 N1 c1) (e8:ac.eval (.tmp 8)=Value.int .i64 (m:Int)) (Ep:E6x w g0 o0 (PV.mk s_p A_p n_p c_p B_p m_p d_p t_p E_p i_p e_p F_p j_p f_p)) (Eq:E6x w g1 o1 (PV.mk s_q A_q n_q c_q B_q m_q d_q t_q E_q i_q e_q F_q j_q f_q)) (hixa:∀ w',(Instr.indexAt 33 (.slice A1 N1 c1) (.int .i64 (m:Int))).run Tryz.prog w'=.ok (.pointer (some ⟨g0,o0,none⟩)) w') (hixb:∀ w',(Instr.indexAt 33 (.slice A1 N1 c1) (.int .i64 (((m:Int)+1).tmod (N1:Int)))).run Tryz.prog w'=.ok (.pointer (some ⟨g1,o1,none⟩)) w') (hwr:IntKind.i64.wrap ((m:Int)+1)=(m:Int)+1) (hn0:¬ (N1:Int)=0)
 (hend:∀ (V:Nat→Value) (w':World) (g0:Nat) (g1:Nat),B6R w' g0 (.bool s_p) (.slice A_p n_p c_p) (.slice B_p m_p d_p) (.bool t_p) (.slice E_p i_p e_p) (.slice F_p j_p f_p)→w.heap.size≤g0→V 9=.pointer (some ⟨g0,0,none⟩)→B6R w' g1 (.bool s_q) (.slice A_q n_q c_q) (.slice B_q m_q d_q) (.bool t_q) (.slice E_q i_q e_q) (.slice F_q j_q f_q)→w.heap.size≤g1→V 10=.pointer (some ⟨g1,0,none⟩)→g1 ≠ g0→Below w.heap.size w w'→Q .normal (putAll ac [25,26,27,28,29,30,31,32,33,34,35,36,9,10] V) w') :
 (Code.region id #[o0_rh7,o1_rh7,o2_rh7,o3_rh7,o4_rh7,o5_rh7,o6_rh7,o7_rh7,o8_rh7,o9_rh7,o10_rh7,o11_rh7,o12_rh7,o13_rh7,o14_rh7,o15_rh7] true).wp Tryz.prog Q ac w:=by
 have hnd:L_rh7.Nodup:=by decide
 have G:∀ (sv:Nat→Value) (t:Nat),t ∈ L_rh7→t≤36→(putAll ac L_rh7 sv).eval (.tmp t)=sv t:=fun sv t ht h=>eval_putAll_mem (t:=t) L_rh7 ac hnd ht (Nat.lt_of_le_of_lt h hsz)
 have E0:∀ sv:Nat→Value,(putAll ac L_rh7 sv).eval (.tmp 0)=Value.slice A1 N1 c1:=fun sv=>(eval_putAll_not (v:=sv) L_rh7 ac (show 0 ∉ _ by decide)).trans e0
 have E8:∀ sv:Nat→Value,(putAll ac L_rh7 sv).eval (.tmp 8)=Value.int .i64 (m:Int):=fun sv=>(eval_putAll_not (v:=sv) L_rh7 ac (show 8 ∉ _ by decide)).trans e8
 have NE:∀ t:Nat,(t ≠ 9∧t ≠ 10)→∀ p ∈ [B0_rh7 s_p t_p A_p B_p E_p F_p n_p c_p m_p d_p i_p e_p j_p f_p,B1_rh7 s_q t_q A_q B_q E_q F_q n_q c_q m_q d_q i_q e_q j_q f_q],t ≠ p.tA:=by
  intro t ht p hp
  simp only [List.mem_cons,List.not_mem_nil,or_false] at hp
  rcases hp with rfl | rfl
  · exact ht.1
  · exact ht.2
 refine wp_region_flowsT L_rh7 [B0_rh7 s_p t_p A_p B_p E_p F_p n_p c_p m_p d_p i_p e_p j_p f_p,B1_rh7 s_q t_q A_q B_q E_q F_q n_q c_q m_q d_q i_q e_q j_q f_q] (F_rh7 A1 N1 c1 m g0 o0 g1 o1 s_p t_p A_p B_p E_p F_p n_p c_p m_p d_p i_p e_p j_p f_p s_q t_q A_q B_q E_q F_q n_q c_q m_q d_q i_q e_q j_q f_q) (by kernel_rfl) (by kernel_rfl) rfl hnd ?_ ?_ ?_ ?_ ?_ ?_ ?_ ?_
 · intro p hp
   simp only [List.mem_cons,List.not_mem_nil,or_false] at hp
   rcases hp with rfl | rfl
   · refine ⟨⟨o12_rh7,rfl,rfl,rfl,fun e w'=>run_alloc7⟩,⟨o14_rh7,rfl,rfl,rfl,⟨12,.data⟩,by simp [o14_rh7],rfl,rfl⟩,free6 _ _ _ _ _ _ _ _ _ _ _ _ _ _,?_,?_⟩
     · rintro cs w1 w2 rfl hb;rfl
     · rintro T cs w1 w2 g c0 rfl hB ho;rfl
   · refine ⟨⟨o13_rh7,rfl,rfl,rfl,fun e w'=>run_alloc7⟩,⟨o15_rh7,rfl,rfl,rfl,⟨13,.data⟩,by simp [o15_rh7],rfl,rfl⟩,free6 _ _ _ _ _ _ _ _ _ _ _ _ _ _,?_,?_⟩
     · rintro cs w1 w2 rfl hb;rfl
     · rintro T cs w1 w2 g c0 rfl hB ho;rfl
 · intro p hp q hq h
   simp only [List.mem_cons,List.not_mem_nil,or_false] at hp hq
   rcases hp with rfl | rfl <;> rcases hq with rfl | rfl
   · rfl
   · exact absurd (show (9:Nat)=10 from h) (by decide)
   · exact absurd (show (10:Nat)=9 from h) (by decide)
   · rfl
 · intro p hp q hq h
   simp only [List.mem_cons,List.not_mem_nil,or_false] at hp hq
   rcases hp with rfl | rfl <;> rcases hq with rfl | rfl
   · rfl
   · exact absurd (show (14:Nat)=15 from h) (by decide)
   · exact absurd (show (15:Nat)=14 from h) (by decide)
   · rfl
 · intro i o h1 h2
   match i,h1 with
   | 0,h1=>cases h1;cases h2
   | 1,h1=>cases h1;cases h2
   | 2,h1=>cases h1;cases h2
   | 3,h1=>cases h1;cases h2
   | 4,h1=>cases h1;cases h2
   | 5,h1=>cases h1;cases h2
   | 6,h1=>cases h1;cases h2
   | 7,h1=>cases h1;cases h2
   | 8,h1=>cases h1;cases h2
   | 9,h1=>cases h1;cases h2
   | 10,h1=>cases h1;cases h2
   | 11,h1=>cases h1;cases h2
   | 12,h1=>cases h1;cases h2
   | 13,h1=>cases h1;cases h2
   | 14,h1=>exact ⟨B0_rh7 s_p t_p A_p B_p E_p F_p n_p c_p m_p d_p i_p e_p j_p f_p,List.Mem.head _,rfl⟩
   | 15,h1=>exact ⟨B1_rh7 s_q t_q A_q B_q E_q F_q n_q c_q m_q d_q i_q e_q j_q f_q,List.Mem.tail _ (List.Mem.head _),rfl⟩
   | i+16,h1=>cases h1
 · intro t
   unfold F_rh7
   split <;> first | exact (stays_eq _).inn _ | exact (stays_q _ _).inn _ | exact (stays_z _ _).inn _ | exact (stays_r _ _).inn _ | exact (stays_rq _ _).inn _ | exact (stays_pg _ _ _).inn _ | exact (stays_true).inn _
 · intro i o t sv w' ho hia hd J0 hf
   have Ep:=Ep.below J0;have Eq:=Eq.below J0
   match i,ho with
   | 0,ho =>
     obtain rfl:o0_rh7=o:=Option.some.inj ho
     cases hd
     refine wpOp_plain' (o:=o0_rh7) rfl rfl ?_
     unfold Oper.wp o0_rh7
     rw [run_move (E0 sv),Oper.upon_value]
     exact ⟨_,rfl,Below.refl _ _,rfl⟩
   | 1,ho =>
     obtain rfl:o1_rh7=o:=Option.some.inj ho
     cases hd
     refine wpOp_plain' (o:=o1_rh7) rfl rfl ?_
     unfold Oper.wp o1_rh7
     rw [run_move (E8 sv),Oper.upon_value]
     exact ⟨_,rfl,Below.refl _ _,rfl⟩
   | 2,ho =>
     obtain rfl:o2_rh7=o:=Option.some.inj ho
     cases hd
     have f25:sv 25=Value.slice A1 N1 c1:=hf ⟨0,.data⟩ (by simp [o2_rh7]) rfl _ 25 rfl rfl (NE _ (by decide))
     have f26:sv 26=Value.int .i64 (m:Int):=hf ⟨1,.data⟩ (by simp [o2_rh7]) rfl _ 26 rfl rfl (NE _ (by decide))
     refine wpOp_plain' (o:=o2_rh7) rfl rfl ?_
     unfold Oper.wp o2_rh7
     rw [run_ixr ((G sv 25 (by decide) (by decide)).trans f25) ((G sv 26 (by decide) (by decide)).trans f26) hixa,Oper.upon_value]
     exact ⟨_,rfl,Below.refl _ _,rfl⟩
   | 3,ho =>
     obtain rfl:o3_rh7=o:=Option.some.inj ho
     cases hd
     have f27:sv 27=Value.pointer (some ⟨g0,o0,none⟩):=hf ⟨2,.data⟩ (by simp [o3_rh7]) rfl _ 27 rfl rfl (NE _ (by decide))
     refine wpOp_plain' (o:=o3_rh7) rfl rfl ?_
     unfold Oper.wp o3_rh7
     rw [run_ldr ((G sv 27 (by decide) (by decide)).trans f27) Ep,Oper.upon_value]
     exact ⟨_,rfl,Below.refl _ _,rfl⟩
   | 4,ho =>
     obtain rfl:o4_rh7=o:=Option.some.inj ho
     cases hd
     refine wpOp_plain' (o:=o4_rh7) rfl rfl ?_
     unfold Oper.wp o4_rh7
     rw [run_move (E0 sv),Oper.upon_value]
     exact ⟨_,rfl,Below.refl _ _,rfl⟩
   | 5,ho =>
     obtain rfl:o5_rh7=o:=Option.some.inj ho
     cases hd
     refine wpOp_plain' (o:=o5_rh7) rfl rfl ?_
     unfold Oper.wp o5_rh7
     rw [run_move (E8 sv),Oper.upon_value]
     exact ⟨_,rfl,Below.refl _ _,rfl⟩
   | 6,ho =>
     obtain rfl:o6_rh7=o:=Option.some.inj ho
     cases hd
     have f30:sv 30=Value.int .i64 (m:Int):=hf ⟨5,.data⟩ (by simp [o6_rh7]) rfl _ 30 rfl rfl (NE _ (by decide))
     refine wpOp_plain' (o:=o6_rh7) rfl rfl ?_
     unfold Oper.wp o6_rh7
     rw [run_add1 ((G sv 30 (by decide) (by decide)).trans f30) (show (putAll ac L_rh7 sv).eval (.const (Value.int IntKind.i64 1))=(Value.int IntKind.i64 1) from rfl) hwr,Oper.upon_value]
     exact ⟨_,rfl,Below.refl _ _,rfl⟩
   | 7,ho =>
     obtain rfl:o7_rh7=o:=Option.some.inj ho
     cases hd
     refine wpOp_plain' (o:=o7_rh7) rfl rfl ?_
     unfold Oper.wp o7_rh7
     rw [run_move (E0 sv),Oper.upon_value]
     exact ⟨_,rfl,Below.refl _ _,rfl⟩
   | 8,ho =>
     obtain rfl:o8_rh7=o:=Option.some.inj ho
     cases hd
     have f32:sv 32=Value.slice A1 N1 c1:=hf ⟨7,.data⟩ (by simp [o8_rh7]) rfl _ 32 rfl rfl (NE _ (by decide))
     refine wpOp_plain' (o:=o8_rh7) rfl rfl ?_
     unfold Oper.wp o8_rh7
     rw [run_lenr ((G sv 32 (by decide) (by decide)).trans f32) ,Oper.upon_value]
     exact ⟨_,rfl,Below.refl _ _,rfl⟩
   | 9,ho =>
     obtain rfl:o9_rh7=o:=Option.some.inj ho
     cases hd
     have f31:sv 31=Value.int .i64 ((m:Int)+1):=hf ⟨6,.data⟩ (by simp [o9_rh7]) rfl _ 31 rfl rfl (NE _ (by decide))
     have f33:sv 33=Value.int .i64 (N1:Int):=hf ⟨8,.data⟩ (by simp [o9_rh7]) rfl _ 33 rfl rfl (NE _ (by decide))
     refine wpOp_plain' (o:=o9_rh7) rfl rfl ?_
     unfold Oper.wp o9_rh7
     rw [run_remr ((G sv 31 (by decide) (by decide)).trans f31) ((G sv 33 (by decide) (by decide)).trans f33) hn0,Oper.upon_value]
     exact ⟨_,rfl,Below.refl _ _,rfl⟩
   | 10,ho =>
     obtain rfl:o10_rh7=o:=Option.some.inj ho
     cases hd
     have f29:sv 29=Value.slice A1 N1 c1:=hf ⟨4,.data⟩ (by simp [o10_rh7]) rfl _ 29 rfl rfl (NE _ (by decide))
     have f34:sv 34=Value.int .i64 (((m:Int)+1).tmod (N1:Int)):=hf ⟨9,.data⟩ (by simp [o10_rh7]) rfl _ 34 rfl rfl (NE _ (by decide))
     refine wpOp_plain' (o:=o10_rh7) rfl rfl ?_
     unfold Oper.wp o10_rh7
     rw [run_ixr ((G sv 29 (by decide) (by decide)).trans f29) ((G sv 34 (by decide) (by decide)).trans f34) hixb,Oper.upon_value]
     exact ⟨_,rfl,Below.refl _ _,rfl⟩
   | 11,ho =>
     obtain rfl:o11_rh7=o:=Option.some.inj ho
     cases hd
     have f35:sv 35=Value.pointer (some ⟨g1,o1,none⟩):=hf ⟨10,.data⟩ (by simp [o11_rh7]) rfl _ 35 rfl rfl (NE _ (by decide))
     refine wpOp_plain' (o:=o11_rh7) rfl rfl ?_
     unfold Oper.wp o11_rh7
     rw [run_ldr ((G sv 35 (by decide) (by decide)).trans f35) Eq,Oper.upon_value]
     exact ⟨_,rfl,Below.refl _ _,rfl⟩
   | 12,ho=>cases ho;cases hd;exact absurd rfl (hia (B0_rh7 s_p t_p A_p B_p E_p F_p n_p c_p m_p d_p i_p e_p j_p f_p) (List.Mem.head _))
   | 13,ho=>cases ho;cases hd;exact absurd rfl (hia (B1_rh7 s_q t_q A_q B_q E_q F_q n_q c_q m_q d_q i_q e_q j_q f_q) (List.Mem.tail _ (List.Mem.head _)))
   | 14,ho=>cases ho;cases hd
   | 15,ho=>cases ho;cases hd
   | i+16,ho=>cases ho
 · intro p hp os sv w' g hos J0 p1 p3 hf
   simp only [List.mem_cons,List.not_mem_nil,or_false] at hp
   rcases hp with rfl | rfl
   · obtain rfl:o14_rh7=os:=Option.some.inj hos
     have h1:VK (#[.bool s_p,.slice A_p n_p c_p,.slice B_p m_p d_p,.bool t_p,.slice E_p i_p e_p,.slice F_p j_p f_p]) (sv 28) w':=hf ⟨3,.data⟩ (by simp [o14_rh7]) rfl _ 28 rfl rfl (NE _ (by decide))
     rw [← G sv 28 (by decide) (by decide)] at h1
     refine store_k7  (ac:=putAll ac L_rh7 sv) (z:=.tmp 28) ?_ ?_ ?_
     · exact (G sv 9 (by decide) (by decide)).trans p1
     · exact h1
     · exact p3
   · obtain rfl:o15_rh7=os:=Option.some.inj hos
     have h1:VK (#[.bool s_q,.slice A_q n_q c_q,.slice B_q m_q d_q,.bool t_q,.slice E_q i_q e_q,.slice F_q j_q f_q]) (sv 36) w':=hf ⟨11,.data⟩ (by simp [o15_rh7]) rfl _ 36 rfl rfl (NE _ (by decide))
     rw [← G sv 36 (by decide) (by decide)] at h1
     refine store_k7  (ac:=putAll ac L_rh7 sv) (z:=.tmp 36) ?_ ?_ ?_
     · exact (G sv 10 (by decide) (by decide)).trans p1
     · exact h1
     · exact p3
 · intro sv w' J0 hF hB hap
   obtain ⟨g0,cs0,p0,r0,b0,rfl⟩:=hB (B0_rh7 s_p t_p A_p B_p E_p F_p n_p c_p m_p d_p i_p e_p j_p f_p) (List.Mem.head _)
   obtain ⟨g1,cs1,p1,r1,b1,rfl⟩:=hB (B1_rh7 s_q t_q A_q B_q E_q F_q n_q c_q m_q d_q i_q e_q j_q f_q) (List.Mem.tail _ (List.Mem.head _))
   have p0':sv 9=.pointer (some ⟨g0,0,none⟩):=p0
   have p1':sv 10=.pointer (some ⟨g1,0,none⟩):=p1
   exact hend sv w' g0 g1 b0.at_ r0 p0' b1.at_ r1 p1' (fun q=>hap (B1_rh7 s_q t_q A_q B_q E_q F_q n_q c_q m_q d_q i_q e_q j_q f_q) (List.Mem.tail _ (List.Mem.head _)) (B0_rh7 s_p t_p A_p B_p E_p F_p n_p c_p m_p d_p i_p e_p j_p f_p) (List.Mem.head _) (show (10:Nat) ≠ 9 by decide) (by rw [show (B1_rh7 s_q t_q A_q B_q E_q F_q n_q c_q m_q d_q i_q e_q j_q f_q).tA=10 from rfl,show (B0_rh7 s_p t_p A_p B_p E_p F_p n_p c_p m_p d_p i_p e_p j_p f_p).tA=9 from rfl,p1',p0',q]))   J0
end
end Go.Proofs.YtlogpjeoapeojaaGreat
