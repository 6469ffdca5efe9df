/- FlatMore: part 11. -/
import Derived.Test.YtlpogecpdfdggaaGreatKFlatMore8
import Derived.Test.YtlpogecpdfdggaaGreatKFlatMore9
import Derived.Test.YtlpogecpdfdggaaGreatKFlatMore10
set_option linter.unusedVariables false
set_option maxRecDepth 100000
set_option maxHeartbeats 16000000
variable {w:Go.World}
variable {s_a t_a:Bool} {A_a B_a E_a F_a:Option Go.Addr} {n_a c_a m_a d_a i_a e_a j_a f_a:Nat}
variable {s_b t_b:Bool} {A_b B_b E_b F_b:Option Go.Addr} {n_b c_b m_b d_b i_b e_b j_b f_b:Nat}
variable {s_p t_p:Bool} {A_p B_p E_p F_p:Option Go.Addr} {n_p c_p m_p d_p i_p e_p j_p f_p:Nat}
variable {s_q t_q:Bool} {A_q B_q E_q F_q:Option Go.Addr} {n_q c_q m_q d_q i_q e_q j_q f_q:Nat}
variable {s_r t_r:Bool} {A_r B_r E_r F_r:Option Go.Addr} {n_r c_r m_r d_r i_r e_r j_r f_r:Nat}
variable {s_c:Bool} {A_c B_c:Option Go.Addr} {n_c c_c m_c d_c:Nat}
variable {s_g:Bool} {A_g B_g:Option Go.Addr} {n_g c_g m_g d_g:Nat}
namespace Go.Proofs.YtlpogecpdfdggaaGreat
section
open Go Go.RowKit
theorem free6 (s:Bool) (A B:Option Addr) (n c m d:Nat) (t:Bool) (E F:Option Addr) (i e j f:Nat):∀ (x:Nat) (k:IntKind) (v:Int),(#[.bool s,.slice A n c,.slice B m d,.bool t,.slice E i e,.slice F j f]:Array Value)[x]? ≠ some (.int k v):=by
 intro x k v h
 match x,h with
 | 0,h=>cases h
 | 1,h=>cases h
 | 2,h=>cases h
 | 3,h=>cases h
 | 4,h=>cases h
 | 5,h=>cases h
 | x+6,h=>cases h
def VPG (x y:Rat) (k:Nat) (v:Value) (w:World):Prop:=∃ s A n c B m d t E i e F j f,v=.agg #[.bool s,.slice A n c,.slice B m d,.bool t,.slice E i e,.slice F j f]∧PG w s A n c B m d t E i e F j f x y k
theorem PG.box {T:TypeId} {w w':World} {g:Nat} {cs:Array Value} {s t:Bool} {A B E F:Option Addr} {n c m d i e j f:Nat} {x y:Rat} {k:Nat} (h:PG w s A n c B m d t E i e F j f x y k) (Z:BoxAt T w g cs) (ho:Only g w w'):PG w' s A n c B m d t E i e F j f x y k:=⟨h.1.box Z ho,h.2.box Z ho⟩
theorem stays_pg (x y:Rat) (k:Nat):Stays (VPG x y k) :=
 ⟨fun _ _ _ ⟨s,A,n,c,B,m,d,t,E,i,e,F,j,f,h1,h2⟩ hb=>⟨s,A,n,c,B,m,d,t,E,i,e,F,j,f,h1,h2.below hb⟩,fun _ _ _ _ _ _ ⟨s,A,n,c,B,m,d,t,E,i,e,F,j,f,h1,h2⟩ hB ho=>⟨s,A,n,c,B,m,d,t,E,i,e,F,j,f,h1,h2.box hB ho⟩⟩
theorem run_load6 {e1:Operand→Value} {x1:Operand} {d1:Option Tmp} {y1 g:Nat} {pos:String} {af:Array Edge} {a b c d e f:Value} (h:e1 x1=.pointer (some ⟨g,0,none⟩)) (h0:w.cell? ⟨g,0,none⟩=some a) (h1:w.cell? ⟨g,1,none⟩=some b) (h2:w.cell? ⟨g,2,none⟩=some c) (h3:w.cell? ⟨g,3,none⟩=some d) (h4:w.cell? ⟨g,4,none⟩=some e) (h5:w.cell? ⟨g,5,none⟩=some f) :
 (execOp e1 ⟨d1,.load 49 x1,y1,pos,af,none⟩).run Tryz.prog w=.ok (.value (.agg #[a,b,c,d,e,f])) w:=by
 go_simp
theorem run_alloc6 {e1:Operand→Value} {d1:Option Tmp} {y1:Nat} {pos:String} {af:Array Edge} :
 (execOp e1 ⟨d1,.alloc 49,y1,pos,af,none⟩).run Tryz.prog w=.ok (.value (.pointer (some ⟨w.heap.size,0,none⟩))) (w.alloc (.cells #[.bool false,.slice none 0 0,.slice none 0 0,.bool false,.slice none 0 0,.slice none 0 0] 49)):=by
 go_simp
theorem run_store6 {e1:Operand→Value} {x1 z1:Operand} {d1:Option Tmp} {y1 g:Nat} {pos:String} {af:Array Edge} {s t:Bool} {A B E F:Option Addr} {n c m d i e j f:Nat} {v0 v1 v2 v3 v4 v5:Value} (h:e1 x1=.pointer (some ⟨g,0,none⟩)) (hz:e1 z1=.agg #[.bool s,.slice A n c,.slice B m d,.bool t,.slice E i e,.slice F j f]) (Z:B6 w g v0 v1 v2 v3 v4 v5) :
 (execOp e1 ⟨d1,.store 49 x1 z1,y1,pos,af,none⟩).run Tryz.prog w=.ok .skip ((((((w.setCell ⟨g,0,none⟩ (.bool s)).setCell ⟨g,1,none⟩ (.slice A n c)).setCell ⟨g,2,none⟩ (.slice B m d)).setCell ⟨g,3,none⟩ (.bool t)).setCell ⟨g,4,none⟩ (.slice E i e)).setCell ⟨g,5,none⟩ (.slice F j f)):=by
 obtain ⟨c0,c1,c2,c3,c4,c5⟩:=Z.all;have f0:=Z.f0;have f1:=Z.f1;have f2:=Z.f2;have f3:=Z.f3;have f4:=Z.f4;have f5:=Z.f5
 go_simp
theorem store_pg {ac:Act} {x1 z:Operand} {y1 g:Nat} {pos:String} {af:Array Edge} {Q:Exit→Act→World→Prop} {x y:Rat} {k:Nat} (p1:ac.eval x1=.pointer (some ⟨g,0,none⟩)) (h:VPG x y k (ac.eval z) w) (B:BoxAt 49 w g #[.bool false,.slice none 0 0,.slice none 0 0,.bool false,.slice none 0 0,.slice none 0 0]) :
 (⟨none,.store 49 x1 z,y1,pos,af,none⟩:Oper).wp Tryz.prog ac w (fun a'' w''=>a''=ac∧Only g w w''∧∃ cs',BoxAt 49 w'' g cs'∧(fun cs w=>∃ s A n c B m d t E i e F j f,cs=#[.bool s,.slice A n c,.slice B m d,.bool t,.slice E i e,.slice F j f]∧PG w s A n c B m d t E i e F j f x y k) cs' w'') Q:=by
 obtain ⟨s,A,n,c,B1,m,d,t,E,i,e,F,j,f,h1,h2⟩:=h
 have Z:B6 w g (.bool false) (.slice none 0 0) (.slice none 0 0) (.bool false) (.slice none 0 0) (.slice none 0 0):=B.at_
 unfold Oper.wp
 rw [run_store6 p1 h1 Z,Oper.upon_skip]
 have ho:=((((((Only.refl g w).setCell 0 (.bool s)).setCell 1 (.slice A n c)).setCell 2 (.slice B1 m d)).setCell 3 (.bool t)).setCell 4 (.slice E i e)).setCell 5 (.slice F j f)
 exact ⟨put_none ac undef,ho,#[.bool s,.slice A n c,.slice B1 m d,.bool t,.slice E i e,.slice F j f],⟨Z.set6 _ _ _ _ _ _,free6 _ _ _ _ _ _ _ _ _ _ _ _ _ _⟩,s,A,n,c,B1,m,d,t,E,i,e,F,j,f,rfl,h2.box B ho⟩
theorem rdiv_qs {s t:Bool} {A A' B B':Option Addr} {n c n' c' m d m' d' k k2:Nat} {v0 u0:Rat} (X0:QR w s A n c A' n' c' v0 k) (Y0:QR w t B m d B' m' d' u0 k2) (hk:k≤40000) (hkb:k2≤40000) (hk1:1≤k) (hk3:1≤k2) (hu:u0 ≠ 0) :
 Calls Tryz.prog 48 #[.agg #[.bool s,.slice A n c,.slice A' n' c'],.agg #[.bool t,.slice B m d,.slice B' m' d']] w (fun e w'=>∃ R,R=v0 / u0∧GivesQE w R (k+k2) e w') :=
 (rdiv_q X0 Y0 hk hkb (.inl hk) hk1 hk3 hu).mono fun _ _ h=>⟨_,rfl,h⟩
theorem rc_gesso_pt_Sub {e:Operand→Value} {x0 x1:Operand} {d:Option Tmp} {y:Nat} {pos:String} {af:Array Edge} {u0 u1:Value} (h0:e x0=u0) (h1:e x1=u1) (hf:e (.func 53)=.func (.func 53) #[] #[]) :
 (execOp e ⟨d,.call ⟨.value (.func 53),#[x0,x1],#[49,49]⟩,y,pos,af,none⟩).run Tryz.prog w=.ok (.enter 53 #[u0,u1]) w:=by
 go_simp
def F_segs (s_p:Bool) (t_p:Bool) (A_p:Option Addr) (B_p:Option Addr) (E_p:Option Addr) (F_p:Option Addr) (n_p:Nat) (c_p:Nat) (m_p:Nat) (d_p:Nat) (i_p:Nat) (e_p:Nat) (j_p:Nat) (f_p:Nat) (s_q:Bool) (t_q:Bool) (A_q:Option Addr) (B_q:Option Addr) (E_q:Option Addr) (F_q:Option Addr) (n_q:Nat) (c_q:Nat) (m_q:Nat) (d_q:Nat) (i_q:Nat) (e_q:Nat) (j_q:Nat) (f_q:Nat) (s_r:Bool) (t_r:Bool) (A_r:Option Addr) (B_r:Option Addr) (E_r:Option Addr) (F_r:Option Addr) (n_r:Nat) (c_r:Nat) (m_r:Nat) (d_r:Nat) (i_r:Nat) (e_r:Nat) (j_r:Nat) (f_r:Nat) (px:Rat) (py:Rat) (ax:Rat) (ay:Rat) (bx:Rat) (by_:Rat) (kp:Nat) (k:Nat) (sl:Nat):Value→World→Prop :=
 match sl with
 | 14=>fun x _=>x=Value.agg #[.bool s_r,.slice A_r n_r c_r,.slice B_r m_r d_r,.bool t_r,.slice E_r i_r e_r,.slice F_r j_r f_r]
 | 15=>fun x _=>x=Value.agg #[.bool s_q,.slice A_q n_q c_q,.slice B_q m_q d_q,.bool t_q,.slice E_q i_q e_q,.slice F_q j_q f_q]
 | 16=>VPG (bx - ax) (by_ - ay) (k+k+1)
 | 17=>fun x _=>x=Value.agg #[.bool s_p,.slice A_p n_p c_p,.slice B_p m_p d_p,.bool t_p,.slice E_p i_p e_p,.slice F_p j_p f_p]
 | 18=>fun x _=>x=Value.agg #[.bool s_q,.slice A_q n_q c_q,.slice B_q m_q d_q,.bool t_q,.slice E_q i_q e_q,.slice F_q j_q f_q]
 | 19=>VPG (px - ax) (py - ay) (kp+k+1)
 | _=>fun _ _=>True
def B0_segs (ax:Rat) (ay:Rat) (bx:Rat) (by_:Rat) (k:Nat):BoxOp :=
 ⟨6,8,7,49,#[.bool false,.slice none 0 0,.slice none 0 0,.bool false,.slice none 0 0,.slice none 0 0],fun cs w=>∃ s A n c B m d t E i e F j f,cs=#[.bool s,.slice A n c,.slice B m d,.bool t,.slice E i e,.slice F j f]∧PG w s A n c B m d t E i e F j f (bx - ax) (by_ - ay) (k+k+1)⟩
def B1_segs (px:Rat) (py:Rat) (ax:Rat) (ay:Rat) (kp:Nat) (k:Nat):BoxOp :=
 ⟨7,9,8,49,#[.bool false,.slice none 0 0,.slice none 0 0,.bool false,.slice none 0 0,.slice none 0 0],fun cs w=>∃ s A n c B m d t E i e F j f,cs=#[.bool s,.slice A n c,.slice B m d,.bool t,.slice E i e,.slice F j f]∧PG w s A n c B m d t E i e F j f (px - ax) (py - ay) (kp+k+1)⟩
theorem segs_region {id:Nat} {ac:Act} {Q:Exit→Act→World→Prop} {px py ax ay bx by_:Rat} {kp k gp gq gr:Nat}
 (hsz:19 < ac.tmps.size) (e3:ac.eval (.tmp 3)=Value.pointer (some ⟨gp,0,none⟩)) (e4:ac.eval (.tmp 4)=Value.pointer (some ⟨gq,0,none⟩)) (e5:ac.eval (.tmp 5)=Value.pointer (some ⟨gr,0,none⟩)) (XA:B6 w gp (.bool s_p) (.slice A_p n_p c_p) (.slice B_p m_p d_p) (.bool t_p) (.slice E_p i_p e_p) (.slice F_p j_p f_p)) (XB:B6 w gq (.bool s_q) (.slice A_q n_q c_q) (.slice B_q m_q d_q) (.bool t_q) (.slice E_q i_q e_q) (.slice F_q j_q f_q)) (XC:B6 w gr (.bool s_r) (.slice A_r n_r c_r) (.slice B_r m_r d_r) (.bool t_r) (.slice E_r i_r e_r) (.slice F_r j_r f_r)) (p:PR w s_p A_p n_p c_p B_p m_p d_p t_p E_p i_p e_p F_p j_p f_p px py kp) (q:PR w s_q A_q n_q c_q B_q m_q d_q t_q E_q i_q e_q F_q j_q f_q ax ay k) (r:PR w s_r A_r n_r c_r B_r m_r d_r t_r E_r i_r e_r F_r j_r f_r bx by_ k) (hp:kp≤4000) (hk:k≤4000) (h1:1≤kp) (h2:1≤k)
 (hend:∀ (V:Nat→Value) (w':World) (g0:Nat) (s0:Bool) (A0:Option Addr) (n0:Nat) (c0:Nat) (B0:Option Addr) (m0:Nat) (d0:Nat) (t0:Bool) (E0:Option Addr) (i0:Nat) (e0:Nat) (F0:Option Addr) (j0:Nat) (f0:Nat) (g1:Nat) (s1:Bool) (A1:Option Addr) (n1:Nat) (c1:Nat) (B1:Option Addr) (m1:Nat) (d1:Nat) (t1:Bool) (E1:Option Addr) (i1:Nat) (e1:Nat) (F1:Option Addr) (j1:Nat) (f1:Nat),PG w' s0 A0 n0 c0 B0 m0 d0 t0 E0 i0 e0 F0 j0 f0 (bx - ax) (by_ - ay) (k+k+1)→B6 w' g0 (.bool s0) (.slice A0 n0 c0) (.slice B0 m0 d0) (.bool t0) (.slice E0 i0 e0) (.slice F0 j0 f0)→w.heap.size≤g0→V 7=.pointer (some ⟨g0,0,none⟩)→PG w' s1 A1 n1 c1 B1 m1 d1 t1 E1 i1 e1 F1 j1 f1 (px - ax) (py - ay) (kp+k+1)→B6 w' g1 (.bool s1) (.slice A1 n1 c1) (.slice B1 m1 d1) (.bool t1) (.slice E1 i1 e1) (.slice F1 j1 f1)→w.heap.size≤g1→V 8=.pointer (some ⟨g1,0,none⟩)→g1 ≠ g0→Below w.heap.size w w'→Q .normal (putAll ac [14,15,16,17,18,19,7,8] V) w') :
 (Code.region id #[⟨some 14,.load 49 (.tmp 5),49, "measure.go:44",#[],none⟩,
  ⟨some 15,.load 49 (.tmp 4),49, "measure.go:44",#[],none⟩,
  ⟨some 16,.call ⟨.value (.func 53),#[.tmp 14,.tmp 15],#[49,49]⟩,49, "measure.go:44",#[⟨0,.data⟩,⟨1,.data⟩],none⟩,
  ⟨some 17,.load 49 (.tmp 3),49, "measure.go:44",#[],none⟩,
  ⟨some 18,.load 49 (.tmp 4),49, "measure.go:44",#[],none⟩,
  ⟨some 19,.call ⟨.value (.func 53),#[.tmp 17,.tmp 18],#[49,49]⟩,49, "measure.go:44",#[⟨3,.data⟩,⟨4,.data⟩,⟨2,.chain⟩],none⟩,
  ⟨some 7,.alloc 49,0, "measure.go:44",#[],none⟩,
  ⟨some 8,.alloc 49,0, "measure.go:44",#[],none⟩,
  ⟨none,.store 49 (.tmp 7) (.tmp 16),0, "measure.go:44",#[⟨6,.data⟩,⟨2,.data⟩,⟨5,.chain⟩,⟨0,.phase⟩,⟨1,.phase⟩,⟨2,.phase⟩,⟨3,.textOnly .lateStores⟩,⟨4,.textOnly .lateStores⟩,⟨5,.textOnly .lateStoresUnsure⟩,⟨6,.phase⟩,⟨7,.phase⟩],none⟩,
  ⟨none,.store 49 (.tmp 8) (.tmp 19),0, "measure.go:44",#[⟨7,.data⟩,⟨5,.data⟩,⟨8,.chain⟩,⟨0,.phase⟩,⟨1,.phase⟩,⟨2,.phase⟩,⟨3,.phase⟩,⟨4,.phase⟩,⟨5,.phase⟩,⟨6,.phase⟩,⟨7,.phase⟩,⟨8,.phase⟩],none⟩] true).wp Tryz.prog Q ac w:=by
 have hnd:([14,15,16,17,18,19,7,8]:List Nat).Nodup:=by decide
 have G:∀ (sv:Nat→Value) (t:Nat),t ∈ ([14,15,16,17,18,19,7,8]:List Nat)→t≤19→(putAll ac [14,15,16,17,18,19,7,8] sv).eval (.tmp t)=sv t:=fun sv t ht h=>eval_putAll_mem (t:=t) [14,15,16,17,18,19,7,8] ac hnd ht (Nat.lt_of_le_of_lt h hsz)
 have E3:∀ sv:Nat→Value,(putAll ac [14,15,16,17,18,19,7,8] sv).eval (.tmp 3)=Value.pointer (some ⟨gp,0,none⟩):=fun sv=>(eval_putAll_not (v:=sv) [14,15,16,17,18,19,7,8] ac (show 3 ∉ _ by decide)).trans e3
 have E4:∀ sv:Nat→Value,(putAll ac [14,15,16,17,18,19,7,8] sv).eval (.tmp 4)=Value.pointer (some ⟨gq,0,none⟩):=fun sv=>(eval_putAll_not (v:=sv) [14,15,16,17,18,19,7,8] ac (show 4 ∉ _ by decide)).trans e4
 have E5:∀ sv:Nat→Value,(putAll ac [14,15,16,17,18,19,7,8] sv).eval (.tmp 5)=Value.pointer (some ⟨gr,0,none⟩):=fun sv=>(eval_putAll_not (v:=sv) [14,15,16,17,18,19,7,8] ac (show 5 ∉ _ by decide)).trans e5
 have NE:∀ t:Nat,(t ≠ 7∧t ≠ 8)→∀ p ∈ [B0_segs ax ay bx by_ k,B1_segs px py ax ay kp k],t ≠ p.tA:=by
  intro t ht p hp
  simp only [List.mem_cons,List.not_mem_nil,or_false] at hp
  rcases hp with rfl | rfl
  · exact ht.1
  · exact ht.2
 refine wp_region_flows [14,15,16,17,18,19,7,8] [B0_segs ax ay bx by_ k,B1_segs px py ax ay kp k] (F_segs s_p t_p A_p B_p E_p F_p n_p c_p m_p d_p i_p e_p j_p f_p s_q t_q A_q B_q E_q F_q n_q c_q m_q d_q i_q e_q j_q f_q s_r t_r A_r B_r E_r F_r n_r c_r m_r d_r i_r e_r j_r f_r px py ax ay bx by_ kp k) (by kernel_rfl) (by kernel_rfl) rfl hnd ?_ ?_ ?_ ?_ ?_ ?_ ?_ ?_
 · intro p hp
   simp only [List.mem_cons,List.not_mem_nil,or_false] at hp
   rcases hp with rfl | rfl
   · refine ⟨⟨⟨some 7,.alloc 49,0, "measure.go:44",#[],none⟩,rfl,rfl,rfl,fun e w'=>run_alloc6⟩,⟨⟨none,.store 49 (.tmp 7) (.tmp 16),0, "measure.go:44",#[⟨6,.data⟩,⟨2,.data⟩,⟨5,.chain⟩,⟨0,.phase⟩,⟨1,.phase⟩,⟨2,.phase⟩,⟨3,.textOnly .lateStores⟩,⟨4,.textOnly .lateStores⟩,⟨5,.textOnly .lateStoresUnsure⟩,⟨6,.phase⟩,⟨7,.phase⟩],none⟩,rfl,rfl,rfl,⟨6,.data⟩,by simp,rfl,rfl⟩,free6 _ _ _ _ _ _ _ _ _ _ _ _ _ _,?_,?_⟩
     · rintro cs w1 w2 ⟨s_,A_,n_,c_,B_,m_,d_,t_,E_,i_,e_,F_,j_,f_,rfl,h⟩ hb;exact ⟨s_,A_,n_,c_,B_,m_,d_,t_,E_,i_,e_,F_,j_,f_,rfl,h.below hb⟩
     · rintro T cs w1 w2 g c0 ⟨s_,A_,n_,c_,B_,m_,d_,t_,E_,i_,e_,F_,j_,f_,rfl,h⟩ hB ho;exact ⟨s_,A_,n_,c_,B_,m_,d_,t_,E_,i_,e_,F_,j_,f_,rfl,h.box hB ho⟩
   · refine ⟨⟨⟨some 8,.alloc 49,0, "measure.go:44",#[],none⟩,rfl,rfl,rfl,fun e w'=>run_alloc6⟩,⟨⟨none,.store 49 (.tmp 8) (.tmp 19),0, "measure.go:44",#[⟨7,.data⟩,⟨5,.data⟩,⟨8,.chain⟩,⟨0,.phase⟩,⟨1,.phase⟩,⟨2,.phase⟩,⟨3,.phase⟩,⟨4,.phase⟩,⟨5,.phase⟩,⟨6,.phase⟩,⟨7,.phase⟩,⟨8,.phase⟩],none⟩,rfl,rfl,rfl,⟨7,.data⟩,by simp,rfl,rfl⟩,free6 _ _ _ _ _ _ _ _ _ _ _ _ _ _,?_,?_⟩
     · rintro cs w1 w2 ⟨s_,A_,n_,c_,B_,m_,d_,t_,E_,i_,e_,F_,j_,f_,rfl,h⟩ hb;exact ⟨s_,A_,n_,c_,B_,m_,d_,t_,E_,i_,e_,F_,j_,f_,rfl,h.below hb⟩
     · rintro T cs w1 w2 g c0 ⟨s_,A_,n_,c_,B_,m_,d_,t_,E_,i_,e_,F_,j_,f_,rfl,h⟩ hB ho;exact ⟨s_,A_,n_,c_,B_,m_,d_,t_,E_,i_,e_,F_,j_,f_,rfl,h.box hB ho⟩
 · intro p hp q hq h
   simp only [List.mem_cons,List.not_mem_nil,or_false] at hp hq
   rcases hp with rfl | rfl <;> rcases hq with rfl | rfl
   · rfl
   · exact absurd (show (7:Nat)=8 from h) (by decide)
   · exact absurd (show (8:Nat)=7 from h) (by decide)
   · rfl
 · intro p hp q hq h
   simp only [List.mem_cons,List.not_mem_nil,or_false] at hp hq
   rcases hp with rfl | rfl <;> rcases hq with rfl | rfl
   · rfl
   · exact absurd (show (8:Nat)=9 from h) (by decide)
   · exact absurd (show (9:Nat)=8 from h) (by decide)
   · rfl
 · intro i o h1 h2
   match i,h1 with
   | 0,h1=>cases h1;cases h2
   | 1,h1=>cases h1;cases h2
   | 2,h1=>cases h1;cases h2
   | 3,h1=>cases h1;cases h2
   | 4,h1=>cases h1;cases h2
   | 5,h1=>cases h1;cases h2
   | 6,h1=>cases h1;cases h2
   | 7,h1=>cases h1;cases h2
   | 8,h1=>exact ⟨B0_segs ax ay bx by_ k,List.Mem.head _,rfl⟩
   | 9,h1=>exact ⟨B1_segs px py ax ay kp k,List.Mem.tail _ (List.Mem.head _),rfl⟩
   | i+10,h1=>cases h1
 · intro t
   unfold F_segs
   split <;> first | exact stays_eq _ | exact stays_q _ _ | exact stays_z _ _ | exact stays_r _ _ | exact stays_rq _ _ | exact stays_pg _ _ _ | exact stays_true
 · intro i o t sv w' ho hia hd J0 hf
   have p:=p.below J0;have q:=q.below J0;have r:=r.below J0;have XA:=XA.below J0;have XB:=XB.below J0;have XC:=XC.below J0
   match i,ho with
   | 0,ho =>
     obtain rfl:⟨some 14,.load 49 (.tmp 5),49, "measure.go:44",#[],none⟩=o:=Option.some.inj ho
     cases hd
     refine wpOp_plain' (o:=⟨some 14,.load 49 (.tmp 5),49, "measure.go:44",#[],none⟩) rfl rfl ?_
     unfold Oper.wp
     rw [run_load6 (E5 sv) XC.c0 XC.c1 XC.c2 XC.c3 XC.c4 XC.c5,Oper.upon_value]
     exact ⟨_,rfl,Below.refl _ _,rfl⟩
   | 1,ho =>
     obtain rfl:⟨some 15,.load 49 (.tmp 4),49, "measure.go:44",#[],none⟩=o:=Option.some.inj ho
     cases hd
     refine wpOp_plain' (o:=⟨some 15,.load 49 (.tmp 4),49, "measure.go:44",#[],none⟩) rfl rfl ?_
     unfold Oper.wp
     rw [run_load6 (E4 sv) XB.c0 XB.c1 XB.c2 XB.c3 XB.c4 XB.c5,Oper.upon_value]
     exact ⟨_,rfl,Below.refl _ _,rfl⟩
   | 2,ho =>
     obtain rfl:⟨some 16,.call ⟨.value (.func 53),#[.tmp 14,.tmp 15],#[49,49]⟩,49, "measure.go:44",#[⟨0,.data⟩,⟨1,.data⟩],none⟩=o:=Option.some.inj ho
     cases hd
     have f14:sv 14=Value.agg #[.bool s_r,.slice A_r n_r c_r,.slice B_r m_r d_r,.bool t_r,.slice E_r i_r e_r,.slice F_r j_r f_r]:=hf ⟨0,.data⟩ (by simp) rfl _ 14 rfl rfl (NE _ (by decide))
     have f15:sv 15=Value.agg #[.bool s_q,.slice A_q n_q c_q,.slice B_q m_q d_q,.bool t_q,.slice E_q i_q e_q,.slice F_q j_q f_q]:=hf ⟨1,.data⟩ (by simp) rfl _ 15 rfl rfl (NE _ (by decide))
     refine wpOp_plain' (o:=⟨some 16,.call ⟨.value (.func 53),#[.tmp 14,.tmp 15],#[49,49]⟩,49, "measure.go:44",#[⟨0,.data⟩,⟨1,.data⟩],none⟩) rfl rfl ?_
     unfold Oper.wp
     rw [rc_gesso_pt_Sub ((G sv 14 (by decide) (by decide)).trans f14) ((G sv 15 (by decide) (by decide)).trans f15) rfl,Oper.upon_enter]
     refine (psub_p r q (by omega) (by omega) (.inl (by omega)) h2 h2).mono ?_
     rintro e w1 ⟨s_,A_,n_,c_,B_,m_,d_,t_,E_,i_,e_,F_,j_,f_,rfl,hq,hh⟩
     exact ⟨_,rfl,hh,s_,A_,n_,c_,B_,m_,d_,t_,E_,i_,e_,F_,j_,f_,rfl,hq⟩
   | 3,ho =>
     obtain rfl:⟨some 17,.load 49 (.tmp 3),49, "measure.go:44",#[],none⟩=o:=Option.some.inj ho
     cases hd
     refine wpOp_plain' (o:=⟨some 17,.load 49 (.tmp 3),49, "measure.go:44",#[],none⟩) rfl rfl ?_
     unfold Oper.wp
     rw [run_load6 (E3 sv) XA.c0 XA.c1 XA.c2 XA.c3 XA.c4 XA.c5,Oper.upon_value]
     exact ⟨_,rfl,Below.refl _ _,rfl⟩
   | 4,ho =>
     obtain rfl:⟨some 18,.load 49 (.tmp 4),49, "measure.go:44",#[],none⟩=o:=Option.some.inj ho
     cases hd
     refine wpOp_plain' (o:=⟨some 18,.load 49 (.tmp 4),49, "measure.go:44",#[],none⟩) rfl rfl ?_
     unfold Oper.wp
     rw [run_load6 (E4 sv) XB.c0 XB.c1 XB.c2 XB.c3 XB.c4 XB.c5,Oper.upon_value]
     exact ⟨_,rfl,Below.refl _ _,rfl⟩
   | 5,ho =>
     obtain rfl:⟨some 19,.call ⟨.value (.func 53),#[.tmp 17,.tmp 18],#[49,49]⟩,49, "measure.go:44",#[⟨3,.data⟩,⟨4,.data⟩,⟨2,.chain⟩],none⟩=o:=Option.some.inj ho
     cases hd
     have f17:sv 17=Value.agg #[.bool s_p,.slice A_p n_p c_p,.slice B_p m_p d_p,.bool t_p,.slice E_p i_p e_p,.slice F_p j_p f_p]:=hf ⟨3,.data⟩ (by simp) rfl _ 17 rfl rfl (NE _ (by decide))
     have f18:sv 18=Value.agg #[.bool s_q,.slice A_q n_q c_q,.slice B_q m_q d_q,.bool t_q,.slice E_q i_q e_q,.slice F_q j_q f_q]:=hf ⟨4,.data⟩ (by simp) rfl _ 18 rfl rfl (NE _ (by decide))
     refine wpOp_plain' (o:=⟨some 19,.call ⟨.value (.func 53),#[.tmp 17,.tmp 18],#[49,49]⟩,49, "measure.go:44",#[⟨3,.data⟩,⟨4,.data⟩,⟨2,.chain⟩],none⟩) rfl rfl ?_
     unfold Oper.wp
     rw [rc_gesso_pt_Sub ((G sv 17 (by decide) (by decide)).trans f17) ((G sv 18 (by decide) (by decide)).trans f18) rfl,Oper.upon_enter]
     refine (psub_p p q (by omega) (by omega) (.inl (by omega)) h1 h2).mono ?_
     rintro e w1 ⟨s_,A_,n_,c_,B_,m_,d_,t_,E_,i_,e_,F_,j_,f_,rfl,hq,hh⟩
     exact ⟨_,rfl,hh,s_,A_,n_,c_,B_,m_,d_,t_,E_,i_,e_,F_,j_,f_,rfl,hq⟩
   | 6,ho=>cases ho;cases hd;exact absurd rfl (hia (B0_segs ax ay bx by_ k) (List.Mem.head _))
   | 7,ho=>cases ho;cases hd;exact absurd rfl (hia (B1_segs px py ax ay kp k) (List.Mem.tail _ (List.Mem.head _)))
   | 8,ho=>cases ho;cases hd
   | 9,ho=>cases ho;cases hd
   | i+10,ho=>cases ho
 · intro p hp os sv w' g hos J0 p1 p3 hf
   simp only [List.mem_cons,List.not_mem_nil,or_false] at hp
   rcases hp with rfl | rfl
   · obtain rfl:⟨none,.store 49 (.tmp 7) (.tmp 16),0, "measure.go:44",#[⟨6,.data⟩,⟨2,.data⟩,⟨5,.chain⟩,⟨0,.phase⟩,⟨1,.phase⟩,⟨2,.phase⟩,⟨3,.textOnly .lateStores⟩,⟨4,.textOnly .lateStores⟩,⟨5,.textOnly .lateStoresUnsure⟩,⟨6,.phase⟩,⟨7,.phase⟩],none⟩=os:=Option.some.inj hos
     have h1:VPG (bx - ax) (by_ - ay) (k+k+1) (sv 16) w':=hf ⟨2,.data⟩ (by simp) rfl _ 16 rfl rfl (NE _ (by decide))
     rw [← G sv 16 (by decide) (by decide)] at h1
     refine store_pg (x:=bx - ax) (y:=by_ - ay) (k:=k+k+1) (ac:=putAll ac [14,15,16,17,18,19,7,8] sv) (z:=.tmp 16) ?_ ?_ ?_
     · exact (G sv 7 (by decide) (by decide)).trans p1
     · exact h1
     · exact p3
   · obtain rfl:⟨none,.store 49 (.tmp 8) (.tmp 19),0, "measure.go:44",#[⟨7,.data⟩,⟨5,.data⟩,⟨8,.chain⟩,⟨0,.phase⟩,⟨1,.phase⟩,⟨2,.phase⟩,⟨3,.phase⟩,⟨4,.phase⟩,⟨5,.phase⟩,⟨6,.phase⟩,⟨7,.phase⟩,⟨8,.phase⟩],none⟩=os:=Option.some.inj hos
     have h1:VPG (px - ax) (py - ay) (kp+k+1) (sv 19) w':=hf ⟨5,.data⟩ (by simp) rfl _ 19 rfl rfl (NE _ (by decide))
     rw [← G sv 19 (by decide) (by decide)] at h1
     refine store_pg (x:=px - ax) (y:=py - ay) (k:=kp+k+1) (ac:=putAll ac [14,15,16,17,18,19,7,8] sv) (z:=.tmp 19) ?_ ?_ ?_
     · exact (G sv 8 (by decide) (by decide)).trans p1
     · exact h1
     · exact p3
 · intro sv w' J0 hF hB hap
   obtain ⟨g0,cs0,p0,r0,b0,⟨s0,A0,n0,c0,B0,m0,d0,t0,E0,i0,e0,F0,j0,f0,rfl,h0⟩⟩:=hB (B0_segs ax ay bx by_ k) (List.Mem.head _)
   obtain ⟨g1,cs1,p1,r1,b1,⟨s1,A1,n1,c1,B1,m1,d1,t1,E1,i1,e1,F1,j1,f1,rfl,h1⟩⟩:=hB (B1_segs px py ax ay kp k) (List.Mem.tail _ (List.Mem.head _))
   have p0':sv 7=.pointer (some ⟨g0,0,none⟩):=p0
   have p1':sv 8=.pointer (some ⟨g1,0,none⟩):=p1
   exact hend sv w' g0 _ _ _ _ _ _ _ _ _ _ _ _ _ _ g1 _ _ _ _ _ _ _ _ _ _ _ _ _ _ h0 b0.at_ r0 p0' h1 b1.at_ r1 p1' (fun q=>hap (B1_segs px py ax ay kp k) (List.Mem.tail _ (List.Mem.head _)) (B0_segs ax ay bx by_ k) (List.Mem.head _) (show (8:Nat) ≠ 7 by decide) (by rw [show (B1_segs px py ax ay kp k).tA=8 from rfl,show (B0_segs ax ay bx by_ k).tA=7 from rfl,p1',p0',q]))  J0
theorem rc_gesso_pt_Dot {e:Operand→Value} {x0 x1:Operand} {d:Option Tmp} {y:Nat} {pos:String} {af:Array Edge} {u0 u1:Value} (h0:e x0=u0) (h1:e x1=u1) (hf:e (.func 54)=.func (.func 54) #[] #[]) :
 (execOp e ⟨d,.call ⟨.value (.func 54),#[x0,x1],#[49,49]⟩,y,pos,af,none⟩).run Tryz.prog w=.ok (.enter 54 #[u0,u1]) w:=by
 go_simp
theorem rc_gesso_pt_square {e:Operand→Value} {x0:Operand} {d:Option Tmp} {y:Nat} {pos:String} {af:Array Edge} {u0:Value} (h0:e x0=u0) (hf:e (.func 55)=.func (.func 55) #[] #[]) :
 (execOp e ⟨d,.call ⟨.value (.func 55),#[x0],#[49]⟩,y,pos,af,none⟩).run Tryz.prog w=.ok (.enter 55 #[u0]) w:=by
 go_simp
def F_dots (s_a:Bool) (t_a:Bool) (A_a:Option Addr) (B_a:Option Addr) (E_a:Option Addr) (F_a:Option Addr) (n_a:Nat) (c_a:Nat) (m_a:Nat) (d_a:Nat) (i_a:Nat) (e_a:Nat) (j_a:Nat) (f_a:Nat) (s_b:Bool) (t_b:Bool) (A_b:Option Addr) (B_b:Option Addr) (E_b:Option Addr) (F_b:Option Addr) (n_b:Nat) (c_b:Nat) (m_b:Nat) (d_b:Nat) (i_b:Nat) (e_b:Nat) (j_b:Nat) (f_b:Nat) (wx:Rat) (wy:Rat) (tx:Rat) (ty:Rat) (ks:Nat) (kt:Nat) (sl:Nat):Value→World→Prop :=
 match sl with
 | 20=>fun x _=>x=Value.agg #[.bool s_b,.slice A_b n_b c_b,.slice B_b m_b d_b,.bool t_b,.slice E_b i_b e_b,.slice F_b j_b f_b]
 | 21=>fun x _=>x=Value.agg #[.bool s_a,.slice A_a n_a c_a,.slice B_a m_a d_a,.bool t_a,.slice E_a i_a e_a,.slice F_a j_a f_a]
 | 22=>VQ (tx*wx+ty*wy) (kt+ks+(kt+ks)+1)
 | 23=>fun x _=>x=Value.agg #[.bool s_a,.slice A_a n_a c_a,.slice B_a m_a d_a,.bool t_a,.slice E_a i_a e_a,.slice F_a j_a f_a]
 | 24=>VQ (wx*wx+wy*wy) (ks+ks+(ks+ks)+1)
 | _=>fun _ _=>True
def B0_dots (wx:Rat) (wy:Rat) (tx:Rat) (ty:Rat) (ks:Nat) (kt:Nat):BoxOp :=
 ⟨5,7,9,27,#[.bool false,.slice none 0 0,.slice none 0 0],fun cs w=>∃ s A n c B m d,cs=#[.bool s,.slice A n c,.slice B m d]∧QG w s A n c B m d (tx*wx+ty*wy) (kt+ks+(kt+ks)+1)⟩
def B1_dots (wx:Rat) (wy:Rat) (ks:Nat):BoxOp :=
 ⟨6,8,10,27,#[.bool false,.slice none 0 0,.slice none 0 0],fun cs w=>∃ s A n c B m d,cs=#[.bool s,.slice A n c,.slice B m d]∧QG w s A n c B m d (wx*wx+wy*wy) (ks+ks+(ks+ks)+1)⟩
theorem dots_region {id:Nat} {ac:Act} {Q:Exit→Act→World→Prop} {wx wy tx ty:Rat} {ks kt gp gq:Nat}
 (hsz:24 < ac.tmps.size) (e7:ac.eval (.tmp 7)=Value.pointer (some ⟨gp,0,none⟩)) (e8:ac.eval (.tmp 8)=Value.pointer (some ⟨gq,0,none⟩)) (XW:B6 w gp (.bool s_a) (.slice A_a n_a c_a) (.slice B_a m_a d_a) (.bool t_a) (.slice E_a i_a e_a) (.slice F_a j_a f_a)) (XT:B6 w gq (.bool s_b) (.slice A_b n_b c_b) (.slice B_b m_b d_b) (.bool t_b) (.slice E_b i_b e_b) (.slice F_b j_b f_b)) (a:PR w s_a A_a n_a c_a B_a m_a d_a t_a E_a i_a e_a F_a j_a f_a wx wy ks) (b:PR w s_b A_b n_b c_b B_b m_b d_b t_b E_b i_b e_b F_b j_b f_b tx ty kt) (hks:ks≤9000) (hkt:kt≤9000) (h1:1≤ks) (h2:1≤kt)
 (hend:∀ (V:Nat→Value) (w':World) (g0:Nat) (s0:Bool) (A0:Option Addr) (n0:Nat) (c0:Nat) (B0:Option Addr) (m0:Nat) (d0:Nat) (g1:Nat) (s1:Bool) (A1:Option Addr) (n1:Nat) (c1:Nat) (B1:Option Addr) (m1:Nat) (d1:Nat),QG w' s0 A0 n0 c0 B0 m0 d0 (tx*wx+ty*wy) (kt+ks+(kt+ks)+1)→B3 w' g0 (.bool s0) (.slice A0 n0 c0) (.slice B0 m0 d0)→w.heap.size≤g0→V 9=.pointer (some ⟨g0,0,none⟩)→QG w' s1 A1 n1 c1 B1 m1 d1 (wx*wx+wy*wy) (ks+ks+(ks+ks)+1)→B3 w' g1 (.bool s1) (.slice A1 n1 c1) (.slice B1 m1 d1)→w.heap.size≤g1→V 10=.pointer (some ⟨g1,0,none⟩)→g1 ≠ g0→Below w.heap.size w w'→Q .normal (putAll ac [20,21,22,23,24,9,10] V) w') :
 (Code.region id #[⟨some 20,.load 49 (.tmp 8),49, "measure.go:45",#[],none⟩,
  ⟨some 21,.load 49 (.tmp 7),49, "measure.go:45",#[],none⟩,
  ⟨some 22,.call ⟨.value (.func 54),#[.tmp 20,.tmp 21],#[49,49]⟩,27, "measure.go:45",#[⟨0,.data⟩,⟨1,.data⟩],none⟩,
  ⟨some 23,.load 49 (.tmp 7),49, "measure.go:45",#[],none⟩,
  ⟨some 24,.call ⟨.value (.func 55),#[.tmp 23],#[49]⟩,27, "measure.go:45",#[⟨3,.data⟩,⟨2,.chain⟩],none⟩,
  ⟨some 9,.alloc 27,0, "measure.go:45",#[],none⟩,
  ⟨some 10,.alloc 27,0, "measure.go:45",#[],none⟩,
  ⟨none,.store 27 (.tmp 9) (.tmp 22),0, "measure.go:45",#[⟨5,.data⟩,⟨2,.data⟩,⟨4,.chain⟩,⟨0,.phase⟩,⟨1,.phase⟩,⟨2,.phase⟩,⟨3,.textOnly .lateStores⟩,⟨4,.textOnly .lateStoresUnsure⟩,⟨5,.phase⟩,⟨6,.phase⟩],none⟩,
  ⟨none,.store 27 (.tmp 10) (.tmp 24),0, "measure.go:45",#[⟨6,.data⟩,⟨4,.data⟩,⟨7,.chain⟩,⟨0,.phase⟩,⟨1,.phase⟩,⟨2,.phase⟩,⟨3,.phase⟩,⟨4,.phase⟩,⟨5,.phase⟩,⟨6,.phase⟩,⟨7,.phase⟩],none⟩] true).wp Tryz.prog Q ac w:=by
 have hnd:([20,21,22,23,24,9,10]:List Nat).Nodup:=by decide
 have G:∀ (sv:Nat→Value) (t:Nat),t ∈ ([20,21,22,23,24,9,10]:List Nat)→t≤24→(putAll ac [20,21,22,23,24,9,10] sv).eval (.tmp t)=sv t:=fun sv t ht h=>eval_putAll_mem (t:=t) [20,21,22,23,24,9,10] ac hnd ht (Nat.lt_of_le_of_lt h hsz)
 have E7:∀ sv:Nat→Value,(putAll ac [20,21,22,23,24,9,10] sv).eval (.tmp 7)=Value.pointer (some ⟨gp,0,none⟩):=fun sv=>(eval_putAll_not (v:=sv) [20,21,22,23,24,9,10] ac (show 7 ∉ _ by decide)).trans e7
 have E8:∀ sv:Nat→Value,(putAll ac [20,21,22,23,24,9,10] sv).eval (.tmp 8)=Value.pointer (some ⟨gq,0,none⟩):=fun sv=>(eval_putAll_not (v:=sv) [20,21,22,23,24,9,10] ac (show 8 ∉ _ by decide)).trans e8
 have NE:∀ t:Nat,(t ≠ 9∧t ≠ 10)→∀ p ∈ [B0_dots wx wy tx ty ks kt,B1_dots wx wy ks],t ≠ p.tA:=by
  intro t ht p hp
  simp only [List.mem_cons,List.not_mem_nil,or_false] at hp
  rcases hp with rfl | rfl
  · exact ht.1
  · exact ht.2
 refine wp_region_flows [20,21,22,23,24,9,10] [B0_dots wx wy tx ty ks kt,B1_dots wx wy ks] (F_dots s_a t_a A_a B_a E_a F_a n_a c_a m_a d_a i_a e_a j_a f_a s_b t_b A_b B_b E_b F_b n_b c_b m_b d_b i_b e_b j_b f_b wx wy tx ty ks kt) (by kernel_rfl) (by kernel_rfl) rfl hnd ?_ ?_ ?_ ?_ ?_ ?_ ?_ ?_
 · intro p hp
   simp only [List.mem_cons,List.not_mem_nil,or_false] at hp
   rcases hp with rfl | rfl
   · refine ⟨⟨⟨some 9,.alloc 27,0, "measure.go:45",#[],none⟩,rfl,rfl,rfl,fun e w'=>run_allocQ⟩,⟨⟨none,.store 27 (.tmp 9) (.tmp 22),0, "measure.go:45",#[⟨5,.data⟩,⟨2,.data⟩,⟨4,.chain⟩,⟨0,.phase⟩,⟨1,.phase⟩,⟨2,.phase⟩,⟨3,.textOnly .lateStores⟩,⟨4,.textOnly .lateStoresUnsure⟩,⟨5,.phase⟩,⟨6,.phase⟩],none⟩,rfl,rfl,rfl,⟨5,.data⟩,by simp,rfl,rfl⟩,free3 _ _ _ _ _ _ _,?_,?_⟩
     · rintro cs w1 w2 ⟨s_,A_,n_,c_,B_,m_,d_,rfl,h⟩ hb;exact ⟨s_,A_,n_,c_,B_,m_,d_,rfl,h.below hb⟩
     · rintro T cs w1 w2 g c0 ⟨s_,A_,n_,c_,B_,m_,d_,rfl,h⟩ hB ho;exact ⟨s_,A_,n_,c_,B_,m_,d_,rfl,h.box hB ho⟩
   · refine ⟨⟨⟨some 10,.alloc 27,0, "measure.go:45",#[],none⟩,rfl,rfl,rfl,fun e w'=>run_allocQ⟩,⟨⟨none,.store 27 (.tmp 10) (.tmp 24),0, "measure.go:45",#[⟨6,.data⟩,⟨4,.data⟩,⟨7,.chain⟩,⟨0,.phase⟩,⟨1,.phase⟩,⟨2,.phase⟩,⟨3,.phase⟩,⟨4,.phase⟩,⟨5,.phase⟩,⟨6,.phase⟩,⟨7,.phase⟩],none⟩,rfl,rfl,rfl,⟨6,.data⟩,by simp,rfl,rfl⟩,free3 _ _ _ _ _ _ _,?_,?_⟩
     · rintro cs w1 w2 ⟨s_,A_,n_,c_,B_,m_,d_,rfl,h⟩ hb;exact ⟨s_,A_,n_,c_,B_,m_,d_,rfl,h.below hb⟩
     · rintro T cs w1 w2 g c0 ⟨s_,A_,n_,c_,B_,m_,d_,rfl,h⟩ hB ho;exact ⟨s_,A_,n_,c_,B_,m_,d_,rfl,h.box hB ho⟩
 · intro p hp q hq h
   simp only [List.mem_cons,List.not_mem_nil,or_false] at hp hq
   rcases hp with rfl | rfl <;> rcases hq with rfl | rfl
   · rfl
   · exact absurd (show (9:Nat)=10 from h) (by decide)
   · exact absurd (show (10:Nat)=9 from h) (by decide)
   · rfl
 · intro p hp q hq h
   simp only [List.mem_cons,List.not_mem_nil,or_false] at hp hq
   rcases hp with rfl | rfl <;> rcases hq with rfl | rfl
   · rfl
   · exact absurd (show (7:Nat)=8 from h) (by decide)
   · exact absurd (show (8:Nat)=7 from h) (by decide)
   · rfl
 · intro i o h1 h2
   match i,h1 with
   | 0,h1=>cases h1;cases h2
   | 1,h1=>cases h1;cases h2
   | 2,h1=>cases h1;cases h2
   | 3,h1=>cases h1;cases h2
   | 4,h1=>cases h1;cases h2
   | 5,h1=>cases h1;cases h2
   | 6,h1=>cases h1;cases h2
   | 7,h1=>exact ⟨B0_dots wx wy tx ty ks kt,List.Mem.head _,rfl⟩
   | 8,h1=>exact ⟨B1_dots wx wy ks,List.Mem.tail _ (List.Mem.head _),rfl⟩
   | i+9,h1=>cases h1
 · intro t
   unfold F_dots
   split <;> first | exact stays_eq _ | exact stays_q _ _ | exact stays_z _ _ | exact stays_r _ _ | exact stays_rq _ _ | exact stays_pg _ _ _ | exact stays_true
 · intro i o t sv w' ho hia hd J0 hf
   have a:=a.below J0;have b:=b.below J0;have XW:=XW.below J0;have XT:=XT.below J0
   match i,ho with
   | 0,ho =>
     obtain rfl:⟨some 20,.load 49 (.tmp 8),49, "measure.go:45",#[],none⟩=o:=Option.some.inj ho
     cases hd
     refine wpOp_plain' (o:=⟨some 20,.load 49 (.tmp 8),49, "measure.go:45",#[],none⟩) rfl rfl ?_
     unfold Oper.wp
     rw [run_load6 (E8 sv) XT.c0 XT.c1 XT.c2 XT.c3 XT.c4 XT.c5,Oper.upon_value]
     exact ⟨_,rfl,Below.refl _ _,rfl⟩
   | 1,ho =>
     obtain rfl:⟨some 21,.load 49 (.tmp 7),49, "measure.go:45",#[],none⟩=o:=Option.some.inj ho
     cases hd
     refine wpOp_plain' (o:=⟨some 21,.load 49 (.tmp 7),49, "measure.go:45",#[],none⟩) rfl rfl ?_
     unfold Oper.wp
     rw [run_load6 (E7 sv) XW.c0 XW.c1 XW.c2 XW.c3 XW.c4 XW.c5,Oper.upon_value]
     exact ⟨_,rfl,Below.refl _ _,rfl⟩
   | 2,ho =>
     obtain rfl:⟨some 22,.call ⟨.value (.func 54),#[.tmp 20,.tmp 21],#[49,49]⟩,27, "measure.go:45",#[⟨0,.data⟩,⟨1,.data⟩],none⟩=o:=Option.some.inj ho
     cases hd
     have f20:sv 20=Value.agg #[.bool s_b,.slice A_b n_b c_b,.slice B_b m_b d_b,.bool t_b,.slice E_b i_b e_b,.slice F_b j_b f_b]:=hf ⟨0,.data⟩ (by simp) rfl _ 20 rfl rfl (NE _ (by decide))
     have f21:sv 21=Value.agg #[.bool s_a,.slice A_a n_a c_a,.slice B_a m_a d_a,.bool t_a,.slice E_a i_a e_a,.slice F_a j_a f_a]:=hf ⟨1,.data⟩ (by simp) rfl _ 21 rfl rfl (NE _ (by decide))
     refine wpOp_plain' (o:=⟨some 22,.call ⟨.value (.func 54),#[.tmp 20,.tmp 21],#[49,49]⟩,27, "measure.go:45",#[⟨0,.data⟩,⟨1,.data⟩],none⟩) rfl rfl ?_
     unfold Oper.wp
     rw [rc_gesso_pt_Dot ((G sv 20 (by decide) (by decide)).trans f20) ((G sv 21 (by decide) (by decide)).trans f21) rfl,Oper.upon_enter]
     refine (pdot_p b a (by omega) h2 h1).mono ?_
     rintro e w1 ⟨s_,A_,n_,c_,B_,m_,d_,rfl,hq,hh⟩
     exact ⟨_,rfl,hh,s_,A_,n_,c_,B_,m_,d_,rfl,hq⟩
   | 3,ho =>
     obtain rfl:⟨some 23,.load 49 (.tmp 7),49, "measure.go:45",#[],none⟩=o:=Option.some.inj ho
     cases hd
     refine wpOp_plain' (o:=⟨some 23,.load 49 (.tmp 7),49, "measure.go:45",#[],none⟩) rfl rfl ?_
     unfold Oper.wp
     rw [run_load6 (E7 sv) XW.c0 XW.c1 XW.c2 XW.c3 XW.c4 XW.c5,Oper.upon_value]
     exact ⟨_,rfl,Below.refl _ _,rfl⟩
   | 4,ho =>
     obtain rfl:⟨some 24,.call ⟨.value (.func 55),#[.tmp 23],#[49]⟩,27, "measure.go:45",#[⟨3,.data⟩,⟨2,.chain⟩],none⟩=o:=Option.some.inj ho
     cases hd
     have f23:sv 23=Value.agg #[.bool s_a,.slice A_a n_a c_a,.slice B_a m_a d_a,.bool t_a,.slice E_a i_a e_a,.slice F_a j_a f_a]:=hf ⟨3,.data⟩ (by simp) rfl _ 23 rfl rfl (NE _ (by decide))
     refine wpOp_plain' (o:=⟨some 24,.call ⟨.value (.func 55),#[.tmp 23],#[49]⟩,27, "measure.go:45",#[⟨3,.data⟩,⟨2,.chain⟩],none⟩) rfl rfl ?_
     unfold Oper.wp
     rw [rc_gesso_pt_square ((G sv 23 (by decide) (by decide)).trans f23) rfl,Oper.upon_enter]
     refine (psquare_p a (by omega) h1).mono ?_
     rintro e w1 ⟨s_,A_,n_,c_,B_,m_,d_,rfl,hq,hh⟩
     exact ⟨_,rfl,hh,s_,A_,n_,c_,B_,m_,d_,rfl,hq⟩
   | 5,ho=>cases ho;cases hd;exact absurd rfl (hia (B0_dots wx wy tx ty ks kt) (List.Mem.head _))
   | 6,ho=>cases ho;cases hd;exact absurd rfl (hia (B1_dots wx wy ks) (List.Mem.tail _ (List.Mem.head _)))
   | 7,ho=>cases ho;cases hd
   | 8,ho=>cases ho;cases hd
   | i+9,ho=>cases ho
 · intro p hp os sv w' g hos J0 p1 p3 hf
   simp only [List.mem_cons,List.not_mem_nil,or_false] at hp
   rcases hp with rfl | rfl
   · obtain rfl:⟨none,.store 27 (.tmp 9) (.tmp 22),0, "measure.go:45",#[⟨5,.data⟩,⟨2,.data⟩,⟨4,.chain⟩,⟨0,.phase⟩,⟨1,.phase⟩,⟨2,.phase⟩,⟨3,.textOnly .lateStores⟩,⟨4,.textOnly .lateStoresUnsure⟩,⟨5,.phase⟩,⟨6,.phase⟩],none⟩=os:=Option.some.inj hos
     have h1:VQ (tx*wx+ty*wy) (kt+ks+(kt+ks)+1) (sv 22) w':=hf ⟨2,.data⟩ (by simp) rfl _ 22 rfl rfl (NE _ (by decide))
     rw [← G sv 22 (by decide) (by decide)] at h1
     refine store_q (V:=tx*wx+ty*wy) (k:=kt+ks+(kt+ks)+1) (ac:=putAll ac [20,21,22,23,24,9,10] sv) (z:=.tmp 22) ?_ ?_ ?_
     · exact (G sv 9 (by decide) (by decide)).trans p1
     · exact h1
     · exact p3
   · obtain rfl:⟨none,.store 27 (.tmp 10) (.tmp 24),0, "measure.go:45",#[⟨6,.data⟩,⟨4,.data⟩,⟨7,.chain⟩,⟨0,.phase⟩,⟨1,.phase⟩,⟨2,.phase⟩,⟨3,.phase⟩,⟨4,.phase⟩,⟨5,.phase⟩,⟨6,.phase⟩,⟨7,.phase⟩],none⟩=os:=Option.some.inj hos
     have h1:VQ (wx*wx+wy*wy) (ks+ks+(ks+ks)+1) (sv 24) w':=hf ⟨4,.data⟩ (by simp) rfl _ 24 rfl rfl (NE _ (by decide))
     rw [← G sv 24 (by decide) (by decide)] at h1
     refine store_q (V:=wx*wx+wy*wy) (k:=ks+ks+(ks+ks)+1) (ac:=putAll ac [20,21,22,23,24,9,10] sv) (z:=.tmp 24) ?_ ?_ ?_
     · exact (G sv 10 (by decide) (by decide)).trans p1
     · exact h1
     · exact p3
 · intro sv w' J0 hF hB hap
   obtain ⟨g0,cs0,p0,r0,b0,⟨s0,A0,n0,c0,B0,m0,d0,rfl,h0⟩⟩:=hB (B0_dots wx wy tx ty ks kt) (List.Mem.head _)
   obtain ⟨g1,cs1,p1,r1,b1,⟨s1,A1,n1,c1,B1,m1,d1,rfl,h1⟩⟩:=hB (B1_dots wx wy ks) (List.Mem.tail _ (List.Mem.head _))
   have p0':sv 9=.pointer (some ⟨g0,0,none⟩):=p0
   have p1':sv 10=.pointer (some ⟨g1,0,none⟩):=p1
   exact hend sv w' g0 _ _ _ _ _ _ _ g1 _ _ _ _ _ _ _ h0 b0.at_ r0 p0' h1 b1.at_ r1 p1' (fun q=>hap (B1_dots wx wy ks) (List.Mem.tail _ (List.Mem.head _)) (B0_dots wx wy tx ty ks kt) (List.Mem.head _) (show (10:Nat) ≠ 9 by decide) (by rw [show (B1_dots wx wy ks).tA=10 from rfl,show (B0_dots wx wy tx ty ks kt).tA=9 from rfl,p1',p0',q]))  J0
theorem rc_gesso_rat_Mul {e:Operand→Value} {x0 x1:Operand} {d:Option Tmp} {y:Nat} {pos:String} {af:Array Edge} {u0 u1:Value} (h0:e x0=u0) (h1:e x1=u1) (hf:e (.func 23)=.func (.func 23) #[] #[]) :
 (execOp e ⟨d,.call ⟨.value (.func 23),#[x0,x1],#[27,27]⟩,y,pos,af,none⟩).run Tryz.prog w=.ok (.enter 23 #[u0,u1]) w:=by
 go_simp
theorem rc_gesso_rat_Div {e:Operand→Value} {x0 x1:Operand} {d:Option Tmp} {y:Nat} {pos:String} {af:Array Edge} {u0 u1:Value} (h0:e x0=u0) (h1:e x1=u1) (hf:e (.func 48)=.func (.func 48) #[] #[]) :
 (execOp e ⟨d,.call ⟨.value (.func 48),#[x0,x1],#[27,27]⟩,y,pos,af,none⟩).run Tryz.prog w=.ok (.enter 48 #[u0,u1]) w:=by
 go_simp
def F_aside (s_c:Bool) (A_c:Option Addr) (B_c:Option Addr) (n_c:Nat) (c_c:Nat) (m_c:Nat) (d_c:Nat) (s_g:Bool) (A_g:Option Addr) (B_g:Option Addr) (n_g:Nat) (c_g:Nat) (m_g:Nat) (d_g:Nat) (cv:Rat) (gv:Rat) (k1:Nat) (k2:Nat) (sl:Nat):Value→World→Prop :=
 match sl with
 | 43=>fun x _=>x=Value.agg #[.bool s_c,.slice A_c n_c c_c,.slice B_c m_c d_c]
 | 44=>fun x _=>x=Value.agg #[.bool s_c,.slice A_c n_c c_c,.slice B_c m_c d_c]
 | 45=>VQ (cv*cv) (k1+k1)
 | 46=>fun x _=>x=Value.agg #[.bool s_g,.slice A_g n_g c_g,.slice B_g m_g d_g]
 | 47=>VQE (fun u=>∃ R,u=R∧R=cv*cv / gv) (k1+k1+k2)
 | 42=>VQE (fun u=>∃ R,u=R∧R=cv*cv / gv) (k1+k1+k2)
 | 48=>VQS (fun u=>∃ R,u=R∧R=cv*cv / gv) (k1+k1+k2)
 | 49=>fun x _=>x=Value.int .i64 0
 | 13=>fun x _=>x=Value.int .i64 0
 | _=>fun _ _=>True
theorem aside_region {id:Nat} {ac:Act} {Q:Exit→Act→World→Prop} {cv gv:Rat} {k1 k2 gp gq:Nat}
 (hsz:49 < ac.tmps.size) (e11:ac.eval (.tmp 11)=Value.pointer (some ⟨gp,0,none⟩)) (e10:ac.eval (.tmp 10)=Value.pointer (some ⟨gq,0,none⟩)) (XU:B3 w gp (.bool s_c) (.slice A_c n_c c_c) (.slice B_c m_c d_c)) (XG:B3 w gq (.bool s_g) (.slice A_g n_g c_g) (.slice B_g m_g d_g)) (c:QR w s_c A_c n_c c_c B_c m_c d_c cv k1) (g:QR w s_g A_g n_g c_g B_g m_g d_g gv k2) (hk1:k1≤20000) (hk2:k2≤40000) (h1:1≤k1) (h2:1≤k2) (hg:gv ≠ 0)
 (hend:∀ (V:Nat→Value) (w':World) (g:Nat) (u:Rat) (s:Bool) (A:Option Addr) (n c:Nat) (B:Option Addr) (m d:Nat),(fun u=>∃ R,u=R∧R=cv*cv / gv) u→QG w' s A n c B m d u (k1+k1+k2)→B3 w' g (.bool s) (.slice A n c) (.slice B m d)→Below w.heap.size w w'→w.heap.size≤g→V 12=.pointer (some ⟨g,0,none⟩)→Q .normal (putAll ac [43,44,45,46,47,42,48,49,12,13] V) w') :
 (Code.region id #[⟨some 43,.load 27 (.tmp 11),27, "measure.go:54",#[],none⟩,
  ⟨some 44,.load 27 (.tmp 11),27, "measure.go:54",#[],none⟩,
  ⟨some 45,.call ⟨.value (.func 23),#[.tmp 43,.tmp 44],#[27,27]⟩,27, "measure.go:54",#[⟨0,.data⟩,⟨1,.data⟩],none⟩,
  ⟨some 46,.load 27 (.tmp 10),27, "measure.go:54",#[],none⟩,
  ⟨some 47,.call ⟨.value (.func 48),#[.tmp 45,.tmp 46],#[27,27]⟩,34, "measure.go:54",#[⟨2,.data⟩,⟨3,.data⟩,⟨2,.chain⟩],none⟩,
  ⟨some 42,.move (.tmp 47),34, "measure.go:54",#[⟨4,.data⟩],none⟩,
  ⟨some 48,.extract (.tmp 42) 0,27, "measure.go:54",#[⟨5,.data⟩],none⟩,
  ⟨some 49,.extract (.tmp 42) 1,33, "measure.go:54",#[⟨5,.data⟩,⟨9,.gcOnly .lateStores⟩],none⟩,
  ⟨some 12,.alloc 27,0, "measure.go:54",#[],none⟩,
  ⟨none,.store 27 (.tmp 12) (.tmp 48),0, "measure.go:54",#[⟨8,.data⟩,⟨6,.data⟩,⟨4,.chain⟩,⟨0,.phase⟩,⟨1,.phase⟩,⟨2,.phase⟩,⟨3,.phase⟩,⟨4,.phase⟩,⟨5,.phase⟩,⟨6,.phase⟩,⟨7,.textOnly .lateStores⟩,⟨8,.phase⟩],none⟩,
  ⟨some 13,.assign (.tmp 49),33, "measure.go:54",#[⟨7,.data⟩,⟨9,.chain⟩,⟨0,.phase⟩,⟨1,.phase⟩,⟨2,.phase⟩,⟨3,.phase⟩,⟨4,.phase⟩,⟨5,.phase⟩,⟨6,.phase⟩,⟨7,.phase⟩,⟨8,.phase⟩,⟨9,.phase⟩],none⟩] true).wp Tryz.prog Q ac w:=by
 have hnd:([43,44,45,46,47,42,48,49,12,13]:List Nat).Nodup:=by decide
 have G:∀ (sv:Nat→Value) (t:Nat),t ∈ ([43,44,45,46,47,42,48,49,12,13]:List Nat)→t≤49→(putAll ac [43,44,45,46,47,42,48,49,12,13] sv).eval (.tmp t)=sv t:=fun sv t ht h=>eval_putAll_mem (t:=t) [43,44,45,46,47,42,48,49,12,13] ac hnd ht (Nat.lt_of_le_of_lt h hsz)
 have E11:∀ sv:Nat→Value,(putAll ac [43,44,45,46,47,42,48,49,12,13] sv).eval (.tmp 11)=Value.pointer (some ⟨gp,0,none⟩):=fun sv=>(eval_putAll_not (v:=sv) [43,44,45,46,47,42,48,49,12,13] ac (show 11 ∉ _ by decide)).trans e11
 have E10:∀ sv:Nat→Value,(putAll ac [43,44,45,46,47,42,48,49,12,13] sv).eval (.tmp 10)=Value.pointer (some ⟨gq,0,none⟩):=fun sv=>(eval_putAll_not (v:=sv) [43,44,45,46,47,42,48,49,12,13] ac (show 10 ∉ _ by decide)).trans e10
 refine wp_region_flow 27 #[.bool false,.slice none 0 0,.slice none 0 0] [43,44,45,46,47,42,48,49,12,13] 8 9 12 (⟨some 12,.alloc 27,0, "measure.go:54",#[],none⟩) (⟨none,.store 27 (.tmp 12) (.tmp 48),0, "measure.go:54",#[⟨8,.data⟩,⟨6,.data⟩,⟨4,.chain⟩,⟨0,.phase⟩,⟨1,.phase⟩,⟨2,.phase⟩,⟨3,.phase⟩,⟨4,.phase⟩,⟨5,.phase⟩,⟨6,.phase⟩,⟨7,.textOnly .lateStores⟩,⟨8,.phase⟩],none⟩) (F_aside s_c A_c B_c n_c c_c m_c d_c s_g A_g B_g n_g c_g m_g d_g cv gv k1 k2) (fun cs w=>∃ v,(fun u=>∃ R,u=R∧R=cv*cv / gv) v∧∃ s A n c B m d,cs=#[.bool s,.slice A n c,.slice B m d]∧QG w s A n c B m d v (k1+k1+k2)) (by kernel_rfl) (by kernel_rfl) rfl hnd rfl rfl rfl rfl ?_ rfl rfl ⟨⟨8,.data⟩,by simp,rfl,rfl⟩ ?_ (free3 _ _ _ _ _ _ _) (fun e w'=>run_allocQ) ?_ ?_ ?_ ?_
 · intro i o h1 h2
   match i,h1 with
   | 0,h1=>cases h1;cases h2
   | 1,h1=>cases h1;cases h2
   | 2,h1=>cases h1;cases h2
   | 3,h1=>cases h1;cases h2
   | 4,h1=>cases h1;cases h2
   | 5,h1=>cases h1;cases h2
   | 6,h1=>cases h1;cases h2
   | 7,h1=>cases h1;cases h2
   | 8,h1=>cases h1;cases h2
   | 9,h1=>cases h1;rfl
   | 10,h1=>cases h1;cases h2
   | i+11,h1=>cases h1
 · intro t
   unfold F_aside
   split <;> first | exact stays_eq _ | exact stays_q _ _ | exact stays_z _ _ | exact stays_r _ _ | exact stays_qe _ _ | exact stays_qs _ _ | exact stays_true
 · intro i o t sv w' ho hia hd J0 hf
   have c:=c.below J0;have g:=g.below J0;have XU:=XU.below J0;have XG:=XG.below J0
   match i,ho with
   | 0,ho =>
     obtain rfl:⟨some 43,.load 27 (.tmp 11),27, "measure.go:54",#[],none⟩=o:=Option.some.inj ho
     cases hd
     refine wpOp_plain' (o:=⟨some 43,.load 27 (.tmp 11),27, "measure.go:54",#[],none⟩) rfl rfl ?_
     unfold Oper.wp
     rw [run_loadQ (E11 sv) XU.c0 XU.c1 XU.c2,Oper.upon_value]
     exact ⟨_,rfl,Below.refl _ _,rfl⟩
   | 1,ho =>
     obtain rfl:⟨some 44,.load 27 (.tmp 11),27, "measure.go:54",#[],none⟩=o:=Option.some.inj ho
     cases hd
     refine wpOp_plain' (o:=⟨some 44,.load 27 (.tmp 11),27, "measure.go:54",#[],none⟩) rfl rfl ?_
     unfold Oper.wp
     rw [run_loadQ (E11 sv) XU.c0 XU.c1 XU.c2,Oper.upon_value]
     exact ⟨_,rfl,Below.refl _ _,rfl⟩
   | 2,ho =>
     obtain rfl:⟨some 45,.call ⟨.value (.func 23),#[.tmp 43,.tmp 44],#[27,27]⟩,27, "measure.go:54",#[⟨0,.data⟩,⟨1,.data⟩],none⟩=o:=Option.some.inj ho
     cases hd
     have f43:sv 43=Value.agg #[.bool s_c,.slice A_c n_c c_c,.slice B_c m_c d_c]:=hf ⟨0,.data⟩ (by simp) rfl _ 43 rfl rfl (by decide)
     have f44:sv 44=Value.agg #[.bool s_c,.slice A_c n_c c_c,.slice B_c m_c d_c]:=hf ⟨1,.data⟩ (by simp) rfl _ 44 rfl rfl (by decide)
     refine wpOp_plain' (o:=⟨some 45,.call ⟨.value (.func 23),#[.tmp 43,.tmp 44],#[27,27]⟩,27, "measure.go:54",#[⟨0,.data⟩,⟨1,.data⟩],none⟩) rfl rfl ?_
     unfold Oper.wp
     rw [rc_gesso_rat_Mul ((G sv 43 (by decide) (by decide)).trans f43) ((G sv 44 (by decide) (by decide)).trans f44) rfl,Oper.upon_enter]
     refine (rmul_q c c (by omega) (by omega) (.inl (by omega)) h1 h1).mono ?_
     rintro e w1 ⟨s1,A1,n1,c1,B1,m1,d1,rfl,hq,hh⟩
     exact ⟨_,rfl,hh,s1,A1,n1,c1,B1,m1,d1,rfl,hq⟩
   | 3,ho =>
     obtain rfl:⟨some 46,.load 27 (.tmp 10),27, "measure.go:54",#[],none⟩=o:=Option.some.inj ho
     cases hd
     refine wpOp_plain' (o:=⟨some 46,.load 27 (.tmp 10),27, "measure.go:54",#[],none⟩) rfl rfl ?_
     unfold Oper.wp
     rw [run_loadQ (E10 sv) XG.c0 XG.c1 XG.c2,Oper.upon_value]
     exact ⟨_,rfl,Below.refl _ _,rfl⟩
   | 4,ho =>
     obtain rfl:⟨some 47,.call ⟨.value (.func 48),#[.tmp 45,.tmp 46],#[27,27]⟩,34, "measure.go:54",#[⟨2,.data⟩,⟨3,.data⟩,⟨2,.chain⟩],none⟩=o:=Option.some.inj ho
     cases hd
     have h45:VQ (cv*cv) (k1+k1) (sv 45) w':=hf ⟨2,.data⟩ (by simp) rfl _ 45 rfl rfl (by decide)
     obtain ⟨s45,A45,n45,c45,B45,m45,d45,f45,q45⟩:=h45
     have f46:sv 46=Value.agg #[.bool s_g,.slice A_g n_g c_g,.slice B_g m_g d_g]:=hf ⟨3,.data⟩ (by simp) rfl _ 46 rfl rfl (by decide)
     refine wpOp_plain' (o:=⟨some 47,.call ⟨.value (.func 48),#[.tmp 45,.tmp 46],#[27,27]⟩,34, "measure.go:54",#[⟨2,.data⟩,⟨3,.data⟩,⟨2,.chain⟩],none⟩) rfl rfl ?_
     unfold Oper.wp
     rw [rc_gesso_rat_Div ((G sv 45 (by decide) (by decide)).trans f45) ((G sv 46 (by decide) (by decide)).trans f46) rfl,Oper.upon_enter]
     refine (rdiv_qs q45.qr g (by omega) hk2 (by omega) h2 hg).mono ?_
     rintro e w1 ⟨R,hR,s1,A1,n1,c1,B1,m1,d1,rfl,hq,hh⟩
     exact ⟨_,rfl,hh,_,⟨R,rfl,hR⟩,s1,A1,n1,c1,B1,m1,d1,rfl,hq⟩
   | 5,ho =>
     obtain rfl:⟨some 42,.move (.tmp 47),34, "measure.go:54",#[⟨4,.data⟩],none⟩=o:=Option.some.inj ho
     cases hd
     have f:=hf ⟨4,.data⟩ (by simp) rfl _ 47 rfl rfl (by decide)
     refine wpOp_plain' (o:=⟨some 42,.move (.tmp 47),34, "measure.go:54",#[⟨4,.data⟩],none⟩) rfl rfl ?_
     unfold Oper.wp
     rw [run_move (G sv 47 (by decide) (by decide)),Oper.upon_value]
     exact ⟨_,rfl,Below.refl _ _,f⟩
   | 6,ho =>
     obtain rfl:⟨some 48,.extract (.tmp 42) 0,27, "measure.go:54",#[⟨5,.data⟩],none⟩=o:=Option.some.inj ho
     cases hd
     have h42:VQE (fun u=>∃ R,u=R∧R=cv*cv / gv) (k1+k1+k2) (sv 42) w':=hf ⟨5,.data⟩ (by simp) rfl _ 42 rfl rfl (by decide)
     obtain ⟨r42,hr42,s42,A42,n42,c42,B42,m42,d42,f42,q42⟩:=h42
     refine wpOp_plain' (o:=⟨some 48,.extract (.tmp 42) 0,27, "measure.go:54",#[⟨5,.data⟩],none⟩) rfl rfl ?_
     unfold Oper.wp
     rw [run_ext0 ((G sv 42 (by decide) (by decide)).trans f42),Oper.upon_value]
     exact ⟨_,rfl,Below.refl _ _,r42,hr42,s42,A42,n42,c42,B42,m42,d42,rfl,q42⟩
   | 7,ho =>
     obtain rfl:⟨some 49,.extract (.tmp 42) 1,33, "measure.go:54",#[⟨5,.data⟩,⟨9,.gcOnly .lateStores⟩],none⟩=o:=Option.some.inj ho
     cases hd
     have h42:VQE (fun u=>∃ R,u=R∧R=cv*cv / gv) (k1+k1+k2) (sv 42) w':=hf ⟨5,.data⟩ (by simp) rfl _ 42 rfl rfl (by decide)
     obtain ⟨r42,hr42,s42,A42,n42,c42,B42,m42,d42,f42,q42⟩:=h42
     refine wpOp_plain' (o:=⟨some 49,.extract (.tmp 42) 1,33, "measure.go:54",#[⟨5,.data⟩,⟨9,.gcOnly .lateStores⟩],none⟩) rfl rfl ?_
     unfold Oper.wp
     rw [run_ext1 ((G sv 42 (by decide) (by decide)).trans f42),Oper.upon_value]
     exact ⟨_,rfl,Below.refl _ _,rfl⟩
   | 8,ho=>exact absurd rfl hia
   | 9,ho=>cases ho;cases hd
   | 10,ho =>
     obtain rfl:⟨some 13,.assign (.tmp 49),33, "measure.go:54",#[⟨7,.data⟩,⟨9,.chain⟩,⟨0,.phase⟩,⟨1,.phase⟩,⟨2,.phase⟩,⟨3,.phase⟩,⟨4,.phase⟩,⟨5,.phase⟩,⟨6,.phase⟩,⟨7,.phase⟩,⟨8,.phase⟩,⟨9,.phase⟩],none⟩=o:=Option.some.inj ho
     cases hd
     have f:=hf ⟨7,.data⟩ (by simp) rfl _ 49 rfl rfl (by decide)
     refine wpOp_plain' (o:=⟨some 13,.assign (.tmp 49),33, "measure.go:54",#[⟨7,.data⟩,⟨9,.chain⟩,⟨0,.phase⟩,⟨1,.phase⟩,⟨2,.phase⟩,⟨3,.phase⟩,⟨4,.phase⟩,⟨5,.phase⟩,⟨6,.phase⟩,⟨7,.phase⟩,⟨8,.phase⟩,⟨9,.phase⟩],none⟩) rfl rfl ?_
     unfold Oper.wp
     rw [run_assign (G sv 49 (by decide) (by decide)),Oper.upon_value]
     exact ⟨_,rfl,Below.refl _ _,f⟩
   | i+11,ho=>cases ho
 · intro sv w' g J0 p1 p3 hf
   have h1:VQS (fun u=>∃ R,u=R∧R=cv*cv / gv) (k1+k1+k2) (sv 48) w':=hf ⟨6,.data⟩ (by simp) rfl _ 48 rfl rfl (by decide)
   rw [← G sv 48 (by decide) (by decide)] at h1
   refine store_qs (S:=fun u=>∃ R,u=R∧R=cv*cv / gv) (k:=k1+k1+k2) (ac:=putAll ac [43,44,45,46,47,42,48,49,12,13] sv) (z:=.tmp 48) ?_ ?_ ?_
   · exact (G sv 12 (by decide) (by decide)).trans p1
   · exact h1
   · exact p3
 · rintro cs w1 w2 ⟨u,hu,s1,A1,n1,c1,B1,m1,d1,h1,h2⟩ hb
   exact ⟨u,hu,s1,A1,n1,c1,B1,m1,d1,h1,h2.below hb⟩
 · rintro sv w' g cs J0 hF p1 p2 p3 ⟨u,hu,s1,A1,n1,c1,B1,m1,d1,h1,h2⟩
   subst h1
   exact hend sv w' g _ _ _ _ _ _ _ _ hu h2 p3.at_ J0 p2 p1 
def forthQ (px py ax ay bx by_:Rat):Rat:=(px - ax)*(bx - ax)+(py - ay)*(by_ - ay)
def wholeQ (ax ay bx by_:Rat):Rat:=(bx - ax)*(bx - ax)+(by_ - ay)*(by_ - ay)
def asideQ (px py ax ay bx by_:Rat):Rat:=(bx - ax)*(py - ay) - (by_ - ay)*(px - ax)
def segQ (px py ax ay bx by_:Rat):Rat:=if forthQ px py ax ay bx by_≤0 then (px - ax)*(px - ax)+(py - ay)*(py - ay) else if wholeQ ax ay bx by_≤forthQ px py ax ay bx by_ then farQ px py bx by_ else asideQ px py ax ay bx by_*asideQ px py ax ay bx by_ / wholeQ ax ay bx by_
theorem sgn_nonpos {v:Rat}:sgnQ v≤0 ↔ v≤0:=by
 unfold sgnQ
 split
 · rename_i q;exact ⟨fun _=>Rat.le_of_lt q,fun _=>by decide⟩
 · split
   · rename_i q;rw [q];exact ⟨fun _=>Rat.le_refl,fun _=>by decide⟩
   · rename_i q r;exact ⟨fun e=>absurd e (by decide),fun e=>absurd (Rat.le_antisymm e (Rat.not_lt.1 q)) r⟩
theorem cmp_nonneg {v u:Rat}:0≤cmpQ v u ↔ u≤v:=by
 unfold cmpQ
 split
 · rename_i q;exact ⟨fun e=>absurd e (by decide),fun e=>absurd q (Rat.not_lt.2 e)⟩
 · rename_i q;exact ⟨fun _=>Rat.not_lt.1 q,fun _=>by split <;> decide⟩
theorem mkbx29_11 {w W:World} {x0 x1 x2 x3 x4 x5 x6 x7 x8 x9 x10 x11 x12 x13 x14 x15 x16 x17 x18 x19 x20:Value} (h:((((w.alloc (Obj.cells #[x0,x1,x2,x3,x4,x5] 49)).alloc (Obj.cells #[x6,x7,x8,x9,x10,x11] 49)).alloc (Obj.cells #[x12,x13,x14,x15,x16,x17] 49)).alloc (Obj.cells #[x18,x19,x20] 27))=W):Below w.heap.size w W∧B6 W (w.heap.size) x0 x1 x2 x3 x4 x5∧B6 W (w.heap.size+1) x6 x7 x8 x9 x10 x11∧B6 W (w.heap.size+1+1) x12 x13 x14 x15 x16 x17∧B3 W (w.heap.size+1+1+1) x18 x19 x20∧W.heap.size=w.heap.size+4:=by subst h;exact ⟨by exact (((((Below.refl _ _).alloc (Nat.le_refl _) _).alloc (by simp) _).alloc (by simp;omega) _).alloc (by simp;omega) _),by exact (((B6.new' _ _ _ _ _ _ _ _ rfl).alloc _).alloc _).alloc _,by exact ((B6.new' _ _ _ _ _ _ _ _ (by simp)).alloc _).alloc _,by exact (B6.new' _ _ _ _ _ _ _ _ (by simp)).alloc _,by exact B3.new' _ _ _ _ _ (by simp),by simp⟩
theorem ptoseg_lo {kp k:Nat} {px py ax ay bx by_:Rat} (p:PR w s_p A_p n_p c_p B_p m_p d_p t_p E_p i_p e_p F_p j_p f_p px py kp) (q:PR w s_q A_q n_q c_q B_q m_q d_q t_q E_q i_q e_q F_q j_q f_q ax ay k) (r:PR w s_r A_r n_r c_r B_r m_r d_r t_r E_r i_r e_r F_r j_r f_r bx by_ k) (hp:kp≤1000) (hk:k≤1000) (h1:1≤kp) (h2:1≤k) (hf:forthQ px py ax ay bx by_≤0) :
 Calls Tryz.prog 21 #[.agg #[.bool s_p,.slice A_p n_p c_p,.slice B_p m_p d_p,.bool t_p,.slice E_p i_p e_p,.slice F_p j_p f_p],.agg #[.bool s_q,.slice A_q n_q c_q,.slice B_q m_q d_q,.bool t_q,.slice E_q i_q e_q,.slice F_q j_q f_q],.agg #[.bool s_r,.slice A_r n_r c_r,.slice B_r m_r d_r,.bool t_r,.slice E_r i_r e_r,.slice F_r j_r f_r]] w (GivesQ w ((px - ax)*(px - ax)+(py - ay)*(py - ay)) (12*(kp+k)+8*k+40)):=by
 obtain ⟨S,hS,hS0⟩:∃ S,sgnQ ((px - ax)*(bx - ax)+(py - ay)*(by_ - ay))=S∧decide (S≤0)=true:=⟨_,rfl,decide_eq_true (sgn_nonpos.2 hf)⟩
 have HS:=Lib.hid hS;clear hS;clear hf
 go_enter Tryz.func21,Tryz.ntmps21
 go_upto_region 1 with (fail)
 generalize hW:World.alloc _ _=W
 obtain ⟨hb,XA,XB,XC,Z,hzW⟩:=mkbx29_11 hW;clear hW;replace p:=p.below hb;replace q:=q.below hb;replace r:=r.below hb
 refine segs_region (by simp) rfl rfl rfl XA XB XC p q r (by omega) (by omega) h1 h2 ?_
 intro V w_s g_a s_a A_a n_a c_a B_a m_a d_a t_a E_a i_a e_a F_a j_a f_a g_b s_b A_b n_b c_b B_b m_b d_b t_b E_b i_b e_b F_b j_b f_b a XW hg_a hva b XT hg_b hvb hne hh
 simp only [putAll,Act.put,List.setIfInBounds_toArray,List.set_cons_zero,List.set_cons_succ,hva,hvb]
 clear hva hvb hne;replace p:=p.below hh;replace q:=q.below hh;replace r:=r.below hh;replace XA:=XA.below hh;replace XB:=XB.below hh;replace XC:=XC.below hh;replace Z:=Z.below hh;replace hb:=bend hb hh
 go_upto_region 2 with (fail)
 refine dots_region (by simp) rfl rfl XW XT a.pr b.pr (by omega) (by omega) (by omega) (by omega) ?_
 intro V w_d g_fo s_fo A_fo n_fo c_fo B_fo m_fo d_fo g_wh s_wh A_wh n_wh c_wh B_wh m_wh d_wh fo XF hg_fo hvf wh XG hg_wh hvg hne hh
 simp only [putAll,Act.put,List.setIfInBounds_toArray,List.set_cons_zero,List.set_cons_succ,hvf,hvg]
 clear hvf hvg hne;replace p:=p.below hh;replace q:=q.below hh;replace r:=r.below hh;replace a:=a.below hh;replace b:=b.below hh;replace XA:=XA.below hh;replace XB:=XB.below hh;replace XC:=XC.below hh;replace XW:=XW.below hh;replace XT:=XT.below hh;replace Z:=Z.below hh;replace hb:=bend hb hh;obtain ⟨xa0,xa1,xa2,xa3,xa4,xa5⟩:=XA.all;obtain ⟨xb0,xb1,xb2,xb3,xb4,xb5⟩:=XB.all;obtain ⟨xc0,xc1,xc2,xc3,xc4,xc5⟩:=XC.all;obtain ⟨xw0,xw1,xw2,xw3,xw4,xw5⟩:=XW.all;obtain ⟨xt0,xt1,xt2,xt3,xt4,xt5⟩:=XT.all;obtain ⟨xf0,xf1,xf2⟩:=XF.all;obtain ⟨xg0,xg1,xg2⟩:=XG.all
 go_wp2_with (first
  | (go_at_call 24;(with_reducible refine (rsign_q fo.qr (by omega) (by omega)).mono ?_);rintro e w_z ⟨rfl,hh⟩
     rw [HS.out];(try replace p:=p.below hh);(try replace q:=q.below hh);(try replace r:=r.below hh);(try replace a:=a.below hh);(try replace b:=b.below hh);(try replace fo:=fo.below hh);(try replace wh:=wh.below hh);(try replace XA:=XA.below hh);(try replace XB:=XB.below hh);(try replace XC:=XC.below hh);(try replace XW:=XW.below hh);(try replace XT:=XT.below hh);(try replace XF:=XF.below hh);(try replace XG:=XG.below hh);(try replace Z:=Z.below hh);replace hb:=bend hb hh;obtain ⟨xa0,xa1,xa2,xa3,xa4,xa5⟩:=XA.all;obtain ⟨xb0,xb1,xb2,xb3,xb4,xb5⟩:=XB.all;obtain ⟨xc0,xc1,xc2,xc3,xc4,xc5⟩:=XC.all;obtain ⟨xw0,xw1,xw2,xw3,xw4,xw5⟩:=XW.all;obtain ⟨xt0,xt1,xt2,xt3,xt4,xt5⟩:=XT.all;obtain ⟨xf0,xf1,xf2⟩:=XF.all;obtain ⟨xg0,xg1,xg2⟩:=XG.all)
  | (go_at_call 55;(with_reducible refine (psquare_p b.pr (by omega) (by omega)).mono ?_);rintro e w_x ⟨s_x,A_x,n_x,c_x,B_x,m_x,d_x,rfl,x,hh⟩
     (try replace Z:=Z.below hh);replace hb:=bend hb hh;have zf0:=Z.f0;have zf1:=Z.f1;have zf2:=Z.f2;obtain ⟨z0,z1,z2⟩:=Z.all))
 have Z2:=Z.set3 (.bool s_x) (.slice A_x n_x c_x) (.slice B_x m_x d_x)
 obtain ⟨g0,g1,g2⟩:=Z2.all
 refine bodyPost_ret (v:=.agg #[.bool s_x,.slice A_x n_x c_x,.slice B_x m_x d_x]) (by simp [results,Tryz.results21,go_sem,g0,g1,g2]) rfl ?_
 exact ⟨s_x,A_x,n_x,c_x,B_x,m_x,d_x,rfl,(x.more (by omega)).set3 Z _ _ _,below_set3 hb (by omega) _ _ _⟩
theorem ptoseg_hi {kp k:Nat} {px py ax ay bx by_:Rat} (p:PR w s_p A_p n_p c_p B_p m_p d_p t_p E_p i_p e_p F_p j_p f_p px py kp) (q:PR w s_q A_q n_q c_q B_q m_q d_q t_q E_q i_q e_q F_q j_q f_q ax ay k) (r:PR w s_r A_r n_r c_r B_r m_r d_r t_r E_r i_r e_r F_r j_r f_r bx by_ k) (hp:kp≤1000) (hk:k≤1000) (h1:1≤kp) (h2:1≤k) (hf:¬ forthQ px py ax ay bx by_≤0) (hw:wholeQ ax ay bx by_≤forthQ px py ax ay bx by_) :
 Calls Tryz.prog 21 #[.agg #[.bool s_p,.slice A_p n_p c_p,.slice B_p m_p d_p,.bool t_p,.slice E_p i_p e_p,.slice F_p j_p f_p],.agg #[.bool s_q,.slice A_q n_q c_q,.slice B_q m_q d_q,.bool t_q,.slice E_q i_q e_q,.slice F_q j_q f_q],.agg #[.bool s_r,.slice A_r n_r c_r,.slice B_r m_r d_r,.bool t_r,.slice E_r i_r e_r,.slice F_r j_r f_r]] w (GivesQ w (farQ px py bx by_) (12*(kp+k)+8*k+40)):=by
 obtain ⟨S,hS,hS0⟩:∃ S,sgnQ ((px - ax)*(bx - ax)+(py - ay)*(by_ - ay))=S∧decide (S≤0)=false:=⟨_,rfl,decide_eq_false (fun e=>hf (sgn_nonpos.1 e))⟩
 have HS:=Lib.hid hS;clear hS
 obtain ⟨T,hT,hT0⟩:∃ T,cmpQ ((px - ax)*(bx - ax)+(py - ay)*(by_ - ay)) ((bx - ax)*(bx - ax)+(by_ - ay)*(by_ - ay))=T∧decide (0≤T)=true:=⟨_,rfl,decide_eq_true (cmp_nonneg.2 hw)⟩
 have HT:=Lib.hid hT;clear hT;clear hf hw
 go_enter Tryz.func21,Tryz.ntmps21
 go_upto_region 1 with (fail)
 generalize hW:World.alloc _ _=W
 obtain ⟨hb,XA,XB,XC,Z,hzW⟩:=mkbx29_11 hW;clear hW;replace p:=p.below hb;replace q:=q.below hb;replace r:=r.below hb
 refine segs_region (by simp) rfl rfl rfl XA XB XC p q r (by omega) (by omega) h1 h2 ?_
 intro V w_s g_a s_a A_a n_a c_a B_a m_a d_a t_a E_a i_a e_a F_a j_a f_a g_b s_b A_b n_b c_b B_b m_b d_b t_b E_b i_b e_b F_b j_b f_b a XW hg_a hva b XT hg_b hvb hne hh
 simp only [putAll,Act.put,List.setIfInBounds_toArray,List.set_cons_zero,List.set_cons_succ,hva,hvb]
 clear hva hvb hne;replace p:=p.below hh;replace q:=q.below hh;replace r:=r.below hh;replace XA:=XA.below hh;replace XB:=XB.below hh;replace XC:=XC.below hh;replace Z:=Z.below hh;replace hb:=bend hb hh
 go_upto_region 2 with (fail)
 refine dots_region (by simp) rfl rfl XW XT a.pr b.pr (by omega) (by omega) (by omega) (by omega) ?_
 intro V w_d g_fo s_fo A_fo n_fo c_fo B_fo m_fo d_fo g_wh s_wh A_wh n_wh c_wh B_wh m_wh d_wh fo XF hg_fo hvf wh XG hg_wh hvg hne hh
 simp only [putAll,Act.put,List.setIfInBounds_toArray,List.set_cons_zero,List.set_cons_succ,hvf,hvg]
 clear hvf hvg hne;replace p:=p.below hh;replace q:=q.below hh;replace r:=r.below hh;replace a:=a.below hh;replace b:=b.below hh;replace XA:=XA.below hh;replace XB:=XB.below hh;replace XC:=XC.below hh;replace XW:=XW.below hh;replace XT:=XT.below hh;replace Z:=Z.below hh;replace hb:=bend hb hh;obtain ⟨xa0,xa1,xa2,xa3,xa4,xa5⟩:=XA.all;obtain ⟨xb0,xb1,xb2,xb3,xb4,xb5⟩:=XB.all;obtain ⟨xc0,xc1,xc2,xc3,xc4,xc5⟩:=XC.all;obtain ⟨xw0,xw1,xw2,xw3,xw4,xw5⟩:=XW.all;obtain ⟨xt0,xt1,xt2,xt3,xt4,xt5⟩:=XT.all;obtain ⟨xf0,xf1,xf2⟩:=XF.all;obtain ⟨xg0,xg1,xg2⟩:=XG.all
 go_wp2_with (first
  | (go_at_call 24;(with_reducible refine (rsign_q fo.qr (by omega) (by omega)).mono ?_);rintro e w_z ⟨rfl,hh⟩
     rw [HS.out];(try replace p:=p.below hh);(try replace q:=q.below hh);(try replace r:=r.below hh);(try replace a:=a.below hh);(try replace b:=b.below hh);(try replace fo:=fo.below hh);(try replace wh:=wh.below hh);(try replace XA:=XA.below hh);(try replace XB:=XB.below hh);(try replace XC:=XC.below hh);(try replace XW:=XW.below hh);(try replace XT:=XT.below hh);(try replace XF:=XF.below hh);(try replace XG:=XG.below hh);(try replace Z:=Z.below hh);replace hb:=bend hb hh;obtain ⟨xa0,xa1,xa2,xa3,xa4,xa5⟩:=XA.all;obtain ⟨xb0,xb1,xb2,xb3,xb4,xb5⟩:=XB.all;obtain ⟨xc0,xc1,xc2,xc3,xc4,xc5⟩:=XC.all;obtain ⟨xw0,xw1,xw2,xw3,xw4,xw5⟩:=XW.all;obtain ⟨xt0,xt1,xt2,xt3,xt4,xt5⟩:=XT.all;obtain ⟨xf0,xf1,xf2⟩:=XF.all;obtain ⟨xg0,xg1,xg2⟩:=XG.all)
  | (go_at_call 20;(with_reducible refine (rcmp_q fo.qr wh.qr (by omega) (by omega) (.inl (by omega)) (by omega) (by omega)).mono ?_);rintro e w_z ⟨rfl,hh⟩
     rw [HT.out];(try replace p:=p.below hh);(try replace q:=q.below hh);(try replace r:=r.below hh);(try replace a:=a.below hh);(try replace b:=b.below hh);(try replace fo:=fo.below hh);(try replace wh:=wh.below hh);(try replace XA:=XA.below hh);(try replace XB:=XB.below hh);(try replace XC:=XC.below hh);(try replace XW:=XW.below hh);(try replace XT:=XT.below hh);(try replace XF:=XF.below hh);(try replace XG:=XG.below hh);(try replace Z:=Z.below hh);replace hb:=bend hb hh;obtain ⟨xa0,xa1,xa2,xa3,xa4,xa5⟩:=XA.all;obtain ⟨xb0,xb1,xb2,xb3,xb4,xb5⟩:=XB.all;obtain ⟨xc0,xc1,xc2,xc3,xc4,xc5⟩:=XC.all;obtain ⟨xw0,xw1,xw2,xw3,xw4,xw5⟩:=XW.all;obtain ⟨xt0,xt1,xt2,xt3,xt4,xt5⟩:=XT.all;obtain ⟨xf0,xf1,xf2⟩:=XF.all;obtain ⟨xg0,xg1,xg2⟩:=XG.all)
  | (go_at_call 56;(with_reducible refine (pfar_p p r (by omega) h1 h2).mono ?_);rintro e w_x ⟨s_x,A_x,n_x,c_x,B_x,m_x,d_x,rfl,x,hh⟩
     (try replace Z:=Z.below hh);replace hb:=bend hb hh;have zf0:=Z.f0;have zf1:=Z.f1;have zf2:=Z.f2;obtain ⟨z0,z1,z2⟩:=Z.all))
 have Z2:=Z.set3 (.bool s_x) (.slice A_x n_x c_x) (.slice B_x m_x d_x)
 obtain ⟨g0,g1,g2⟩:=Z2.all
 refine bodyPost_ret (v:=.agg #[.bool s_x,.slice A_x n_x c_x,.slice B_x m_x d_x]) (by simp [results,Tryz.results21,go_sem,g0,g1,g2]) rfl ?_
 exact ⟨s_x,A_x,n_x,c_x,B_x,m_x,d_x,rfl,(x.more (by omega)).set3 Z _ _ _,below_set3 hb (by omega) _ _ _⟩
theorem ptoseg_mid {kp k:Nat} {px py ax ay bx by_:Rat} (p:PR w s_p A_p n_p c_p B_p m_p d_p t_p E_p i_p e_p F_p j_p f_p px py kp) (q:PR w s_q A_q n_q c_q B_q m_q d_q t_q E_q i_q e_q F_q j_q f_q ax ay k) (r:PR w s_r A_r n_r c_r B_r m_r d_r t_r E_r i_r e_r F_r j_r f_r bx by_ k) (hp:kp≤1000) (hk:k≤1000) (h1:1≤kp) (h2:1≤k) (hf:¬ forthQ px py ax ay bx by_≤0) (hw:¬ wholeQ ax ay bx by_≤forthQ px py ax ay bx by_) :
 Calls Tryz.prog 21 #[.agg #[.bool s_p,.slice A_p n_p c_p,.slice B_p m_p d_p,.bool t_p,.slice E_p i_p e_p,.slice F_p j_p f_p],.agg #[.bool s_q,.slice A_q n_q c_q,.slice B_q m_q d_q,.bool t_q,.slice E_q i_q e_q,.slice F_q j_q f_q],.agg #[.bool s_r,.slice A_r n_r c_r,.slice B_r m_r d_r,.bool t_r,.slice E_r i_r e_r,.slice F_r j_r f_r]] w (GivesQ w (asideQ px py ax ay bx by_*asideQ px py ax ay bx by_ / wholeQ ax ay bx by_) (12*(kp+k)+8*k+40)):=by
 obtain ⟨S,hS,hS0⟩:∃ S,sgnQ ((px - ax)*(bx - ax)+(py - ay)*(by_ - ay))=S∧decide (S≤0)=false:=⟨_,rfl,decide_eq_false (fun e=>hf (sgn_nonpos.1 e))⟩
 have HS:=Lib.hid hS;clear hS
 obtain ⟨T,hT,hT0⟩:∃ T,cmpQ ((px - ax)*(bx - ax)+(py - ay)*(by_ - ay)) ((bx - ax)*(bx - ax)+(by_ - ay)*(by_ - ay))=T∧decide (0≤T)=false:=⟨_,rfl,decide_eq_false (fun e=>hw (cmp_nonneg.1 e))⟩
 have HT:=Lib.hid hT;clear hT
 have HG:Hid ((bx - ax)*(bx - ax)+(by_ - ay)*(by_ - ay) ≠ 0):=fun e=>by
  have e2:wholeQ ax ay bx by_=0:=e
  rw [e2] at hw
  exact hf (Rat.le_of_lt (Rat.not_le.1 hw))
 clear hf hw
 go_enter Tryz.func21,Tryz.ntmps21
 go_upto_region 1 with (fail)
 generalize hW:World.alloc _ _=W
 obtain ⟨hb,XA,XB,XC,Z,hzW⟩:=mkbx29_11 hW;clear hW;replace p:=p.below hb;replace q:=q.below hb;replace r:=r.below hb
 refine segs_region (by simp) rfl rfl rfl XA XB XC p q r (by omega) (by omega) h1 h2 ?_
 intro V w_s g_a s_a A_a n_a c_a B_a m_a d_a t_a E_a i_a e_a F_a j_a f_a g_b s_b A_b n_b c_b B_b m_b d_b t_b E_b i_b e_b F_b j_b f_b a XW hg_a hva b XT hg_b hvb hne hh
 simp only [putAll,Act.put,List.setIfInBounds_toArray,List.set_cons_zero,List.set_cons_succ,hva,hvb]
 clear hva hvb hne;replace p:=p.below hh;replace q:=q.below hh;replace r:=r.below hh;replace XA:=XA.below hh;replace XB:=XB.below hh;replace XC:=XC.below hh;replace Z:=Z.below hh;replace hb:=bend hb hh
 go_upto_region 2 with (fail)
 refine dots_region (by simp) rfl rfl XW XT a.pr b.pr (by omega) (by omega) (by omega) (by omega) ?_
 intro V w_d g_fo s_fo A_fo n_fo c_fo B_fo m_fo d_fo g_wh s_wh A_wh n_wh c_wh B_wh m_wh d_wh fo XF hg_fo hvf wh XG hg_wh hvg hne hh
 simp only [putAll,Act.put,List.setIfInBounds_toArray,List.set_cons_zero,List.set_cons_succ,hvf,hvg]
 clear hvf hvg hne;replace p:=p.below hh;replace q:=q.below hh;replace r:=r.below hh;replace a:=a.below hh;replace b:=b.below hh;replace XA:=XA.below hh;replace XB:=XB.below hh;replace XC:=XC.below hh;replace XW:=XW.below hh;replace XT:=XT.below hh;replace Z:=Z.below hh;replace hb:=bend hb hh;obtain ⟨xa0,xa1,xa2,xa3,xa4,xa5⟩:=XA.all;obtain ⟨xb0,xb1,xb2,xb3,xb4,xb5⟩:=XB.all;obtain ⟨xc0,xc1,xc2,xc3,xc4,xc5⟩:=XC.all;obtain ⟨xw0,xw1,xw2,xw3,xw4,xw5⟩:=XW.all;obtain ⟨xt0,xt1,xt2,xt3,xt4,xt5⟩:=XT.all;obtain ⟨xf0,xf1,xf2⟩:=XF.all;obtain ⟨xg0,xg1,xg2⟩:=XG.all
 go_upto_region 8 with (first
  | (go_at_call 24;(with_reducible refine (rsign_q fo.qr (by omega) (by omega)).mono ?_);rintro e w_z ⟨rfl,hh⟩
     rw [HS.out];(try replace p:=p.below hh);(try replace q:=q.below hh);(try replace r:=r.below hh);(try replace a:=a.below hh);(try replace b:=b.below hh);(try replace fo:=fo.below hh);(try replace wh:=wh.below hh);(try replace XA:=XA.below hh);(try replace XB:=XB.below hh);(try replace XC:=XC.below hh);(try replace XW:=XW.below hh);(try replace XT:=XT.below hh);(try replace XF:=XF.below hh);(try replace XG:=XG.below hh);(try replace Z:=Z.below hh);replace hb:=bend hb hh;obtain ⟨xa0,xa1,xa2,xa3,xa4,xa5⟩:=XA.all;obtain ⟨xb0,xb1,xb2,xb3,xb4,xb5⟩:=XB.all;obtain ⟨xc0,xc1,xc2,xc3,xc4,xc5⟩:=XC.all;obtain ⟨xw0,xw1,xw2,xw3,xw4,xw5⟩:=XW.all;obtain ⟨xt0,xt1,xt2,xt3,xt4,xt5⟩:=XT.all;obtain ⟨xf0,xf1,xf2⟩:=XF.all;obtain ⟨xg0,xg1,xg2⟩:=XG.all)
  | (go_at_call 20;(with_reducible refine (rcmp_q fo.qr wh.qr (by omega) (by omega) (.inl (by omega)) (by omega) (by omega)).mono ?_);rintro e w_z ⟨rfl,hh⟩
     rw [HT.out];(try replace p:=p.below hh);(try replace q:=q.below hh);(try replace r:=r.below hh);(try replace a:=a.below hh);(try replace b:=b.below hh);(try replace fo:=fo.below hh);(try replace wh:=wh.below hh);(try replace XA:=XA.below hh);(try replace XB:=XB.below hh);(try replace XC:=XC.below hh);(try replace XW:=XW.below hh);(try replace XT:=XT.below hh);(try replace XF:=XF.below hh);(try replace XG:=XG.below hh);(try replace Z:=Z.below hh);replace hb:=bend hb hh;obtain ⟨xa0,xa1,xa2,xa3,xa4,xa5⟩:=XA.all;obtain ⟨xb0,xb1,xb2,xb3,xb4,xb5⟩:=XB.all;obtain ⟨xc0,xc1,xc2,xc3,xc4,xc5⟩:=XC.all;obtain ⟨xw0,xw1,xw2,xw3,xw4,xw5⟩:=XW.all;obtain ⟨xt0,xt1,xt2,xt3,xt4,xt5⟩:=XT.all;obtain ⟨xf0,xf1,xf2⟩:=XF.all;obtain ⟨xg0,xg1,xg2⟩:=XG.all)
  | (go_at_call 57;(with_reducible refine (pcross_p a.pr b.pr (by omega) (by omega) (by omega)).mono ?_);rintro e w_c ⟨s_c,A_c,n_c,c_c,B_c,m_c,d_c,rfl,c,hh⟩
     (try replace wh:=wh.below hh);(try replace XG:=XG.below hh);(try replace Z:=Z.below hh);replace hb:=bend hb hh))
 generalize hW:World.alloc _ _=W2
 obtain ⟨hh,XU,hzW2⟩:=mkbx9_8 hW;clear hW;(try replace c:=c.below hh);(try replace wh:=wh.below hh);(try replace XG:=XG.below hh);(try replace Z:=Z.below hh);replace hb:=bend hb hh
 refine aside_region (by simp) rfl rfl XU XG c.qr wh.qr (by omega) (by omega) (by omega) (by omega) HG.out ?_
 intro V w_x g_x u s_x A_x n_x c_x B_x m_x d_x hu x XX hh hg_x hvx
 simp only [putAll,Act.put,List.setIfInBounds_toArray,List.set_cons_zero,List.set_cons_succ,hvx]
 clear hvx
 obtain ⟨R,rfl,rfl⟩:=hu
 replace Z:=Z.below hh;replace hb:=bend hb hh;obtain ⟨xx0,xx1,xx2⟩:=XX.all;have zf0:=Z.f0;have zf1:=Z.f1;have zf2:=Z.f2;obtain ⟨z0,z1,z2⟩:=Z.all
 go_wp2_with fail
 have Z2:=Z.set3 (.bool s_x) (.slice A_x n_x c_x) (.slice B_x m_x d_x)
 obtain ⟨g0,g1,g2⟩:=Z2.all
 refine bodyPost_ret (v:=.agg #[.bool s_x,.slice A_x n_x c_x,.slice B_x m_x d_x]) (by simp [results,Tryz.results21,go_sem,g0,g1,g2]) rfl ?_
 exact ⟨s_x,A_x,n_x,c_x,B_x,m_x,d_x,rfl,(x.more (by omega)).set3 Z _ _ _,below_set3 hb (by omega) _ _ _⟩
theorem ptoseg_p {kp k:Nat} {px py ax ay bx by_:Rat} (p:PR w s_p A_p n_p c_p B_p m_p d_p t_p E_p i_p e_p F_p j_p f_p px py kp) (q:PR w s_q A_q n_q c_q B_q m_q d_q t_q E_q i_q e_q F_q j_q f_q ax ay k) (r:PR w s_r A_r n_r c_r B_r m_r d_r t_r E_r i_r e_r F_r j_r f_r bx by_ k) (hp:kp≤1000) (hk:k≤1000) (h1:1≤kp) (h2:1≤k) :
 Calls Tryz.prog 21 #[.agg #[.bool s_p,.slice A_p n_p c_p,.slice B_p m_p d_p,.bool t_p,.slice E_p i_p e_p,.slice F_p j_p f_p],.agg #[.bool s_q,.slice A_q n_q c_q,.slice B_q m_q d_q,.bool t_q,.slice E_q i_q e_q,.slice F_q j_q f_q],.agg #[.bool s_r,.slice A_r n_r c_r,.slice B_r m_r d_r,.bool t_r,.slice E_r i_r e_r,.slice F_r j_r f_r]] w (GivesQ w (segQ px py ax ay bx by_) (12*(kp+k)+8*k+40)):=by
 unfold segQ
 split
 · exact ptoseg_lo p q r hp hk h1 h2 ‹_›
 · split
   · exact ptoseg_hi p q r hp hk h1 h2 ‹_› ‹_›
   · exact ptoseg_mid p q r hp hk h1 h2 ‹_› ‹_›
end
section
theorem txt_one {V d:Nat} (h:0 < d) (h2:d < 10) (hV:V=d):txt V=[UInt8.ofNat (48+d)]:=by
 subst hV
 rw [txt,if_neg (by omega),limbs_small (by omega) h2 (by omega)]
 rfl
end
section
open Go Go.RowKit
theorem qtxt_i {v:Rat} {a:Nat} {l:List UInt8} (hn:v.num=(a:Int)) (hd:v.den=1) (ha:txt a=l):qtxt v=l:=by
 unfold qtxt
 rw [if_pos hd,hn]
 unfold ztxt
 rw [if_neg (by omega),show ((a:Int)).natAbs=a by omega,ha]
end
section
open Go Go.RowKit
theorem QR.of_rd {s:Bool} {A A':Option Addr} {n c n' c' k:Nat} {l l':List Nat} (h:Rd .u64 w A n l) (hL:Lim B64 l) (hnc:n≤c) (h':Rd .u64 w A' n' l') (hL':Lim B64 l') (hnc':n'≤c') (hk:n≤k) (hk':n'≤k) :
 QR w s A n c A' n' c' (mkRat (iv s (val B64 l)) (den1 (val B64 l'))) k:=⟨_,_,ZR.of_rd h hL hnc hk,⟨l',h',hL',rfl,hnc',hk'⟩,rfl⟩
end
section
theorem sq_nonneg (a:Rat):0≤a*a:=by
 rcases Rat.le_total (a:=0) (b:=a) with h | h
 · exact Rat.mul_nonneg h h
 · have:=Rat.mul_nonneg (show 0≤-a by grind) (show 0≤-a by grind)
   grind
def segC (f g s c:Rat):Rat:=if f≤0 then s else if g≤f then s - 2*f+g else c*c / g
section
variable {f g s c t:Rat}
theorem segC_on (hg:0≤g) (h0:0≤t) (h1:t≤1) (hf:f=t*g) (hs:s=t*t*g) (hc:c=0):segC f g s c=0:=by
 unfold segC
 have e1:=Rat.mul_nonneg h0 hg
 have e2:=Rat.mul_nonneg (show 0≤1 - t by grind) hg
 split
 · rename_i h
   have:t*g=0:=by grind
   rw [hs,Rat.mul_assoc,this,Rat.mul_zero]
 · split
   · rename_i h
     have:(1 - t)*g=0:=by grind
     have e3:s - 2*f+g=(1 - t)*((1 - t)*g):=by rw [hs,hf];grind
     rw [e3,this,Rat.mul_zero]
   · rw [hc,Rat.mul_zero,Rat.div_def,Rat.zero_mul]
end
section
variable (px py ax ay bx by_ t:Rat)
theorem segQ_C:segQ px py ax ay bx by_=segC (forthQ px py ax ay bx by_) (wholeQ ax ay bx by_) ((px - ax)*(px - ax)+(py - ay)*(py - ay)) (asideQ px py ax ay bx by_):=by
 unfold segQ segC
 split
 · rfl
 · split
   · unfold farQ forthQ wholeQ;grind
   · rfl
theorem whole_nn:0≤wholeQ ax ay bx by_:=by
 unfold wholeQ
 have:=sq_nonneg (bx - ax)
 have:=sq_nonneg (by_ - ay)
 grind
theorem seg_on {x y:Rat} (h0:0≤t) (h1:t≤1) (hx:x=ax+(bx - ax)*t) (hy:y=ay+(by_ - ay)*t):segQ x y ax ay bx by_=0:=by
 rw [segQ_C]
 refine segC_on (t:=t) (whole_nn _ _ _ _) h0 h1 ?_ ?_ ?_
 · rw [hx,hy];unfold forthQ wholeQ;grind
 · rw [hx,hy];unfold wholeQ;grind
 · rw [hx,hy];unfold asideQ;grind
end
end
section
section
variable {px py ax ay bx by_ cx cy dx dy:Rat}
end
section
variable {ax ay bx by_ cx cy dx dy:Rat}
end
noncomputable def pick {α:Type} (K:α→Prop) (l:List α) (p:α):List α:=open Classical in if K p∧p ∉ l then l ++ [p] else l
section
variable {ax ay bx by_ cx cy dx dy:Rat}
end
end
section
open Go Go.RowKit
def inSQ (v a b:Rat):Prop:=0≤(v - a)*(b - v)
instance (v a b:Rat):Decidable (inSQ v a b):=inferInstanceAs (Decidable (_≤_))
end
section
open Go Go.RowKit
structure QV where
 s:Bool
 A:Option Addr
 n:Nat
 c:Nat
 B:Option Addr
 m:Nat
 d:Nat
def QV.cells (p:QV):List Value:=[.bool p.s,.slice p.A p.n p.c,.slice p.B p.m p.d]
def qvs (L:List QV):List Value:=L.flatMap QV.cells
theorem qvs_cons (p:QV) (L:List QV):qvs (p :: L)=p.cells ++ qvs L:=List.flatMap_cons
theorem qvs_get {L:List QV} {i:Nat} {p:QV} (h:L[i]?=some p) {j:Nat} (hj:j < 3):(qvs L)[i*3+j]?=p.cells[j]?:=by
 induction L generalizing i with
 | nil=>cases h
 | cons q L ih =>
   rw [qvs_cons]
   match i with
   | 0 =>
     obtain rfl:q=p:=by simpa using h
     rw [List.getElem?_append_left (show 0*3+j < q.cells.length by show _ < 3;omega)]
     congr 1;omega
   | i+1 =>
     rw [List.getElem?_append_right (show q.cells.length≤(i+1)*3+j by show 3≤_;omega)]
     rw [show (i+1)*3+j - q.cells.length=i*3+j by show (i+1)*3+j - 3=_;omega]
     exact ih h
def SlQ (w:World) (g:Nat) (L:List QV):Prop:=w.heap[g]?=some (.cells (qvs L).toArray 27 (0,0))
def E3 (w:World) (g o:Nat) (x y z:Value):Prop:=g < w.heap.size∧w.cell? ⟨g,o,none⟩=some x∧w.cell? ⟨g,o+1,none⟩=some y∧w.cell? ⟨g,o+2,none⟩=some z
section
variable {w w':World} {g o:Nat} {L:List QV} {x y z:Value}
theorem SlQ.lt (h:SlQ w g L):g < w.heap.size:=by
 rcases Nat.lt_or_ge g w.heap.size with q | q
 · exact q
 · unfold SlQ at h;rw [Array.getElem?_eq_none q] at h;cases h
theorem SlQ.below (h:SlQ w g L) (hb:Below w.heap.size w w'):SlQ w' g L:=(hb.block g h.lt).trans h
theorem E3.below (h:E3 w g o x y z) (hb:Below w.heap.size w w'):E3 w' g o x y z :=
 ⟨Nat.lt_of_lt_of_le h.1 hb.size,(hb.cell (p:=⟨g,o,none⟩) h.1).trans h.2.1,(hb.cell (p:=⟨g,o+1,none⟩) h.1).trans h.2.2.1,(hb.cell (p:=⟨g,o+2,none⟩) h.1).trans h.2.2.2⟩
theorem E3.c0 (h:E3 w g o x y z):w.cell? ⟨g,o,none⟩=some x:=h.2.1
theorem E3.c1 (h:E3 w g o x y z):w.cell? ⟨g,o+1,none⟩=some y:=h.2.2.1
theorem E3.c2 (h:E3 w g o x y z):w.cell? ⟨g,o+2,none⟩=some z:=h.2.2.2
theorem E3.all (h:E3 w g o x y z):w.cell? ⟨g,o,none⟩=some x∧w.cell? ⟨g,o+1,none⟩=some y∧w.cell? ⟨g,o+2,none⟩=some z:=⟨h.c0,h.c1,h.c2⟩
theorem SlQ.at_ (h:SlQ w g L) {i:Nat} {p:QV} (hi:L[i]?=some p):E3 w g (i*3) (.bool p.s) (.slice p.A p.n p.c) (.slice p.B p.m p.d):=by
 have key:∀ j,j < 3→w.cell? ⟨g,i*3+j,none⟩=p.cells[j]?:=fun j hj=>by
  rw [cell_of_row w g (i*3+j) _ _ (0,0) h,← qvs_get hi hj];simp
 exact ⟨h.lt,key 0 (by decide),key 1 (by decide),key 2 (by decide)⟩
end
end
section
open Go Go.RowKit
theorem RP.box {T:TypeId} {w w':World} {g:Nat} {cs:Array Value} {s t:Bool} {A B E F:Option Addr} {n c m d i e j f:Nat} {x y:Rat} {k:Nat} (h:RP w s A n c B m d t E i e F j f x y k) (Z:BoxAt T w g cs) (ho:Only g w w'):RP w' s A n c B m d t E i e F j f x y k:=⟨h.1.box Z ho,h.2.box Z ho⟩
end
section
open Go Go.RowKit
def StaysIn (L:List BoxOp) (F:Value→World→Prop):Prop:=(∀ x w w',F x w→Below w.heap.size w w'→F x w')∧∀ p ∈ L,∀ x w w' g cs,F x w→BoxAt p.T w g cs→Only g w w'→F x w'
theorem Stays.inn {F:Value→World→Prop} (h:Stays F) (L:List BoxOp):StaysIn L F:=⟨h.1,fun p _ x w w' g cs=>h.2 p.T x w w' g cs⟩
section
variable {P:Program} {ops:Array Oper} {Q:Exit→Act→World→Prop}
theorem wp_region_flowsT {id:Nat} {a:Act} {w0:World} (l:List Nat) (L:List BoxOp) (F:Nat→Value→World→Prop)
 (hm:P.follows .mixedOrders=true) (hb:backB ops=true) (hl:ops.toList.filterMap (·.dst)=l) (hn:l.Nodup)
 (hL:∀ p ∈ L,BoxIn P ops p) (hT:∀ p ∈ L,∀ q ∈ L,p.tA=q.tA→p=q) (hS:∀ p ∈ L,∀ q ∈ L,p.is=q.is→p=q)
 (hone:∀ (i:Nat) (o:Oper),ops[i]?=some o→o.dst=none→∃ p ∈ L,p.is=i) (hst:∀ t,StaysIn L (F t))
 (hval:∀ (i:Nat) (o:Oper) (t:Nat) (v:Nat→Value) (w':World),ops[i]?=some o→(∀ p ∈ L,t ≠ p.tA)→o.dst=some t→Below w0.heap.size w0 w' →
  (∀ e ∈ o.after,Region.binds .any e=true→∀ (oe:Oper) (te:Nat),ops[e.on]?=some oe→oe.dst=some te→(∀ p ∈ L,te ≠ p.tA)→F te (v te) w') →
  wpOp P ops Q i (fun a'' w''=>∃ x,a''=(putAll a l v).put (some t) x∧Below w'.heap.size w' w''∧F t x w'') (putAll a l v) w')
 (hstore:∀ p ∈ L,∀ (os:Oper) (v:Nat→Value) (w':World) (g:Nat),ops[p.is]?=some os→Below w0.heap.size w0 w'→v p.tA=.pointer (some ⟨g,0,none⟩)→BoxAt p.T w' g p.zs →
  (∀ e ∈ os.after,Region.binds .any e=true→∀ (oe:Oper) (te:Nat),ops[e.on]?=some oe→oe.dst=some te→(∀ p ∈ L,te ≠ p.tA)→F te (v te) w') →
  os.wp P (putAll a l v) w' (fun a'' w''=>a''=putAll a l v∧Only g w' w''∧∃ cs',BoxAt p.T w'' g cs'∧p.Fst cs' w'') Q)
 (hend:∀ (v:Nat→Value) (w':World),Below w0.heap.size w0 w'→(∀ (i:Nat) (o:Oper) (t:Nat),ops[i]?=some o→o.dst=some t→(∀ p ∈ L,t ≠ p.tA)→F t (v t) w') →
  (∀ p ∈ L,∃ g cs,v p.tA=.pointer (some ⟨g,0,none⟩)∧w0.heap.size≤g∧BoxAt p.T w' g cs∧p.Fst cs w')→(∀ p ∈ L,∀ q ∈ L,p.tA ≠ q.tA→v p.tA ≠ v q.tA)→Q .normal (putAll a l v) w') :
 (Code.region id ops true).wp P Q a w0:=by
 have lt_of:∀ {i:Nat} {o:Oper},ops[i]?=some o→i < ops.size:=fun {i o} h=>by
  rcases Nat.lt_or_ge i ops.size with k | k
  · exact k
  · rw [Array.getElem?_eq_none k] at h;cases h
 have hmem:∀ {i:Nat} {o:Oper} {t:Nat},ops[i]?=some o→o.dst=some t→t ∈ l:=fun {i o t} h d=>by
  rw [← hl];exact List.mem_filterMap.2 ⟨o,List.mem_of_getElem? (by simpa using h),d⟩
 have hinj:∀ {i j:Nat} {oi oj:Oper} {t:Nat},ops[i]?=some oi→ops[j]?=some oj→oi.dst=some t→oj.dst=some t→i=j:=fun {i j oi oj t} h1 h2 d1 d2 =>
  once_of (l:=ops.toList) (by rw [hl];exact hn) (by simpa using h1) (by simpa using h2) d1 d2
 -- a filling operation is no making one,and none that tells a value
 have his:∀ p ∈ L,∀ (i:Nat) (o:Oper) (t:Nat),ops[i]?=some o→o.dst=some t→p.is ≠ i:=by
  intro p hp i o t ho ht q
  obtain ⟨os,h1,h2,_⟩:=(hL p hp).fill
  subst q
  rw [h1] at ho
  cases ho
  rw [h2] at ht
  cases ht
 refine wp_region_inv l (JFlows ops w0 L F) hm hb ?_ ?_ ?_ ?_
 · refine ⟨(Below.refl _ _).drew,?_,?_,?_,?_⟩
   · intro i o t _ _ _ h;exact absurd (show false=true from h) (by decide)
   · intro p _ h;exact absurd (show false=true from h) (by decide)
   · intro p _ h;exact absurd (show false=true from h) (by decide)
   · intro p _ q _ _ h;exact absurd (show false=true from h) (by decide)
 · intro D D' v w hD h
   have ea:∀ p ∈ L,D p.ia=D' p.ia:=fun p hp=>by obtain ⟨oa,h1,_⟩:=(hL p hp).alloc;exact hD _ (lt_of h1)
   have es:∀ p ∈ L,D p.is=D' p.is:=fun p hp=>by obtain ⟨os,h1,_⟩:=(hL p hp).fill;exact hD _ (lt_of h1)
   refine ⟨h.below,fun i o t hi ht hne hd=>h.vals i o t hi ht hne (by rw [hD i (lt_of hi)];exact hd),?_,?_,?_⟩
   · intro p hp;rw [← ea p hp,← es p hp];exact h.box p hp
   · intro p hp;rw [← ea p hp,← es p hp];exact h.after p hp
   · intro p hp q hq;rw [← ea p hp,← ea q hq];exact h.apart p hp q hq
 · intro i o D v w' ho hDi hall J
   cases hd:o.dst with
   | none =>
     obtain ⟨p,hp,rfl⟩:=hone i o ho hd
     obtain ⟨os,h1,h2,hgs,e,he,hbd,hon⟩:=(hL p hp).fill
     rw [h1] at ho
     cases ho
     have hDa:D p.ia=true:=by rw [← hon];exact hall e he hbd
     obtain ⟨g,cs,p1,p2,p3,_,pz⟩:=J.box p hp hDa
     obtain rfl:=pz hDi
     refine wpOp_plain' h1 hgs ?_
     refine Oper.wp_mono ?_ (hstore p hp _ v w' g h1 J.below p1 p3 (fun e he hb' oe te h1 h2 h3=>J.vals e.on oe te h1 h2 h3 (hall e he hb')))
     rintro a'' w'' ⟨rfl,ho2,cs',hB,hF⟩
     have nia:∀ q ∈ L,q.ia ≠ p.is:=fun q hq k=>by
      obtain ⟨oa,k1,k2,_⟩:=(hL q hq).alloc
      exact his p hp q.ia oa q.tA k1 k2 k.symm
     refine ⟨v,rfl,Below.only J.below p2 J.below.size ho2,?_,?_,?_,?_⟩
     · intro j oj t hj ht hne hd2
       have hji:j ≠ p.is:=fun q=>his p hp j oj t hj ht q.symm
       rw [upd_ne _ _ hji] at hd2
       exact (hst t).2 p hp _ _ _ _ _ (J.vals j oj t hj ht hne hd2) p3 ho2
     · intro q hq hDq
       rw [upd_ne _ _ (nia q hq)] at hDq
       by_cases hpq:q.tA=p.tA
       · obtain rfl:=hT q hq p hp hpq
         exact ⟨g,cs',p1,p2,hB,fun _=>hF,fun k=>by rw [upd_same] at k;cases k⟩
       · obtain ⟨g2,cs2,r1,r2,r3,r4,r5⟩:=J.box q hq hDq
         have hgg:g2 ≠ g:=fun k=>J.apart q hq p hp hpq hDq hDa (by rw [r1,p1,k])
         have hss:q.is ≠ p.is:=fun k=>hpq (by rw [hS q hq p hp k])
         refine ⟨g2,cs2,r1,r2,⟨(ho2.block g2 r3.lt hgg).trans r3.at_,r3.free⟩,fun k=>?_,fun k=>?_⟩
         · rw [upd_ne _ _ hss] at k
           exact (hL q hq).stays2 _ _ _ _ _ _ (r4 k) p3 ho2
         · rw [upd_ne _ _ hss] at k
           exact r5 k
     · intro q hq k
       rw [upd_ne _ _ (nia q hq)]
       by_cases hss:q.is=p.is
       · obtain rfl:=hS q hq p hp hss
         exact hDa
       · rw [upd_ne _ _ hss] at k
         exact J.after q hq k
     · intro q hq r hr hne k1 k2
       rw [upd_ne _ _ (nia q hq)] at k1
       rw [upd_ne _ _ (nia r hr)] at k2
       exact J.apart q hq r hr hne k1 k2
   | some t =>
     have nis:∀ q ∈ L,q.is ≠ i:=fun q hq=>his q hq i o t ho hd
     by_cases hA:∃ p ∈ L,t=p.tA
     · obtain ⟨p,hp,rfl⟩:=hA
       obtain ⟨oa,h1,h2,hga,halloc⟩:=(hL p hp).alloc
       have hii:i=p.ia:=hinj ho h1 hd h2
       subst hii
       rw [h1] at ho
       cases ho
       refine wpOp_plain' h1 hga ?_
       unfold Oper.wp
       rw [halloc,Oper.upon_value,h2]
       have hbl:=(Below.refl w'.heap.size w').alloc (Nat.le_refl _) (.cells p.zs p.T)
       have hnew:∀ q ∈ L,q.tA ≠ p.tA→q.ia ≠ p.ia:=fun q hq k r=>by
        obtain ⟨ob,k1,k2,_⟩:=(hL q hq).alloc
        rw [r,h1] at k1
        cases k1
        rw [h2] at k2
        exact k (Option.some.inj k2).symm
       refine ⟨_,putAll_put _ _ _ _ _ hn (hmem h1 h2),J.below.trans (hbl.mono J.below.size),?_,?_,?_,?_⟩
       · intro j oj t hj ht hne hd2
         have htp:=hne p hp
         have hji:j ≠ p.ia:=fun q=>htp (by subst q;rw [h1] at hj;cases hj;rw [h2] at ht;cases ht;rfl)
         rw [upd_ne _ _ hji] at hd2;rw [upd_ne _ _ htp]
         exact (hst t).1 _ _ _ (J.vals j oj t hj ht hne hd2) hbl
       · intro q hq hDq
         by_cases hqp:q.tA=p.tA
         · obtain rfl:=hT q hq p hp hqp
           refine ⟨w'.heap.size,q.zs,upd_same _ _ _,J.below.size,⟨heap_alloc_new _ _,(hL q hq).free⟩,fun h=>?_,fun _=>rfl⟩
           rw [upd_ne _ _ (nis q hq)] at h
           have:=J.after q hq h
           rw [hDi] at this
           cases this
         · rw [upd_ne _ _ (hnew q hq hqp)] at hDq
           obtain ⟨g,cs,r1,r2,r3,r4,r5⟩:=J.box q hq hDq
           refine ⟨g,cs,by rw [upd_ne _ _ hqp];exact r1,r2,r3.below hbl,fun h=>?_,fun h=>?_⟩
           · rw [upd_ne _ _ (nis q hq)] at h
             exact (hL q hq).stays _ _ _ (r4 h) hbl
           · rw [upd_ne _ _ (nis q hq)] at h
             exact r5 h
       · intro q hq h
         rw [upd_ne _ _ (nis q hq)] at h
         by_cases hqp:q.tA=p.tA
         · obtain rfl:=hT q hq p hp hqp
           rw [upd_same]
         · rw [upd_ne _ _ (hnew q hq hqp)]
           exact J.after q hq h
       · intro q hq r hr hne k1 k2
         by_cases hqp:q.tA=p.tA
         · obtain rfl:=hT q hq p hp hqp
           have hrp:r.tA ≠ q.tA:=Ne.symm hne
           rw [upd_ne _ _ (hnew r hr hrp)] at k2
           obtain ⟨g,cs,r1,_,r3,_⟩:=J.box r hr k2
           rw [upd_same,upd_ne _ _ hrp,r1]
           intro k
           simp only [Value.pointer.injEq,Option.some.injEq,Addr.mk.injEq] at k
           have:=r3.lt
           omega
         · rw [upd_ne _ _ (hnew q hq hqp)] at k1
           by_cases hrp:r.tA=p.tA
           · obtain rfl:=hT r hr p hp hrp
             obtain ⟨g,cs,r1,_,r3,_⟩:=J.box q hq k1
             rw [upd_same,upd_ne _ _ hqp,r1]
             intro k
             simp only [Value.pointer.injEq,Option.some.injEq,Addr.mk.injEq] at k
             have:=r3.lt
             omega
           · rw [upd_ne _ _ (hnew r hr hrp)] at k2
             rw [upd_ne _ _ hqp,upd_ne _ _ hrp]
             exact J.apart q hq r hr hne k1 k2
     · have htA:∀ p ∈ L,t ≠ p.tA:=fun p hp k=>hA ⟨p,hp,k⟩
       have nia:∀ q ∈ L,q.ia ≠ i:=fun q hq k=>by
        obtain ⟨oa,k1,k2,_⟩:=(hL q hq).alloc
        rw [k,ho] at k1
        cases k1
        rw [hd] at k2
        cases k2
        exact htA q hq rfl
       refine wpOp_mono ?_ (hval i o t v w' ho htA hd J.below (fun e he hb' oe te h1 h2 h3=>J.vals e.on oe te h1 h2 h3 (hall e he hb')))
       rintro a'' w'' ⟨x,rfl,hbl,hF⟩
       refine ⟨_,putAll_put _ _ _ _ _ hn (hmem ho hd),J.below.trans (hbl.mono J.below.size),?_,?_,?_,?_⟩
       · intro j oj t' hj ht hne hd2
         by_cases hji:j=i
         · subst hji
           rw [ho] at hj
           cases hj
           rw [hd] at ht
           cases ht
           rw [upd_same]
           exact hF
         · rw [upd_ne _ _ hji] at hd2
           have htt:t' ≠ t:=fun q=>hji (by subst q;exact hinj hj ho ht hd)
           rw [upd_ne _ _ htt]
           exact (hst t').1 _ _ _ (J.vals j oj t' hj ht hne hd2) hbl
       · intro q hq hDq
         rw [upd_ne _ _ (nia q hq)] at hDq
         obtain ⟨g,cs,r1,r2,r3,r4,r5⟩:=J.box q hq hDq
         refine ⟨g,cs,by rw [upd_ne _ _ (Ne.symm (htA q hq))];exact r1,r2,r3.below hbl,fun h=>?_,fun h=>?_⟩
         · rw [upd_ne _ _ (nis q hq)] at h
           exact (hL q hq).stays _ _ _ (r4 h) hbl
         · rw [upd_ne _ _ (nis q hq)] at h
           exact r5 h
       · intro q hq h
         rw [upd_ne _ _ (nis q hq)] at h
         rw [upd_ne _ _ (nia q hq)]
         exact J.after q hq h
       · intro q hq r hr hne k1 k2
         rw [upd_ne _ _ (nia q hq)] at k1
         rw [upd_ne _ _ (nia r hr)] at k2
         rw [upd_ne _ _ (Ne.symm (htA q hq)),upd_ne _ _ (Ne.symm (htA r hr))]
         exact J.apart q hq r hr hne k1 k2
 · intro D v w' hall J
   refine hend v w' J.below (fun i o t hi ht hne=>J.vals i o t hi ht hne (hall i (lt_of hi))) ?_ ?_
   · intro p hp
     obtain ⟨oa,h1,_⟩:=(hL p hp).alloc
     obtain ⟨os,h2,_⟩:=(hL p hp).fill
     obtain ⟨g,cs,r1,r2,r3,r4,_⟩:=J.box p hp (hall _ (lt_of h1))
     exact ⟨g,cs,r1,r2,r3,r4 (hall _ (lt_of h2))⟩
   · intro p hp q hq hne
     obtain ⟨oa,h1,_⟩:=(hL p hp).alloc
     obtain ⟨ob,h2,_⟩:=(hL q hq).alloc
     exact J.apart p hp q hq hne (hall _ (lt_of h1)) (hall _ (lt_of h2))
end
end
section
open Go Go.RowKit
structure MV where
 a:QV
 b:QV
 c:QV
 d:QV
 e:QV
 f:QV
structure AM where
 a:Rat
 b:Rat
 c:Rat
 d:Rat
 e:Rat
 f:Rat
def AM.ax (m:AM) (x y:Rat):Rat:=m.a*x+m.c*y+m.e
def AM.ay (m:AM) (x y:Rat):Rat:=m.b*x+m.d*y+m.f
def AM.dx (m:AM) (x y:Rat):Rat:=m.a*x+m.c*y
def AM.dy (m:AM) (x y:Rat):Rat:=m.b*x+m.d*y
def AM.det (m:AM):Rat:=m.a*m.d - m.b*m.c
section
variable {W W':World} {g:Nat} {v0 v1 v2 v3 v4 v5 v6 v7 v8 v9 v10 v11 v12 v13 v14 v15 v16 v17:Value}
end
section
variable {W W':World} {g:Nat} {v0 v1 v2 v3 v4 v5 v6 v7 v8 v9 v10 v11 v12 v13 v14 v15 v16 v17:Value}
end
def MR (w:World) (m:MV) (v:AM) (k l:Nat):Prop:=PR w m.a.s m.a.A m.a.n m.a.c m.a.B m.a.m m.a.d m.b.s m.b.A m.b.n m.b.c m.b.B m.b.m m.b.d v.a v.b k∧PR w m.c.s m.c.A m.c.n m.c.c m.c.B m.c.m m.c.d m.d.s m.d.A m.d.n m.d.c m.d.B m.d.m m.d.d v.c v.d k∧PR w m.e.s m.e.A m.e.n m.e.c m.e.B m.e.m m.e.d m.f.s m.f.A m.f.n m.f.c m.f.B m.f.m m.f.d v.e v.f l
def MG (w:World) (m:MV) (v:AM) (k l:Nat):Prop:=PG w m.a.s m.a.A m.a.n m.a.c m.a.B m.a.m m.a.d m.b.s m.b.A m.b.n m.b.c m.b.B m.b.m m.b.d v.a v.b k∧PG w m.c.s m.c.A m.c.n m.c.c m.c.B m.c.m m.c.d m.d.s m.d.A m.d.n m.d.c m.d.B m.d.m m.d.d v.c v.d k∧PG w m.e.s m.e.A m.e.n m.e.c m.e.B m.e.m m.e.d m.f.s m.f.A m.f.n m.f.c m.f.B m.f.m m.f.d v.e v.f l
def RM (w:World) (m:MV) (v:AM) (k l:Nat):Prop:=RP w m.a.s m.a.A m.a.n m.a.c m.a.B m.a.m m.a.d m.b.s m.b.A m.b.n m.b.c m.b.B m.b.m m.b.d v.a v.b k∧RP w m.c.s m.c.A m.c.n m.c.c m.c.B m.c.m m.c.d m.d.s m.d.A m.d.n m.d.c m.d.B m.d.m m.d.d v.c v.d k∧RP w m.e.s m.e.A m.e.n m.e.c m.e.B m.e.m m.e.d m.f.s m.f.A m.f.n m.f.c m.f.B m.f.m m.f.d v.e v.f l
section
variable {w w':World} {m:MV} {v:AM} {k l k1 l1:Nat}
theorem MR.below (h:MR w m v k l) (hb:Below w.heap.size w w'):MR w' m v k l:=⟨h.1.below hb,h.2.1.below hb,h.2.2.below hb⟩
theorem MR.cd (h:MR w m v k l):PR w m.c.s m.c.A m.c.n m.c.c m.c.B m.c.m m.c.d m.d.s m.d.A m.d.n m.d.c m.d.B m.d.m m.d.d v.c v.d k:=h.2.1
theorem MG.below (h:MG w m v k l) (hb:Below w.heap.size w w'):MG w' m v k l:=⟨h.1.below hb,h.2.1.below hb,h.2.2.below hb⟩
theorem MG.cd (h:MG w m v k l):PG w m.c.s m.c.A m.c.n m.c.c m.c.B m.c.m m.c.d m.d.s m.d.A m.d.n m.d.c m.d.B m.d.m m.d.d v.c v.d k:=h.2.1
theorem RM.below (h:RM w m v k l) (hb:Below w.heap.size w w'):RM w' m v k l:=⟨h.1.below hb,h.2.1.below hb,h.2.2.below hb⟩
theorem RM.cd (h:RM w m v k l):RP w m.c.s m.c.A m.c.n m.c.c m.c.B m.c.m m.c.d m.d.s m.d.A m.d.n m.d.c m.d.B m.d.m m.d.d v.c v.d k:=h.2.1
theorem MG.more (h:MG w m v k l) (hk:k≤k1) (hl:l≤l1):MG w m v k1 l1:=⟨h.1.more hk,h.2.1.more hk,h.2.2.more hl⟩
theorem MR.more (h:MR w m v k l) (hk:k≤k1) (hl:l≤l1):MR w m v k1 l1:=⟨h.1.more hk,h.2.1.more hk,h.2.2.more hl⟩
end
theorem MG.box {T:TypeId} {w w':World} {g:Nat} {cs:Array Value} {u:MV} {v:AM} {k l:Nat} (h:MG w u v k l) (Z:BoxAt T w g cs) (ho:Only g w w'):MG w' u v k l:=⟨⟨h.1.1.box Z ho,h.1.2.box Z ho⟩,⟨h.2.1.1.box Z ho,h.2.1.2.box Z ho⟩,⟨h.2.2.1.box Z ho,h.2.2.2.box Z ho⟩⟩
theorem RM.box {T:TypeId} {w w':World} {g:Nat} {cs:Array Value} {u:MV} {v:AM} {k l:Nat} (h:RM w u v k l) (Z:BoxAt T w g cs) (ho:Only g w w'):RM w' u v k l:=⟨⟨h.1.1.box Z ho,h.1.2.box Z ho⟩,⟨h.2.1.1.box Z ho,h.2.1.2.box Z ho⟩,⟨h.2.2.1.box Z ho,h.2.2.2.box Z ho⟩⟩
def QV.zero:QV:=⟨false,none,0,0,none,0,0⟩
def MU (w:World) (m:MV) (v:AM) (k _l:Nat):Prop:=PG w m.a.s m.a.A m.a.n m.a.c m.a.B m.a.m m.a.d m.b.s m.b.A m.b.n m.b.c m.b.B m.b.m m.b.d v.a v.b k∧PG w m.c.s m.c.A m.c.n m.c.c m.c.B m.c.m m.c.d m.d.s m.d.A m.d.n m.d.c m.d.B m.d.m m.d.d v.c v.d k∧m.e=QV.zero∧m.f=QV.zero∧v.e=0∧v.f=0
section
variable {w w':World} {m:MV} {v:AM} {k l:Nat}
theorem MU.below (h:MU w m v k l) (hb:Below w.heap.size w w'):MU w' m v k l:=⟨h.1.below hb,h.2.1.below hb,h.2.2⟩
theorem MU.box {T:TypeId} {g:Nat} {cs:Array Value} (h:MU w m v k l) (Z:BoxAt T w g cs) (ho:Only g w w'):MU w' m v k l:=⟨⟨h.1.1.box Z ho,h.1.2.box Z ho⟩,⟨h.2.1.1.box Z ho,h.2.1.2.box Z ho⟩,h.2.2⟩
end
theorem B6.restm {W W':World} {g k:Nat} {x y z u v t:Value} (h:B6 W g x y z u v t) (hne:g ≠ k) (ho:Only k W W'):B6 W' g x y z u v t:=(ho.block g h.lt hne).trans h
theorem B6R.restm {W W':World} {g k:Nat} {x y z u v t:Value} (h:B6R W g x y z u v t) (hne:g ≠ k) (ho:Only k W W'):B6R W' g x y z u v t:=(ho.block g h.lt hne).trans h
theorem B3.restm {W W':World} {g k:Nat} {x y z:Value} (h:B3 W g x y z) (hne:g ≠ k) (ho:Only k W W'):B3 W' g x y z:=(ho.block g h.lt hne).trans h
theorem B3R.restm {W W':World} {g k:Nat} {x y z:Value} (h:B3R W g x y z) (hne:g ≠ k) (ho:Only k W W'):B3R W' g x y z:=(ho.block g h.lt hne).trans h
theorem only_set3 (W:World) (g:Nat) (a b c:Value):Only g W (((W.setCell ⟨g,0,none⟩ a).setCell ⟨g,1,none⟩ b).setCell ⟨g,2,none⟩ c):=(((Only.refl g W).setCell 0 _).setCell 1 _).setCell 2 _
end
end Go.Proofs.YtlpogecpdfdggaaGreat
