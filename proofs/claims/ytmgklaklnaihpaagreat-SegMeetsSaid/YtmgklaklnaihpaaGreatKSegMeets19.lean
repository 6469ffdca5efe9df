/- SegMeets: part 19. -/
import Derived.Test.YtmgklaklnaihpaaGreatKSegMeets13
import Derived.Test.YtmgklaklnaihpaaGreatKSegMeets18
set_option linter.unusedVariables false
set_option maxRecDepth 100000
set_option maxHeartbeats 16000000
variable {w:Go.World}
variable {s_p t_p:Bool} {A_p B_p E_p F_p:Option Go.Addr} {n_p c_p m_p d_p i_p e_p j_p f_p:Nat}
variable {s_q t_q:Bool} {A_q B_q E_q F_q:Option Go.Addr} {n_q c_q m_q d_q i_q e_q j_q f_q:Nat}
variable {s_r t_r:Bool} {A_r B_r E_r F_r:Option Go.Addr} {n_r c_r m_r d_r i_r e_r j_r f_r:Nat}
variable {s_u t_u:Bool} {A_u B_u E_u F_u:Option Go.Addr} {n_u c_u m_u d_u i_u e_u j_u f_u:Nat}
variable {s_v t_v:Bool} {A_v B_v E_v F_v:Option Go.Addr} {n_v c_v m_v d_v i_v e_v j_v f_v:Nat}
variable {s_k:Bool} {A_k B_k:Option Go.Addr} {n_k c_k m_k d_k:Nat}
namespace Go.Proofs.YtmgklaklnaihpaaGreat
open Go Go.RowKit
theorem Each.belowR {w w':World} {L:List PV} {l:List (Rat × Rat)} {k:Nat} (h:Each PV.RP w L l k) (hb:Below w.heap.size w w'):Each PV.RP w' L l k:=h.imp fun _ _ hp=>RP.below hp hb
theorem Each.staysR {T:TypeId} {base:Nat} {w w':World} {v:Value} {M L:List PV} {l:List (Rat × Rat)} {k:Nat} (_h:Each PV.RP w L l k) (hn:Ln T base w v M) (hg:w.grownBy w' v.ownBlock):∀ p u,PV.RP w p u k→PV.RP w' p u k:=fun p u hp=>by
 rcases hn.stays hg with q | ⟨g,cs,hB,_,ho⟩
 · exact RP.below hp q
 · exact RP.box hp hB ho
theorem Each.moreR {L:List PV} {l:List (Rat × Rat)} {k k2:Nat} (h:Each PV.RP w L l k) (hk:k≤k2):Each PV.RP w L l k2:=⟨h.1,fun i p u hp hu=>RP.more (h.2 i p u hp hu) hk⟩
def GivesLnR (w:World) (l:List (Rat × Rat)) (k:Nat) (en:Ending) (w':World):Prop :=
 ∃ v L,en=.returned v∧Ln 60 w.heap.size w' v L∧Each PV.RP w' L l k∧Below w.heap.size w w'
def GivesToldR (w:World) (ax ay bx by_ cx cy dx dy:Rat) (en:Ending) (w':World):Prop:=∃ m,Told ax ay bx by_ cx cy dx dy m∧GivesLnR w m 300 en w'
theorem idx_rpt {g n c i:Nat} (h:i < n) (w:World):(Instr.indexAt 67 (.slice (some ⟨g,0,none⟩) n c) (.int .i64 (i:Int))).run Tryz.prog w=.ok (.pointer (some ⟨g,i*6,none⟩)) w:=by
 have ha:∀ j,(⟨g,0,none⟩:Addr).add j=⟨g,j,none⟩:=fun j=>by unfold Addr.add;split <;> simp_all
 obtain ⟨i0,hi,hz,hs,hby⟩:=info_parts info_rpt
 have h1:(0:Int)≤(i:Int):=by omega
 have h2:(i:Int) < (n:Int):=by omega
 simp [Instr.indexAt,asIntOf,run_underlying Tryz.underlying67,h1,sizeOf,typeInfo,hi,hs,ha]
 exact fun e=>absurd h (by omega)
theorem idxr0 {g n c:Nat} (h:0 < n) (w:World):(Instr.indexAt 67 (.slice (some ⟨g,0,none⟩) n c) (.int .i64 0)).run Tryz.prog w=.ok (.pointer (some ⟨g,0,none⟩)) w:=idx_rpt (i:=0) h w
theorem one_of {α:Type} {L:List α} {q:α} (h:L.length=1) (h2:L[0]?=some q):L=[q]:=by
 match L,h,h2 with
 | [_],_,h2=>cases h2;rfl
theorem cmpQ_neg {v u:Rat}:cmpQ v u < 0 ↔ v < u:=by
 have h:=cmp_nonneg (v:=v) (u:=u)
 rw [← Int.not_le,h,Rat.not_le]
theorem ways4 (m:Nat) (P Q:Prop):(((m:Int) < 2∧¬ (2:Int)≤(m:Int))∧P) ∨ ((¬ (m:Int) < 2∧(2:Int)≤(m:Int))∧Q) ∨ (((m:Int) < 2∧¬ (2:Int)≤(m:Int))∧¬ P) ∨ ((¬ (m:Int) < 2∧(2:Int)≤(m:Int))∧¬ Q):=by
 by_cases h:m < 2
 · have e:(m:Int) < 2∧¬ (2:Int)≤(m:Int):=by omega
   by_cases p:P
   · exact .inl ⟨e,p⟩
   · exact .inr (.inr (.inl ⟨e,p⟩))
 · have e:¬ (m:Int) < 2∧(2:Int)≤(m:Int):=by omega
   by_cases p:Q
   · exact .inr (.inl ⟨e,p⟩)
   · exact .inr (.inr (.inr ⟨e,p⟩))
noncomputable def picksR (K:Rat × Rat→Prop) (F:Rat × Rat→Rat) (V:List (Rat × Rat)) (m:Nat):List (Rat × Rat):=(V.take m).foldl (pickR K F) []
theorem picksR_succ {K:Rat × Rat→Prop} {F:Rat × Rat→Rat} {V:List (Rat × Rat)} {m:Nat} {v:Rat × Rat} (h:V[m]?=some v):picksR K F V (m+1)=pickR K F (picksR K F V m) v:=by
 unfold picksR
 obtain ⟨hm,hv⟩:=List.getElem?_eq_some_iff.1 h
 rw [List.take_succ_eq_append_getElem hm,List.foldl_append,hv];rfl
theorem mem_take_succ {l:List (Rat × Rat)} {j:Nat} {v u:Rat × Rat} (h:l[j]?=some u):v ∈ l.take (j+1) ↔ v ∈ l.take j ∨ v=u:=by
 obtain ⟨hm,hv⟩:=List.getElem?_eq_some_iff.1 h
 rw [List.take_succ_eq_append_getElem hm,List.mem_append,hv];simp
theorem run_load7 {e1:Operand→Value} {x1:Operand} {d1:Option Tmp} {y1 g:Nat} {pos:String} {af:Array Edge} {a b c d e f:Value} (h:e1 x1=.pointer (some ⟨g,0,none⟩)) (h0:w.cell? ⟨g,0,none⟩=some a) (h1:w.cell? ⟨g,1,none⟩=some b) (h2:w.cell? ⟨g,2,none⟩=some c) (h3:w.cell? ⟨g,3,none⟩=some d) (h4:w.cell? ⟨g,4,none⟩=some e) (h5:w.cell? ⟨g,5,none⟩=some f) :
 (execOp e1 ⟨d1,.load 60 x1,y1,pos,af,none⟩).run Tryz.prog w=.ok (.value (.agg #[a,b,c,d,e,f])) w:=by
 go_simp
theorem ron_yes {kp k:Nat} {px py ax ay bx by_:Rat} (p:RP w s_p A_p n_p c_p B_p m_p d_p t_p E_p i_p e_p F_p j_p f_p px py kp) (q:RP w s_q A_q n_q c_q B_q m_q d_q t_q E_q i_q e_q F_q j_q f_q ax ay k) (r:RP w s_r A_r n_r c_r B_r m_r d_r t_r E_r i_r e_r F_r j_r f_r bx by_ k) (hkp:kp≤300) (hk:k≤12) (h:onS px py ax ay bx by_) :
 Calls Tryz.prog 37 #[.agg #[.bool s_p,.slice A_p n_p c_p,.slice B_p m_p d_p,.bool t_p,.slice E_p i_p e_p,.slice F_p j_p f_p],.agg #[.bool s_q,.slice A_q n_q c_q,.slice B_q m_q d_q,.bool t_q,.slice E_q i_q e_q,.slice F_q j_q f_q],.agg #[.bool s_r,.slice A_r n_r c_r,.slice B_r m_r d_r,.bool t_r,.slice E_r i_r e_r,.slice F_r j_r f_r]] w fun e w'=>e=.returned (.bool true)∧Below w.heap.size w w':=by
 obtain ⟨K,hK,h0⟩:∃ K,sgnQ (segQ px py ax ay bx by_)=K∧((K:Int) == 0)=true:=⟨_,rfl,by rw [seg_iff.2 h];rfl⟩
 have HK:=Lib.hid hK;clear hK h
 go_enter Tryz.func37,Tryz.ntmps37
 go_wp2_with fail
 generalize hW:World.alloc _ _=W
 obtain ⟨hb,XA,XB,XC,hzW⟩:=mkbx35_12 hW;clear hW;replace p:=p.below hb;replace q:=q.below hb;replace r:=r.below hb;obtain ⟨xa0,xa1,xa2,xa3,xa4,xa5⟩:=XA.all;obtain ⟨xb0,xb1,xb2,xb3,xb4,xb5⟩:=XB.all;obtain ⟨xc0,xc1,xc2,xc3,xc4,xc5⟩:=XC.all
 go_wp2_with (first
  | (go_at_call 100;(with_reducible refine (rtoseg6 p q r hkp hk).mono ?_);rintro e w_v ⟨s_v,A_v,n_v,c_v,B_v,m_v,d_v,rfl,v,hh⟩
     replace hb:=bend hb hh)
  | (go_at_call 93;(with_reducible refine (rsign3 v).mono ?_);rintro e w_z ⟨rfl,hh⟩
     rw [HK.out];replace hb:=bend hb hh))
 go_ret;exact ⟨rfl,hb⟩
theorem ron_no {kp k:Nat} {px py ax ay bx by_:Rat} (p:RP w s_p A_p n_p c_p B_p m_p d_p t_p E_p i_p e_p F_p j_p f_p px py kp) (q:RP w s_q A_q n_q c_q B_q m_q d_q t_q E_q i_q e_q F_q j_q f_q ax ay k) (r:RP w s_r A_r n_r c_r B_r m_r d_r t_r E_r i_r e_r F_r j_r f_r bx by_ k) (hkp:kp≤300) (hk:k≤12) (h:¬ onS px py ax ay bx by_) :
 Calls Tryz.prog 37 #[.agg #[.bool s_p,.slice A_p n_p c_p,.slice B_p m_p d_p,.bool t_p,.slice E_p i_p e_p,.slice F_p j_p f_p],.agg #[.bool s_q,.slice A_q n_q c_q,.slice B_q m_q d_q,.bool t_q,.slice E_q i_q e_q,.slice F_q j_q f_q],.agg #[.bool s_r,.slice A_r n_r c_r,.slice B_r m_r d_r,.bool t_r,.slice E_r i_r e_r,.slice F_r j_r f_r]] w fun e w'=>e=.returned (.bool false)∧Below w.heap.size w w':=by
 obtain ⟨K,hK,h0⟩:∃ K,sgnQ (segQ px py ax ay bx by_)=K∧((K:Int) == 0)=false:=⟨_,rfl,by simpa using fun e=>h (seg_iff.1 (sgn_nul e))⟩
 have HK:=Lib.hid hK;clear hK h
 go_enter Tryz.func37,Tryz.ntmps37
 go_wp2_with fail
 generalize hW:World.alloc _ _=W
 obtain ⟨hb,XA,XB,XC,hzW⟩:=mkbx35_12 hW;clear hW;replace p:=p.below hb;replace q:=q.below hb;replace r:=r.below hb;obtain ⟨xa0,xa1,xa2,xa3,xa4,xa5⟩:=XA.all;obtain ⟨xb0,xb1,xb2,xb3,xb4,xb5⟩:=XB.all;obtain ⟨xc0,xc1,xc2,xc3,xc4,xc5⟩:=XC.all
 go_wp2_with (first
  | (go_at_call 100;(with_reducible refine (rtoseg6 p q r hkp hk).mono ?_);rintro e w_v ⟨s_v,A_v,n_v,c_v,B_v,m_v,d_v,rfl,v,hh⟩
     replace hb:=bend hb hh)
  | (go_at_call 93;(with_reducible refine (rsign3 v).mono ?_);rintro e w_z ⟨rfl,hh⟩
     rw [HK.out];replace hb:=bend hb hh))
 go_ret;exact ⟨rfl,hb⟩
abbrev L_rsubs:List Nat:=[20,21,22,23,24,25,9,10]
def o0_rsubs:Oper:=⟨some 20,.load 60 (.tmp 5),60, "ref.go:14",#[],none⟩
def o1_rsubs:Oper:=⟨some 21,.load 60 (.tmp 4),60, "ref.go:14",#[],none⟩
def o2_rsubs:Oper:=⟨some 22,.call ⟨.value (.func 91),#[.tmp 20,.tmp 21],#[60,60]⟩,60, "ref.go:14",#[⟨0,.data⟩,⟨1,.data⟩],none⟩
def o3_rsubs:Oper:=⟨some 23,.load 60 (.tmp 7),60, "ref.go:14",#[],none⟩
def o4_rsubs:Oper:=⟨some 24,.load 60 (.tmp 6),60, "ref.go:14",#[],none⟩
def o5_rsubs:Oper:=⟨some 25,.call ⟨.value (.func 91),#[.tmp 23,.tmp 24],#[60,60]⟩,60, "ref.go:14",#[⟨3,.data⟩,⟨4,.data⟩,⟨2,.chain⟩],none⟩
def o6_rsubs:Oper:=⟨some 9,.alloc 60,0, "ref.go:14",#[],none⟩
def o7_rsubs:Oper:=⟨some 10,.alloc 60,0, "ref.go:14",#[],none⟩
def o8_rsubs:Oper:=⟨none,.store 60 (.tmp 9) (.tmp 22),0, "ref.go:14",#[⟨6,.data⟩,⟨2,.data⟩,⟨5,.chain⟩,⟨0,.phase⟩,⟨1,.phase⟩,⟨2,.phase⟩,⟨3,.textOnly .lateStores⟩,⟨4,.textOnly .lateStores⟩,⟨5,.textOnly .lateStoresUnsure⟩,⟨6,.phase⟩,⟨7,.phase⟩],none⟩
def o9_rsubs:Oper:=⟨none,.store 60 (.tmp 10) (.tmp 25),0, "ref.go:14",#[⟨7,.data⟩,⟨5,.data⟩,⟨8,.chain⟩,⟨0,.phase⟩,⟨1,.phase⟩,⟨2,.phase⟩,⟨3,.phase⟩,⟨4,.phase⟩,⟨5,.phase⟩,⟨6,.phase⟩,⟨7,.phase⟩,⟨8,.phase⟩],none⟩
theorem rc_gesso_gessoref06_Sub {e:Operand→Value} {x0 x1:Operand} {d:Option Tmp} {y:Nat} {pos:String} {af:Array Edge} {u0 u1:Value} (h0:e x0=u0) (h1:e x1=u1) (hf:e (.func 91)=.func (.func 91) #[] #[]) :
 (execOp e ⟨d,.call ⟨.value (.func 91),#[x0,x1],#[60,60]⟩,y,pos,af,none⟩).run Tryz.prog w=.ok (.enter 91 #[u0,u1]) w:=by
 go_simp
def F_rsubs (s_p:Bool) (t_p:Bool) (A_p:Option Addr) (B_p:Option Addr) (E_p:Option Addr) (F_p:Option Addr) (n_p:Nat) (c_p:Nat) (m_p:Nat) (d_p:Nat) (i_p:Nat) (e_p:Nat) (j_p:Nat) (f_p:Nat) (s_q:Bool) (t_q:Bool) (A_q:Option Addr) (B_q:Option Addr) (E_q:Option Addr) (F_q:Option Addr) (n_q:Nat) (c_q:Nat) (m_q:Nat) (d_q:Nat) (i_q:Nat) (e_q:Nat) (j_q:Nat) (f_q:Nat) (s_r:Bool) (t_r:Bool) (A_r:Option Addr) (B_r:Option Addr) (E_r:Option Addr) (F_r:Option Addr) (n_r:Nat) (c_r:Nat) (m_r:Nat) (d_r:Nat) (i_r:Nat) (e_r:Nat) (j_r:Nat) (f_r:Nat) (s_u:Bool) (t_u:Bool) (A_u:Option Addr) (B_u:Option Addr) (E_u:Option Addr) (F_u:Option Addr) (n_u:Nat) (c_u:Nat) (m_u:Nat) (d_u:Nat) (i_u:Nat) (e_u:Nat) (j_u:Nat) (f_u:Nat) (ax:Rat) (ay:Rat) (bx:Rat) (by_:Rat) (cx:Rat) (cy:Rat) (dx:Rat) (dy:Rat) (k:Nat) (sl:Nat):Value→World→Prop :=
 match sl with
 | 20=>fun x _=>x=Value.agg #[.bool s_q,.slice A_q n_q c_q,.slice B_q m_q d_q,.bool t_q,.slice E_q i_q e_q,.slice F_q j_q f_q]
 | 21=>fun x _=>x=Value.agg #[.bool s_p,.slice A_p n_p c_p,.slice B_p m_p d_p,.bool t_p,.slice E_p i_p e_p,.slice F_p j_p f_p]
 | 22=>VRP (bx - ax) (by_ - ay) (k+k+1)
 | 23=>fun x _=>x=Value.agg #[.bool s_u,.slice A_u n_u c_u,.slice B_u m_u d_u,.bool t_u,.slice E_u i_u e_u,.slice F_u j_u f_u]
 | 24=>fun x _=>x=Value.agg #[.bool s_r,.slice A_r n_r c_r,.slice B_r m_r d_r,.bool t_r,.slice E_r i_r e_r,.slice F_r j_r f_r]
 | 25=>VRP (dx - cx) (dy - cy) (k+k+1)
 | _=>fun _ _=>True
def B0_rsubs (ax:Rat) (ay:Rat) (bx:Rat) (by_:Rat) (k:Nat):BoxOp :=
 ⟨6,8,9,60,#[.bool false,.slice none 0 0,.slice none 0 0,.bool false,.slice none 0 0,.slice none 0 0],fun cs w=>∃ s A n c B m d t E i e F j f,cs=#[.bool s,.slice A n c,.slice B m d,.bool t,.slice E i e,.slice F j f]∧RP w s A n c B m d t E i e F j f (bx - ax) (by_ - ay) (k+k+1)⟩
def B1_rsubs (cx:Rat) (cy:Rat) (dx:Rat) (dy:Rat) (k:Nat):BoxOp :=
 ⟨7,9,10,60,#[.bool false,.slice none 0 0,.slice none 0 0,.bool false,.slice none 0 0,.slice none 0 0],fun cs w=>∃ s A n c B m d t E i e F j f,cs=#[.bool s,.slice A n c,.slice B m d,.bool t,.slice E i e,.slice F j f]∧RP w s A n c B m d t E i e F j f (dx - cx) (dy - cy) (k+k+1)⟩
theorem rsubs_region {id:Nat} {ac:Act} {Q:Exit→Act→World→Prop} {ax ay bx by_ cx cy dx dy:Rat} {k ga gb gc gd:Nat}
 (hsz:25 < ac.tmps.size) (e4:ac.eval (.tmp 4)=Value.pointer (some ⟨ga,0,none⟩)) (e5:ac.eval (.tmp 5)=Value.pointer (some ⟨gb,0,none⟩)) (e6:ac.eval (.tmp 6)=Value.pointer (some ⟨gc,0,none⟩)) (e7:ac.eval (.tmp 7)=Value.pointer (some ⟨gd,0,none⟩)) (XA:B6R w ga (.bool s_p) (.slice A_p n_p c_p) (.slice B_p m_p d_p) (.bool t_p) (.slice E_p i_p e_p) (.slice F_p j_p f_p)) (XB:B6R w gb (.bool s_q) (.slice A_q n_q c_q) (.slice B_q m_q d_q) (.bool t_q) (.slice E_q i_q e_q) (.slice F_q j_q f_q)) (XC:B6R w gc (.bool s_r) (.slice A_r n_r c_r) (.slice B_r m_r d_r) (.bool t_r) (.slice E_r i_r e_r) (.slice F_r j_r f_r)) (XD:B6R w gd (.bool s_u) (.slice A_u n_u c_u) (.slice B_u m_u d_u) (.bool t_u) (.slice E_u i_u e_u) (.slice F_u j_u f_u)) (p:RP w s_p A_p n_p c_p B_p m_p d_p t_p E_p i_p e_p F_p j_p f_p ax ay k) (q:RP w s_q A_q n_q c_q B_q m_q d_q t_q E_q i_q e_q F_q j_q f_q bx by_ k) (r:RP w s_r A_r n_r c_r B_r m_r d_r t_r E_r i_r e_r F_r j_r f_r cx cy k) (u:RP w s_u A_u n_u c_u B_u m_u d_u t_u E_u i_u e_u F_u j_u f_u dx dy k) (hk:k≤12)
 (hend:∀ (V:Nat→Value) (w':World) (g0:Nat) (s0:Bool) (A0:Option Addr) (n0:Nat) (c0:Nat) (B0:Option Addr) (m0:Nat) (d0:Nat) (t0:Bool) (E0:Option Addr) (i0:Nat) (e0:Nat) (F0:Option Addr) (j0:Nat) (f0:Nat) (g1:Nat) (s1:Bool) (A1:Option Addr) (n1:Nat) (c1:Nat) (B1:Option Addr) (m1:Nat) (d1:Nat) (t1:Bool) (E1:Option Addr) (i1:Nat) (e1:Nat) (F1:Option Addr) (j1:Nat) (f1:Nat),RP w' s0 A0 n0 c0 B0 m0 d0 t0 E0 i0 e0 F0 j0 f0 (bx - ax) (by_ - ay) (k+k+1)→B6R w' g0 (.bool s0) (.slice A0 n0 c0) (.slice B0 m0 d0) (.bool t0) (.slice E0 i0 e0) (.slice F0 j0 f0)→w.heap.size≤g0→V 9=.pointer (some ⟨g0,0,none⟩)→RP w' s1 A1 n1 c1 B1 m1 d1 t1 E1 i1 e1 F1 j1 f1 (dx - cx) (dy - cy) (k+k+1)→B6R w' g1 (.bool s1) (.slice A1 n1 c1) (.slice B1 m1 d1) (.bool t1) (.slice E1 i1 e1) (.slice F1 j1 f1)→w.heap.size≤g1→V 10=.pointer (some ⟨g1,0,none⟩)→g1 ≠ g0→Below w.heap.size w w'→Q .normal (putAll ac [20,21,22,23,24,25,9,10] V) w') :
 (Code.region id #[o0_rsubs,o1_rsubs,o2_rsubs,o3_rsubs,o4_rsubs,o5_rsubs,o6_rsubs,o7_rsubs,o8_rsubs,o9_rsubs] true).wp Tryz.prog Q ac w:=by
 have hnd:L_rsubs.Nodup:=by decide
 have G:∀ (sv:Nat→Value) (t:Nat),t ∈ L_rsubs→t≤25→(putAll ac L_rsubs sv).eval (.tmp t)=sv t:=fun sv t ht h=>eval_putAll_mem (t:=t) L_rsubs ac hnd ht (Nat.lt_of_le_of_lt h hsz)
 have E4:∀ sv:Nat→Value,(putAll ac L_rsubs sv).eval (.tmp 4)=Value.pointer (some ⟨ga,0,none⟩):=fun sv=>(eval_putAll_not (v:=sv) L_rsubs ac (show 4 ∉ _ by decide)).trans e4
 have E5:∀ sv:Nat→Value,(putAll ac L_rsubs sv).eval (.tmp 5)=Value.pointer (some ⟨gb,0,none⟩):=fun sv=>(eval_putAll_not (v:=sv) L_rsubs ac (show 5 ∉ _ by decide)).trans e5
 have E6:∀ sv:Nat→Value,(putAll ac L_rsubs sv).eval (.tmp 6)=Value.pointer (some ⟨gc,0,none⟩):=fun sv=>(eval_putAll_not (v:=sv) L_rsubs ac (show 6 ∉ _ by decide)).trans e6
 have E7:∀ sv:Nat→Value,(putAll ac L_rsubs sv).eval (.tmp 7)=Value.pointer (some ⟨gd,0,none⟩):=fun sv=>(eval_putAll_not (v:=sv) L_rsubs ac (show 7 ∉ _ by decide)).trans e7
 have NE:∀ t:Nat,(t ≠ 9∧t ≠ 10)→∀ p ∈ [B0_rsubs ax ay bx by_ k,B1_rsubs cx cy dx dy k],t ≠ p.tA:=by
  intro t ht p hp
  simp only [List.mem_cons,List.not_mem_nil,or_false] at hp
  rcases hp with rfl | rfl
  · exact ht.1
  · exact ht.2
 refine wp_region_flows L_rsubs [B0_rsubs ax ay bx by_ k,B1_rsubs cx cy dx dy k] (F_rsubs s_p t_p A_p B_p E_p F_p n_p c_p m_p d_p i_p e_p j_p f_p s_q t_q A_q B_q E_q F_q n_q c_q m_q d_q i_q e_q j_q f_q s_r t_r A_r B_r E_r F_r n_r c_r m_r d_r i_r e_r j_r f_r s_u t_u A_u B_u E_u F_u n_u c_u m_u d_u i_u e_u j_u f_u ax ay bx by_ cx cy dx dy k) (by kernel_rfl) (by kernel_rfl) rfl hnd ?_ ?_ ?_ ?_ ?_ ?_ ?_ ?_
 · intro p hp
   simp only [List.mem_cons,List.not_mem_nil,or_false] at hp
   rcases hp with rfl | rfl
   · refine ⟨⟨o6_rsubs,rfl,rfl,rfl,fun e w'=>run_alloc7⟩,⟨o8_rsubs,rfl,rfl,rfl,⟨6,.data⟩,by simp [o8_rsubs],rfl,rfl⟩,free6 _ _ _ _ _ _ _ _ _ _ _ _ _ _,?_,?_⟩
     · rintro cs w1 w2 ⟨s_,A_,n_,c_,B_,m_,d_,t_,E_,i_,e_,F_,j_,f_,rfl,h⟩ hb;exact ⟨s_,A_,n_,c_,B_,m_,d_,t_,E_,i_,e_,F_,j_,f_,rfl,h.below hb⟩
     · rintro T cs w1 w2 g c0 ⟨s_,A_,n_,c_,B_,m_,d_,t_,E_,i_,e_,F_,j_,f_,rfl,h⟩ hB ho;exact ⟨s_,A_,n_,c_,B_,m_,d_,t_,E_,i_,e_,F_,j_,f_,rfl,h.box hB ho⟩
   · refine ⟨⟨o7_rsubs,rfl,rfl,rfl,fun e w'=>run_alloc7⟩,⟨o9_rsubs,rfl,rfl,rfl,⟨7,.data⟩,by simp [o9_rsubs],rfl,rfl⟩,free6 _ _ _ _ _ _ _ _ _ _ _ _ _ _,?_,?_⟩
     · rintro cs w1 w2 ⟨s_,A_,n_,c_,B_,m_,d_,t_,E_,i_,e_,F_,j_,f_,rfl,h⟩ hb;exact ⟨s_,A_,n_,c_,B_,m_,d_,t_,E_,i_,e_,F_,j_,f_,rfl,h.below hb⟩
     · rintro T cs w1 w2 g c0 ⟨s_,A_,n_,c_,B_,m_,d_,t_,E_,i_,e_,F_,j_,f_,rfl,h⟩ hB ho;exact ⟨s_,A_,n_,c_,B_,m_,d_,t_,E_,i_,e_,F_,j_,f_,rfl,h.box hB ho⟩
 · intro p hp q hq h
   simp only [List.mem_cons,List.not_mem_nil,or_false] at hp hq
   rcases hp with rfl | rfl <;> rcases hq with rfl | rfl
   · rfl
   · exact absurd (show (9:Nat)=10 from h) (by decide)
   · exact absurd (show (10:Nat)=9 from h) (by decide)
   · rfl
 · intro p hp q hq h
   simp only [List.mem_cons,List.not_mem_nil,or_false] at hp hq
   rcases hp with rfl | rfl <;> rcases hq with rfl | rfl
   · rfl
   · exact absurd (show (8:Nat)=9 from h) (by decide)
   · exact absurd (show (9:Nat)=8 from h) (by decide)
   · rfl
 · intro i o h1 h2
   match i,h1 with
   | 0,h1=>cases h1;cases h2
   | 1,h1=>cases h1;cases h2
   | 2,h1=>cases h1;cases h2
   | 3,h1=>cases h1;cases h2
   | 4,h1=>cases h1;cases h2
   | 5,h1=>cases h1;cases h2
   | 6,h1=>cases h1;cases h2
   | 7,h1=>cases h1;cases h2
   | 8,h1=>exact ⟨B0_rsubs ax ay bx by_ k,List.Mem.head _,rfl⟩
   | 9,h1=>exact ⟨B1_rsubs cx cy dx dy k,List.Mem.tail _ (List.Mem.head _),rfl⟩
   | i+10,h1=>cases h1
 · intro t
   unfold F_rsubs
   split <;> first | exact stays_eq _ | exact stays_q _ _ | exact stays_z _ _ | exact stays_r _ _ | exact stays_rq _ _ | exact stays_pg _ _ _ | exact stays_rp _ _ _ | exact stays_true
 · intro i o t sv w' ho hia hd J0 hf
   have p:=p.below J0;have q:=q.below J0;have r:=r.below J0;have u:=u.below J0;have XA:=XA.below J0;have XB:=XB.below J0;have XC:=XC.below J0;have XD:=XD.below J0
   match i,ho with
   | 0,ho =>
     obtain rfl:o0_rsubs=o:=Option.some.inj ho
     cases hd
     refine wpOp_plain' (o:=o0_rsubs) rfl rfl ?_
     unfold Oper.wp o0_rsubs
     rw [run_load7 (E5 sv) XB.c0 XB.c1 XB.c2 XB.c3 XB.c4 XB.c5,Oper.upon_value]
     exact ⟨_,rfl,Below.refl _ _,rfl⟩
   | 1,ho =>
     obtain rfl:o1_rsubs=o:=Option.some.inj ho
     cases hd
     refine wpOp_plain' (o:=o1_rsubs) rfl rfl ?_
     unfold Oper.wp o1_rsubs
     rw [run_load7 (E4 sv) XA.c0 XA.c1 XA.c2 XA.c3 XA.c4 XA.c5,Oper.upon_value]
     exact ⟨_,rfl,Below.refl _ _,rfl⟩
   | 2,ho =>
     obtain rfl:o2_rsubs=o:=Option.some.inj ho
     cases hd
     have f20:sv 20=Value.agg #[.bool s_q,.slice A_q n_q c_q,.slice B_q m_q d_q,.bool t_q,.slice E_q i_q e_q,.slice F_q j_q f_q]:=hf ⟨0,.data⟩ (by simp [o2_rsubs]) rfl _ 20 rfl rfl (NE _ (by decide))
     have f21:sv 21=Value.agg #[.bool s_p,.slice A_p n_p c_p,.slice B_p m_p d_p,.bool t_p,.slice E_p i_p e_p,.slice F_p j_p f_p]:=hf ⟨1,.data⟩ (by simp [o2_rsubs]) rfl _ 21 rfl rfl (NE _ (by decide))
     refine wpOp_plain' (o:=o2_rsubs) rfl rfl ?_
     unfold Oper.wp o2_rsubs
     rw [rc_gesso_gessoref06_Sub ((G sv 20 (by decide) (by decide)).trans f20) ((G sv 21 (by decide) (by decide)).trans f21) rfl,Oper.upon_enter]
     refine (rsub6 q p (by omega) (by omega)).mono ?_
     rintro e w1 ⟨s_,A_,n_,c_,B_,m_,d_,t_,E_,i_,e_,F_,j_,f_,rfl,hq,hh⟩
     exact ⟨_,rfl,hh,s_,A_,n_,c_,B_,m_,d_,t_,E_,i_,e_,F_,j_,f_,rfl,hq⟩
   | 3,ho =>
     obtain rfl:o3_rsubs=o:=Option.some.inj ho
     cases hd
     refine wpOp_plain' (o:=o3_rsubs) rfl rfl ?_
     unfold Oper.wp o3_rsubs
     rw [run_load7 (E7 sv) XD.c0 XD.c1 XD.c2 XD.c3 XD.c4 XD.c5,Oper.upon_value]
     exact ⟨_,rfl,Below.refl _ _,rfl⟩
   | 4,ho =>
     obtain rfl:o4_rsubs=o:=Option.some.inj ho
     cases hd
     refine wpOp_plain' (o:=o4_rsubs) rfl rfl ?_
     unfold Oper.wp o4_rsubs
     rw [run_load7 (E6 sv) XC.c0 XC.c1 XC.c2 XC.c3 XC.c4 XC.c5,Oper.upon_value]
     exact ⟨_,rfl,Below.refl _ _,rfl⟩
   | 5,ho =>
     obtain rfl:o5_rsubs=o:=Option.some.inj ho
     cases hd
     have f23:sv 23=Value.agg #[.bool s_u,.slice A_u n_u c_u,.slice B_u m_u d_u,.bool t_u,.slice E_u i_u e_u,.slice F_u j_u f_u]:=hf ⟨3,.data⟩ (by simp [o5_rsubs]) rfl _ 23 rfl rfl (NE _ (by decide))
     have f24:sv 24=Value.agg #[.bool s_r,.slice A_r n_r c_r,.slice B_r m_r d_r,.bool t_r,.slice E_r i_r e_r,.slice F_r j_r f_r]:=hf ⟨4,.data⟩ (by simp [o5_rsubs]) rfl _ 24 rfl rfl (NE _ (by decide))
     refine wpOp_plain' (o:=o5_rsubs) rfl rfl ?_
     unfold Oper.wp o5_rsubs
     rw [rc_gesso_gessoref06_Sub ((G sv 23 (by decide) (by decide)).trans f23) ((G sv 24 (by decide) (by decide)).trans f24) rfl,Oper.upon_enter]
     refine (rsub6 u r (by omega) (by omega)).mono ?_
     rintro e w1 ⟨s_,A_,n_,c_,B_,m_,d_,t_,E_,i_,e_,F_,j_,f_,rfl,hq,hh⟩
     exact ⟨_,rfl,hh,s_,A_,n_,c_,B_,m_,d_,t_,E_,i_,e_,F_,j_,f_,rfl,hq⟩
   | 6,ho=>cases ho;cases hd;exact absurd rfl (hia (B0_rsubs ax ay bx by_ k) (List.Mem.head _))
   | 7,ho=>cases ho;cases hd;exact absurd rfl (hia (B1_rsubs cx cy dx dy k) (List.Mem.tail _ (List.Mem.head _)))
   | 8,ho=>cases ho;cases hd
   | 9,ho=>cases ho;cases hd
   | i+10,ho=>cases ho
 · intro p hp os sv w' g hos J0 p1 p3 hf
   simp only [List.mem_cons,List.not_mem_nil,or_false] at hp
   rcases hp with rfl | rfl
   · obtain rfl:o8_rsubs=os:=Option.some.inj hos
     have h1:VRP (bx - ax) (by_ - ay) (k+k+1) (sv 22) w':=hf ⟨2,.data⟩ (by simp [o8_rsubs]) rfl _ 22 rfl rfl (NE _ (by decide))
     rw [← G sv 22 (by decide) (by decide)] at h1
     refine store_rp (x:=bx - ax) (y:=by_ - ay) (k:=k+k+1) (ac:=putAll ac L_rsubs sv) (z:=.tmp 22) ?_ ?_ ?_
     · exact (G sv 9 (by decide) (by decide)).trans p1
     · exact h1
     · exact p3
   · obtain rfl:o9_rsubs=os:=Option.some.inj hos
     have h1:VRP (dx - cx) (dy - cy) (k+k+1) (sv 25) w':=hf ⟨5,.data⟩ (by simp [o9_rsubs]) rfl _ 25 rfl rfl (NE _ (by decide))
     rw [← G sv 25 (by decide) (by decide)] at h1
     refine store_rp (x:=dx - cx) (y:=dy - cy) (k:=k+k+1) (ac:=putAll ac L_rsubs sv) (z:=.tmp 25) ?_ ?_ ?_
     · exact (G sv 10 (by decide) (by decide)).trans p1
     · exact h1
     · exact p3
 · intro sv w' J0 hF hB hap
   obtain ⟨g0,cs0,p0,r0,b0,⟨s0,A0,n0,c0,B0,m0,d0,t0,E0,i0,e0,F0,j0,f0,rfl,h0⟩⟩:=hB (B0_rsubs ax ay bx by_ k) (List.Mem.head _)
   obtain ⟨g1,cs1,p1,r1,b1,⟨s1,A1,n1,c1,B1,m1,d1,t1,E1,i1,e1,F1,j1,f1,rfl,h1⟩⟩:=hB (B1_rsubs cx cy dx dy k) (List.Mem.tail _ (List.Mem.head _))
   have p0':sv 9=.pointer (some ⟨g0,0,none⟩):=p0
   have p1':sv 10=.pointer (some ⟨g1,0,none⟩):=p1
   exact hend sv w' g0 _ _ _ _ _ _ _ _ _ _ _ _ _ _ g1 _ _ _ _ _ _ _ _ _ _ _ _ _ _ h0 b0.at_ r0 p0' h1 b1.at_ r1 p1' (fun q=>hap (B1_rsubs cx cy dx dy k) (List.Mem.tail _ (List.Mem.head _)) (B0_rsubs ax ay bx by_ k) (List.Mem.head _) (show (10:Nat) ≠ 9 by decide) (by rw [show (B1_rsubs cx cy dx dy k).tA=10 from rfl,show (B0_rsubs ax ay bx by_ k).tA=9 from rfl,p1',p0',q]))  J0
abbrev L_rshare:List Nat:=[32,33,34,35,36,37,38,12]
def o0_rshare:Oper:=⟨some 32,.load 60 (.tmp 6),60, "ref.go:18",#[],none⟩
def o1_rshare:Oper:=⟨some 33,.load 60 (.tmp 4),60, "ref.go:18",#[],none⟩
def o2_rshare:Oper:=⟨some 34,.call ⟨.value (.func 91),#[.tmp 32,.tmp 33],#[60,60]⟩,60, "ref.go:18",#[⟨0,.data⟩,⟨1,.data⟩],none⟩
def o3_rshare:Oper:=⟨some 35,.load 60 (.tmp 10),60, "ref.go:18",#[],none⟩
def o4_rshare:Oper:=⟨some 36,.call ⟨.value (.func 92),#[.tmp 34,.tmp 35],#[60,60]⟩,37, "ref.go:18",#[⟨2,.data⟩,⟨3,.data⟩,⟨2,.chain⟩],none⟩
def o5_rshare:Oper:=⟨some 37,.load 37 (.tmp 11),37, "ref.go:18",#[],none⟩
def o6_rshare:Oper:=⟨some 38,.call ⟨.value (.func 94),#[.tmp 36,.tmp 37],#[37,37]⟩,37, "ref.go:18",#[⟨4,.data⟩,⟨5,.data⟩,⟨4,.chain⟩],none⟩
def o7_rshare:Oper:=⟨some 12,.alloc 37,0, "ref.go:18",#[],none⟩
def o8_rshare:Oper:=⟨none,.store 37 (.tmp 12) (.tmp 38),0, "ref.go:18",#[⟨7,.data⟩,⟨6,.data⟩,⟨6,.chain⟩,⟨0,.phase⟩,⟨1,.phase⟩,⟨2,.phase⟩,⟨3,.phase⟩,⟨4,.phase⟩,⟨5,.phase⟩,⟨6,.phase⟩,⟨7,.phase⟩],none⟩
theorem rc_gesso_gessoref06_Cross {e:Operand→Value} {x0 x1:Operand} {d:Option Tmp} {y:Nat} {pos:String} {af:Array Edge} {u0 u1:Value} (h0:e x0=u0) (h1:e x1=u1) (hf:e (.func 92)=.func (.func 92) #[] #[]) :
 (execOp e ⟨d,.call ⟨.value (.func 92),#[x0,x1],#[60,60]⟩,y,pos,af,none⟩).run Tryz.prog w=.ok (.enter 92 #[u0,u1]) w:=by
 go_simp
theorem rc_gesso_gessoref03_Div {e:Operand→Value} {x0 x1:Operand} {d:Option Tmp} {y:Nat} {pos:String} {af:Array Edge} {u0 u1:Value} (h0:e x0=u0) (h1:e x1=u1) (hf:e (.func 94)=.func (.func 94) #[] #[]) :
 (execOp e ⟨d,.call ⟨.value (.func 94),#[x0,x1],#[37,37]⟩,y,pos,af,none⟩).run Tryz.prog w=.ok (.enter 94 #[u0,u1]) w:=by
 go_simp
def F_rshare (s_p:Bool) (t_p:Bool) (A_p:Option Addr) (B_p:Option Addr) (E_p:Option Addr) (F_p:Option Addr) (n_p:Nat) (c_p:Nat) (m_p:Nat) (d_p:Nat) (i_p:Nat) (e_p:Nat) (j_p:Nat) (f_p:Nat) (s_r:Bool) (t_r:Bool) (A_r:Option Addr) (B_r:Option Addr) (E_r:Option Addr) (F_r:Option Addr) (n_r:Nat) (c_r:Nat) (m_r:Nat) (d_r:Nat) (i_r:Nat) (e_r:Nat) (j_r:Nat) (f_r:Nat) (s_v:Bool) (t_v:Bool) (A_v:Option Addr) (B_v:Option Addr) (E_v:Option Addr) (F_v:Option Addr) (n_v:Nat) (c_v:Nat) (m_v:Nat) (d_v:Nat) (i_v:Nat) (e_v:Nat) (j_v:Nat) (f_v:Nat) (s_k:Bool) (A_k:Option Addr) (B_k:Option Addr) (n_k:Nat) (c_k:Nat) (m_k:Nat) (d_k:Nat) (ax:Rat) (ay:Rat) (cx:Rat) (cy:Rat) (ox:Rat) (oy:Rat) (kv:Rat) (k:Nat) (kt:Nat) (ko:Nat) (sl:Nat):Value→World→Prop :=
 match sl with
 | 32=>fun x _=>x=Value.agg #[.bool s_r,.slice A_r n_r c_r,.slice B_r m_r d_r,.bool t_r,.slice E_r i_r e_r,.slice F_r j_r f_r]
 | 33=>fun x _=>x=Value.agg #[.bool s_p,.slice A_p n_p c_p,.slice B_p m_p d_p,.bool t_p,.slice E_p i_p e_p,.slice F_p j_p f_p]
 | 34=>VRP (cx - ax) (cy - ay) (k+k+1)
 | 35=>fun x _=>x=Value.agg #[.bool s_v,.slice A_v n_v c_v,.slice B_v m_v d_v,.bool t_v,.slice E_v i_v e_v,.slice F_v j_v f_v]
 | 36=>VRQ (((cx - ax)*oy - (cy - ay)*ox)) ((k+k+1+ko+(k+k+1+ko)+1))
 | 37=>fun x _=>x=Value.agg #[.bool s_k,.slice A_k n_k c_k,.slice B_k m_k d_k]
 | 38=>VRQ (((cx - ax)*oy - (cy - ay)*ox) / kv) ((k+k+1+ko+(k+k+1+ko)+1)+kt)
 | _=>fun _ _=>True
def B0_rshare (ax:Rat) (ay:Rat) (cx:Rat) (cy:Rat) (ox:Rat) (oy:Rat) (kv:Rat) (k:Nat) (kt:Nat) (ko:Nat):BoxOp :=
 ⟨7,8,12,37,#[.bool false,.slice none 0 0,.slice none 0 0],fun cs w=>∃ s A n c B m d,cs=#[.bool s,.slice A n c,.slice B m d]∧RQ w s A n c B m d (((cx - ax)*oy - (cy - ay)*ox) / kv) ((k+k+1+ko+(k+k+1+ko)+1)+kt)⟩
theorem rshare_region {id:Nat} {ac:Act} {Q:Exit→Act→World→Prop} {ax ay cx cy ox oy kv:Rat} {k kt ko ga gc gv gk:Nat}
 (hsz:38 < ac.tmps.size) (e4:ac.eval (.tmp 4)=Value.pointer (some ⟨ga,0,none⟩)) (e6:ac.eval (.tmp 6)=Value.pointer (some ⟨gc,0,none⟩)) (e10:ac.eval (.tmp 10)=Value.pointer (some ⟨gv,0,none⟩)) (e11:ac.eval (.tmp 11)=Value.pointer (some ⟨gk,0,none⟩)) (XA:B6R w ga (.bool s_p) (.slice A_p n_p c_p) (.slice B_p m_p d_p) (.bool t_p) (.slice E_p i_p e_p) (.slice F_p j_p f_p)) (XC:B6R w gc (.bool s_r) (.slice A_r n_r c_r) (.slice B_r m_r d_r) (.bool t_r) (.slice E_r i_r e_r) (.slice F_r j_r f_r)) (XO:B6R w gv (.bool s_v) (.slice A_v n_v c_v) (.slice B_v m_v d_v) (.bool t_v) (.slice E_v i_v e_v) (.slice F_v j_v f_v)) (XK:B3R w gk (.bool s_k) (.slice A_k n_k c_k) (.slice B_k m_k d_k)) (p:RP w s_p A_p n_p c_p B_p m_p d_p t_p E_p i_p e_p F_p j_p f_p ax ay k) (r:RP w s_r A_r n_r c_r B_r m_r d_r t_r E_r i_r e_r F_r j_r f_r cx cy k) (v:RP w s_v A_v n_v c_v B_v m_v d_v t_v E_v i_v e_v F_v j_v f_v ox oy ko) (kk:RQ w s_k A_k n_k c_k B_k m_k d_k kv kt) (hk:k≤12) (hko:ko≤30) (hkt:kt≤200) (hz:kv ≠ 0)
 (hend:∀ (V:Nat→Value) (w':World) (g0:Nat) (s0:Bool) (A0:Option Addr) (n0:Nat) (c0:Nat) (B0:Option Addr) (m0:Nat) (d0:Nat),RQ w' s0 A0 n0 c0 B0 m0 d0 (((cx - ax)*oy - (cy - ay)*ox) / kv) ((k+k+1+ko+(k+k+1+ko)+1)+kt)→B3R w' g0 (.bool s0) (.slice A0 n0 c0) (.slice B0 m0 d0)→w.heap.size≤g0→V 12=.pointer (some ⟨g0,0,none⟩)→Below w.heap.size w w'→Q .normal (putAll ac [32,33,34,35,36,37,38,12] V) w') :
 (Code.region id #[o0_rshare,o1_rshare,o2_rshare,o3_rshare,o4_rshare,o5_rshare,o6_rshare,o7_rshare,o8_rshare] true).wp Tryz.prog Q ac w:=by
 have hnd:L_rshare.Nodup:=by decide
 have G:∀ (sv:Nat→Value) (t:Nat),t ∈ L_rshare→t≤38→(putAll ac L_rshare sv).eval (.tmp t)=sv t:=fun sv t ht h=>eval_putAll_mem (t:=t) L_rshare ac hnd ht (Nat.lt_of_le_of_lt h hsz)
 have E4:∀ sv:Nat→Value,(putAll ac L_rshare sv).eval (.tmp 4)=Value.pointer (some ⟨ga,0,none⟩):=fun sv=>(eval_putAll_not (v:=sv) L_rshare ac (show 4 ∉ _ by decide)).trans e4
 have E6:∀ sv:Nat→Value,(putAll ac L_rshare sv).eval (.tmp 6)=Value.pointer (some ⟨gc,0,none⟩):=fun sv=>(eval_putAll_not (v:=sv) L_rshare ac (show 6 ∉ _ by decide)).trans e6
 have E10:∀ sv:Nat→Value,(putAll ac L_rshare sv).eval (.tmp 10)=Value.pointer (some ⟨gv,0,none⟩):=fun sv=>(eval_putAll_not (v:=sv) L_rshare ac (show 10 ∉ _ by decide)).trans e10
 have E11:∀ sv:Nat→Value,(putAll ac L_rshare sv).eval (.tmp 11)=Value.pointer (some ⟨gk,0,none⟩):=fun sv=>(eval_putAll_not (v:=sv) L_rshare ac (show 11 ∉ _ by decide)).trans e11
 have NE:∀ t:Nat,(t ≠ 12)→∀ p ∈ [B0_rshare ax ay cx cy ox oy kv k kt ko],t ≠ p.tA:=by
  intro t ht p hp
  simp only [List.mem_cons,List.not_mem_nil,or_false] at hp
  rcases hp with rfl
  · exact ht
 refine wp_region_flows L_rshare [B0_rshare ax ay cx cy ox oy kv k kt ko] (F_rshare s_p t_p A_p B_p E_p F_p n_p c_p m_p d_p i_p e_p j_p f_p s_r t_r A_r B_r E_r F_r n_r c_r m_r d_r i_r e_r j_r f_r s_v t_v A_v B_v E_v F_v n_v c_v m_v d_v i_v e_v j_v f_v s_k A_k B_k n_k c_k m_k d_k ax ay cx cy ox oy kv k kt ko) (by kernel_rfl) (by kernel_rfl) rfl hnd ?_ ?_ ?_ ?_ ?_ ?_ ?_ ?_
 · intro p hp
   simp only [List.mem_cons,List.not_mem_nil,or_false] at hp
   rcases hp with rfl
   · refine ⟨⟨o7_rshare,rfl,rfl,rfl,fun e w'=>run_alloc3⟩,⟨o8_rshare,rfl,rfl,rfl,⟨7,.data⟩,by simp [o8_rshare],rfl,rfl⟩,free3 _ _ _ _ _ _ _,?_,?_⟩
     · rintro cs w1 w2 ⟨s_,A_,n_,c_,B_,m_,d_,rfl,h⟩ hb;exact ⟨s_,A_,n_,c_,B_,m_,d_,rfl,h.below hb⟩
     · rintro T cs w1 w2 g c0 ⟨s_,A_,n_,c_,B_,m_,d_,rfl,h⟩ hB ho;exact ⟨s_,A_,n_,c_,B_,m_,d_,rfl,h.box hB ho⟩
 · intro p hp q hq h
   simp only [List.mem_cons,List.not_mem_nil,or_false] at hp hq
   rcases hp with rfl <;> rcases hq with rfl
   · rfl
 · intro p hp q hq h
   simp only [List.mem_cons,List.not_mem_nil,or_false] at hp hq
   rcases hp with rfl <;> rcases hq with rfl
   · rfl
 · intro i o h1 h2
   match i,h1 with
   | 0,h1=>cases h1;cases h2
   | 1,h1=>cases h1;cases h2
   | 2,h1=>cases h1;cases h2
   | 3,h1=>cases h1;cases h2
   | 4,h1=>cases h1;cases h2
   | 5,h1=>cases h1;cases h2
   | 6,h1=>cases h1;cases h2
   | 7,h1=>cases h1;cases h2
   | 8,h1=>exact ⟨B0_rshare ax ay cx cy ox oy kv k kt ko,List.Mem.head _,rfl⟩
   | i+9,h1=>cases h1
 · intro t
   unfold F_rshare
   split <;> first | exact stays_eq _ | exact stays_q _ _ | exact stays_z _ _ | exact stays_r _ _ | exact stays_rq _ _ | exact stays_pg _ _ _ | exact stays_rp _ _ _ | exact stays_true
 · intro i o t sv w' ho hia hd J0 hf
   have p:=p.below J0;have r:=r.below J0;have v:=v.below J0;have kk:=kk.below J0;have XA:=XA.below J0;have XC:=XC.below J0;have XO:=XO.below J0;have XK:=XK.below J0
   match i,ho with
   | 0,ho =>
     obtain rfl:o0_rshare=o:=Option.some.inj ho
     cases hd
     refine wpOp_plain' (o:=o0_rshare) rfl rfl ?_
     unfold Oper.wp o0_rshare
     rw [run_load7 (E6 sv) XC.c0 XC.c1 XC.c2 XC.c3 XC.c4 XC.c5,Oper.upon_value]
     exact ⟨_,rfl,Below.refl _ _,rfl⟩
   | 1,ho =>
     obtain rfl:o1_rshare=o:=Option.some.inj ho
     cases hd
     refine wpOp_plain' (o:=o1_rshare) rfl rfl ?_
     unfold Oper.wp o1_rshare
     rw [run_load7 (E4 sv) XA.c0 XA.c1 XA.c2 XA.c3 XA.c4 XA.c5,Oper.upon_value]
     exact ⟨_,rfl,Below.refl _ _,rfl⟩
   | 2,ho =>
     obtain rfl:o2_rshare=o:=Option.some.inj ho
     cases hd
     have f32:sv 32=Value.agg #[.bool s_r,.slice A_r n_r c_r,.slice B_r m_r d_r,.bool t_r,.slice E_r i_r e_r,.slice F_r j_r f_r]:=hf ⟨0,.data⟩ (by simp [o2_rshare]) rfl _ 32 rfl rfl (NE _ (by decide))
     have f33:sv 33=Value.agg #[.bool s_p,.slice A_p n_p c_p,.slice B_p m_p d_p,.bool t_p,.slice E_p i_p e_p,.slice F_p j_p f_p]:=hf ⟨1,.data⟩ (by simp [o2_rshare]) rfl _ 33 rfl rfl (NE _ (by decide))
     refine wpOp_plain' (o:=o2_rshare) rfl rfl ?_
     unfold Oper.wp o2_rshare
     rw [rc_gesso_gessoref06_Sub ((G sv 32 (by decide) (by decide)).trans f32) ((G sv 33 (by decide) (by decide)).trans f33) rfl,Oper.upon_enter]
     refine (rsub6 r p (by omega) (by omega)).mono ?_
     rintro e w1 ⟨s_,A_,n_,c_,B_,m_,d_,t_,E_,i_,e_,F_,j_,f_,rfl,hq,hh⟩
     exact ⟨_,rfl,hh,s_,A_,n_,c_,B_,m_,d_,t_,E_,i_,e_,F_,j_,f_,rfl,hq⟩
   | 3,ho =>
     obtain rfl:o3_rshare=o:=Option.some.inj ho
     cases hd
     refine wpOp_plain' (o:=o3_rshare) rfl rfl ?_
     unfold Oper.wp o3_rshare
     rw [run_load7 (E10 sv) XO.c0 XO.c1 XO.c2 XO.c3 XO.c4 XO.c5,Oper.upon_value]
     exact ⟨_,rfl,Below.refl _ _,rfl⟩
   | 4,ho =>
     obtain rfl:o4_rshare=o:=Option.some.inj ho
     cases hd
     have h34:VRP (cx - ax) (cy - ay) (k+k+1) (sv 34) w':=hf ⟨2,.data⟩ (by simp [o4_rshare]) rfl _ 34 rfl rfl (NE _ (by decide))
     obtain ⟨s34_,A34_,n34_,c34_,B34_,m34_,d34_,t34_,E34_,i34_,e34_,F34_,j34_,f34_,f34,q34⟩:=h34
     have f35:sv 35=Value.agg #[.bool s_v,.slice A_v n_v c_v,.slice B_v m_v d_v,.bool t_v,.slice E_v i_v e_v,.slice F_v j_v f_v]:=hf ⟨3,.data⟩ (by simp [o4_rshare]) rfl _ 35 rfl rfl (NE _ (by decide))
     refine wpOp_plain' (o:=o4_rshare) rfl rfl ?_
     unfold Oper.wp o4_rshare
     rw [rc_gesso_gessoref06_Cross ((G sv 34 (by decide) (by decide)).trans f34) ((G sv 35 (by decide) (by decide)).trans f35) rfl,Oper.upon_enter]
     refine (rcross6 q34 v (by omega) (by omega)).mono ?_
     rintro e w1 ⟨s_,A_,n_,c_,B_,m_,d_,rfl,hq,hh⟩
     exact ⟨_,rfl,hh,s_,A_,n_,c_,B_,m_,d_,rfl,hq⟩
   | 5,ho =>
     obtain rfl:o5_rshare=o:=Option.some.inj ho
     cases hd
     refine wpOp_plain' (o:=o5_rshare) rfl rfl ?_
     unfold Oper.wp o5_rshare
     rw [run_load3 (E11 sv) XK.c0 XK.c1 XK.c2,Oper.upon_value]
     exact ⟨_,rfl,Below.refl _ _,rfl⟩
   | 6,ho =>
     obtain rfl:o6_rshare=o:=Option.some.inj ho
     cases hd
     have h36:VRQ (((cx - ax)*oy - (cy - ay)*ox)) ((k+k+1+ko+(k+k+1+ko)+1)) (sv 36) w':=hf ⟨4,.data⟩ (by simp [o6_rshare]) rfl _ 36 rfl rfl (NE _ (by decide))
     obtain ⟨s36_,A36_,n36_,c36_,B36_,m36_,d36_,f36,q36⟩:=h36
     have f37:sv 37=Value.agg #[.bool s_k,.slice A_k n_k c_k,.slice B_k m_k d_k]:=hf ⟨5,.data⟩ (by simp [o6_rshare]) rfl _ 37 rfl rfl (NE _ (by decide))
     refine wpOp_plain' (o:=o6_rshare) rfl rfl ?_
     unfold Oper.wp o6_rshare
     rw [rc_gesso_gessoref03_Div ((G sv 36 (by decide) (by decide)).trans f36) ((G sv 37 (by decide) (by decide)).trans f37) rfl,Oper.upon_enter]
     refine (rdiv3 q36 kk (by omega) (by omega) hz).mono ?_
     rintro e w1 ⟨s_,A_,n_,c_,B_,m_,d_,rfl,hq,hh⟩
     exact ⟨_,rfl,hh,s_,A_,n_,c_,B_,m_,d_,rfl,hq⟩
   | 7,ho=>cases ho;cases hd;exact absurd rfl (hia (B0_rshare ax ay cx cy ox oy kv k kt ko) (List.Mem.head _))
   | 8,ho=>cases ho;cases hd
   | i+9,ho=>cases ho
 · intro p hp os sv w' g hos J0 p1 p3 hf
   simp only [List.mem_cons,List.not_mem_nil,or_false] at hp
   rcases hp with rfl
   · obtain rfl:o8_rshare=os:=Option.some.inj hos
     have h1:VRQ (((cx - ax)*oy - (cy - ay)*ox) / kv) ((k+k+1+ko+(k+k+1+ko)+1)+kt) (sv 38) w':=hf ⟨6,.data⟩ (by simp [o8_rshare]) rfl _ 38 rfl rfl (NE _ (by decide))
     rw [← G sv 38 (by decide) (by decide)] at h1
     refine store_rq (V:=((cx - ax)*oy - (cy - ay)*ox) / kv) (k:=(k+k+1+ko+(k+k+1+ko)+1)+kt) (ac:=putAll ac L_rshare sv) (z:=.tmp 38) ?_ ?_ ?_
     · exact (G sv 12 (by decide) (by decide)).trans p1
     · exact h1
     · exact p3
 · intro sv w' J0 hF hB hap
   obtain ⟨g0,cs0,p0,r0,b0,⟨s0,A0,n0,c0,B0,m0,d0,rfl,h0⟩⟩:=hB (B0_rshare ax ay cx cy ox oy kv k kt ko) (List.Mem.head _)
   have p0':sv 12=.pointer (some ⟨g0,0,none⟩):=p0
   exact hend sv w' g0 _ _ _ _ _ _ _ h0 b0.at_ r0 p0'  J0
theorem rmeet_x {k:Nat} {ax ay bx by_ cx cy dx dy:Rat} (p:RP w s_p A_p n_p c_p B_p m_p d_p t_p E_p i_p e_p F_p j_p f_p ax ay k) (q:RP w s_q A_q n_q c_q B_q m_q d_q t_q E_q i_q e_q F_q j_q f_q bx by_ k) (r:RP w s_r A_r n_r c_r B_r m_r d_r t_r E_r i_r e_r F_r j_r f_r cx cy k) (u:RP w s_u A_u n_u c_u B_u m_u d_u t_u E_u i_u e_u F_u j_u f_u dx dy k) (hk:k≤12) (hz:((bx - ax)*(dy - cy) - (by_ - ay)*(dx - cx)) ≠ 0) :
 Calls Tryz.prog 35 #[.agg #[.bool s_p,.slice A_p n_p c_p,.slice B_p m_p d_p,.bool t_p,.slice E_p i_p e_p,.slice F_p j_p f_p],.agg #[.bool s_q,.slice A_q n_q c_q,.slice B_q m_q d_q,.bool t_q,.slice E_q i_q e_q,.slice F_q j_q f_q],.agg #[.bool s_r,.slice A_r n_r c_r,.slice B_r m_r d_r,.bool t_r,.slice E_r i_r e_r,.slice F_r j_r f_r],.agg #[.bool s_u,.slice A_u n_u c_u,.slice B_u m_u d_u,.bool t_u,.slice E_u i_u e_u,.slice F_u j_u f_u]] w (GivesToldR w ax ay bx by_ cx cy dx dy):=by
 obtain ⟨T,hT,hT0⟩:∃ T,sgnQ ((bx - ax)*(dy - cy) - (by_ - ay)*(dx - cx))=T∧((T:Int) == 0)=false:=⟨_,rfl,by simpa using fun e=>hz (sgn_nul e)⟩
 have HS:=Lib.hid hT;have HZ:=Lib.hid hz;clear hT hz
 go_enter Tryz.func35,Tryz.ntmps35
 go_upto_region 1 with (fail)
 generalize hW:World.alloc _ _=W
 obtain ⟨hb,XA,XB,XC,XD,hzW⟩:=mkbx40_13 hW;clear hW;replace p:=p.below hb;replace q:=q.below hb;replace r:=r.below hb;replace u:=u.below hb
 refine rsubs_region (by simp) rfl rfl rfl rfl XA XB XC XD p q r u hk ?_
 intro V w_s g_m s_m A_m n_m c_m B_m m_m d_m t_m E_m i_m e_m F_m j_m f_m g_o s_o A_o n_o c_o B_o m_o d_o t_o E_o i_o e_o F_o j_o f_o m XM hg_m hvm o XO hg_o hvo hne1 hh
 simp only [putAll,Act.put,List.setIfInBounds_toArray,List.set_cons_zero,List.set_cons_succ,hvm,hvo]
 clear hvm hvo hne1;replace p:=p.below hh;replace q:=q.below hh;replace r:=r.below hh;replace u:=u.below hh;replace XA:=XA.below hh;replace XB:=XB.below hh;replace XC:=XC.below hh;replace XD:=XD.below hh;replace hb:=bend hb hh;obtain ⟨xm0,xm1,xm2,xm3,xm4,xm5⟩:=XM.all;obtain ⟨xo0,xo1,xo2,xo3,xo4,xo5⟩:=XO.all
 go_upto_region 3 with (first
  | (go_at_call 92;(with_reducible refine (rcross6 m o (by omega) (by omega)).mono ?_);rintro e w_k ⟨s_k,A_k,n_k,c_k,B_k,m_k,d_k,rfl,kk,hh⟩
     (try replace p:=p.below hh);(try replace q:=q.below hh);(try replace r:=r.below hh);(try replace u:=u.below hh);(try replace XA:=XA.below hh);(try replace XB:=XB.below hh);(try replace XC:=XC.below hh);(try replace XD:=XD.below hh);(try replace m:=m.below hh);(try replace o:=o.below hh);(try replace XM:=XM.below hh);(try replace XO:=XO.below hh);replace hb:=bend hb hh))
 generalize hW:World.alloc _ _=W2
 obtain ⟨hh,XK,hzW2⟩:=mkbx27_11 hW;clear hW;(try replace p:=p.below hh);(try replace q:=q.below hh);(try replace r:=r.below hh);(try replace u:=u.below hh);(try replace XA:=XA.below hh);(try replace XB:=XB.below hh);(try replace XC:=XC.below hh);(try replace XD:=XD.below hh);(try replace m:=m.below hh);(try replace o:=o.below hh);(try replace XM:=XM.below hh);(try replace XO:=XO.below hh);(try replace kk:=kk.below hh);replace hb:=bend hb hh;obtain ⟨xk0,xk1,xk2⟩:=XK.all
 go_upto_region 4 with (first
  | (go_at_call 93;(with_reducible refine (rsign3 kk).mono ?_);rintro e w_z ⟨rfl,hh⟩
     rw [HS.out];(try replace p:=p.below hh);(try replace q:=q.below hh);(try replace r:=r.below hh);(try replace u:=u.below hh);(try replace XA:=XA.below hh);(try replace XB:=XB.below hh);(try replace XC:=XC.below hh);(try replace XD:=XD.below hh);(try replace m:=m.below hh);(try replace o:=o.below hh);(try replace XM:=XM.below hh);(try replace XO:=XO.below hh);(try replace kk:=kk.below hh);(try replace XK:=XK.below hh);replace hb:=bend hb hh))
 refine rshare_region (by simp) rfl rfl rfl rfl XA XC XO XK p r o kk hk (by omega) (by omega) HZ.out ?_
 intro V w_t g_t s_t A_t n_t c_t B_t m_t d_t t XT hg_t hvt hh
 simp only [putAll,Act.put,List.setIfInBounds_toArray,List.set_cons_zero,List.set_cons_succ,hvt]
 clear hvt m o XM XO kk XK;replace p:=p.below hh;replace q:=q.below hh;replace r:=r.below hh;replace u:=u.below hh;replace XA:=XA.below hh;replace XB:=XB.below hh;replace XC:=XC.below hh;replace XD:=XD.below hh;replace hb:=bend hb hh;obtain ⟨xa0,xa1,xa2,xa3,xa4,xa5⟩:=XA.all;obtain ⟨xb0,xb1,xb2,xb3,xb4,xb5⟩:=XB.all;obtain ⟨xt0,xt1,xt2⟩:=XT.all
 go_upto_region 6 with (first
  | (go_at_call 95;(with_reducible refine (rmix6 p q t (by omega) (by omega) (by omega)).mono ?_);rintro e w_x ⟨s_x,A_x,n_x,c_x,B_x,m_x,d_x,t_x,E_x,i_x,e_x,F_x,j_x,f_x,rfl,x,hh⟩
     (try replace p:=p.below hh);(try replace q:=q.below hh);(try replace r:=r.below hh);(try replace u:=u.below hh);(try replace XA:=XA.below hh);(try replace XB:=XB.below hh);(try replace XC:=XC.below hh);(try replace XD:=XD.below hh);replace hb:=bend hb hh))
 generalize hW:World.alloc _ _=W3
 obtain ⟨hh,XX,hzW3⟩:=mkbx32_12 hW;clear hW;(try replace p:=p.below hh);(try replace q:=q.below hh);(try replace r:=r.below hh);(try replace u:=u.below hh);(try replace XA:=XA.below hh);(try replace XB:=XB.below hh);(try replace XC:=XC.below hh);(try replace XD:=XD.below hh);(try replace x:=x.below hh);replace hb:=bend hb hh
 replace x:=x.more (k1:=300) (by omega)
 clear hg_t t XT;obtain ⟨xa0,xa1,xa2,xa3,xa4,xa5⟩:=XA.all;obtain ⟨xb0,xb1,xb2,xb3,xb4,xb5⟩:=XB.all;obtain ⟨xc0,xc1,xc2,xc3,xc4,xc5⟩:=XC.all;obtain ⟨xd0,xd1,xd2,xd3,xd4,xd5⟩:=XD.all;obtain ⟨xx0,xx1,xx2,xx3,xx4,xx5⟩:=XX.all
 have ef:Hid (((cx - ax)*(dy - cy) - (cy - ay)*(dx - cx)) / ((bx - ax)*(dy - cy) - (by_ - ay)*(dx - cx))*((bx - ax)*(dy - cy) - (by_ - ay)*(dx - cx))=((cx - ax)*(dy - cy) - (cy - ay)*(dx - cx))):=div_mul_self HZ.out
 have eg:Hid (((cx - ax)*(by_ - ay) - (cy - ay)*(bx - ax)) / ((bx - ax)*(dy - cy) - (by_ - ay)*(dx - cx))*((bx - ax)*(dy - cy) - (by_ - ay)*(dx - cx))=((cx - ax)*(by_ - ay) - (cy - ay)*(bx - ax))):=div_mul_self HZ.out
 by_cases h1:onS (ax+(bx - ax)*(((cx - ax)*(dy - cy) - (cy - ay)*(dx - cx)) / ((bx - ax)*(dy - cy) - (by_ - ay)*(dx - cx)))) (ay+(by_ - ay)*(((cx - ax)*(dy - cy) - (cy - ay)*(dx - cx)) / ((bx - ax)*(dy - cy) - (by_ - ay)*(dx - cx)))) ax ay bx by_
 · by_cases h2:onS (ax+(bx - ax)*(((cx - ax)*(dy - cy) - (cy - ay)*(dx - cx)) / ((bx - ax)*(dy - cy) - (by_ - ay)*(dx - cx)))) (ay+(by_ - ay)*(((cx - ax)*(dy - cy) - (cy - ay)*(dx - cx)) / ((bx - ax)*(dy - cy) - (by_ - ay)*(dx - cx)))) cx cy dx dy
   · have H1:=Lib.hid h1
     have H2:=Lib.hid h2
     have ec:=(cross_iff HZ.out ef.out eg.out).1 ⟨h1,h2⟩
     have HT:=Lib.hid (told_cross HZ.out ef.out eg.out ⟨ec.1,ec.2.1⟩)
     clear ec;clear h1 h2
     go_wp2_with (first
      | (go_at_call 37;(with_reducible refine (ron_yes x p q (Nat.le_refl _) hk H1.out).mono ?_);rintro e w_z ⟨rfl,hh⟩
         (try replace p:=p.below hh);(try replace q:=q.below hh);(try replace r:=r.below hh);(try replace u:=u.below hh);(try replace XA:=XA.below hh);(try replace XB:=XB.below hh);(try replace XC:=XC.below hh);(try replace XD:=XD.below hh);(try replace x:=x.below hh);(try replace XX:=XX.below hh);replace hb:=bend hb hh;obtain ⟨xa0,xa1,xa2,xa3,xa4,xa5⟩:=XA.all;obtain ⟨xb0,xb1,xb2,xb3,xb4,xb5⟩:=XB.all;obtain ⟨xc0,xc1,xc2,xc3,xc4,xc5⟩:=XC.all;obtain ⟨xd0,xd1,xd2,xd3,xd4,xd5⟩:=XD.all;obtain ⟨xx0,xx1,xx2,xx3,xx4,xx5⟩:=XX.all)
      | (go_at_call 37;(with_reducible refine (ron_yes x r u (Nat.le_refl _) hk H2.out).mono ?_);rintro e w_z ⟨rfl,hh⟩
         (try replace p:=p.below hh);(try replace q:=q.below hh);(try replace r:=r.below hh);(try replace u:=u.below hh);(try replace XA:=XA.below hh);(try replace XB:=XB.below hh);(try replace XC:=XC.below hh);(try replace XD:=XD.below hh);(try replace x:=x.below hh);(try replace XX:=XX.below hh);replace hb:=bend hb hh;obtain ⟨xa0,xa1,xa2,xa3,xa4,xa5⟩:=XA.all;obtain ⟨xb0,xb1,xb2,xb3,xb4,xb5⟩:=XB.all;obtain ⟨xc0,xc1,xc2,xc3,xc4,xc5⟩:=XC.all;obtain ⟨xd0,xd1,xd2,xd3,xd4,xd5⟩:=XD.all;obtain ⟨xx0,xx1,xx2,xx3,xx4,xx5⟩:=XX.all))
     go_ret
     have hal:Below w_z.heap.size w_z (w_z.alloc (Obj.cells #[Value.bool s_x,Value.slice A_x n_x c_x,Value.slice B_x m_x d_x,Value.bool t_x,Value.slice E_x i_x e_x,Value.slice F_x j_x f_x] 60)):=(Below.refl _ _).alloc (Nat.le_refl _) _
     refine ⟨_,HT.out,_,[(PV.mk s_x A_x n_x c_x B_x m_x d_x t_x E_x i_x e_x F_x j_x f_x)],rfl,Ln.lit w_z [(PV.mk s_x A_x n_x c_x B_x m_x d_x t_x E_x i_x e_x F_x j_x f_x)] hb.size (show 1≤1000000 by decide),⟨rfl,fun i P v hP hv=>?_⟩,bend hb hal⟩
     match i,hP,hv with
     | 0,hP,hv=>cases hP;cases hv;exact RP.below x hal
     | i+1,hP,hv=>cases hP
   · have H1:=Lib.hid h1
     have H2:=Lib.hid h2
     have HT:Hid (Told ax ay bx by_ cx cy dx dy []):=told_none HZ.out ef.out eg.out (fun e=>h2 ((cross_iff HZ.out ef.out eg.out).2 ⟨e.1,e.2,rfl,rfl⟩).2)
     clear h1 h2
     go_wp2_with (first
      | (go_at_call 37;(with_reducible refine (ron_yes x p q (Nat.le_refl _) hk H1.out).mono ?_);rintro e w_z ⟨rfl,hh⟩
         (try replace p:=p.below hh);(try replace q:=q.below hh);(try replace r:=r.below hh);(try replace u:=u.below hh);(try replace XA:=XA.below hh);(try replace XB:=XB.below hh);(try replace XC:=XC.below hh);(try replace XD:=XD.below hh);(try replace x:=x.below hh);(try replace XX:=XX.below hh);replace hb:=bend hb hh;obtain ⟨xa0,xa1,xa2,xa3,xa4,xa5⟩:=XA.all;obtain ⟨xb0,xb1,xb2,xb3,xb4,xb5⟩:=XB.all;obtain ⟨xc0,xc1,xc2,xc3,xc4,xc5⟩:=XC.all;obtain ⟨xd0,xd1,xd2,xd3,xd4,xd5⟩:=XD.all;obtain ⟨xx0,xx1,xx2,xx3,xx4,xx5⟩:=XX.all)
      | (go_at_call 37;(with_reducible refine (ron_no x r u (Nat.le_refl _) hk H2.out).mono ?_);rintro e w_z ⟨rfl,hh⟩
         (try replace p:=p.below hh);(try replace q:=q.below hh);(try replace r:=r.below hh);(try replace u:=u.below hh);(try replace XA:=XA.below hh);(try replace XB:=XB.below hh);(try replace XC:=XC.below hh);(try replace XD:=XD.below hh);(try replace x:=x.below hh);(try replace XX:=XX.below hh);replace hb:=bend hb hh;obtain ⟨xa0,xa1,xa2,xa3,xa4,xa5⟩:=XA.all;obtain ⟨xb0,xb1,xb2,xb3,xb4,xb5⟩:=XB.all;obtain ⟨xc0,xc1,xc2,xc3,xc4,xc5⟩:=XC.all;obtain ⟨xd0,xd1,xd2,xd3,xd4,xd5⟩:=XD.all;obtain ⟨xx0,xx1,xx2,xx3,xx4,xx5⟩:=XX.all))
     go_ret
     exact ⟨[],HT.out,.slice none 0 0,[],rfl,Ln.nil _ _ _,Each.nil,hb⟩
 · have H1:=Lib.hid h1
   have HT:Hid (Told ax ay bx by_ cx cy dx dy []):=told_none HZ.out ef.out eg.out (fun e=>h1 ((cross_iff HZ.out ef.out eg.out).2 ⟨e.1,e.2,rfl,rfl⟩).1)
   clear h1
   go_wp2_with (first
    | (go_at_call 37;(with_reducible refine (ron_no x p q (Nat.le_refl _) hk H1.out).mono ?_);rintro e w_z ⟨rfl,hh⟩
       (try replace p:=p.below hh);(try replace q:=q.below hh);(try replace r:=r.below hh);(try replace u:=u.below hh);(try replace XA:=XA.below hh);(try replace XB:=XB.below hh);(try replace XC:=XC.below hh);(try replace XD:=XD.below hh);(try replace x:=x.below hh);(try replace XX:=XX.below hh);replace hb:=bend hb hh;obtain ⟨xa0,xa1,xa2,xa3,xa4,xa5⟩:=XA.all;obtain ⟨xb0,xb1,xb2,xb3,xb4,xb5⟩:=XB.all;obtain ⟨xc0,xc1,xc2,xc3,xc4,xc5⟩:=XC.all;obtain ⟨xd0,xd1,xd2,xd3,xd4,xd5⟩:=XD.all;obtain ⟨xx0,xx1,xx2,xx3,xx4,xx5⟩:=XX.all))
   go_ret
   exact ⟨[],HT.out,.slice none 0 0,[],rfl,Ln.nil _ _ _,Each.nil,hb⟩
theorem rmeet_par {k:Nat} {ax ay bx by_ cx cy dx dy:Rat} (p:RP w s_p A_p n_p c_p B_p m_p d_p t_p E_p i_p e_p F_p j_p f_p ax ay k) (q:RP w s_q A_q n_q c_q B_q m_q d_q t_q E_q i_q e_q F_q j_q f_q bx by_ k) (r:RP w s_r A_r n_r c_r B_r m_r d_r t_r E_r i_r e_r F_r j_r f_r cx cy k) (u:RP w s_u A_u n_u c_u B_u m_u d_u t_u E_u i_u e_u F_u j_u f_u dx dy k) (hk:k≤12) (hz:((bx - ax)*(dy - cy) - (by_ - ay)*(dx - cx))=0) :
 Calls Tryz.prog 35 #[.agg #[.bool s_p,.slice A_p n_p c_p,.slice B_p m_p d_p,.bool t_p,.slice E_p i_p e_p,.slice F_p j_p f_p],.agg #[.bool s_q,.slice A_q n_q c_q,.slice B_q m_q d_q,.bool t_q,.slice E_q i_q e_q,.slice F_q j_q f_q],.agg #[.bool s_r,.slice A_r n_r c_r,.slice B_r m_r d_r,.bool t_r,.slice E_r i_r e_r,.slice F_r j_r f_r],.agg #[.bool s_u,.slice A_u n_u c_u,.slice B_u m_u d_u,.bool t_u,.slice E_u i_u e_u,.slice F_u j_u f_u]] w (GivesToldR w ax ay bx by_ cx cy dx dy):=by
 obtain ⟨T,hT,hT0⟩:∃ T,sgnQ ((bx - ax)*(dy - cy) - (by_ - ay)*(dx - cx))=T∧((T:Int) == 0)=true:=⟨_,rfl,by rw [hz];rfl⟩
 have HS:=Lib.hid hT;have HZ:=Lib.hid hz;clear hT hz
 go_enter Tryz.func35,Tryz.ntmps35
 go_upto_region 1 with (fail)
 generalize hW:World.alloc _ _=W
 obtain ⟨hb,XA,XB,XC,XD,hzW⟩:=mkbx40_13 hW;clear hW;replace p:=p.below hb;replace q:=q.below hb;replace r:=r.below hb;replace u:=u.below hb
 refine rsubs_region (by simp) rfl rfl rfl rfl XA XB XC XD p q r u hk ?_
 intro V w_s g_m s_m A_m n_m c_m B_m m_m d_m t_m E_m i_m e_m F_m j_m f_m g_o s_o A_o n_o c_o B_o m_o d_o t_o E_o i_o e_o F_o j_o f_o m XM hg_m hvm o XO hg_o hvo hne1 hh
 simp only [putAll,Act.put,List.setIfInBounds_toArray,List.set_cons_zero,List.set_cons_succ,hvm,hvo]
 clear hvm hvo hne1;replace p:=p.below hh;replace q:=q.below hh;replace r:=r.below hh;replace u:=u.below hh;replace XA:=XA.below hh;replace XB:=XB.below hh;replace XC:=XC.below hh;replace XD:=XD.below hh;replace hb:=bend hb hh;obtain ⟨xm0,xm1,xm2,xm3,xm4,xm5⟩:=XM.all;obtain ⟨xo0,xo1,xo2,xo3,xo4,xo5⟩:=XO.all
 go_upto_region 3 with (first
  | (go_at_call 92;(with_reducible refine (rcross6 m o (by omega) (by omega)).mono ?_);rintro e w_k ⟨s_k,A_k,n_k,c_k,B_k,m_k,d_k,rfl,kk,hh⟩
     (try replace p:=p.below hh);(try replace q:=q.below hh);(try replace r:=r.below hh);(try replace u:=u.below hh);(try replace XA:=XA.below hh);(try replace XB:=XB.below hh);(try replace XC:=XC.below hh);(try replace XD:=XD.below hh);(try replace m:=m.below hh);(try replace o:=o.below hh);(try replace XM:=XM.below hh);(try replace XO:=XO.below hh);replace hb:=bend hb hh))
 generalize hW:World.alloc _ _=W2
 obtain ⟨hh,XK,hzW2⟩:=mkbx27_11 hW;clear hW;(try replace p:=p.below hh);(try replace q:=q.below hh);(try replace r:=r.below hh);(try replace u:=u.below hh);(try replace XA:=XA.below hh);(try replace XB:=XB.below hh);(try replace XC:=XC.below hh);(try replace XD:=XD.below hh);(try replace m:=m.below hh);(try replace o:=o.below hh);(try replace XM:=XM.below hh);(try replace XO:=XO.below hh);(try replace kk:=kk.below hh);replace hb:=bend hb hh;obtain ⟨xk0,xk1,xk2⟩:=XK.all
 go_upto_region 10 with (first
  | (go_at_call 93;(with_reducible refine (rsign3 kk).mono ?_);rintro e w_z ⟨rfl,hh⟩
     rw [HS.out];(try replace p:=p.below hh);(try replace q:=q.below hh);(try replace r:=r.below hh);(try replace u:=u.below hh);(try replace XA:=XA.below hh);(try replace XB:=XB.below hh);(try replace XC:=XC.below hh);(try replace XD:=XD.below hh);(try replace m:=m.below hh);(try replace o:=o.below hh);(try replace XM:=XM.below hh);(try replace XO:=XO.below hh);(try replace kk:=kk.below hh);(try replace XK:=XK.below hh);replace hb:=bend hb hh))
 clear m o XM XO kk XK;obtain ⟨xa0,xa1,xa2,xa3,xa4,xa5⟩:=XA.all;obtain ⟨xb0,xb1,xb2,xb3,xb4,xb5⟩:=XB.all;obtain ⟨xc0,xc1,xc2,xc3,xc4,xc5⟩:=XC.all;obtain ⟨xd0,xd1,xd2,xd3,xd4,xd5⟩:=XD.all
 go_wp2_with fail
 have LL:Ln 60 w_z.heap.size (w_z.alloc (Obj.cells #[Value.bool s_p,Value.slice A_p n_p c_p,Value.slice B_p m_p d_p,Value.bool t_p,Value.slice E_p i_p e_p,Value.slice F_p j_p f_p,Value.bool s_q,Value.slice A_q n_q c_q,Value.slice B_q m_q d_q,Value.bool t_q,Value.slice E_q i_q e_q,Value.slice F_q j_q f_q,Value.bool s_r,Value.slice A_r n_r c_r,Value.slice B_r m_r d_r,Value.bool t_r,Value.slice E_r i_r e_r,Value.slice F_r j_r f_r,Value.bool s_u,Value.slice A_u n_u c_u,Value.slice B_u m_u d_u,Value.bool t_u,Value.slice E_u i_u e_u,Value.slice F_u j_u f_u] 60)) (.slice (some ⟨w_z.heap.size,0,none⟩) 4 4) [(PV.mk s_p A_p n_p c_p B_p m_p d_p t_p E_p i_p e_p F_p j_p f_p),(PV.mk s_q A_q n_q c_q B_q m_q d_q t_q E_q i_q e_q F_q j_q f_q),(PV.mk s_r A_r n_r c_r B_r m_r d_r t_r E_r i_r e_r F_r j_r f_r),(PV.mk s_u A_u n_u c_u B_u m_u d_u t_u E_u i_u e_u F_u j_u f_u)]:=Ln.lit w_z [(PV.mk s_p A_p n_p c_p B_p m_p d_p t_p E_p i_p e_p F_p j_p f_p),(PV.mk s_q A_q n_q c_q B_q m_q d_q t_q E_q i_q e_q F_q j_q f_q),(PV.mk s_r A_r n_r c_r B_r m_r d_r t_r E_r i_r e_r F_r j_r f_r),(PV.mk s_u A_u n_u c_u B_u m_u d_u t_u E_u i_u e_u F_u j_u f_u)] (Nat.le_refl _) (show 4≤1000000 by decide)
 have hh:Below w_z.heap.size w_z (w_z.alloc (Obj.cells #[Value.bool s_p,Value.slice A_p n_p c_p,Value.slice B_p m_p d_p,Value.bool t_p,Value.slice E_p i_p e_p,Value.slice F_p j_p f_p,Value.bool s_q,Value.slice A_q n_q c_q,Value.slice B_q m_q d_q,Value.bool t_q,Value.slice E_q i_q e_q,Value.slice F_q j_q f_q,Value.bool s_r,Value.slice A_r n_r c_r,Value.slice B_r m_r d_r,Value.bool t_r,Value.slice E_r i_r e_r,Value.slice F_r j_r f_r,Value.bool s_u,Value.slice A_u n_u c_u,Value.slice B_u m_u d_u,Value.bool t_u,Value.slice E_u i_u e_u,Value.slice F_u j_u f_u] 60)):=(Below.refl _ _).alloc (Nat.le_refl _) _
 replace p:=p.below hh;replace q:=q.below hh;replace r:=r.below hh;replace u:=u.below hh;replace XA:=XA.below hh;replace XB:=XB.below hh;replace XC:=XC.below hh;replace XD:=XD.below hh;replace hb:=bend hb hh;clear hh
 generalize (w_z.alloc (Obj.cells #[Value.bool s_p,Value.slice A_p n_p c_p,Value.slice B_p m_p d_p,Value.bool t_p,Value.slice E_p i_p e_p,Value.slice F_p j_p f_p,Value.bool s_q,Value.slice A_q n_q c_q,Value.slice B_q m_q d_q,Value.bool t_q,Value.slice E_q i_q e_q,Value.slice F_q j_q f_q,Value.bool s_r,Value.slice A_r n_r c_r,Value.slice B_r m_r d_r,Value.bool t_r,Value.slice E_r i_r e_r,Value.slice F_r j_r f_r,Value.bool s_u,Value.slice A_u n_u c_u,Value.slice B_u m_u d_u,Value.bool t_u,Value.slice E_u i_u e_u,Value.slice F_u j_u f_u] 60))=W5 at LL p q r u XA XB XC XD hb ⊢
 generalize w_z.heap.size=gL at LL ⊢
 generalize hLL:[(PV.mk s_p A_p n_p c_p B_p m_p d_p t_p E_p i_p e_p F_p j_p f_p),(PV.mk s_q A_q n_q c_q B_q m_q d_q t_q E_q i_q e_q F_q j_q f_q),(PV.mk s_r A_r n_r c_r B_r m_r d_r t_r E_r i_r e_r F_r j_r f_r),(PV.mk s_u A_u n_u c_u B_u m_u d_u t_u E_u i_u e_u F_u j_u f_u)]=LP at LL
 generalize hVV:[(ax,ay),(bx,by_),(cx,cy),(dx,dy)]=VV
 have HLP:Hid (LP.length=4):=by rw [← hLL];rfl
 have HO:Hid (∀ (m:Nat) (vx vy:Rat),VV[m]?=some (vx,vy)→(m < 2→onS vx vy ax ay bx by_)∧(2≤m→onS vx vy cx cy dx dy)):=by
  subst hVV
  intro m vx vy h
  match m,h with
  | 0,h=>cases h;exact ⟨fun _=>on_first,fun e=>absurd e (by decide)⟩
  | 1,h=>cases h;exact ⟨fun _=>on_last,fun e=>absurd e (by decide)⟩
  | 2,h=>cases h;exact ⟨fun e=>absurd e (by decide),fun _=>on_first⟩
  | 3,h=>cases h;exact ⟨fun e=>absurd e (by decide),fun _=>on_last⟩
  | m+4,h=>cases h
 have HE:Hid (∀ wr,Below W5.heap.size W5 wr→Each PV.RP wr LP VV k):=by
  intro wr hB
  subst hLL hVV
  refine ⟨rfl,fun i P v hP hv=>?_⟩
  match i,hP,hv with
  | 0,hP,hv=>cases hP;cases hv;exact RP.below p hB
  | 1,hP,hv=>cases hP;cases hv;exact RP.below q hB
  | 2,hP,hv=>cases hP;cases hv;exact RP.below r hB
  | 3,hP,hv=>cases hP;cases hv;exact RP.below u hB
  | i+4,hP,hv=>cases hP
 have HTD:Hid (Told ax ay bx by_ cx cy dx dy (picksR (bothP ax ay bx by_ cx cy dx dy) (fun v:Rat × Rat=>(v.1 - ax)*(v.1 - ax)+(v.2 - ay)*(v.2 - ay)) VV 4)):=by
  subst hVV
  exact told_endsR HZ.out (fun v:Rat × Rat=>(v.1 - ax)*(v.1 - ax)+(v.2 - ay)*(v.2 - ay)) (fun _=>rfl)
 rename (T != 0)=false=>hTn
 clear hLL hVV hT0 HS hTn;have hb5:=hb.size
 go_loopg [14,16] 4 (fun gk told ix wr=>∃ (L:List PV) (l:List (Rat × Rat)) (m:Nat),Hid (gk+m=4)∧ix=.int .i64 (m:Int)∧Hid (l=picksR (bothP ax ay bx by_ cx cy dx dy) (fun v:Rat × Rat=>(v.1 - ax)*(v.1 - ax)+(v.2 - ay)*(v.2 - ay)) VV m)∧l.length≤m∧Ln 60 W5.heap.size wr told L∧Hid (Each PV.RP wr L l k)∧Below W5.heap.size W5 wr)
 case atStart=>exact ⟨[],[],0,rfl,rfl,rfl,Nat.le_refl _,Ln.nil _ _ _,⟨rfl,fun i p u h=>by cases h⟩,Below.refl _ _⟩
 case round =>
  obtain ⟨L,l,m,HG,rfl,HP,hlm,LT,HQ,hB⟩:=hrel
  have hG:=HG.out
  have hb6:Below w.heap.size w wr:=bend hb hB
  by_cases hm:m < 4
  · obtain ⟨P,v,hP,hv,x⟩:=(HE.out wr hB).at_ (i:=m) (by rw [HLP.out];exact hm)
    obtain ⟨_,hgL,hc0,hc1,hc2,hc3,hc4,hc5⟩:=(LL.below hB).of hP
    replace p:=p.below hB;replace q:=q.below hB;replace r:=r.below hB;replace u:=u.below hB;replace XA:=XA.below hB;replace XB:=XB.below hB;replace XC:=XC.below hB;replace XD:=XD.below hB
    have hix:=idx_rpt (g:=gL) (n:=4) (c:=4) hm
    have hlt:(m:Int) < 4:=by omega
    have HV:=Lib.hid hv
    obtain ⟨vx,vy⟩:=v
    obtain ⟨s_x,A_x,n_x,c_x,B_x,m_x,d_x,t_x,E_x,i_x,e_x,F_x,j_x,f_x⟩:=P
    replace x:RP wr s_x A_x n_x c_x B_x m_x d_x t_x E_x i_x e_x F_x j_x f_x vx vy k:=x
    simp only at hc0 hc1 hc2 hc3 hc4 hc5
    have hLm:L.length≤4:=by have:=HQ.out.1;omega
    clear hb hP hv hG hgL
    go_upto_region 15 with (fail)
    generalize hW:World.alloc _ _=W6
    obtain ⟨hh,XE,hzW6⟩:=mkbx32_12 hW;clear hW;replace p:=p.below hh;replace q:=q.below hh;replace r:=r.below hh;replace u:=u.below hh;replace XA:=XA.below hh;replace XB:=XB.below hh;replace XC:=XC.below hh;replace XD:=XD.below hh;replace x:=x.below hh;replace LT:=LT.below hh;replace hb6:=bend hb6 hh
    replace hB6:Below W5.heap.size W5 W6:=bend hB hh
    replace HQ:Hid (Each PV.RP W6 L l k):=Each.belowR HQ.out hh
    clear hh hc0 hc1 hc2 hc3 hc4 hc5 hzW6
    generalize wr.heap.size=gE at XE ⊢
    have W4:(((m:Int) < 2∧¬ (2:Int)≤(m:Int))∧onS vx vy cx cy dx dy) ∨ ((¬ (m:Int) < 2∧(2:Int)≤(m:Int))∧onS vx vy ax ay bx by_) ∨ (((m:Int) < 2∧¬ (2:Int)≤(m:Int))∧¬ onS vx vy cx cy dx dy) ∨ ((¬ (m:Int) < 2∧(2:Int)≤(m:Int))∧¬ onS vx vy ax ay bx by_):=by
     exact ways4 m _ _
    rcases W4 with ⟨⟨hl2,hl2'⟩,g2⟩ | ⟨⟨hl2,hl2'⟩,g2⟩ | ⟨⟨hl2,hl2'⟩,g2⟩ | ⟨⟨hl2,hl2'⟩,g2⟩
    rotate_left 2
    · skip
      obtain ⟨xc0,xc1,xc2,xc3,xc4,xc5⟩:=XC.all;obtain ⟨xd0,xd1,xd2,xd3,xd4,xd5⟩:=XD.all;obtain ⟨xe0,xe1,xe2,xe3,xe4,xe5⟩:=XE.all;have H2:=Lib.hid g2
      have HK:Hid (¬ (bothP ax ay bx by_ cx cy dx dy) (vx,vy)):=fun e=>g2 e.2
      clear g2
      go_wp2_with (first
       | (go_at_call 37;(with_reducible refine (ron_no x r u (by omega) hk H2.out).mono ?_);rintro e w_z ⟨rfl,hh⟩
          (try replace p:=p.below hh);(try replace q:=q.below hh);(try replace r:=r.below hh);(try replace u:=u.below hh);(try replace XA:=XA.below hh);(try replace XB:=XB.below hh);(try replace XC:=XC.below hh);(try replace XD:=XD.below hh);(try replace x:=x.below hh);(try replace XE:=XE.below hh);(try replace LT:=LT.below hh);replace hb6:=bend hb6 hh;replace hB6:=bend hB6 hh
          replace HQ:=Lib.hid (Each.belowR HQ.out hh)
          obtain ⟨xe0,xe1,xe2,xe3,xe4,xe5⟩:=XE.all))
      go_roundg (gk - 1)
      case measure=>have:=HG.out;omega
      case rel =>
       refine ⟨L,l,m+1,by have:=HG.out;show _=_;omega,by go_num,?_,by omega,LT,HQ.out,hB6⟩
       show _=_
       rw [picksR_succ HV.out,← HP.out,pickR_no HK.out]
    · skip
      obtain ⟨xa0,xa1,xa2,xa3,xa4,xa5⟩:=XA.all;obtain ⟨xb0,xb1,xb2,xb3,xb4,xb5⟩:=XB.all;obtain ⟨xe0,xe1,xe2,xe3,xe4,xe5⟩:=XE.all;have H2:=Lib.hid g2
      have HK:Hid (¬ (bothP ax ay bx by_ cx cy dx dy) (vx,vy)):=fun e=>g2 e.1
      clear g2
      go_wp2_with (first
       | (go_at_call 37;(with_reducible refine (ron_no x p q (by omega) hk H2.out).mono ?_);rintro e w_z ⟨rfl,hh⟩
          (try replace p:=p.below hh);(try replace q:=q.below hh);(try replace r:=r.below hh);(try replace u:=u.below hh);(try replace XA:=XA.below hh);(try replace XB:=XB.below hh);(try replace XC:=XC.below hh);(try replace XD:=XD.below hh);(try replace x:=x.below hh);(try replace XE:=XE.below hh);(try replace LT:=LT.below hh);replace hb6:=bend hb6 hh;replace hB6:=bend hB6 hh
          replace HQ:=Lib.hid (Each.belowR HQ.out hh)
          obtain ⟨xe0,xe1,xe2,xe3,xe4,xe5⟩:=XE.all))
      go_roundg (gk - 1)
      case measure=>have:=HG.out;omega
      case rel =>
       refine ⟨L,l,m+1,by have:=HG.out;show _=_;omega,by go_num,?_,by omega,LT,HQ.out,hB6⟩
       show _=_
       rw [picksR_succ HV.out,← HP.out,pickR_no HK.out]
    all_goals
     have HK:Hid ((bothP ax ay bx by_ cx cy dx dy) (vx,vy)):=by first | exact ⟨(HO.out m vx vy HV.out).1 (by omega),g2⟩ | exact ⟨g2,(HO.out m vx vy HV.out).2 (by omega)⟩
     have H2:=Lib.hid g2;clear g2;obtain ⟨xa0,xa1,xa2,xa3,xa4,xa5⟩:=XA.all;obtain ⟨xb0,xb1,xb2,xb3,xb4,xb5⟩:=XB.all;obtain ⟨xc0,xc1,xc2,xc3,xc4,xc5⟩:=XC.all;obtain ⟨xd0,xd1,xd2,xd3,xd4,xd5⟩:=XD.all;obtain ⟨xe0,xe1,xe2,xe3,xe4,xe5⟩:=XE.all
     go_upto_region 16 with (first
      | (go_at_call 37;(with_reducible refine (ron_yes x r u (by omega) hk H2.out).mono ?_);rintro e w_z ⟨rfl,hh⟩
         (try replace p:=p.below hh);(try replace q:=q.below hh);(try replace r:=r.below hh);(try replace u:=u.below hh);(try replace XA:=XA.below hh);(try replace XB:=XB.below hh);(try replace XC:=XC.below hh);(try replace XD:=XD.below hh);(try replace x:=x.below hh);(try replace XE:=XE.below hh);(try replace LT:=LT.below hh);replace hb6:=bend hb6 hh;replace hB6:=bend hB6 hh
         replace HQ:=Lib.hid (Each.belowR HQ.out hh)
         obtain ⟨xe0,xe1,xe2,xe3,xe4,xe5⟩:=XE.all)
      | (go_at_call 37;(with_reducible refine (ron_yes x p q (by omega) hk H2.out).mono ?_);rintro e w_z ⟨rfl,hh⟩
         (try replace p:=p.below hh);(try replace q:=q.below hh);(try replace r:=r.below hh);(try replace u:=u.below hh);(try replace XA:=XA.below hh);(try replace XB:=XB.below hh);(try replace XC:=XC.below hh);(try replace XD:=XD.below hh);(try replace x:=x.below hh);(try replace XE:=XE.below hh);(try replace LT:=LT.below hh);replace hb6:=bend hb6 hh;replace hB6:=bend hB6 hh
         replace HQ:=Lib.hid (Each.belowR HQ.out hh)
         obtain ⟨xe0,xe1,xe2,xe3,xe4,xe5⟩:=XE.all))
     obtain ⟨A0,c0,rfl,hLc,hA0⟩:=LT.form
     go_wp2_with fail
     obtain ⟨go,hgo⟩:∃ go,go=gk:=⟨gk,rfl⟩
     have HGO:=Lib.hid hgo;clear hgo
     go_loopg [18,19] L.length (fun gj th jx wj=>∃ (j:Nat) (T:Bool),Hid (gj+j=L.length)∧th=.bool T∧jx=.int .i64 (j:Int)∧Hid (T=true ↔ (vx,vy) ∈ l.take j)∧Below w_z.heap.size w_z wj)
     case atStart=>exact ⟨0,false,Nat.add_zero _,rfl,rfl,⟨fun e=>(by cases e),fun e=>(by simp at e)⟩,Below.refl _ _⟩
     case round =>
      obtain ⟨j,T,HJ,rfl,rfl,HN,hB7⟩:=hrel
      replace p:=p.below hB7;replace XA:=XA.below hB7;replace x:=x.below hB7;replace XE:=XE.below hB7;replace LT:=LT.below hB7
      have hb8:Below w.heap.size w wr:=bend hb6 hB7
      have hB8:Below W5.heap.size W5 wr:=bend hB6 hB7
      replace HQ:=Lib.hid (Each.belowR HQ.out hB7)
      by_cases hj:j < L.length
      · obtain ⟨Q,v2,hQ,hv2,y⟩:=HQ.out.at_ hj
        obtain ⟨g,c1_,hv_,_,_,_,_⟩:=LT.at_ hQ
        have hA:A0=some ⟨g,0,none⟩:=by
         simp only [Value.slice.injEq] at hv_
         exact hv_.1
        subst hA
        have hix2:=idx_rpt (g:=g) (n:=L.length) (c:=c0) hj
        have hltj:(j:Int) < (L.length:Int):=by omega
        have HV2:=Lib.hid hv2;have HQ0:=Lib.hid hQ
        obtain ⟨ux,uy⟩:=v2
        obtain ⟨s_y,A_y,n_y,c_y,B_y,m_y,d_y,t_y,E_y,i_y,e_y,F_y,j_y,f_y⟩:=Q
        replace y:RP wr s_y A_y n_y c_y B_y m_y d_y t_y E_y i_y e_y F_y j_y f_y ux uy k:=y
        clear hv_ hQ hv2 hj;have hB9:=hB7
        cases T with
        | true =>
          have HM:Hid ((vx,vy) ∈ l.take j):=HN.out.1 rfl
          go_upto_region 20 with (fail)
          replace p:=p.below (Below.refl _ _).drew
          replace XA:=XA.below (Below.refl _ _).drew
          replace x:=x.below (Below.refl _ _).drew
          replace XE:=XE.below (Below.refl _ _).drew
          replace LT:=LT.below (Below.refl _ _).drew
          replace hb8:=hb8.drew;replace hB8:=hB8.drew
          replace HQ:=Lib.hid (Each.belowR HQ.out (Below.refl _ _).drew)
          replace hB9:=hB9.drew
          refine wp_region_held_drew (S:=(fun w'=>w'.cell? ⟨gE,0,none⟩=some (.bool s_x)∧w'.cell? ⟨gE,1,none⟩=some (.slice A_x n_x c_x)∧w'.cell? ⟨gE,2,none⟩=some (.slice B_x m_x d_x)∧w'.cell? ⟨gE,3,none⟩=some (.bool t_x)∧w'.cell? ⟨gE,4,none⟩=some (.slice E_x i_x e_x)∧w'.cell? ⟨gE,5,none⟩=some (.slice F_x j_x f_x))) (by kernel_rfl) ⟨XE.c0,XE.c1,XE.c2,XE.c3,XE.c4,XE.c5⟩ (fun hHeld=>?_)
          refine wpAnyH_take (i:=0) (oi:=⟨some 94,.move (.tmp 18),4, "ref.go:35",#[],none⟩) (v:=?_) rfl (by kernel_rfl) (by kernel_rfl) (by kernel_rfl) (fun _ _ _ h=>h) (Or.inl ⟨by rfl,?_⟩) hHeld ?_
          rotate_left
          · (intro w hSw;(try dsimp only at hSw);go_simp;try with_reducible rfl)
          simp only [Act.put,List.setIfInBounds_toArray,List.set_cons_zero,List.set_cons_succ]
          refine wpAnyH_take (i:=1) (oi:=⟨some 95,.move (.tmp 94),4, "ref.go:35",#[⟨0,.data⟩],none⟩) (v:=?_) rfl (by kernel_rfl) (by kernel_rfl) (by kernel_rfl) (fun _ _ _ h=>h) (Or.inl ⟨by rfl,?_⟩) hHeld ?_
          rotate_left
          · (intro w hSw;(try dsimp only at hSw);go_simp;try with_reducible rfl)
          simp only [Act.put,List.setIfInBounds_toArray,List.set_cons_zero,List.set_cons_succ]
          refine wpAnyH_take (i:=2) (oi:=⟨some 96,.move (.tmp 14),67, "ref.go:35",#[⟨1,.guard⟩],some (1,false)⟩) (v:=undef) rfl (by kernel_rfl) (by kernel_rfl) (by kernel_rfl) (fun _ _ _ h=>h) (Or.inr ⟨by rfl,rfl⟩) hHeld ?_
          simp only [Act.put,List.setIfInBounds_toArray,List.set_cons_zero,List.set_cons_succ]
          refine wpAnyH_take (i:=3) (oi:=⟨some 97,.move (.tmp 19),3, "ref.go:35",#[⟨1,.guard⟩],some (1,false)⟩) (v:=undef) rfl (by kernel_rfl) (by kernel_rfl) (by kernel_rfl) (fun _ _ _ h=>h) (Or.inr ⟨by rfl,rfl⟩) hHeld ?_
          simp only [Act.put,List.setIfInBounds_toArray,List.set_cons_zero,List.set_cons_succ]
          refine wpAnyH_take (i:=4) (oi:=⟨some 98,.indexAddr 67 (.tmp 96) (.tmp 97),0, "ref.go:35",#[⟨2,.data⟩,⟨3,.data⟩,⟨1,.guard⟩],some (1,false)⟩) (v:=undef) rfl (by kernel_rfl) (by kernel_rfl) (by kernel_rfl) (fun _ _ _ h=>h) (Or.inr ⟨by rfl,rfl⟩) hHeld ?_
          simp only [Act.put,List.setIfInBounds_toArray,List.set_cons_zero,List.set_cons_succ]
          refine wpAnyH_take (i:=5) (oi:=⟨some 99,.load 60 (.tmp 98),60, "ref.go:35",#[⟨4,.data⟩,⟨1,.guard⟩],some (1,false)⟩) (v:=undef) rfl (by kernel_rfl) (by kernel_rfl) (by kernel_rfl) (fun _ _ _ h=>h) (Or.inr ⟨by rfl,rfl⟩) hHeld ?_
          simp only [Act.put,List.setIfInBounds_toArray,List.set_cons_zero,List.set_cons_succ]
          refine wpAnyH_take (i:=6) (oi:=⟨some 100,.load 60 (.tmp 17),60, "ref.go:35",#[⟨1,.guard⟩],some (1,false)⟩) (v:=undef) rfl (by kernel_rfl) (by kernel_rfl) (by kernel_rfl) (fun _ _ _ h=>h) (Or.inr ⟨by rfl,rfl⟩) hHeld ?_
          simp only [Act.put,List.setIfInBounds_toArray,List.set_cons_zero,List.set_cons_succ]
          refine wpAnyH_take (i:=7) (oi:=⟨some 101,.call ⟨.value (.func 96),#[.tmp 99,.tmp 100],#[60,60]⟩,4, "ref.go:35",#[⟨5,.data⟩,⟨6,.data⟩,⟨1,.chain⟩,⟨1,.guard⟩],some (1,false)⟩) (v:=undef) rfl (by kernel_rfl) (by kernel_rfl) (by kernel_rfl) (fun _ _ _ h=>h) (Or.inr ⟨by rfl,rfl⟩) hHeld ?_
          simp only [Act.put,List.setIfInBounds_toArray,List.set_cons_zero,List.set_cons_succ]
          refine wpAnyH_take (i:=8) (oi:=⟨some 102,.pick (.tmp 95) (.const (Value.bool true)) (.tmp 101),4, "ref.go:35",#[⟨1,.data⟩,⟨7,.data⟩],none⟩) (v:=?_) rfl (by kernel_rfl) (by kernel_rfl) (by kernel_rfl) (fun _ _ _ h=>h) (Or.inl ⟨by rfl,?_⟩) hHeld ?_
          rotate_left
          · (intro w hSw;(try dsimp only at hSw);go_simp;try with_reducible rfl)
          simp only [Act.put,List.setIfInBounds_toArray,List.set_cons_zero,List.set_cons_succ]
          refine wpAnyH_take (i:=9) (oi:=⟨some 18,.assign (.tmp 102),4, "ref.go:35",#[⟨8,.data⟩,⟨7,.chain⟩,⟨0,.phase⟩,⟨1,.phase⟩,⟨2,.phase⟩,⟨3,.phase⟩,⟨4,.phase⟩,⟨5,.phase⟩,⟨6,.phase⟩,⟨7,.phase⟩,⟨8,.phase⟩],none⟩) (v:=?_) rfl (by kernel_rfl) (by kernel_rfl) (by kernel_rfl) (fun _ _ _ h=>h) (Or.inl ⟨by rfl,?_⟩) hHeld ?_
          rotate_left
          · (intro w hSw;(try dsimp only at hSw);go_simp;try with_reducible rfl)
          simp only [Act.put,List.setIfInBounds_toArray,List.set_cons_zero,List.set_cons_succ]
          refine wpAnyH_done (by kernel_rfl) ?_ _
          clear hHeld
          go_wp2_with fail
          go_roundg (gk - 1)
          case measure=>have:=HJ.out;omega
          case rel =>
           refine ⟨j+1,true,by have:=HJ.out;show _=_;omega,rfl,by go_num,?_,hB9⟩
           show _ ↔ _
           rw [mem_take_succ HV2.out]
           exact ⟨fun _=>.inl HM.out,fun _=>rfl⟩
        | false =>
          have HNN:Hid ((vx,vy) ∉ l.take j):=fun e=>(by have:=HN.out.2 e;cases this)
          obtain ⟨R,hR⟩:∃ R,decide (ux=vx∧uy=vy)=R:=⟨_,rfl⟩
          have HR:=Lib.hid hR;clear hR
          go_upto_region 20 with (fail)
          have hDR:=(Below.refl wr.heap.size wr).drew
          replace p:=p.below (Below.refl _ _).drew
          replace XA:=XA.below (Below.refl _ _).drew
          replace x:=x.below (Below.refl _ _).drew
          replace XE:=XE.below (Below.refl _ _).drew
          replace LT:=LT.below (Below.refl _ _).drew
          replace y:=y.below (Below.refl _ _).drew
          replace hb8:=hb8.drew;replace hB8:=hB8.drew
          replace HQ:=Lib.hid (Each.belowR HQ.out (Below.refl _ _).drew)
          replace hB9:=hB9.drew
          go_region_held3 (fun w'=>w'.cell? ⟨gE,0,none⟩=some (.bool s_x)∧w'.cell? ⟨gE,1,none⟩=some (.slice A_x n_x c_x)∧w'.cell? ⟨gE,2,none⟩=some (.slice B_x m_x d_x)∧w'.cell? ⟨gE,3,none⟩=some (.bool t_x)∧w'.cell? ⟨gE,4,none⟩=some (.slice E_x i_x e_x)∧w'.cell? ⟨gE,5,none⟩=some (.slice F_x j_x f_x)∧w'.cell? ⟨g,j*6,none⟩=some (.bool s_y)∧w'.cell? ⟨g,j*6+1,none⟩=some (.slice A_y n_y c_y)∧w'.cell? ⟨g,j*6+2,none⟩=some (.slice B_y m_y d_y)∧w'.cell? ⟨g,j*6+3,none⟩=some (.bool t_y)∧w'.cell? ⟨g,j*6+4,none⟩=some (.slice E_y i_y e_y)∧w'.cell? ⟨g,j*6+5,none⟩=some (.slice F_y j_y f_y))
           (first | with_reducible exact ⟨XE.c0,XE.c1,XE.c2,XE.c3,XE.c4,XE.c5,(LT.of HQ0.out).2.2.1,(LT.of HQ0.out).2.2.2.1,(LT.of HQ0.out).2.2.2.2.1,(LT.of HQ0.out).2.2.2.2.2.1,(LT.of HQ0.out).2.2.2.2.2.2.1,(LT.of HQ0.out).2.2.2.2.2.2.2⟩)
           (first
           | (go_at_call 96;(with_reducible refine (rsame6 y x (by omega) (by omega) R HR.out).mono ?_);rintro e w_z ⟨rfl,hh⟩
              (try replace p:=p.below hh);(try replace XA:=XA.below hh);(try replace x:=x.below hh);(try replace XE:=XE.below hh);(try replace LT:=LT.below hh);replace hb8:=bend hb8 hh;replace hB8:=bend hB8 hh;replace hB9:=bend hB9 hh
              replace HQ:=Lib.hid (Each.belowR HQ.out hh)))
          go_wp2_with fail
          go_roundg (gk - 1)
          case measure=>have:=HJ.out;omega
          case rel =>
           refine ⟨j+1,R,by have:=HJ.out;show _=_;omega,rfl,by go_num,?_,hB9⟩
           show _ ↔ _
           rw [mem_take_succ HV2.out]
           have:=HR.out
           subst this
           rw [decide_eq_true_iff]
           exact ⟨fun e=>.inr (by rw [e.1,e.2]),fun e=>e.elim (fun q=>absurd q HNN.out) (fun q=>⟨(congrArg Prod.fst q).symm,(congrArg Prod.snd q).symm⟩)⟩
      · have hltj:¬ (j:Int) < (L.length:Int):=by omega
        have HN2:Hid (T=true ↔ (vx,vy) ∈ l):=by
         have h:=HN.out
         rwa [List.take_of_length_le (by have:=HQ.out.1;omega)] at h
        clear hj
        cases T with
        | true =>
          have HM:Hid ((vx,vy) ∈ l):=HN2.out.1 rfl
          go_wp2_with fail
          go_roundg (go - 1)
          case measure=>have:=HG.out;have:=HGO.out;omega
          case rel =>
           refine ⟨L,l,m+1,by have:=HG.out;have:=HGO.out;show _=_;omega,by go_num,?_,by omega,LT,HQ.out,hB8⟩
           show _=_
           rw [picksR_succ HV.out,← HP.out,pickR_old HM.out]
        | false =>
          have HM:Hid ((vx,vy) ∉ l):=fun e=>(by have:=HN2.out.2 e;cases this)
          by_cases hl1:L.length=1
          · obtain ⟨Q,v2,hQ,hv2,y⟩:=HQ.out.at_ (i:=0) (by omega)
            obtain ⟨g,c1_,hv_,_,_,_,_⟩:=LT.at_ hQ
            have hA:A0=some ⟨g,0,none⟩:=by
             simp only [Value.slice.injEq] at hv_
             exact hv_.1
            subst hA
            have hL1:L=[Q]:=one_of hl1 hQ
            have hl1':l=[v2]:=one_of (HQ.out.1.symm.trans hl1) hv2
            have HL1:=Lib.hid hL1;have HQ0:=Lib.hid hQ
            have Hl1:=Lib.hid hl1'
            have hix2:=idxr0 (g:=g) (n:=L.length) (c:=c0) (by omega)
            have hl0:((L.length:Int) == 1)=true:=by rw [beq_iff_eq];omega
            obtain ⟨ux,uy⟩:=v2
            obtain ⟨s_y,A_y,n_y,c_y,B_y,m_y,d_y,t_y,E_y,i_y,e_y,F_y,j_y,f_y⟩:=Q
            replace y:RP wr s_y A_y n_y c_y B_y m_y d_y t_y E_y i_y e_y F_y j_y f_y ux uy k:=y
            obtain ⟨D,hD⟩:∃ D,cmpQ ((vx - ax)*(vx - ax)+(vy - ay)*(vy - ay)) ((ux - ax)*(ux - ax)+(uy - ay)*(uy - ay))=D:=⟨_,rfl⟩
            have HD:=Lib.hid hD
            clear hv_ hQ hv2 hL1 hl1' hD hl1
            go_upto_region 22 with (fail)
            replace p:=p.below (Below.refl _ _).drew
            replace XA:=XA.below (Below.refl _ _).drew
            replace x:=x.below (Below.refl _ _).drew
            replace XE:=XE.below (Below.refl _ _).drew
            replace LT:=LT.below (Below.refl _ _).drew
            replace y:=y.below (Below.refl _ _).drew
            replace hb8:=hb8.drew;replace hB8:=hB8.drew
            replace HQ:=Lib.hid (Each.belowR HQ.out (Below.refl _ _).drew)
            have hB9:=(Below.refl wr.heap.size wr).drew
            go_region_held3 (fun w'=>w'.cell? ⟨gE,0,none⟩=some (.bool s_x)∧w'.cell? ⟨gE,1,none⟩=some (.slice A_x n_x c_x)∧w'.cell? ⟨gE,2,none⟩=some (.slice B_x m_x d_x)∧w'.cell? ⟨gE,3,none⟩=some (.bool t_x)∧w'.cell? ⟨gE,4,none⟩=some (.slice E_x i_x e_x)∧w'.cell? ⟨gE,5,none⟩=some (.slice F_x j_x f_x)∧w'.cell? ⟨w.heap.size,0,none⟩=some (.bool s_p)∧w'.cell? ⟨w.heap.size,1,none⟩=some (.slice A_p n_p c_p)∧w'.cell? ⟨w.heap.size,2,none⟩=some (.slice B_p m_p d_p)∧w'.cell? ⟨w.heap.size,3,none⟩=some (.bool t_p)∧w'.cell? ⟨w.heap.size,4,none⟩=some (.slice E_p i_p e_p)∧w'.cell? ⟨w.heap.size,5,none⟩=some (.slice F_p j_p f_p)∧w'.cell? ⟨g,0,none⟩=some (.bool s_y)∧w'.cell? ⟨g,1,none⟩=some (.slice A_y n_y c_y)∧w'.cell? ⟨g,2,none⟩=some (.slice B_y m_y d_y)∧w'.cell? ⟨g,3,none⟩=some (.bool t_y)∧w'.cell? ⟨g,4,none⟩=some (.slice E_y i_y e_y)∧w'.cell? ⟨g,5,none⟩=some (.slice F_y j_y f_y))
             (first | with_reducible exact ⟨XE.c0,XE.c1,XE.c2,XE.c3,XE.c4,XE.c5,XA.c0,XA.c1,XA.c2,XA.c3,XA.c4,XA.c5,(LT.cells0 HQ0.out).1,(LT.cells0 HQ0.out).2.1,(LT.cells0 HQ0.out).2.2.1,(LT.cells0 HQ0.out).2.2.2.1,(LT.cells0 HQ0.out).2.2.2.2.1,(LT.cells0 HQ0.out).2.2.2.2.2⟩)
             (first
             | (go_at_call 98;(with_reducible refine (rfar6 x p (by omega) (by omega)).mono ?_);rintro e w_f ⟨s_f,A_f,n_f,c_f,B_f,m_f,d_f,rfl,f,hh⟩
                (try replace p:=p.below hh);(try replace XA:=XA.below hh);(try replace x:=x.below hh);(try replace XE:=XE.below hh);(try replace LT:=LT.below hh);(try replace y:=y.below hh);replace hb8:=bend hb8 hh;replace hB8:=bend hB8 hh;replace hB9:=bend hB9 hh
                replace HQ:=Lib.hid (Each.belowR HQ.out hh))
             | (go_at_call 98;(with_reducible refine (rfar6 y p (by omega) (by omega)).mono ?_);rintro e w_h ⟨s_h,A_h,n_h,c_h,B_h,m_h,d_h,rfl,h,hh⟩
                (try replace p:=p.below hh);(try replace XA:=XA.below hh);(try replace x:=x.below hh);(try replace XE:=XE.below hh);(try replace LT:=LT.below hh);(try replace y:=y.below hh);(try replace f:=f.below hh);replace hb8:=bend hb8 hh;replace hB8:=bend hB8 hh;replace hB9:=bend hB9 hh
                replace HQ:=Lib.hid (Each.belowR HQ.out hh))
             | (go_at_call 97;(with_reducible refine (rcmp3 f h (by omega) (by omega)).mono ?_);rintro e w_z ⟨rfl,hh⟩
                rw [HD.out];(try replace p:=p.below hh);(try replace XA:=XA.below hh);(try replace x:=x.below hh);(try replace XE:=XE.below hh);(try replace LT:=LT.below hh);(try replace y:=y.below hh);replace hb8:=bend hb8 hh;replace hB8:=bend hB8 hh;replace hB9:=bend hB9 hh
                replace HQ:=Lib.hid (Each.belowR HQ.out hh)
                clear f h))
            by_cases hD:D < 0
            · have hD0:decide (D < 0)=true:=decide_eq_true hD
              have HC:Hid ((vx - ax)*(vx - ax)+(vy - ay)*(vy - ay) < (ux - ax)*(ux - ax)+(uy - ay)*(uy - ay)):=cmpQ_neg.1 (by rw [HD.out];exact hD)
              clear hD0
              obtain ⟨hd0,hd1,hd2,hd3,hd4,hd5⟩:=LT.cells0 HQ0.out
              simp only at hd0 hd1 hd2 hd3 hd4 hd5
              obtain ⟨xe0,xe1,xe2,xe3,xe4,xe5⟩:=XE.all
              go_upto_region 23 with (fail)
              go_region
              have LN:Ln 60 w_z.heap.size (w_z.alloc (Obj.cells #[Value.bool s_x,Value.slice A_x n_x c_x,Value.slice B_x m_x d_x,Value.bool t_x,Value.slice E_x i_x e_x,Value.slice F_x j_x f_x,Value.bool s_y,Value.slice A_y n_y c_y,Value.slice B_y m_y d_y,Value.bool t_y,Value.slice E_y i_y e_y,Value.slice F_y j_y f_y] 60)) (.slice (some ⟨w_z.heap.size,0,none⟩) 2 2) [(PV.mk s_x A_x n_x c_x B_x m_x d_x t_x E_x i_x e_x F_x j_x f_x),(PV.mk s_y A_y n_y c_y B_y m_y d_y t_y E_y i_y e_y F_y j_y f_y)]:=Ln.lit w_z [(PV.mk s_x A_x n_x c_x B_x m_x d_x t_x E_x i_x e_x F_x j_x f_x),(PV.mk s_y A_y n_y c_y B_y m_y d_y t_y E_y i_y e_y F_y j_y f_y)] (Nat.le_refl _) (show 2≤1000000 by decide)
              have hal:Below w_z.heap.size w_z (w_z.alloc (Obj.cells #[Value.bool s_x,Value.slice A_x n_x c_x,Value.slice B_x m_x d_x,Value.bool t_x,Value.slice E_x i_x e_x,Value.slice F_x j_x f_x,Value.bool s_y,Value.slice A_y n_y c_y,Value.slice B_y m_y d_y,Value.bool t_y,Value.slice E_y i_y e_y,Value.slice F_y j_y f_y] 60)).drew:=((Below.refl _ _).alloc (Nat.le_refl _) _).drew
              replace LN:=(LN.below (Below.refl _ _).drew).base_le hB8.size
              have h1m:1≤m:=by have:=hlm;rw [Hl1.out] at this;exact this
              go_wp2_with fail
              go_roundg (go - 1)
              case measure=>have:=HG.out;have:=HGO.out;omega
              case rel =>
               refine ⟨[(PV.mk s_x A_x n_x c_x B_x m_x d_x t_x E_x i_x e_x F_x j_x f_x),(PV.mk s_y A_y n_y c_y B_y m_y d_y t_y E_y i_y e_y F_y j_y f_y)],[(vx,vy),(ux,uy)],m+1,by have:=HG.out;have:=HGO.out;show _=_;omega,by go_num,?_,by show 2≤m+1;omega,LN,⟨rfl,fun i P v hP hv=>?_⟩,bend hB8 hal⟩
               · show _=_
                 rw [picksR_succ HV.out,← HP.out,Hl1.out,pickR_lt HK.out (fun e=>HM.out (by rw [Hl1.out,e];exact List.mem_singleton.2 rfl)) HC.out]
               · match i,hP,hv with
                 | 0,hP,hv=>cases hP;cases hv;exact RP.below x hal
                 | 1,hP,hv=>cases hP;cases hv;exact RP.below y hal
                 | i+2,hP,hv=>cases hP
            · have hD0:decide (D < 0)=false:=decide_eq_false hD
              have HC:Hid (¬ (vx - ax)*(vx - ax)+(vy - ay)*(vy - ay) < (ux - ax)*(ux - ax)+(uy - ay)*(uy - ay)):=fun e=>hD (by rw [← HD.out];exact cmpQ_neg.2 e)
              clear hD0
              generalize Value.slice (some ⟨g,0,none⟩) L.length c0=v9 at LT ⊢
              have hal:Below w_z.heap.size w_z (w_z.alloc (Obj.cells #[Value.bool s_x,Value.slice A_x n_x c_x,Value.slice B_x m_x d_x,Value.bool t_x,Value.slice E_x i_x e_x,Value.slice F_x j_x f_x] 60)):=(Below.refl _ _).alloc (Nat.le_refl _) _
              go_wp2_with (first
               | (at_builtin
                  refine wpList_push Tryz.underlying67 info_rpt rfl (.tmp 124) (.tmp 126) rfl (p:=(PV.mk s_x A_x n_x c_x B_x m_x d_x t_x E_x i_x e_x F_x j_x f_x)) (k0:=1) (b:=w_z.heap.size) rfl rfl (LT.below hal) (Nat.le_trans hB8.size hal.size) (by omega) (heap_alloc_new w_z _) ?_
                  intro v3 w3 hn3 hg3))
              have hE3:Each PV.RP (w_z.alloc (Obj.cells #[Value.bool s_x,Value.slice A_x n_x c_x,Value.slice B_x m_x d_x,Value.bool t_x,Value.slice E_x i_x e_x,Value.slice F_x j_x f_x] 60)) L l k:=Each.belowR HQ.out hal
              have hp3:PV.RP (w_z.alloc (Obj.cells #[Value.bool s_x,Value.slice A_x n_x c_x,Value.slice B_x m_x d_x,Value.bool t_x,Value.slice E_x i_x e_x,Value.slice F_x j_x f_x] 60)) (PV.mk s_x A_x n_x c_x B_x m_x d_x t_x E_x i_x e_x F_x j_x f_x) (vx,vy) k:=RP.below x hal
              have hst:=Each.staysR hE3 (LT.below hal) hg3
              have hB9:=Ln.under (LT.below hal) hg3 (bend hB8 hal) (Nat.le_refl _)
              go_roundg (go - 1)
              case measure=>have:=HG.out;have:=HGO.out;omega
              case rel =>
               refine ⟨L ++ [(PV.mk s_x A_x n_x c_x B_x m_x d_x t_x E_x i_x e_x F_x j_x f_x)],l ++ [(vx,vy)],m+1,by have:=HG.out;have:=HGO.out;show _=_;omega,by go_num,?_,by rw [List.length_append];show l.length+1≤_;omega,hn3,Each.push hE3 hst (hst _ _ hp3),hB9⟩
               show _=_
               rw [picksR_succ HV.out,← HP.out,Hl1.out,pickR_ge HK.out (fun e=>HM.out (by rw [Hl1.out,e];exact List.mem_singleton.2 rfl)) HC.out]
               rfl
          · have hl0:((L.length:Int) == 1)=false:=by rw [beq_eq_false_iff_ne];omega
            have HL0:Hid (l.length ≠ 1):=fun e=>hl1 (HQ.out.1.trans e)
            clear hl1
            go_upto_region 22 with (fail)
            replace p:=p.below (Below.refl _ _).drew
            replace XA:=XA.below (Below.refl _ _).drew
            replace x:=x.below (Below.refl _ _).drew
            replace XE:=XE.below (Below.refl _ _).drew
            replace LT:=LT.below (Below.refl _ _).drew
            replace hb8:=hb8.drew;replace hB8:=hB8.drew
            replace HQ:=Lib.hid (Each.belowR HQ.out (Below.refl _ _).drew)
            refine wp_region_held_drew (S:=(fun w'=>w'.cell? ⟨gE,0,none⟩=some (.bool s_x)∧w'.cell? ⟨gE,1,none⟩=some (.slice A_x n_x c_x)∧w'.cell? ⟨gE,2,none⟩=some (.slice B_x m_x d_x)∧w'.cell? ⟨gE,3,none⟩=some (.bool t_x)∧w'.cell? ⟨gE,4,none⟩=some (.slice E_x i_x e_x)∧w'.cell? ⟨gE,5,none⟩=some (.slice F_x j_x f_x))) (by kernel_rfl) ⟨XE.c0,XE.c1,XE.c2,XE.c3,XE.c4,XE.c5⟩ (fun hHeld=>?_)
            refine wpAnyH_take (i:=0) (oi:=⟨some 104,.move (.tmp 14),67, "ref.go:40",#[],none⟩) (v:=?_) rfl (by kernel_rfl) (by kernel_rfl) (by kernel_rfl) (fun _ _ _ h=>h) (Or.inl ⟨by rfl,?_⟩) hHeld ?_
            rotate_left
            · (intro w hSw;(try dsimp only at hSw);go_simp;try with_reducible rfl)
            simp only [Act.put,List.setIfInBounds_toArray,List.set_cons_zero,List.set_cons_succ]
            refine wpAnyH_take (i:=1) (oi:=⟨some 105,.call ⟨.builtin Builtin.len,#[.tmp 104],#[67]⟩,3, "ref.go:40",#[⟨0,.data⟩],none⟩) (v:=?_) rfl (by kernel_rfl) (by kernel_rfl) (by kernel_rfl) (fun _ _ _ h=>h) (Or.inl ⟨by rfl,?_⟩) hHeld ?_
            rotate_left
            · (intro w hSw;(try dsimp only at hSw);go_simp;try with_reducible rfl)
            simp only [Act.put,List.setIfInBounds_toArray,List.set_cons_zero,List.set_cons_succ]
            refine wpAnyH_take (i:=2) (oi:=⟨some 106,.binOp BinOp.eql 3 (.tmp 105) (.const (Value.int IntKind.i64 1)) 3,4, "ref.go:40",#[⟨1,.data⟩],none⟩) (v:=?_) rfl (by kernel_rfl) (by kernel_rfl) (by kernel_rfl) (fun _ _ _ h=>h) (Or.inl ⟨by rfl,?_⟩) hHeld ?_
            rotate_left
            · (intro w hSw;(try dsimp only at hSw);go_simp;try with_reducible rfl)
            simp only [Act.put,List.setIfInBounds_toArray,List.set_cons_zero,List.set_cons_succ]
            refine wpAnyH_take (i:=3) (oi:=⟨some 107,.move (.tmp 106),4, "ref.go:40",#[⟨2,.data⟩],none⟩) (v:=?_) rfl (by kernel_rfl) (by kernel_rfl) (by kernel_rfl) (fun _ _ _ h=>h) (Or.inl ⟨by rfl,?_⟩) hHeld ?_
            rotate_left
            · (intro w hSw;(try dsimp only at hSw);go_simp;try with_reducible rfl)
            simp only [Act.put,List.setIfInBounds_toArray,List.set_cons_zero,List.set_cons_succ]
            refine wpAnyH_take (i:=4) (oi:=⟨some 108,.load 60 (.tmp 17),60, "ref.go:40",#[⟨3,.guard⟩],some (3,true)⟩) (v:=undef) rfl (by kernel_rfl) (by kernel_rfl) (by kernel_rfl) (fun _ _ _ h=>h) (Or.inr ⟨by rfl,rfl⟩) hHeld ?_
            simp only [Act.put,List.setIfInBounds_toArray,List.set_cons_zero,List.set_cons_succ]
            refine wpAnyH_take (i:=5) (oi:=⟨some 109,.load 60 (.tmp 4),60, "ref.go:40",#[⟨3,.guard⟩],some (3,true)⟩) (v:=undef) rfl (by kernel_rfl) (by kernel_rfl) (by kernel_rfl) (fun _ _ _ h=>h) (Or.inr ⟨by rfl,rfl⟩) hHeld ?_
            simp only [Act.put,List.setIfInBounds_toArray,List.set_cons_zero,List.set_cons_succ]
            refine wpAnyH_take (i:=6) (oi:=⟨some 110,.call ⟨.value (.func 98),#[.tmp 108,.tmp 109],#[60,60]⟩,37, "ref.go:40",#[⟨4,.data⟩,⟨5,.data⟩,⟨3,.chain⟩,⟨3,.guard⟩],some (3,true)⟩) (v:=undef) rfl (by kernel_rfl) (by kernel_rfl) (by kernel_rfl) (fun _ _ _ h=>h) (Or.inr ⟨by rfl,rfl⟩) hHeld ?_
            simp only [Act.put,List.setIfInBounds_toArray,List.set_cons_zero,List.set_cons_succ]
            refine wpAnyH_take (i:=7) (oi:=⟨some 111,.move (.tmp 14),67, "ref.go:40",#[⟨3,.guard⟩],some (3,true)⟩) (v:=undef) rfl (by kernel_rfl) (by kernel_rfl) (by kernel_rfl) (fun _ _ _ h=>h) (Or.inr ⟨by rfl,rfl⟩) hHeld ?_
            simp only [Act.put,List.setIfInBounds_toArray,List.set_cons_zero,List.set_cons_succ]
            refine wpAnyH_take (i:=8) (oi:=⟨some 112,.indexAddr 67 (.tmp 111) (.const (Value.int IntKind.i64 0)),0, "ref.go:40",#[⟨7,.data⟩,⟨3,.guard⟩],some (3,true)⟩) (v:=undef) rfl (by kernel_rfl) (by kernel_rfl) (by kernel_rfl) (fun _ _ _ h=>h) (Or.inr ⟨by rfl,rfl⟩) hHeld ?_
            simp only [Act.put,List.setIfInBounds_toArray,List.set_cons_zero,List.set_cons_succ]
            refine wpAnyH_take (i:=9) (oi:=⟨some 113,.load 60 (.tmp 112),60, "ref.go:40",#[⟨8,.data⟩,⟨3,.guard⟩],some (3,true)⟩) (v:=undef) rfl (by kernel_rfl) (by kernel_rfl) (by kernel_rfl) (fun _ _ _ h=>h) (Or.inr ⟨by rfl,rfl⟩) hHeld ?_
            simp only [Act.put,List.setIfInBounds_toArray,List.set_cons_zero,List.set_cons_succ]
            refine wpAnyH_take (i:=10) (oi:=⟨some 114,.load 60 (.tmp 4),60, "ref.go:40",#[⟨3,.guard⟩],some (3,true)⟩) (v:=undef) rfl (by kernel_rfl) (by kernel_rfl) (by kernel_rfl) (fun _ _ _ h=>h) (Or.inr ⟨by rfl,rfl⟩) hHeld ?_
            simp only [Act.put,List.setIfInBounds_toArray,List.set_cons_zero,List.set_cons_succ]
            refine wpAnyH_take (i:=11) (oi:=⟨some 115,.call ⟨.value (.func 98),#[.tmp 113,.tmp 114],#[60,60]⟩,37, "ref.go:40",#[⟨9,.data⟩,⟨10,.data⟩,⟨6,.chain⟩,⟨3,.guard⟩],some (3,true)⟩) (v:=undef) rfl (by kernel_rfl) (by kernel_rfl) (by kernel_rfl) (fun _ _ _ h=>h) (Or.inr ⟨by rfl,rfl⟩) hHeld ?_
            simp only [Act.put,List.setIfInBounds_toArray,List.set_cons_zero,List.set_cons_succ]
            refine wpAnyH_take (i:=12) (oi:=⟨some 116,.call ⟨.value (.func 97),#[.tmp 110,.tmp 115],#[37,37]⟩,3, "ref.go:40",#[⟨6,.data⟩,⟨11,.data⟩,⟨11,.chain⟩,⟨3,.guard⟩],some (3,true)⟩) (v:=undef) rfl (by kernel_rfl) (by kernel_rfl) (by kernel_rfl) (fun _ _ _ h=>h) (Or.inr ⟨by rfl,rfl⟩) hHeld ?_
            simp only [Act.put,List.setIfInBounds_toArray,List.set_cons_zero,List.set_cons_succ]
            refine wpAnyH_take (i:=13) (oi:=⟨some 117,.binOp BinOp.lss 3 (.tmp 116) (.const (Value.int IntKind.i64 0)) 3,4, "ref.go:40",#[⟨12,.data⟩,⟨3,.guard⟩],some (3,true)⟩) (v:=undef) rfl (by kernel_rfl) (by kernel_rfl) (by kernel_rfl) (fun _ _ _ h=>h) (Or.inr ⟨by rfl,rfl⟩) hHeld ?_
            simp only [Act.put,List.setIfInBounds_toArray,List.set_cons_zero,List.set_cons_succ]
            refine wpAnyH_take (i:=14) (oi:=⟨some 118,.pick (.tmp 107) (.tmp 117) (.const (Value.bool false)),4, "ref.go:40",#[⟨3,.data⟩,⟨13,.data⟩],none⟩) (v:=?_) rfl (by kernel_rfl) (by kernel_rfl) (by kernel_rfl) (fun _ _ _ h=>h) (Or.inl ⟨by rfl,?_⟩) hHeld ?_
            rotate_left
            · (intro w hSw;(try dsimp only at hSw);go_simp;try with_reducible rfl)
            simp only [Act.put,List.setIfInBounds_toArray,List.set_cons_zero,List.set_cons_succ]
            refine wpAnyH_done (by kernel_rfl) ?_ _
            clear hHeld;obtain ⟨xe0,xe1,xe2,xe3,xe4,xe5⟩:=XE.all
            generalize wr.drew=w9 at *
            have hal:Below w9.heap.size w9 (w9.alloc (Obj.cells #[Value.bool s_x,Value.slice A_x n_x c_x,Value.slice B_x m_x d_x,Value.bool t_x,Value.slice E_x i_x e_x,Value.slice F_x j_x f_x] 60)):=(Below.refl _ _).alloc (Nat.le_refl _) _
            go_wp2_with (first
             | (at_builtin
                refine wpList_push Tryz.underlying67 info_rpt rfl (.tmp 124) (.tmp 126) rfl (p:=(PV.mk s_x A_x n_x c_x B_x m_x d_x t_x E_x i_x e_x F_x j_x f_x)) (k0:=1) (b:=w9.heap.size) rfl rfl (LT.below hal) (Nat.le_trans hB8.size hal.size) (by omega) (heap_alloc_new w9 _) ?_
                intro v3 w3 hn3 hg3))
            have hE3:Each PV.RP (w9.alloc (Obj.cells #[Value.bool s_x,Value.slice A_x n_x c_x,Value.slice B_x m_x d_x,Value.bool t_x,Value.slice E_x i_x e_x,Value.slice F_x j_x f_x] 60)) L l k:=Each.belowR HQ.out hal
            have hp3:PV.RP (w9.alloc (Obj.cells #[Value.bool s_x,Value.slice A_x n_x c_x,Value.slice B_x m_x d_x,Value.bool t_x,Value.slice E_x i_x e_x,Value.slice F_x j_x f_x] 60)) (PV.mk s_x A_x n_x c_x B_x m_x d_x t_x E_x i_x e_x F_x j_x f_x) (vx,vy) k:=RP.below x hal
            have hst:=Each.staysR hE3 (LT.below hal) hg3
            have hB9:=Ln.under (LT.below hal) hg3 (bend hB8 hal) (Nat.le_refl _)
            go_roundg (go - 1)
            case measure=>have:=HG.out;have:=HGO.out;omega
            case rel =>
             refine ⟨L ++ [(PV.mk s_x A_x n_x c_x B_x m_x d_x t_x E_x i_x e_x F_x j_x f_x)],l ++ [(vx,vy)],m+1,by have:=HG.out;have:=HGO.out;show _=_;omega,by go_num,?_,by rw [List.length_append];show l.length+1≤_;omega,hn3,Each.push hE3 hst (hst _ _ hp3),hB9⟩
             show _=_
             rw [picksR_succ HV.out,← HP.out,pickR_yes HK.out HM.out HL0.out]
  · have hlt:¬ (m:Int) < 4:=by omega
    obtain rfl:m=4:=by omega
    clear hlm hG
    go_wp2_with fail
    (try rw [Exit.noGoto_ret])
    go_ret
    exact ⟨l,by rw [HP.out];exact HTD.out,_,L,rfl,LT.base_le hb5,Each.moreR HQ.out (by omega),hb6⟩
theorem rmeet_p {k:Nat} {ax ay bx by_ cx cy dx dy:Rat} (p:RP w s_p A_p n_p c_p B_p m_p d_p t_p E_p i_p e_p F_p j_p f_p ax ay k) (q:RP w s_q A_q n_q c_q B_q m_q d_q t_q E_q i_q e_q F_q j_q f_q bx by_ k) (r:RP w s_r A_r n_r c_r B_r m_r d_r t_r E_r i_r e_r F_r j_r f_r cx cy k) (u:RP w s_u A_u n_u c_u B_u m_u d_u t_u E_u i_u e_u F_u j_u f_u dx dy k) (hk:k≤12):Calls Tryz.prog 35 #[.agg #[.bool s_p,.slice A_p n_p c_p,.slice B_p m_p d_p,.bool t_p,.slice E_p i_p e_p,.slice F_p j_p f_p],.agg #[.bool s_q,.slice A_q n_q c_q,.slice B_q m_q d_q,.bool t_q,.slice E_q i_q e_q,.slice F_q j_q f_q],.agg #[.bool s_r,.slice A_r n_r c_r,.slice B_r m_r d_r,.bool t_r,.slice E_r i_r e_r,.slice F_r j_r f_r],.agg #[.bool s_u,.slice A_u n_u c_u,.slice B_u m_u d_u,.bool t_u,.slice E_u i_u e_u,.slice F_u j_u f_u]] w (GivesToldR w ax ay bx by_ cx cy dx dy):=by
 by_cases hz:((bx - ax)*(dy - cy) - (by_ - ay)*(dx - cx))=0
 · exact rmeet_par p q r u hk hz
 · exact rmeet_x p q r u hk hz
end Go.Proofs.YtmgklaklnaihpaaGreat
