/- SegMeets: part 17. -/
import Derived.Test.YtmgklaklnaihpaaGreatKSegMeets16
set_option linter.unusedVariables false
set_option maxRecDepth 100000
set_option maxHeartbeats 16000000
variable {w:Go.World}
variable {s_p t_p:Bool} {A_p B_p E_p F_p:Option Go.Addr} {n_p c_p m_p d_p i_p e_p j_p f_p:Nat}
variable {s_q t_q:Bool} {A_q B_q E_q F_q:Option Go.Addr} {n_q c_q m_q d_q i_q e_q j_q f_q:Nat}
variable {s_r t_r:Bool} {A_r B_r E_r F_r:Option Go.Addr} {n_r c_r m_r d_r i_r e_r j_r f_r:Nat}
variable {s_u t_u:Bool} {A_u B_u E_u F_u:Option Go.Addr} {n_u c_u m_u d_u i_u e_u j_u f_u:Nat}
variable {s_y t_y:Bool} {A_y B_y E_y F_y:Option Go.Addr} {n_y c_y m_y d_y i_y e_y j_y f_y:Nat}
variable {s_z t_z:Bool} {A_z B_z E_z F_z:Option Go.Addr} {n_z c_z m_z d_z i_z e_z j_z f_z:Nat}
variable {s_a:Bool} {A_a B_a:Option Go.Addr} {n_a c_a m_a d_a:Nat}
variable {s_b:Bool} {A_b B_b:Option Go.Addr} {n_b c_b m_b d_b:Nat}
variable {s_c:Bool} {A_c B_c:Option Go.Addr} {n_c c_c m_c d_c:Nat}
variable {s_d:Bool} {A_d B_d:Option Go.Addr} {n_d c_d m_d d_d:Nat}
variable {s_k:Bool} {A_k B_k:Option Go.Addr} {n_k c_k m_k d_k:Nat}
namespace Go.Proofs.YtmgklaklnaihpaaGreat
open Go Go.RowKit
theorem mkbx45_17 {w W:World} {x0 x1 x2 x3 x4 x5 x6 x7 x8 x9 x10 x11 x12 x13 x14 x15 x16 x17 x18 x19 x20:Value} (h:((((w.alloc (Obj.cells #[x0,x1,x2,x3,x4,x5] 56)).alloc (Obj.cells #[x6,x7,x8,x9,x10,x11] 56)).alloc (Obj.cells #[x12,x13,x14] 26)).alloc (Obj.cells #[x15,x16,x17,x18,x19,x20] 56))=W):Below w.heap.size w W∧B6 W (w.heap.size) x0 x1 x2 x3 x4 x5∧B6 W (w.heap.size+1) x6 x7 x8 x9 x10 x11∧B3 W (w.heap.size+1+1) x12 x13 x14∧B6 W (w.heap.size+1+1+1) x15 x16 x17 x18 x19 x20∧W.heap.size=w.heap.size+4:=by subst h;exact ⟨by exact (((((Below.refl _ _).alloc (Nat.le_refl _) _).alloc (by simp) _).alloc (by simp;omega) _).alloc (by simp;omega) _),by exact (((B6.new' _ _ _ _ _ _ _ _ rfl).alloc _).alloc _).alloc _,by exact ((B6.new' _ _ _ _ _ _ _ _ (by simp)).alloc _).alloc _,by exact (B3.new' _ _ _ _ _ (by simp)).alloc _,by exact B6.new' _ _ _ _ _ _ _ _ (by simp),by simp⟩
theorem pmix_w {k k2 k3:Nat} {x y x2 y2 t:Rat} {s:Bool} {A A':Option Addr} {n c n' c':Nat} (p:PR w s_p A_p n_p c_p B_p m_p d_p t_p E_p i_p e_p F_p j_p f_p x y k) (q:PR w s_q A_q n_q c_q B_q m_q d_q t_q E_q i_q e_q F_q j_q f_q x2 y2 k2) (v:QR w s A n c A' n' c' t k3) (hk:k≤50) (hk2:k2≤50) (hk3:k3≤150) (h1:1≤k) (h2:1≤k2) (h3:1≤k3) :
 Calls Tryz.prog 44 #[.agg #[.bool s_p,.slice A_p n_p c_p,.slice B_p m_p d_p,.bool t_p,.slice E_p i_p e_p,.slice F_p j_p f_p],.agg #[.bool s_q,.slice A_q n_q c_q,.slice B_q m_q d_q,.bool t_q,.slice E_q i_q e_q,.slice F_q j_q f_q],.agg #[.bool s,.slice A n c,.slice A' n' c']] w (GivesPt w (x+(x2 - x)*t) (y+(y2 - y)*t) (k+(k2+k+1+k3)+1)):=by
 go_enter Tryz.func44,Tryz.ntmps44
 go_upto_region 1 with (fail)
 generalize hW:World.alloc _ _=W
 obtain ⟨hb,XA,XB,XC,Z,hzW⟩:=mkbx45_17 hW;clear hW;replace p:=p.below hb;replace q:=q.below hb;replace v:=v.below hb
 replace p:=p.below (Below.refl _ _).drew
 replace q:=q.below (Below.refl _ _).drew
 replace v:=v.below (Below.refl _ _).drew
 replace XA:=XA.below (Below.refl _ _).drew
 replace XB:=XB.below (Below.refl _ _).drew
 replace XC:=XC.below (Below.refl _ _).drew
 replace Z:=Z.below (Below.refl _ _).drew
 replace hb:=hb.drew
 go_region_held3 (fun w'=>w'.cell? ⟨w.heap.size,0,none⟩=some (.bool s_p)∧w'.cell? ⟨w.heap.size,1,none⟩=some (.slice A_p n_p c_p)∧w'.cell? ⟨w.heap.size,2,none⟩=some (.slice B_p m_p d_p)∧w'.cell? ⟨w.heap.size,3,none⟩=some (.bool t_p)∧w'.cell? ⟨w.heap.size,4,none⟩=some (.slice E_p i_p e_p)∧w'.cell? ⟨w.heap.size,5,none⟩=some (.slice F_p j_p f_p)∧w'.cell? ⟨w.heap.size+1,0,none⟩=some (.bool s_q)∧w'.cell? ⟨w.heap.size+1,1,none⟩=some (.slice A_q n_q c_q)∧w'.cell? ⟨w.heap.size+1,2,none⟩=some (.slice B_q m_q d_q)∧w'.cell? ⟨w.heap.size+1,3,none⟩=some (.bool t_q)∧w'.cell? ⟨w.heap.size+1,4,none⟩=some (.slice E_q i_q e_q)∧w'.cell? ⟨w.heap.size+1,5,none⟩=some (.slice F_q j_q f_q)∧w'.cell? ⟨w.heap.size+1+1,0,none⟩=some (.bool s)∧w'.cell? ⟨w.heap.size+1+1,1,none⟩=some (.slice A n c)∧w'.cell? ⟨w.heap.size+1+1,2,none⟩=some (.slice A' n' c'))
  (first | with_reducible exact ⟨XA.c0,XA.c1,XA.c2,XA.c3,XA.c4,XA.c5,XB.c0,XB.c1,XB.c2,XB.c3,XB.c4,XB.c5,XC.c0,XC.c1,XC.c2⟩ | with_reducible exact ⟨(set6_cell _ _ _ _ _ _ _ _ _ _ (by omega)).trans XA.c0,(set6_cell _ _ _ _ _ _ _ _ _ _ (by omega)).trans XA.c1,(set6_cell _ _ _ _ _ _ _ _ _ _ (by omega)).trans XA.c2,(set6_cell _ _ _ _ _ _ _ _ _ _ (by omega)).trans XA.c3,(set6_cell _ _ _ _ _ _ _ _ _ _ (by omega)).trans XA.c4,(set6_cell _ _ _ _ _ _ _ _ _ _ (by omega)).trans XA.c5,(set6_cell _ _ _ _ _ _ _ _ _ _ (by omega)).trans XB.c0,(set6_cell _ _ _ _ _ _ _ _ _ _ (by omega)).trans XB.c1,(set6_cell _ _ _ _ _ _ _ _ _ _ (by omega)).trans XB.c2,(set6_cell _ _ _ _ _ _ _ _ _ _ (by omega)).trans XB.c3,(set6_cell _ _ _ _ _ _ _ _ _ _ (by omega)).trans XB.c4,(set6_cell _ _ _ _ _ _ _ _ _ _ (by omega)).trans XB.c5,(set6_cell _ _ _ _ _ _ _ _ _ _ (by omega)).trans XC.c0,(set6_cell _ _ _ _ _ _ _ _ _ _ (by omega)).trans XC.c1,(set6_cell _ _ _ _ _ _ _ _ _ _ (by omega)).trans XC.c2⟩)
  (first
  | (go_at_call 85;(with_reducible refine (psub_p q p (by omega) (by omega) (.inl (by omega)) (by omega) (by omega)).mono ?_);rintro e w_r1 ⟨s_r1,A_r1,n_r1,c_r1,B_r1,m_r1,d_r1,t_r1,E_r1,i_r1,e_r1,F_r1,j_r1,f_r1,rfl,r1,hh⟩
     (try replace p:=p.below hh);(try replace q:=q.below hh);(try replace v:=v.below hh);(try replace r2:=r2.below hh);(try replace r3:=r3.below hh);(try replace XA:=XA.below hh);(try replace XB:=XB.below hh);(try replace XC:=XC.below hh);(try replace Z:=Z.below hh);replace hb:=bend hb hh)
  | (go_at_call 105;(with_reducible refine (pscale_p r1.pr v (by omega) (by omega) (.inl (by omega)) (by omega) (by omega)).mono ?_);rintro e w_r2 ⟨s_r2,A_r2,n_r2,c_r2,B_r2,m_r2,d_r2,t_r2,E_r2,i_r2,e_r2,F_r2,j_r2,f_r2,rfl,r2,hh⟩
     (try replace p:=p.below hh);(try replace q:=q.below hh);(try replace v:=v.below hh);(try replace r1:=r1.below hh);(try replace r3:=r3.below hh);(try replace XA:=XA.below hh);(try replace XB:=XB.below hh);(try replace XC:=XC.below hh);(try replace Z:=Z.below hh);replace hb:=bend hb hh)
  | (go_at_call 104;(with_reducible refine (padd_p p r2.pr (by omega) (by omega) (.inl (by omega)) (by omega) (by omega)).mono ?_);rintro e w_r3 ⟨s_r3,A_r3,n_r3,c_r3,B_r3,m_r3,d_r3,t_r3,E_r3,i_r3,e_r3,F_r3,j_r3,f_r3,rfl,r3,hh⟩
     (try replace p:=p.below hh);(try replace q:=q.below hh);(try replace v:=v.below hh);(try replace r1:=r1.below hh);(try replace r2:=r2.below hh);(try replace XA:=XA.below hh);(try replace XB:=XB.below hh);(try replace XC:=XC.below hh);(try replace Z:=Z.below hh);replace hb:=bend hb hh;have zg0:=Z.f0;have zg1:=Z.f1;have zg2:=Z.f2;have zg3:=Z.f3;have zg4:=Z.f4;have zg5:=Z.f5;obtain ⟨zc0,zc1,zc2,zc3,zc4,zc5⟩:=Z.all))
 go_wp2_with fail
 have Z2:=Z.set6 (.bool s_r3) (.slice A_r3 n_r3 c_r3) (.slice B_r3 m_r3 d_r3) (.bool t_r3) (.slice E_r3 i_r3 e_r3) (.slice F_r3 j_r3 f_r3)
 obtain ⟨g0,g1,g2,g3,g4,g5⟩:=Z2.all
 refine bodyPost_ret (v:=.agg #[.bool s_r3,.slice A_r3 n_r3 c_r3,.slice B_r3 m_r3 d_r3,.bool t_r3,.slice E_r3 i_r3 e_r3,.slice F_r3 j_r3 f_r3]) (by simp [results,Tryz.results44,go_sem,g0,g1,g2,g3,g4,g5]) rfl ?_
 exact ⟨s_r3,A_r3,n_r3,c_r3,B_r3,m_r3,d_r3,t_r3,E_r3,i_r3,e_r3,F_r3,j_r3,f_r3,rfl,r3.set6 Z _ _ _ _ _ _,below_set6 hb (by omega) _ _ _ _ _ _⟩
def GivesTold (w:World) (ax ay bx by_ cx cy dx dy:Rat) (k:Nat) (en:Ending) (w':World):Prop :=
 ∃ m,Told ax ay bx by_ cx cy dx dy m∧GivesLn w m (if m.length=1 then 19*k+12 else k+2) en w'
theorem GivesLn.more {w w':World} {l:List (Rat × Rat)} {k k2:Nat} {en:Ending} (h:GivesLn w l k en w') (hk:k≤k2):GivesLn w l k2 en w':=by
 obtain ⟨v,L,h1,h2,h3,h4⟩:=h
 exact ⟨v,L,h1,h2,⟨h3.1,fun i p u hp hu=>PG.more (h3.2 i p u hp hu) hk⟩,h4⟩
theorem GivesLn.told {w w':World} {ax ay bx by_ cx cy dx dy:Rat} {l:List (Rat × Rat)} {k:Nat} {en:Ending} (h:GivesLn w l (k+2) en w') (ht:Told ax ay bx by_ cx cy dx dy l):GivesTold w ax ay bx by_ cx cy dx dy k en w':=by
 refine ⟨l,ht,h.more ?_⟩
 split <;> omega
theorem ends_told {k:Nat} {ax ay bx by_ cx cy dx dy:Rat} (p:PR w s_p A_p n_p c_p B_p m_p d_p t_p E_p i_p e_p F_p j_p f_p ax ay k) (q:PR w s_q A_q n_q c_q B_q m_q d_q t_q E_q i_q e_q F_q j_q f_q bx by_ k) (r:PR w s_r A_r n_r c_r B_r m_r d_r t_r E_r i_r e_r F_r j_r f_r cx cy k) (u:PR w s_u A_u n_u c_u B_u m_u d_u t_u E_u i_u e_u F_u j_u f_u dx dy k) (hk:k≤40) (h1:1≤k) (hz:((bx - ax)*(dy - cy) - (by_ - ay)*(dx - cx))=0) :
 Calls Tryz.prog 88 #[.agg #[.bool s_p,.slice A_p n_p c_p,.slice B_p m_p d_p,.bool t_p,.slice E_p i_p e_p,.slice F_p j_p f_p],.agg #[.bool s_q,.slice A_q n_q c_q,.slice B_q m_q d_q,.bool t_q,.slice E_q i_q e_q,.slice F_q j_q f_q],.agg #[.bool s_r,.slice A_r n_r c_r,.slice B_r m_r d_r,.bool t_r,.slice E_r i_r e_r,.slice F_r j_r f_r],.agg #[.bool s_u,.slice A_u n_u c_u,.slice B_u m_u d_u,.bool t_u,.slice E_u i_u e_u,.slice F_u j_u f_u]] w (GivesTold w ax ay bx by_ cx cy dx dy k):=by
 by_cases hf:farQ ax ay dx dy < farQ ax ay cx cy
 · exact (ends_swap p q r u hk h1 hf).mono fun e w' h=>h.told (told_by (fun x y=>(both_swap x y).symm) (told_ends (by rw [show (bx - ax)*(cy - dy) - (by_ - ay)*(cx - dx)=-((bx - ax)*(dy - cy) - (by_ - ay)*(dx - cx)) by grind,hz];rfl) (Rat.le_of_lt hf)))
 · exact (ends_keep p q r u hk h1 hf).mono fun e w' h=>h.told (told_ends hz (Rat.not_lt.1 hf))
abbrev L_subs:List Nat:=[37,38,39,40,41,42,43,44,45,9,10,11]
def o0_subs:Oper:=⟨some 37,.load 56 (.tmp 5),56, "seg.go:26",#[],none⟩
def o1_subs:Oper:=⟨some 38,.load 56 (.tmp 4),56, "seg.go:26",#[],none⟩
def o2_subs:Oper:=⟨some 39,.call ⟨.value (.func 85),#[.tmp 37,.tmp 38],#[56,56]⟩,56, "seg.go:26",#[⟨0,.data⟩,⟨1,.data⟩],none⟩
def o3_subs:Oper:=⟨some 40,.load 56 (.tmp 7),56, "seg.go:26",#[],none⟩
def o4_subs:Oper:=⟨some 41,.load 56 (.tmp 6),56, "seg.go:26",#[],none⟩
def o5_subs:Oper:=⟨some 42,.call ⟨.value (.func 85),#[.tmp 40,.tmp 41],#[56,56]⟩,56, "seg.go:26",#[⟨3,.data⟩,⟨4,.data⟩,⟨2,.chain⟩],none⟩
def o6_subs:Oper:=⟨some 43,.load 56 (.tmp 6),56, "seg.go:26",#[],none⟩
def o7_subs:Oper:=⟨some 44,.load 56 (.tmp 4),56, "seg.go:26",#[],none⟩
def o8_subs:Oper:=⟨some 45,.call ⟨.value (.func 85),#[.tmp 43,.tmp 44],#[56,56]⟩,56, "seg.go:26",#[⟨6,.data⟩,⟨7,.data⟩,⟨5,.chain⟩],none⟩
def o9_subs:Oper:=⟨some 9,.alloc 56,0, "seg.go:26",#[],none⟩
def o10_subs:Oper:=⟨some 10,.alloc 56,0, "seg.go:26",#[],none⟩
def o11_subs:Oper:=⟨some 11,.alloc 56,0, "seg.go:26",#[],none⟩
def o12_subs:Oper:=⟨none,.store 56 (.tmp 9) (.tmp 39),0, "seg.go:26",#[⟨9,.data⟩,⟨2,.data⟩,⟨8,.chain⟩,⟨0,.phase⟩,⟨1,.phase⟩,⟨2,.phase⟩,⟨3,.textOnly .lateStores⟩,⟨4,.textOnly .lateStores⟩,⟨5,.textOnly .lateStoresUnsure⟩,⟨6,.textOnly .lateStores⟩,⟨7,.textOnly .lateStores⟩,⟨8,.textOnly .lateStoresUnsure⟩,⟨9,.phase⟩,⟨10,.phase⟩,⟨11,.phase⟩],none⟩
def o13_subs:Oper:=⟨none,.store 56 (.tmp 10) (.tmp 42),0, "seg.go:26",#[⟨10,.data⟩,⟨5,.data⟩,⟨12,.chain⟩,⟨0,.phase⟩,⟨1,.phase⟩,⟨2,.phase⟩,⟨3,.phase⟩,⟨4,.phase⟩,⟨5,.phase⟩,⟨6,.textOnly .lateStores⟩,⟨7,.textOnly .lateStores⟩,⟨8,.textOnly .lateStoresUnsure⟩,⟨9,.phase⟩,⟨10,.phase⟩,⟨11,.phase⟩,⟨12,.phase⟩],none⟩
def o14_subs:Oper:=⟨none,.store 56 (.tmp 11) (.tmp 45),0, "seg.go:26",#[⟨11,.data⟩,⟨8,.data⟩,⟨13,.chain⟩,⟨0,.phase⟩,⟨1,.phase⟩,⟨2,.phase⟩,⟨3,.phase⟩,⟨4,.phase⟩,⟨5,.phase⟩,⟨6,.phase⟩,⟨7,.phase⟩,⟨8,.phase⟩,⟨9,.phase⟩,⟨10,.phase⟩,⟨11,.phase⟩,⟨12,.phase⟩,⟨13,.phase⟩],none⟩
def F_subs (s_p:Bool) (t_p:Bool) (A_p:Option Addr) (B_p:Option Addr) (E_p:Option Addr) (F_p:Option Addr) (n_p:Nat) (c_p:Nat) (m_p:Nat) (d_p:Nat) (i_p:Nat) (e_p:Nat) (j_p:Nat) (f_p:Nat) (s_q:Bool) (t_q:Bool) (A_q:Option Addr) (B_q:Option Addr) (E_q:Option Addr) (F_q:Option Addr) (n_q:Nat) (c_q:Nat) (m_q:Nat) (d_q:Nat) (i_q:Nat) (e_q:Nat) (j_q:Nat) (f_q:Nat) (s_r:Bool) (t_r:Bool) (A_r:Option Addr) (B_r:Option Addr) (E_r:Option Addr) (F_r:Option Addr) (n_r:Nat) (c_r:Nat) (m_r:Nat) (d_r:Nat) (i_r:Nat) (e_r:Nat) (j_r:Nat) (f_r:Nat) (s_u:Bool) (t_u:Bool) (A_u:Option Addr) (B_u:Option Addr) (E_u:Option Addr) (F_u:Option Addr) (n_u:Nat) (c_u:Nat) (m_u:Nat) (d_u:Nat) (i_u:Nat) (e_u:Nat) (j_u:Nat) (f_u:Nat) (ax:Rat) (ay:Rat) (bx:Rat) (by_:Rat) (cx:Rat) (cy:Rat) (dx:Rat) (dy:Rat) (k:Nat) (sl:Nat):Value→World→Prop :=
 match sl with
 | 37=>fun x _=>x=Value.agg #[.bool s_q,.slice A_q n_q c_q,.slice B_q m_q d_q,.bool t_q,.slice E_q i_q e_q,.slice F_q j_q f_q]
 | 38=>fun x _=>x=Value.agg #[.bool s_p,.slice A_p n_p c_p,.slice B_p m_p d_p,.bool t_p,.slice E_p i_p e_p,.slice F_p j_p f_p]
 | 39=>VPG (bx - ax) (by_ - ay) (k+k+1)
 | 40=>fun x _=>x=Value.agg #[.bool s_u,.slice A_u n_u c_u,.slice B_u m_u d_u,.bool t_u,.slice E_u i_u e_u,.slice F_u j_u f_u]
 | 41=>fun x _=>x=Value.agg #[.bool s_r,.slice A_r n_r c_r,.slice B_r m_r d_r,.bool t_r,.slice E_r i_r e_r,.slice F_r j_r f_r]
 | 42=>VPG (dx - cx) (dy - cy) (k+k+1)
 | 43=>fun x _=>x=Value.agg #[.bool s_r,.slice A_r n_r c_r,.slice B_r m_r d_r,.bool t_r,.slice E_r i_r e_r,.slice F_r j_r f_r]
 | 44=>fun x _=>x=Value.agg #[.bool s_p,.slice A_p n_p c_p,.slice B_p m_p d_p,.bool t_p,.slice E_p i_p e_p,.slice F_p j_p f_p]
 | 45=>VPG (cx - ax) (cy - ay) (k+k+1)
 | _=>fun _ _=>True
def B0_subs (ax:Rat) (ay:Rat) (bx:Rat) (by_:Rat) (k:Nat):BoxOp :=
 ⟨9,12,9,56,#[.bool false,.slice none 0 0,.slice none 0 0,.bool false,.slice none 0 0,.slice none 0 0],fun cs w=>∃ s A n c B m d t E i e F j f,cs=#[.bool s,.slice A n c,.slice B m d,.bool t,.slice E i e,.slice F j f]∧PG w s A n c B m d t E i e F j f (bx - ax) (by_ - ay) (k+k+1)⟩
def B1_subs (cx:Rat) (cy:Rat) (dx:Rat) (dy:Rat) (k:Nat):BoxOp :=
 ⟨10,13,10,56,#[.bool false,.slice none 0 0,.slice none 0 0,.bool false,.slice none 0 0,.slice none 0 0],fun cs w=>∃ s A n c B m d t E i e F j f,cs=#[.bool s,.slice A n c,.slice B m d,.bool t,.slice E i e,.slice F j f]∧PG w s A n c B m d t E i e F j f (dx - cx) (dy - cy) (k+k+1)⟩
def B2_subs (ax:Rat) (ay:Rat) (cx:Rat) (cy:Rat) (k:Nat):BoxOp :=
 ⟨11,14,11,56,#[.bool false,.slice none 0 0,.slice none 0 0,.bool false,.slice none 0 0,.slice none 0 0],fun cs w=>∃ s A n c B m d t E i e F j f,cs=#[.bool s,.slice A n c,.slice B m d,.bool t,.slice E i e,.slice F j f]∧PG w s A n c B m d t E i e F j f (cx - ax) (cy - ay) (k+k+1)⟩
theorem subs_region {id:Nat} {ac:Act} {Q:Exit→Act→World→Prop} {ax ay bx by_ cx cy dx dy:Rat} {k ga gb gc gd:Nat}
 (hsz:45 < ac.tmps.size) (e4:ac.eval (.tmp 4)=Value.pointer (some ⟨ga,0,none⟩)) (e5:ac.eval (.tmp 5)=Value.pointer (some ⟨gb,0,none⟩)) (e6:ac.eval (.tmp 6)=Value.pointer (some ⟨gc,0,none⟩)) (e7:ac.eval (.tmp 7)=Value.pointer (some ⟨gd,0,none⟩)) (XA:B6 w ga (.bool s_p) (.slice A_p n_p c_p) (.slice B_p m_p d_p) (.bool t_p) (.slice E_p i_p e_p) (.slice F_p j_p f_p)) (XB:B6 w gb (.bool s_q) (.slice A_q n_q c_q) (.slice B_q m_q d_q) (.bool t_q) (.slice E_q i_q e_q) (.slice F_q j_q f_q)) (XC:B6 w gc (.bool s_r) (.slice A_r n_r c_r) (.slice B_r m_r d_r) (.bool t_r) (.slice E_r i_r e_r) (.slice F_r j_r f_r)) (XD:B6 w gd (.bool s_u) (.slice A_u n_u c_u) (.slice B_u m_u d_u) (.bool t_u) (.slice E_u i_u e_u) (.slice F_u j_u f_u)) (p:PR w s_p A_p n_p c_p B_p m_p d_p t_p E_p i_p e_p F_p j_p f_p ax ay k) (q:PR w s_q A_q n_q c_q B_q m_q d_q t_q E_q i_q e_q F_q j_q f_q bx by_ k) (r:PR w s_r A_r n_r c_r B_r m_r d_r t_r E_r i_r e_r F_r j_r f_r cx cy k) (u:PR w s_u A_u n_u c_u B_u m_u d_u t_u E_u i_u e_u F_u j_u f_u dx dy k) (hk:k≤20) (h1:1≤k)
 (hend:∀ (V:Nat→Value) (w':World) (g0:Nat) (s0:Bool) (A0:Option Addr) (n0:Nat) (c0:Nat) (B0:Option Addr) (m0:Nat) (d0:Nat) (t0:Bool) (E0:Option Addr) (i0:Nat) (e0:Nat) (F0:Option Addr) (j0:Nat) (f0:Nat) (g1:Nat) (s1:Bool) (A1:Option Addr) (n1:Nat) (c1:Nat) (B1:Option Addr) (m1:Nat) (d1:Nat) (t1:Bool) (E1:Option Addr) (i1:Nat) (e1:Nat) (F1:Option Addr) (j1:Nat) (f1:Nat) (g2:Nat) (s2:Bool) (A2:Option Addr) (n2:Nat) (c2:Nat) (B2:Option Addr) (m2:Nat) (d2:Nat) (t2:Bool) (E2:Option Addr) (i2:Nat) (e2:Nat) (F2:Option Addr) (j2:Nat) (f2:Nat),PG w' s0 A0 n0 c0 B0 m0 d0 t0 E0 i0 e0 F0 j0 f0 (bx - ax) (by_ - ay) (k+k+1)→B6 w' g0 (.bool s0) (.slice A0 n0 c0) (.slice B0 m0 d0) (.bool t0) (.slice E0 i0 e0) (.slice F0 j0 f0)→w.heap.size≤g0→V 9=.pointer (some ⟨g0,0,none⟩)→PG w' s1 A1 n1 c1 B1 m1 d1 t1 E1 i1 e1 F1 j1 f1 (dx - cx) (dy - cy) (k+k+1)→B6 w' g1 (.bool s1) (.slice A1 n1 c1) (.slice B1 m1 d1) (.bool t1) (.slice E1 i1 e1) (.slice F1 j1 f1)→w.heap.size≤g1→V 10=.pointer (some ⟨g1,0,none⟩)→PG w' s2 A2 n2 c2 B2 m2 d2 t2 E2 i2 e2 F2 j2 f2 (cx - ax) (cy - ay) (k+k+1)→B6 w' g2 (.bool s2) (.slice A2 n2 c2) (.slice B2 m2 d2) (.bool t2) (.slice E2 i2 e2) (.slice F2 j2 f2)→w.heap.size≤g2→V 11=.pointer (some ⟨g2,0,none⟩)→g1 ≠ g0→g2 ≠ g0→g2 ≠ g1→Below w.heap.size w w'→Q .normal (putAll ac [37,38,39,40,41,42,43,44,45,9,10,11] V) w') :
 (Code.region id #[o0_subs,o1_subs,o2_subs,o3_subs,o4_subs,o5_subs,o6_subs,o7_subs,o8_subs,o9_subs,o10_subs,o11_subs,o12_subs,o13_subs,o14_subs] true).wp Tryz.prog Q ac w:=by
 have hnd:L_subs.Nodup:=by decide
 have G:∀ (sv:Nat→Value) (t:Nat),t ∈ L_subs→t≤45→(putAll ac L_subs sv).eval (.tmp t)=sv t:=fun sv t ht h=>eval_putAll_mem (t:=t) L_subs ac hnd ht (Nat.lt_of_le_of_lt h hsz)
 have E4:∀ sv:Nat→Value,(putAll ac L_subs sv).eval (.tmp 4)=Value.pointer (some ⟨ga,0,none⟩):=fun sv=>(eval_putAll_not (v:=sv) L_subs ac (show 4 ∉ _ by decide)).trans e4
 have E5:∀ sv:Nat→Value,(putAll ac L_subs sv).eval (.tmp 5)=Value.pointer (some ⟨gb,0,none⟩):=fun sv=>(eval_putAll_not (v:=sv) L_subs ac (show 5 ∉ _ by decide)).trans e5
 have E6:∀ sv:Nat→Value,(putAll ac L_subs sv).eval (.tmp 6)=Value.pointer (some ⟨gc,0,none⟩):=fun sv=>(eval_putAll_not (v:=sv) L_subs ac (show 6 ∉ _ by decide)).trans e6
 have E7:∀ sv:Nat→Value,(putAll ac L_subs sv).eval (.tmp 7)=Value.pointer (some ⟨gd,0,none⟩):=fun sv=>(eval_putAll_not (v:=sv) L_subs ac (show 7 ∉ _ by decide)).trans e7
 have NE:∀ t:Nat,(t ≠ 9∧t ≠ 10∧t ≠ 11)→∀ p ∈ [B0_subs ax ay bx by_ k,B1_subs cx cy dx dy k,B2_subs ax ay cx cy k],t ≠ p.tA:=by
  intro t ht p hp
  simp only [List.mem_cons,List.not_mem_nil,or_false] at hp
  rcases hp with rfl | rfl | rfl
  · exact ht.1
  · exact ht.2.1
  · exact ht.2.2
 refine wp_region_flows L_subs [B0_subs ax ay bx by_ k,B1_subs cx cy dx dy k,B2_subs ax ay cx cy k] (F_subs s_p t_p A_p B_p E_p F_p n_p c_p m_p d_p i_p e_p j_p f_p s_q t_q A_q B_q E_q F_q n_q c_q m_q d_q i_q e_q j_q f_q s_r t_r A_r B_r E_r F_r n_r c_r m_r d_r i_r e_r j_r f_r s_u t_u A_u B_u E_u F_u n_u c_u m_u d_u i_u e_u j_u f_u ax ay bx by_ cx cy dx dy k) (by kernel_rfl) (by kernel_rfl) rfl hnd ?_ ?_ ?_ ?_ ?_ ?_ ?_ ?_
 · intro p hp
   simp only [List.mem_cons,List.not_mem_nil,or_false] at hp
   rcases hp with rfl | rfl | rfl
   · refine ⟨⟨o9_subs,rfl,rfl,rfl,fun e w'=>run_alloc6⟩,⟨o12_subs,rfl,rfl,rfl,⟨9,.data⟩,by simp [o12_subs],rfl,rfl⟩,free6 _ _ _ _ _ _ _ _ _ _ _ _ _ _,?_,?_⟩
     · rintro cs w1 w2 ⟨s_,A_,n_,c_,B_,m_,d_,t_,E_,i_,e_,F_,j_,f_,rfl,h⟩ hb;exact ⟨s_,A_,n_,c_,B_,m_,d_,t_,E_,i_,e_,F_,j_,f_,rfl,h.below hb⟩
     · rintro T cs w1 w2 g c0 ⟨s_,A_,n_,c_,B_,m_,d_,t_,E_,i_,e_,F_,j_,f_,rfl,h⟩ hB ho;exact ⟨s_,A_,n_,c_,B_,m_,d_,t_,E_,i_,e_,F_,j_,f_,rfl,h.box hB ho⟩
   · refine ⟨⟨o10_subs,rfl,rfl,rfl,fun e w'=>run_alloc6⟩,⟨o13_subs,rfl,rfl,rfl,⟨10,.data⟩,by simp [o13_subs],rfl,rfl⟩,free6 _ _ _ _ _ _ _ _ _ _ _ _ _ _,?_,?_⟩
     · rintro cs w1 w2 ⟨s_,A_,n_,c_,B_,m_,d_,t_,E_,i_,e_,F_,j_,f_,rfl,h⟩ hb;exact ⟨s_,A_,n_,c_,B_,m_,d_,t_,E_,i_,e_,F_,j_,f_,rfl,h.below hb⟩
     · rintro T cs w1 w2 g c0 ⟨s_,A_,n_,c_,B_,m_,d_,t_,E_,i_,e_,F_,j_,f_,rfl,h⟩ hB ho;exact ⟨s_,A_,n_,c_,B_,m_,d_,t_,E_,i_,e_,F_,j_,f_,rfl,h.box hB ho⟩
   · refine ⟨⟨o11_subs,rfl,rfl,rfl,fun e w'=>run_alloc6⟩,⟨o14_subs,rfl,rfl,rfl,⟨11,.data⟩,by simp [o14_subs],rfl,rfl⟩,free6 _ _ _ _ _ _ _ _ _ _ _ _ _ _,?_,?_⟩
     · rintro cs w1 w2 ⟨s_,A_,n_,c_,B_,m_,d_,t_,E_,i_,e_,F_,j_,f_,rfl,h⟩ hb;exact ⟨s_,A_,n_,c_,B_,m_,d_,t_,E_,i_,e_,F_,j_,f_,rfl,h.below hb⟩
     · rintro T cs w1 w2 g c0 ⟨s_,A_,n_,c_,B_,m_,d_,t_,E_,i_,e_,F_,j_,f_,rfl,h⟩ hB ho;exact ⟨s_,A_,n_,c_,B_,m_,d_,t_,E_,i_,e_,F_,j_,f_,rfl,h.box hB ho⟩
 · intro p hp q hq h
   simp only [List.mem_cons,List.not_mem_nil,or_false] at hp hq
   rcases hp with rfl | rfl | rfl <;> rcases hq with rfl | rfl | rfl
   · rfl
   · exact absurd (show (9:Nat)=10 from h) (by decide)
   · exact absurd (show (9:Nat)=11 from h) (by decide)
   · exact absurd (show (10:Nat)=9 from h) (by decide)
   · rfl
   · exact absurd (show (10:Nat)=11 from h) (by decide)
   · exact absurd (show (11:Nat)=9 from h) (by decide)
   · exact absurd (show (11:Nat)=10 from h) (by decide)
   · rfl
 · intro p hp q hq h
   simp only [List.mem_cons,List.not_mem_nil,or_false] at hp hq
   rcases hp with rfl | rfl | rfl <;> rcases hq with rfl | rfl | rfl
   · rfl
   · exact absurd (show (12:Nat)=13 from h) (by decide)
   · exact absurd (show (12:Nat)=14 from h) (by decide)
   · exact absurd (show (13:Nat)=12 from h) (by decide)
   · rfl
   · exact absurd (show (13:Nat)=14 from h) (by decide)
   · exact absurd (show (14:Nat)=12 from h) (by decide)
   · exact absurd (show (14:Nat)=13 from h) (by decide)
   · rfl
 · intro i o h1 h2
   match i,h1 with
   | 0,h1=>cases h1;cases h2
   | 1,h1=>cases h1;cases h2
   | 2,h1=>cases h1;cases h2
   | 3,h1=>cases h1;cases h2
   | 4,h1=>cases h1;cases h2
   | 5,h1=>cases h1;cases h2
   | 6,h1=>cases h1;cases h2
   | 7,h1=>cases h1;cases h2
   | 8,h1=>cases h1;cases h2
   | 9,h1=>cases h1;cases h2
   | 10,h1=>cases h1;cases h2
   | 11,h1=>cases h1;cases h2
   | 12,h1=>exact ⟨B0_subs ax ay bx by_ k,List.Mem.head _,rfl⟩
   | 13,h1=>exact ⟨B1_subs cx cy dx dy k,List.Mem.tail _ (List.Mem.head _),rfl⟩
   | 14,h1=>exact ⟨B2_subs ax ay cx cy k,List.Mem.tail _ (List.Mem.tail _ (List.Mem.head _)),rfl⟩
   | i+15,h1=>cases h1
 · intro t
   unfold F_subs
   split <;> first | exact stays_eq _ | exact stays_q _ _ | exact stays_z _ _ | exact stays_r _ _ | exact stays_rq _ _ | exact stays_pg _ _ _ | exact stays_true
 · intro i o t sv w' ho hia hd J0 hf
   have p:=p.below J0;have q:=q.below J0;have r:=r.below J0;have u:=u.below J0;have XA:=XA.below J0;have XB:=XB.below J0;have XC:=XC.below J0;have XD:=XD.below J0
   match i,ho with
   | 0,ho =>
     obtain rfl:o0_subs=o:=Option.some.inj ho
     cases hd
     refine wpOp_plain' (o:=o0_subs) rfl rfl ?_
     unfold Oper.wp o0_subs
     rw [run_load6 (E5 sv) XB.c0 XB.c1 XB.c2 XB.c3 XB.c4 XB.c5,Oper.upon_value]
     exact ⟨_,rfl,Below.refl _ _,rfl⟩
   | 1,ho =>
     obtain rfl:o1_subs=o:=Option.some.inj ho
     cases hd
     refine wpOp_plain' (o:=o1_subs) rfl rfl ?_
     unfold Oper.wp o1_subs
     rw [run_load6 (E4 sv) XA.c0 XA.c1 XA.c2 XA.c3 XA.c4 XA.c5,Oper.upon_value]
     exact ⟨_,rfl,Below.refl _ _,rfl⟩
   | 2,ho =>
     obtain rfl:o2_subs=o:=Option.some.inj ho
     cases hd
     have f37:sv 37=Value.agg #[.bool s_q,.slice A_q n_q c_q,.slice B_q m_q d_q,.bool t_q,.slice E_q i_q e_q,.slice F_q j_q f_q]:=hf ⟨0,.data⟩ (by simp [o2_subs]) rfl _ 37 rfl rfl (NE _ (by decide))
     have f38:sv 38=Value.agg #[.bool s_p,.slice A_p n_p c_p,.slice B_p m_p d_p,.bool t_p,.slice E_p i_p e_p,.slice F_p j_p f_p]:=hf ⟨1,.data⟩ (by simp [o2_subs]) rfl _ 38 rfl rfl (NE _ (by decide))
     refine wpOp_plain' (o:=o2_subs) rfl rfl ?_
     unfold Oper.wp o2_subs
     rw [rc_gesso_pt_Sub ((G sv 37 (by decide) (by decide)).trans f37) ((G sv 38 (by decide) (by decide)).trans f38) rfl,Oper.upon_enter]
     refine (psub_p q p (by omega) (by omega) (.inl (by omega)) h1 h1).mono ?_
     rintro e w1 ⟨s_,A_,n_,c_,B_,m_,d_,t_,E_,i_,e_,F_,j_,f_,rfl,hq,hh⟩
     exact ⟨_,rfl,hh,s_,A_,n_,c_,B_,m_,d_,t_,E_,i_,e_,F_,j_,f_,rfl,hq⟩
   | 3,ho =>
     obtain rfl:o3_subs=o:=Option.some.inj ho
     cases hd
     refine wpOp_plain' (o:=o3_subs) rfl rfl ?_
     unfold Oper.wp o3_subs
     rw [run_load6 (E7 sv) XD.c0 XD.c1 XD.c2 XD.c3 XD.c4 XD.c5,Oper.upon_value]
     exact ⟨_,rfl,Below.refl _ _,rfl⟩
   | 4,ho =>
     obtain rfl:o4_subs=o:=Option.some.inj ho
     cases hd
     refine wpOp_plain' (o:=o4_subs) rfl rfl ?_
     unfold Oper.wp o4_subs
     rw [run_load6 (E6 sv) XC.c0 XC.c1 XC.c2 XC.c3 XC.c4 XC.c5,Oper.upon_value]
     exact ⟨_,rfl,Below.refl _ _,rfl⟩
   | 5,ho =>
     obtain rfl:o5_subs=o:=Option.some.inj ho
     cases hd
     have f40:sv 40=Value.agg #[.bool s_u,.slice A_u n_u c_u,.slice B_u m_u d_u,.bool t_u,.slice E_u i_u e_u,.slice F_u j_u f_u]:=hf ⟨3,.data⟩ (by simp [o5_subs]) rfl _ 40 rfl rfl (NE _ (by decide))
     have f41:sv 41=Value.agg #[.bool s_r,.slice A_r n_r c_r,.slice B_r m_r d_r,.bool t_r,.slice E_r i_r e_r,.slice F_r j_r f_r]:=hf ⟨4,.data⟩ (by simp [o5_subs]) rfl _ 41 rfl rfl (NE _ (by decide))
     refine wpOp_plain' (o:=o5_subs) rfl rfl ?_
     unfold Oper.wp o5_subs
     rw [rc_gesso_pt_Sub ((G sv 40 (by decide) (by decide)).trans f40) ((G sv 41 (by decide) (by decide)).trans f41) rfl,Oper.upon_enter]
     refine (psub_p u r (by omega) (by omega) (.inl (by omega)) h1 h1).mono ?_
     rintro e w1 ⟨s_,A_,n_,c_,B_,m_,d_,t_,E_,i_,e_,F_,j_,f_,rfl,hq,hh⟩
     exact ⟨_,rfl,hh,s_,A_,n_,c_,B_,m_,d_,t_,E_,i_,e_,F_,j_,f_,rfl,hq⟩
   | 6,ho =>
     obtain rfl:o6_subs=o:=Option.some.inj ho
     cases hd
     refine wpOp_plain' (o:=o6_subs) rfl rfl ?_
     unfold Oper.wp o6_subs
     rw [run_load6 (E6 sv) XC.c0 XC.c1 XC.c2 XC.c3 XC.c4 XC.c5,Oper.upon_value]
     exact ⟨_,rfl,Below.refl _ _,rfl⟩
   | 7,ho =>
     obtain rfl:o7_subs=o:=Option.some.inj ho
     cases hd
     refine wpOp_plain' (o:=o7_subs) rfl rfl ?_
     unfold Oper.wp o7_subs
     rw [run_load6 (E4 sv) XA.c0 XA.c1 XA.c2 XA.c3 XA.c4 XA.c5,Oper.upon_value]
     exact ⟨_,rfl,Below.refl _ _,rfl⟩
   | 8,ho =>
     obtain rfl:o8_subs=o:=Option.some.inj ho
     cases hd
     have f43:sv 43=Value.agg #[.bool s_r,.slice A_r n_r c_r,.slice B_r m_r d_r,.bool t_r,.slice E_r i_r e_r,.slice F_r j_r f_r]:=hf ⟨6,.data⟩ (by simp [o8_subs]) rfl _ 43 rfl rfl (NE _ (by decide))
     have f44:sv 44=Value.agg #[.bool s_p,.slice A_p n_p c_p,.slice B_p m_p d_p,.bool t_p,.slice E_p i_p e_p,.slice F_p j_p f_p]:=hf ⟨7,.data⟩ (by simp [o8_subs]) rfl _ 44 rfl rfl (NE _ (by decide))
     refine wpOp_plain' (o:=o8_subs) rfl rfl ?_
     unfold Oper.wp o8_subs
     rw [rc_gesso_pt_Sub ((G sv 43 (by decide) (by decide)).trans f43) ((G sv 44 (by decide) (by decide)).trans f44) rfl,Oper.upon_enter]
     refine (psub_p r p (by omega) (by omega) (.inl (by omega)) h1 h1).mono ?_
     rintro e w1 ⟨s_,A_,n_,c_,B_,m_,d_,t_,E_,i_,e_,F_,j_,f_,rfl,hq,hh⟩
     exact ⟨_,rfl,hh,s_,A_,n_,c_,B_,m_,d_,t_,E_,i_,e_,F_,j_,f_,rfl,hq⟩
   | 9,ho=>cases ho;cases hd;exact absurd rfl (hia (B0_subs ax ay bx by_ k) (List.Mem.head _))
   | 10,ho=>cases ho;cases hd;exact absurd rfl (hia (B1_subs cx cy dx dy k) (List.Mem.tail _ (List.Mem.head _)))
   | 11,ho=>cases ho;cases hd;exact absurd rfl (hia (B2_subs ax ay cx cy k) (List.Mem.tail _ (List.Mem.tail _ (List.Mem.head _))))
   | 12,ho=>cases ho;cases hd
   | 13,ho=>cases ho;cases hd
   | 14,ho=>cases ho;cases hd
   | i+15,ho=>cases ho
 · intro p hp os sv w' g hos J0 p1 p3 hf
   simp only [List.mem_cons,List.not_mem_nil,or_false] at hp
   rcases hp with rfl | rfl | rfl
   · obtain rfl:o12_subs=os:=Option.some.inj hos
     have h1:VPG (bx - ax) (by_ - ay) (k+k+1) (sv 39) w':=hf ⟨2,.data⟩ (by simp [o12_subs]) rfl _ 39 rfl rfl (NE _ (by decide))
     rw [← G sv 39 (by decide) (by decide)] at h1
     refine store_pg (x:=bx - ax) (y:=by_ - ay) (k:=k+k+1) (ac:=putAll ac L_subs sv) (z:=.tmp 39) ?_ ?_ ?_
     · exact (G sv 9 (by decide) (by decide)).trans p1
     · exact h1
     · exact p3
   · obtain rfl:o13_subs=os:=Option.some.inj hos
     have h1:VPG (dx - cx) (dy - cy) (k+k+1) (sv 42) w':=hf ⟨5,.data⟩ (by simp [o13_subs]) rfl _ 42 rfl rfl (NE _ (by decide))
     rw [← G sv 42 (by decide) (by decide)] at h1
     refine store_pg (x:=dx - cx) (y:=dy - cy) (k:=k+k+1) (ac:=putAll ac L_subs sv) (z:=.tmp 42) ?_ ?_ ?_
     · exact (G sv 10 (by decide) (by decide)).trans p1
     · exact h1
     · exact p3
   · obtain rfl:o14_subs=os:=Option.some.inj hos
     have h1:VPG (cx - ax) (cy - ay) (k+k+1) (sv 45) w':=hf ⟨8,.data⟩ (by simp [o14_subs]) rfl _ 45 rfl rfl (NE _ (by decide))
     rw [← G sv 45 (by decide) (by decide)] at h1
     refine store_pg (x:=cx - ax) (y:=cy - ay) (k:=k+k+1) (ac:=putAll ac L_subs sv) (z:=.tmp 45) ?_ ?_ ?_
     · exact (G sv 11 (by decide) (by decide)).trans p1
     · exact h1
     · exact p3
 · intro sv w' J0 hF hB hap
   obtain ⟨g0,cs0,p0,r0,b0,⟨s0,A0,n0,c0,B0,m0,d0,t0,E0,i0,e0,F0,j0,f0,rfl,h0⟩⟩:=hB (B0_subs ax ay bx by_ k) (List.Mem.head _)
   obtain ⟨g1,cs1,p1,r1,b1,⟨s1,A1,n1,c1,B1,m1,d1,t1,E1,i1,e1,F1,j1,f1,rfl,h1⟩⟩:=hB (B1_subs cx cy dx dy k) (List.Mem.tail _ (List.Mem.head _))
   obtain ⟨g2,cs2,p2,r2,b2,⟨s2,A2,n2,c2,B2,m2,d2,t2,E2,i2,e2,F2,j2,f2,rfl,h2⟩⟩:=hB (B2_subs ax ay cx cy k) (List.Mem.tail _ (List.Mem.tail _ (List.Mem.head _)))
   have p0':sv 9=.pointer (some ⟨g0,0,none⟩):=p0
   have p1':sv 10=.pointer (some ⟨g1,0,none⟩):=p1
   have p2':sv 11=.pointer (some ⟨g2,0,none⟩):=p2
   exact hend sv w' g0 _ _ _ _ _ _ _ _ _ _ _ _ _ _ g1 _ _ _ _ _ _ _ _ _ _ _ _ _ _ g2 _ _ _ _ _ _ _ _ _ _ _ _ _ _ h0 b0.at_ r0 p0' h1 b1.at_ r1 p1' h2 b2.at_ r2 p2' (fun q=>hap (B1_subs cx cy dx dy k) (List.Mem.tail _ (List.Mem.head _)) (B0_subs ax ay bx by_ k) (List.Mem.head _) (show (10:Nat) ≠ 9 by decide) (by rw [show (B1_subs cx cy dx dy k).tA=10 from rfl,show (B0_subs ax ay bx by_ k).tA=9 from rfl,p1',p0',q])) (fun q=>hap (B2_subs ax ay cx cy k) (List.Mem.tail _ (List.Mem.tail _ (List.Mem.head _))) (B0_subs ax ay bx by_ k) (List.Mem.head _) (show (11:Nat) ≠ 9 by decide) (by rw [show (B2_subs ax ay cx cy k).tA=11 from rfl,show (B0_subs ax ay bx by_ k).tA=9 from rfl,p2',p0',q])) (fun q=>hap (B2_subs ax ay cx cy k) (List.Mem.tail _ (List.Mem.tail _ (List.Mem.head _))) (B1_subs cx cy dx dy k) (List.Mem.tail _ (List.Mem.head _)) (show (11:Nat) ≠ 10 by decide) (by rw [show (B2_subs ax ay cx cy k).tA=11 from rfl,show (B1_subs cx cy dx dy k).tA=10 from rfl,p2',p1',q]))  J0
abbrev L_share7yes:List Nat:=[58,59,60,61,62,57,63,64,13,14]
def o0_share7yes:Oper:=⟨some 58,.load 56 (.tmp 11),56, "seg.go:31",#[],none⟩
def o1_share7yes:Oper:=⟨some 59,.load 56 (.tmp 10),56, "seg.go:31",#[],none⟩
def o2_share7yes:Oper:=⟨some 60,.call ⟨.value (.func 86),#[.tmp 58,.tmp 59],#[56,56]⟩,26, "seg.go:31",#[⟨0,.data⟩,⟨1,.data⟩],none⟩
def o3_share7yes:Oper:=⟨some 61,.load 26 (.tmp 12),26, "seg.go:31",#[],none⟩
def o4_share7yes:Oper:=⟨some 62,.call ⟨.value (.func 89),#[.tmp 60,.tmp 61],#[26,26]⟩,73, "seg.go:31",#[⟨2,.data⟩,⟨3,.data⟩,⟨2,.chain⟩],none⟩
def o5_share7yes:Oper:=⟨some 57,.move (.tmp 62),73, "seg.go:31",#[⟨4,.data⟩],none⟩
def o6_share7yes:Oper:=⟨some 63,.extract (.tmp 57) 0,26, "seg.go:31",#[⟨5,.data⟩],none⟩
def o7_share7yes:Oper:=⟨some 64,.extract (.tmp 57) 1,4, "seg.go:31",#[⟨5,.data⟩,⟨9,.gcOnly .lateStores⟩],none⟩
def o8_share7yes:Oper:=⟨some 13,.alloc 26,0, "seg.go:31",#[],none⟩
def o9_share7yes:Oper:=⟨none,.store 26 (.tmp 13) (.tmp 63),0, "seg.go:31",#[⟨8,.data⟩,⟨6,.data⟩,⟨4,.chain⟩,⟨0,.phase⟩,⟨1,.phase⟩,⟨2,.phase⟩,⟨3,.phase⟩,⟨4,.phase⟩,⟨5,.phase⟩,⟨6,.phase⟩,⟨7,.textOnly .lateStores⟩,⟨8,.phase⟩],none⟩
def o10_share7yes:Oper:=⟨some 14,.assign (.tmp 64),4, "seg.go:31",#[⟨7,.data⟩,⟨9,.chain⟩,⟨0,.phase⟩,⟨1,.phase⟩,⟨2,.phase⟩,⟨3,.phase⟩,⟨4,.phase⟩,⟨5,.phase⟩,⟨6,.phase⟩,⟨7,.phase⟩,⟨8,.phase⟩,⟨9,.phase⟩],none⟩
theorem rc_gesso_pt_Cross {e:Operand→Value} {x0 x1:Operand} {d:Option Tmp} {y:Nat} {pos:String} {af:Array Edge} {u0 u1:Value} (h0:e x0=u0) (h1:e x1=u1) (hf:e (.func 86)=.func (.func 86) #[] #[]) :
 (execOp e ⟨d,.call ⟨.value (.func 86),#[x0,x1],#[56,56]⟩,y,pos,af,none⟩).run Tryz.prog w=.ok (.enter 86 #[u0,u1]) w:=by
 go_simp
def F_share7yes (s_y:Bool) (t_y:Bool) (A_y:Option Addr) (B_y:Option Addr) (E_y:Option Addr) (F_y:Option Addr) (n_y:Nat) (c_y:Nat) (m_y:Nat) (d_y:Nat) (i_y:Nat) (e_y:Nat) (j_y:Nat) (f_y:Nat) (s_z:Bool) (t_z:Bool) (A_z:Option Addr) (B_z:Option Addr) (E_z:Option Addr) (F_z:Option Addr) (n_z:Nat) (c_z:Nat) (m_z:Nat) (d_z:Nat) (i_z:Nat) (e_z:Nat) (j_z:Nat) (f_z:Nat) (s_k:Bool) (A_k:Option Addr) (B_k:Option Addr) (n_k:Nat) (c_k:Nat) (m_k:Nat) (d_k:Nat) (yx:Rat) (yy:Rat) (zx:Rat) (zy:Rat) (kv:Rat) (ks:Nat) (kt:Nat) (sl:Nat):Value→World→Prop :=
 match sl with
 | 58=>fun x _=>x=Value.agg #[.bool s_y,.slice A_y n_y c_y,.slice B_y m_y d_y,.bool t_y,.slice E_y i_y e_y,.slice F_y j_y f_y]
 | 59=>fun x _=>x=Value.agg #[.bool s_z,.slice A_z n_z c_z,.slice B_z m_z d_z,.bool t_z,.slice E_z i_z e_z,.slice F_z j_z f_z]
 | 60=>VQ ((yx*zy - yy*zx)) ((ks+ks+(ks+ks)+1))
 | 61=>fun x _=>x=Value.agg #[.bool s_k,.slice A_k n_k c_k,.slice B_k m_k d_k]
 | 62=>VQT ((yx*zy - yy*zx) / kv) ((ks+ks+(ks+ks)+1)+kt)
 | 57=>VQT ((yx*zy - yy*zx) / kv) ((ks+ks+(ks+ks)+1)+kt)
 | 63=>VQ ((yx*zy - yy*zx) / kv) ((ks+ks+(ks+ks)+1)+kt)
 | 64=>fun x _=>x=Value.bool true
 | 14=>fun x _=>x=Value.bool true
 | _=>fun _ _=>True
def B0_share7yes (yx:Rat) (yy:Rat) (zx:Rat) (zy:Rat) (kv:Rat) (ks:Nat) (kt:Nat):BoxOp :=
 ⟨8,9,13,26,#[.bool false,.slice none 0 0,.slice none 0 0],fun cs w=>∃ s A n c B m d,cs=#[.bool s,.slice A n c,.slice B m d]∧QG w s A n c B m d ((yx*zy - yy*zx) / kv) ((ks+ks+(ks+ks)+1)+kt)⟩
theorem share7yes_region {id:Nat} {ac:Act} {Q:Exit→Act→World→Prop} {yx yy zx zy kv:Rat} {ks kt gy gz gk:Nat}
 (hsz:64 < ac.tmps.size) (e11:ac.eval (.tmp 11)=Value.pointer (some ⟨gy,0,none⟩)) (e10:ac.eval (.tmp 10)=Value.pointer (some ⟨gz,0,none⟩)) (e12:ac.eval (.tmp 12)=Value.pointer (some ⟨gk,0,none⟩)) (XY:B6 w gy (.bool s_y) (.slice A_y n_y c_y) (.slice B_y m_y d_y) (.bool t_y) (.slice E_y i_y e_y) (.slice F_y j_y f_y)) (XZ:B6 w gz (.bool s_z) (.slice A_z n_z c_z) (.slice B_z m_z d_z) (.bool t_z) (.slice E_z i_z e_z) (.slice F_z j_z f_z)) (XK:B3 w gk (.bool s_k) (.slice A_k n_k c_k) (.slice B_k m_k d_k)) (y:PR w s_y A_y n_y c_y B_y m_y d_y t_y E_y i_y e_y F_y j_y f_y yx yy ks) (z:PR w s_z A_z n_z c_z B_z m_z d_z t_z E_z i_z e_z F_z j_z f_z zx zy ks) (kk:QR w s_k A_k n_k c_k B_k m_k d_k kv kt) (hs:ks≤41) (ht:kt≤180) (h1:1≤ks) (h2:1≤kt) (hsh:shareOK (yx*zy - yy*zx) kv)
 (hend:∀ (V:Nat→Value) (w':World) (g0:Nat) (s0:Bool) (A0:Option Addr) (n0:Nat) (c0:Nat) (B0:Option Addr) (m0:Nat) (d0:Nat),QG w' s0 A0 n0 c0 B0 m0 d0 ((yx*zy - yy*zx) / kv) ((ks+ks+(ks+ks)+1)+kt)→B3 w' g0 (.bool s0) (.slice A0 n0 c0) (.slice B0 m0 d0)→w.heap.size≤g0→V 13=.pointer (some ⟨g0,0,none⟩)→V 14=Value.bool true→Below w.heap.size w w'→Q .normal (putAll ac [58,59,60,61,62,57,63,64,13,14] V) w') :
 (Code.region id #[o0_share7yes,o1_share7yes,o2_share7yes,o3_share7yes,o4_share7yes,o5_share7yes,o6_share7yes,o7_share7yes,o8_share7yes,o9_share7yes,o10_share7yes] true).wp Tryz.prog Q ac w:=by
 have hnd:L_share7yes.Nodup:=by decide
 have G:∀ (sv:Nat→Value) (t:Nat),t ∈ L_share7yes→t≤64→(putAll ac L_share7yes sv).eval (.tmp t)=sv t:=fun sv t ht h=>eval_putAll_mem (t:=t) L_share7yes ac hnd ht (Nat.lt_of_le_of_lt h hsz)
 have E11:∀ sv:Nat→Value,(putAll ac L_share7yes sv).eval (.tmp 11)=Value.pointer (some ⟨gy,0,none⟩):=fun sv=>(eval_putAll_not (v:=sv) L_share7yes ac (show 11 ∉ _ by decide)).trans e11
 have E10:∀ sv:Nat→Value,(putAll ac L_share7yes sv).eval (.tmp 10)=Value.pointer (some ⟨gz,0,none⟩):=fun sv=>(eval_putAll_not (v:=sv) L_share7yes ac (show 10 ∉ _ by decide)).trans e10
 have E12:∀ sv:Nat→Value,(putAll ac L_share7yes sv).eval (.tmp 12)=Value.pointer (some ⟨gk,0,none⟩):=fun sv=>(eval_putAll_not (v:=sv) L_share7yes ac (show 12 ∉ _ by decide)).trans e12
 have NE:∀ t:Nat,(t ≠ 13)→∀ p ∈ [B0_share7yes yx yy zx zy kv ks kt],t ≠ p.tA:=by
  intro t ht p hp
  simp only [List.mem_cons,List.not_mem_nil,or_false] at hp
  rcases hp with rfl
  · exact ht
 refine wp_region_flows L_share7yes [B0_share7yes yx yy zx zy kv ks kt] (F_share7yes s_y t_y A_y B_y E_y F_y n_y c_y m_y d_y i_y e_y j_y f_y s_z t_z A_z B_z E_z F_z n_z c_z m_z d_z i_z e_z j_z f_z s_k A_k B_k n_k c_k m_k d_k yx yy zx zy kv ks kt) (by kernel_rfl) (by kernel_rfl) rfl hnd ?_ ?_ ?_ ?_ ?_ ?_ ?_ ?_
 · intro p hp
   simp only [List.mem_cons,List.not_mem_nil,or_false] at hp
   rcases hp with rfl
   · refine ⟨⟨o8_share7yes,rfl,rfl,rfl,fun e w'=>run_allocQ⟩,⟨o9_share7yes,rfl,rfl,rfl,⟨8,.data⟩,by simp [o9_share7yes],rfl,rfl⟩,free3 _ _ _ _ _ _ _,?_,?_⟩
     · rintro cs w1 w2 ⟨s_,A_,n_,c_,B_,m_,d_,rfl,h⟩ hb;exact ⟨s_,A_,n_,c_,B_,m_,d_,rfl,h.below hb⟩
     · rintro T cs w1 w2 g c0 ⟨s_,A_,n_,c_,B_,m_,d_,rfl,h⟩ hB ho;exact ⟨s_,A_,n_,c_,B_,m_,d_,rfl,h.box hB ho⟩
 · intro p hp q hq h
   simp only [List.mem_cons,List.not_mem_nil,or_false] at hp hq
   rcases hp with rfl <;> rcases hq with rfl
   · rfl
 · intro p hp q hq h
   simp only [List.mem_cons,List.not_mem_nil,or_false] at hp hq
   rcases hp with rfl <;> rcases hq with rfl
   · rfl
 · intro i o h1 h2
   match i,h1 with
   | 0,h1=>cases h1;cases h2
   | 1,h1=>cases h1;cases h2
   | 2,h1=>cases h1;cases h2
   | 3,h1=>cases h1;cases h2
   | 4,h1=>cases h1;cases h2
   | 5,h1=>cases h1;cases h2
   | 6,h1=>cases h1;cases h2
   | 7,h1=>cases h1;cases h2
   | 8,h1=>cases h1;cases h2
   | 9,h1=>exact ⟨B0_share7yes yx yy zx zy kv ks kt,List.Mem.head _,rfl⟩
   | 10,h1=>cases h1;cases h2
   | i+11,h1=>cases h1
 · intro t
   unfold F_share7yes
   split <;> first | exact stays_eq _ | exact stays_q _ _ | exact stays_z _ _ | exact stays_r _ _ | exact stays_rq _ _ | exact stays_pg _ _ _ | exact stays_qt _ _ | exact stays_true
 · intro i o t sv w' ho hia hd J0 hf
   have y:=y.below J0;have z:=z.below J0;have kk:=kk.below J0;have XY:=XY.below J0;have XZ:=XZ.below J0;have XK:=XK.below J0
   match i,ho with
   | 0,ho =>
     obtain rfl:o0_share7yes=o:=Option.some.inj ho
     cases hd
     refine wpOp_plain' (o:=o0_share7yes) rfl rfl ?_
     unfold Oper.wp o0_share7yes
     rw [run_load6 (E11 sv) XY.c0 XY.c1 XY.c2 XY.c3 XY.c4 XY.c5,Oper.upon_value]
     exact ⟨_,rfl,Below.refl _ _,rfl⟩
   | 1,ho =>
     obtain rfl:o1_share7yes=o:=Option.some.inj ho
     cases hd
     refine wpOp_plain' (o:=o1_share7yes) rfl rfl ?_
     unfold Oper.wp o1_share7yes
     rw [run_load6 (E10 sv) XZ.c0 XZ.c1 XZ.c2 XZ.c3 XZ.c4 XZ.c5,Oper.upon_value]
     exact ⟨_,rfl,Below.refl _ _,rfl⟩
   | 2,ho =>
     obtain rfl:o2_share7yes=o:=Option.some.inj ho
     cases hd
     have f58:sv 58=Value.agg #[.bool s_y,.slice A_y n_y c_y,.slice B_y m_y d_y,.bool t_y,.slice E_y i_y e_y,.slice F_y j_y f_y]:=hf ⟨0,.data⟩ (by simp [o2_share7yes]) rfl _ 58 rfl rfl (NE _ (by decide))
     have f59:sv 59=Value.agg #[.bool s_z,.slice A_z n_z c_z,.slice B_z m_z d_z,.bool t_z,.slice E_z i_z e_z,.slice F_z j_z f_z]:=hf ⟨1,.data⟩ (by simp [o2_share7yes]) rfl _ 59 rfl rfl (NE _ (by decide))
     refine wpOp_plain' (o:=o2_share7yes) rfl rfl ?_
     unfold Oper.wp o2_share7yes
     rw [rc_gesso_pt_Cross ((G sv 58 (by decide) (by decide)).trans f58) ((G sv 59 (by decide) (by decide)).trans f59) rfl,Oper.upon_enter]
     refine (pcross_p y z (by omega) h1 h1).mono ?_
     rintro e w1 ⟨s_,A_,n_,c_,B_,m_,d_,rfl,hq,hh⟩
     exact ⟨_,rfl,hh,s_,A_,n_,c_,B_,m_,d_,rfl,hq⟩
   | 3,ho =>
     obtain rfl:o3_share7yes=o:=Option.some.inj ho
     cases hd
     refine wpOp_plain' (o:=o3_share7yes) rfl rfl ?_
     unfold Oper.wp o3_share7yes
     rw [run_loadQ (E12 sv) XK.c0 XK.c1 XK.c2,Oper.upon_value]
     exact ⟨_,rfl,Below.refl _ _,rfl⟩
   | 4,ho =>
     obtain rfl:o4_share7yes=o:=Option.some.inj ho
     cases hd
     have h60:VQ ((yx*zy - yy*zx)) ((ks+ks+(ks+ks)+1)) (sv 60) w':=hf ⟨2,.data⟩ (by simp [o4_share7yes]) rfl _ 60 rfl rfl (NE _ (by decide))
     obtain ⟨s60_,A60_,n60_,c60_,B60_,m60_,d60_,f60,q60⟩:=h60
     have f61:sv 61=Value.agg #[.bool s_k,.slice A_k n_k c_k,.slice B_k m_k d_k]:=hf ⟨3,.data⟩ (by simp [o4_share7yes]) rfl _ 61 rfl rfl (NE _ (by decide))
     refine wpOp_plain' (o:=o4_share7yes) rfl rfl ?_
     unfold Oper.wp o4_share7yes
     rw [rc_gesso_seg_share ((G sv 60 (by decide) (by decide)).trans f60) ((G sv 61 (by decide) (by decide)).trans f61) rfl,Oper.upon_enter]
     refine (share_yes q60.qr kk (by omega) ht (by omega) h2 hsh).mono ?_
     rintro e w1 ⟨s_,A_,n_,c_,B_,m_,d_,rfl,hq,hh⟩
     exact ⟨_,rfl,hh,s_,A_,n_,c_,B_,m_,d_,rfl,hq⟩
   | 5,ho =>
     obtain rfl:o5_share7yes=o:=Option.some.inj ho
     cases hd
     have f:=hf ⟨4,.data⟩ (by simp [o5_share7yes]) rfl _ 62 rfl rfl (NE _ (by decide))
     refine wpOp_plain' (o:=o5_share7yes) rfl rfl ?_
     unfold Oper.wp o5_share7yes
     rw [run_move (G sv 62 (by decide) (by decide)),Oper.upon_value]
     exact ⟨_,rfl,Below.refl _ _,f⟩
   | 6,ho =>
     obtain rfl:o6_share7yes=o:=Option.some.inj ho
     cases hd
     have h57:VQT ((yx*zy - yy*zx) / kv) ((ks+ks+(ks+ks)+1)+kt) (sv 57) w':=hf ⟨5,.data⟩ (by simp [o6_share7yes]) rfl _ 57 rfl rfl (NE _ (by decide))
     obtain ⟨s57_,A57_,n57_,c57_,B57_,m57_,d57_,f57,q57⟩:=h57
     refine wpOp_plain' (o:=o6_share7yes) rfl rfl ?_
     unfold Oper.wp o6_share7yes
     rw [run_ext0 ((G sv 57 (by decide) (by decide)).trans f57),Oper.upon_value]
     exact ⟨_,rfl,Below.refl _ _,s57_,A57_,n57_,c57_,B57_,m57_,d57_,rfl,q57⟩
   | 7,ho =>
     obtain rfl:o7_share7yes=o:=Option.some.inj ho
     cases hd
     have h57:VQT ((yx*zy - yy*zx) / kv) ((ks+ks+(ks+ks)+1)+kt) (sv 57) w':=hf ⟨5,.data⟩ (by simp [o7_share7yes]) rfl _ 57 rfl rfl (NE _ (by decide))
     obtain ⟨s57_,A57_,n57_,c57_,B57_,m57_,d57_,f57,q57⟩:=h57
     refine wpOp_plain' (o:=o7_share7yes) rfl rfl ?_
     unfold Oper.wp o7_share7yes
     rw [run_ext1 ((G sv 57 (by decide) (by decide)).trans f57),Oper.upon_value]
     exact ⟨_,rfl,Below.refl _ _,rfl⟩
   | 8,ho=>cases ho;cases hd;exact absurd rfl (hia (B0_share7yes yx yy zx zy kv ks kt) (List.Mem.head _))
   | 9,ho=>cases ho;cases hd
   | 10,ho =>
     obtain rfl:o10_share7yes=o:=Option.some.inj ho
     cases hd
     have f:=hf ⟨7,.data⟩ (by simp [o10_share7yes]) rfl _ 64 rfl rfl (NE _ (by decide))
     refine wpOp_plain' (o:=o10_share7yes) rfl rfl ?_
     unfold Oper.wp o10_share7yes
     rw [run_assign (G sv 64 (by decide) (by decide)),Oper.upon_value]
     exact ⟨_,rfl,Below.refl _ _,f⟩
   | i+11,ho=>cases ho
 · intro p hp os sv w' g hos J0 p1 p3 hf
   simp only [List.mem_cons,List.not_mem_nil,or_false] at hp
   rcases hp with rfl
   · obtain rfl:o9_share7yes=os:=Option.some.inj hos
     have h1:VQ ((yx*zy - yy*zx) / kv) ((ks+ks+(ks+ks)+1)+kt) (sv 63) w':=hf ⟨6,.data⟩ (by simp [o9_share7yes]) rfl _ 63 rfl rfl (NE _ (by decide))
     rw [← G sv 63 (by decide) (by decide)] at h1
     refine store_q (V:=(yx*zy - yy*zx) / kv) (k:=(ks+ks+(ks+ks)+1)+kt) (ac:=putAll ac L_share7yes sv) (z:=.tmp 63) ?_ ?_ ?_
     · exact (G sv 13 (by decide) (by decide)).trans p1
     · exact h1
     · exact p3
 · intro sv w' J0 hF hB hap
   obtain ⟨g0,cs0,p0,r0,b0,⟨s0,A0,n0,c0,B0,m0,d0,rfl,h0⟩⟩:=hB (B0_share7yes yx yy zx zy kv ks kt) (List.Mem.head _)
   have p0':sv 13=.pointer (some ⟨g0,0,none⟩):=p0
   exact hend sv w' g0 _ _ _ _ _ _ _ h0 b0.at_ r0 p0' (hF 10 _ 14 rfl rfl (NE _ (by decide))) J0
def F_share7no (s_y:Bool) (t_y:Bool) (A_y:Option Addr) (B_y:Option Addr) (E_y:Option Addr) (F_y:Option Addr) (n_y:Nat) (c_y:Nat) (m_y:Nat) (d_y:Nat) (i_y:Nat) (e_y:Nat) (j_y:Nat) (f_y:Nat) (s_z:Bool) (t_z:Bool) (A_z:Option Addr) (B_z:Option Addr) (E_z:Option Addr) (F_z:Option Addr) (n_z:Nat) (c_z:Nat) (m_z:Nat) (d_z:Nat) (i_z:Nat) (e_z:Nat) (j_z:Nat) (f_z:Nat) (s_k:Bool) (A_k:Option Addr) (B_k:Option Addr) (n_k:Nat) (c_k:Nat) (m_k:Nat) (d_k:Nat) (yx:Rat) (yy:Rat) (zx:Rat) (zy:Rat) (ks:Nat) (sl:Nat):Value→World→Prop :=
 match sl with
 | 58=>fun x _=>x=Value.agg #[.bool s_y,.slice A_y n_y c_y,.slice B_y m_y d_y,.bool t_y,.slice E_y i_y e_y,.slice F_y j_y f_y]
 | 59=>fun x _=>x=Value.agg #[.bool s_z,.slice A_z n_z c_z,.slice B_z m_z d_z,.bool t_z,.slice E_z i_z e_z,.slice F_z j_z f_z]
 | 60=>VQ ((yx*zy - yy*zx)) ((ks+ks+(ks+ks)+1))
 | 61=>fun x _=>x=Value.agg #[.bool s_k,.slice A_k n_k c_k,.slice B_k m_k d_k]
 | 62=>fun x _=>x=Value.tuple #[.agg #[.bool false,.slice none 0 0,.slice none 0 0],.bool false]
 | 57=>fun x _=>x=Value.tuple #[.agg #[.bool false,.slice none 0 0,.slice none 0 0],.bool false]
 | 63=>VK (#[.bool false,.slice none 0 0,.slice none 0 0])
 | 64=>fun x _=>x=Value.bool false
 | 14=>fun x _=>x=Value.bool false
 | _=>fun _ _=>True
def B0_share7no :BoxOp :=
 ⟨8,9,13,26,#[.bool false,.slice none 0 0,.slice none 0 0],fun cs _=>cs=#[.bool false,.slice none 0 0,.slice none 0 0]⟩
theorem share7no_region {id:Nat} {ac:Act} {Q:Exit→Act→World→Prop} {yx yy zx zy kv:Rat} {ks kt gy gz gk:Nat}
 (hsz:64 < ac.tmps.size) (e11:ac.eval (.tmp 11)=Value.pointer (some ⟨gy,0,none⟩)) (e10:ac.eval (.tmp 10)=Value.pointer (some ⟨gz,0,none⟩)) (e12:ac.eval (.tmp 12)=Value.pointer (some ⟨gk,0,none⟩)) (XY:B6 w gy (.bool s_y) (.slice A_y n_y c_y) (.slice B_y m_y d_y) (.bool t_y) (.slice E_y i_y e_y) (.slice F_y j_y f_y)) (XZ:B6 w gz (.bool s_z) (.slice A_z n_z c_z) (.slice B_z m_z d_z) (.bool t_z) (.slice E_z i_z e_z) (.slice F_z j_z f_z)) (XK:B3 w gk (.bool s_k) (.slice A_k n_k c_k) (.slice B_k m_k d_k)) (y:PR w s_y A_y n_y c_y B_y m_y d_y t_y E_y i_y e_y F_y j_y f_y yx yy ks) (z:PR w s_z A_z n_z c_z B_z m_z d_z t_z E_z i_z e_z F_z j_z f_z zx zy ks) (kk:QR w s_k A_k n_k c_k B_k m_k d_k kv kt) (hs:ks≤41) (ht:kt≤180) (h1:1≤ks) (h2:1≤kt) (hsh:¬ shareOK (yx*zy - yy*zx) kv)
 (hend:∀ (V:Nat→Value) (w':World) (g0:Nat),B3 w' g0 (.bool false) (.slice none 0 0) (.slice none 0 0)→w.heap.size≤g0→V 13=.pointer (some ⟨g0,0,none⟩)→V 14=Value.bool false→Below w.heap.size w w'→Q .normal (putAll ac [58,59,60,61,62,57,63,64,13,14] V) w') :
 (Code.region id #[o0_share7yes,o1_share7yes,o2_share7yes,o3_share7yes,o4_share7yes,o5_share7yes,o6_share7yes,o7_share7yes,o8_share7yes,o9_share7yes,o10_share7yes] true).wp Tryz.prog Q ac w:=by
 have hnd:L_share7yes.Nodup:=by decide
 have G:∀ (sv:Nat→Value) (t:Nat),t ∈ L_share7yes→t≤64→(putAll ac L_share7yes sv).eval (.tmp t)=sv t:=fun sv t ht h=>eval_putAll_mem (t:=t) L_share7yes ac hnd ht (Nat.lt_of_le_of_lt h hsz)
 have E11:∀ sv:Nat→Value,(putAll ac L_share7yes sv).eval (.tmp 11)=Value.pointer (some ⟨gy,0,none⟩):=fun sv=>(eval_putAll_not (v:=sv) L_share7yes ac (show 11 ∉ _ by decide)).trans e11
 have E10:∀ sv:Nat→Value,(putAll ac L_share7yes sv).eval (.tmp 10)=Value.pointer (some ⟨gz,0,none⟩):=fun sv=>(eval_putAll_not (v:=sv) L_share7yes ac (show 10 ∉ _ by decide)).trans e10
 have E12:∀ sv:Nat→Value,(putAll ac L_share7yes sv).eval (.tmp 12)=Value.pointer (some ⟨gk,0,none⟩):=fun sv=>(eval_putAll_not (v:=sv) L_share7yes ac (show 12 ∉ _ by decide)).trans e12
 have NE:∀ t:Nat,(t ≠ 13)→∀ p ∈ [B0_share7no],t ≠ p.tA:=by
  intro t ht p hp
  simp only [List.mem_cons,List.not_mem_nil,or_false] at hp
  rcases hp with rfl
  · exact ht
 refine wp_region_flows L_share7yes [B0_share7no] (F_share7no s_y t_y A_y B_y E_y F_y n_y c_y m_y d_y i_y e_y j_y f_y s_z t_z A_z B_z E_z F_z n_z c_z m_z d_z i_z e_z j_z f_z s_k A_k B_k n_k c_k m_k d_k yx yy zx zy ks) (by kernel_rfl) (by kernel_rfl) rfl hnd ?_ ?_ ?_ ?_ ?_ ?_ ?_ ?_
 · intro p hp
   simp only [List.mem_cons,List.not_mem_nil,or_false] at hp
   rcases hp with rfl
   · refine ⟨⟨o8_share7yes,rfl,rfl,rfl,fun e w'=>run_allocQ⟩,⟨o9_share7yes,rfl,rfl,rfl,⟨8,.data⟩,by simp [o9_share7yes],rfl,rfl⟩,free3 _ _ _ _ _ _ _,?_,?_⟩
     · rintro cs w1 w2 rfl hb;rfl
     · rintro T cs w1 w2 g c0 rfl hB ho;rfl
 · intro p hp q hq h
   simp only [List.mem_cons,List.not_mem_nil,or_false] at hp hq
   rcases hp with rfl <;> rcases hq with rfl
   · rfl
 · intro p hp q hq h
   simp only [List.mem_cons,List.not_mem_nil,or_false] at hp hq
   rcases hp with rfl <;> rcases hq with rfl
   · rfl
 · intro i o h1 h2
   match i,h1 with
   | 0,h1=>cases h1;cases h2
   | 1,h1=>cases h1;cases h2
   | 2,h1=>cases h1;cases h2
   | 3,h1=>cases h1;cases h2
   | 4,h1=>cases h1;cases h2
   | 5,h1=>cases h1;cases h2
   | 6,h1=>cases h1;cases h2
   | 7,h1=>cases h1;cases h2
   | 8,h1=>cases h1;cases h2
   | 9,h1=>exact ⟨B0_share7no,List.Mem.head _,rfl⟩
   | 10,h1=>cases h1;cases h2
   | i+11,h1=>cases h1
 · intro t
   unfold F_share7no
   split <;> first | exact stays_eq _ | exact stays_q _ _ | exact stays_z _ _ | exact stays_r _ _ | exact stays_rq _ _ | exact stays_pg _ _ _ | exact stays_k _ | exact stays_true
 · intro i o t sv w' ho hia hd J0 hf
   have y:=y.below J0;have z:=z.below J0;have kk:=kk.below J0;have XY:=XY.below J0;have XZ:=XZ.below J0;have XK:=XK.below J0
   match i,ho with
   | 0,ho =>
     obtain rfl:o0_share7yes=o:=Option.some.inj ho
     cases hd
     refine wpOp_plain' (o:=o0_share7yes) rfl rfl ?_
     unfold Oper.wp o0_share7yes
     rw [run_load6 (E11 sv) XY.c0 XY.c1 XY.c2 XY.c3 XY.c4 XY.c5,Oper.upon_value]
     exact ⟨_,rfl,Below.refl _ _,rfl⟩
   | 1,ho =>
     obtain rfl:o1_share7yes=o:=Option.some.inj ho
     cases hd
     refine wpOp_plain' (o:=o1_share7yes) rfl rfl ?_
     unfold Oper.wp o1_share7yes
     rw [run_load6 (E10 sv) XZ.c0 XZ.c1 XZ.c2 XZ.c3 XZ.c4 XZ.c5,Oper.upon_value]
     exact ⟨_,rfl,Below.refl _ _,rfl⟩
   | 2,ho =>
     obtain rfl:o2_share7yes=o:=Option.some.inj ho
     cases hd
     have f58:sv 58=Value.agg #[.bool s_y,.slice A_y n_y c_y,.slice B_y m_y d_y,.bool t_y,.slice E_y i_y e_y,.slice F_y j_y f_y]:=hf ⟨0,.data⟩ (by simp [o2_share7yes]) rfl _ 58 rfl rfl (NE _ (by decide))
     have f59:sv 59=Value.agg #[.bool s_z,.slice A_z n_z c_z,.slice B_z m_z d_z,.bool t_z,.slice E_z i_z e_z,.slice F_z j_z f_z]:=hf ⟨1,.data⟩ (by simp [o2_share7yes]) rfl _ 59 rfl rfl (NE _ (by decide))
     refine wpOp_plain' (o:=o2_share7yes) rfl rfl ?_
     unfold Oper.wp o2_share7yes
     rw [rc_gesso_pt_Cross ((G sv 58 (by decide) (by decide)).trans f58) ((G sv 59 (by decide) (by decide)).trans f59) rfl,Oper.upon_enter]
     refine (pcross_p y z (by omega) h1 h1).mono ?_
     rintro e w1 ⟨s_,A_,n_,c_,B_,m_,d_,rfl,hq,hh⟩
     exact ⟨_,rfl,hh,s_,A_,n_,c_,B_,m_,d_,rfl,hq⟩
   | 3,ho =>
     obtain rfl:o3_share7yes=o:=Option.some.inj ho
     cases hd
     refine wpOp_plain' (o:=o3_share7yes) rfl rfl ?_
     unfold Oper.wp o3_share7yes
     rw [run_loadQ (E12 sv) XK.c0 XK.c1 XK.c2,Oper.upon_value]
     exact ⟨_,rfl,Below.refl _ _,rfl⟩
   | 4,ho =>
     obtain rfl:o4_share7yes=o:=Option.some.inj ho
     cases hd
     have h60:VQ ((yx*zy - yy*zx)) ((ks+ks+(ks+ks)+1)) (sv 60) w':=hf ⟨2,.data⟩ (by simp [o4_share7yes]) rfl _ 60 rfl rfl (NE _ (by decide))
     obtain ⟨s60_,A60_,n60_,c60_,B60_,m60_,d60_,f60,q60⟩:=h60
     have f61:sv 61=Value.agg #[.bool s_k,.slice A_k n_k c_k,.slice B_k m_k d_k]:=hf ⟨3,.data⟩ (by simp [o4_share7yes]) rfl _ 61 rfl rfl (NE _ (by decide))
     refine wpOp_plain' (o:=o4_share7yes) rfl rfl ?_
     unfold Oper.wp o4_share7yes
     rw [rc_gesso_seg_share ((G sv 60 (by decide) (by decide)).trans f60) ((G sv 61 (by decide) (by decide)).trans f61) rfl,Oper.upon_enter]
     refine (share_no q60.qr kk (by omega) ht (by omega) h2 hsh).mono ?_
     rintro e w1 ⟨rfl,hh⟩
     exact ⟨_,rfl,hh,rfl⟩
   | 5,ho =>
     obtain rfl:o5_share7yes=o:=Option.some.inj ho
     cases hd
     have f:=hf ⟨4,.data⟩ (by simp [o5_share7yes]) rfl _ 62 rfl rfl (NE _ (by decide))
     refine wpOp_plain' (o:=o5_share7yes) rfl rfl ?_
     unfold Oper.wp o5_share7yes
     rw [run_move (G sv 62 (by decide) (by decide)),Oper.upon_value]
     exact ⟨_,rfl,Below.refl _ _,f⟩
   | 6,ho =>
     obtain rfl:o6_share7yes=o:=Option.some.inj ho
     cases hd
     have f57:sv 57=Value.tuple #[.agg #[.bool false,.slice none 0 0,.slice none 0 0],.bool false]:=hf ⟨5,.data⟩ (by simp [o6_share7yes]) rfl _ 57 rfl rfl (NE _ (by decide))
     refine wpOp_plain' (o:=o6_share7yes) rfl rfl ?_
     unfold Oper.wp o6_share7yes
     rw [run_ext0 ((G sv 57 (by decide) (by decide)).trans f57),Oper.upon_value]
     exact ⟨_,rfl,Below.refl _ _,rfl⟩
   | 7,ho =>
     obtain rfl:o7_share7yes=o:=Option.some.inj ho
     cases hd
     have f57:sv 57=Value.tuple #[.agg #[.bool false,.slice none 0 0,.slice none 0 0],.bool false]:=hf ⟨5,.data⟩ (by simp [o7_share7yes]) rfl _ 57 rfl rfl (NE _ (by decide))
     refine wpOp_plain' (o:=o7_share7yes) rfl rfl ?_
     unfold Oper.wp o7_share7yes
     rw [run_ext1 ((G sv 57 (by decide) (by decide)).trans f57),Oper.upon_value]
     exact ⟨_,rfl,Below.refl _ _,rfl⟩
   | 8,ho=>cases ho;cases hd;exact absurd rfl (hia (B0_share7no) (List.Mem.head _))
   | 9,ho=>cases ho;cases hd
   | 10,ho =>
     obtain rfl:o10_share7yes=o:=Option.some.inj ho
     cases hd
     have f:=hf ⟨7,.data⟩ (by simp [o10_share7yes]) rfl _ 64 rfl rfl (NE _ (by decide))
     refine wpOp_plain' (o:=o10_share7yes) rfl rfl ?_
     unfold Oper.wp o10_share7yes
     rw [run_assign (G sv 64 (by decide) (by decide)),Oper.upon_value]
     exact ⟨_,rfl,Below.refl _ _,f⟩
   | i+11,ho=>cases ho
 · intro p hp os sv w' g hos J0 p1 p3 hf
   simp only [List.mem_cons,List.not_mem_nil,or_false] at hp
   rcases hp with rfl
   · obtain rfl:o9_share7yes=os:=Option.some.inj hos
     have h1:VK (#[.bool false,.slice none 0 0,.slice none 0 0]) (sv 63) w':=hf ⟨6,.data⟩ (by simp [o9_share7yes]) rfl _ 63 rfl rfl (NE _ (by decide))
     rw [← G sv 63 (by decide) (by decide)] at h1
     refine store_kq  (ac:=putAll ac L_share7yes sv) (z:=.tmp 63) ?_ ?_ ?_
     · exact (G sv 13 (by decide) (by decide)).trans p1
     · exact h1
     · exact p3
 · intro sv w' J0 hF hB hap
   obtain ⟨g0,cs0,p0,r0,b0,rfl⟩:=hB (B0_share7no) (List.Mem.head _)
   have p0':sv 13=.pointer (some ⟨g0,0,none⟩):=p0
   exact hend sv w' g0 b0.at_ r0 p0' (hF 10 _ 14 rfl rfl (NE _ (by decide))) J0
abbrev L_share8yes:List Nat:=[66,67,68,69,70,65,71,72,15,16]
def o0_share8yes:Oper:=⟨some 66,.load 56 (.tmp 11),56, "seg.go:32",#[],none⟩
def o1_share8yes:Oper:=⟨some 67,.load 56 (.tmp 9),56, "seg.go:32",#[],none⟩
def o2_share8yes:Oper:=⟨some 68,.call ⟨.value (.func 86),#[.tmp 66,.tmp 67],#[56,56]⟩,26, "seg.go:32",#[⟨0,.data⟩,⟨1,.data⟩],none⟩
def o3_share8yes:Oper:=⟨some 69,.load 26 (.tmp 12),26, "seg.go:32",#[],none⟩
def o4_share8yes:Oper:=⟨some 70,.call ⟨.value (.func 89),#[.tmp 68,.tmp 69],#[26,26]⟩,73, "seg.go:32",#[⟨2,.data⟩,⟨3,.data⟩,⟨2,.chain⟩],none⟩
def o5_share8yes:Oper:=⟨some 65,.move (.tmp 70),73, "seg.go:32",#[⟨4,.data⟩],none⟩
def o6_share8yes:Oper:=⟨some 71,.extract (.tmp 65) 0,26, "seg.go:32",#[⟨5,.data⟩],none⟩
def o7_share8yes:Oper:=⟨some 72,.extract (.tmp 65) 1,4, "seg.go:32",#[⟨5,.data⟩,⟨9,.gcOnly .lateStores⟩],none⟩
def o8_share8yes:Oper:=⟨some 15,.alloc 26,0, "seg.go:32",#[],none⟩
def o9_share8yes:Oper:=⟨none,.store 26 (.tmp 15) (.tmp 71),0, "seg.go:32",#[⟨8,.data⟩,⟨6,.data⟩,⟨4,.chain⟩,⟨0,.phase⟩,⟨1,.phase⟩,⟨2,.phase⟩,⟨3,.phase⟩,⟨4,.phase⟩,⟨5,.phase⟩,⟨6,.phase⟩,⟨7,.textOnly .lateStores⟩,⟨8,.phase⟩],none⟩
def o10_share8yes:Oper:=⟨some 16,.assign (.tmp 72),4, "seg.go:32",#[⟨7,.data⟩,⟨9,.chain⟩,⟨0,.phase⟩,⟨1,.phase⟩,⟨2,.phase⟩,⟨3,.phase⟩,⟨4,.phase⟩,⟨5,.phase⟩,⟨6,.phase⟩,⟨7,.phase⟩,⟨8,.phase⟩,⟨9,.phase⟩],none⟩
def F_share8yes (s_y:Bool) (t_y:Bool) (A_y:Option Addr) (B_y:Option Addr) (E_y:Option Addr) (F_y:Option Addr) (n_y:Nat) (c_y:Nat) (m_y:Nat) (d_y:Nat) (i_y:Nat) (e_y:Nat) (j_y:Nat) (f_y:Nat) (s_z:Bool) (t_z:Bool) (A_z:Option Addr) (B_z:Option Addr) (E_z:Option Addr) (F_z:Option Addr) (n_z:Nat) (c_z:Nat) (m_z:Nat) (d_z:Nat) (i_z:Nat) (e_z:Nat) (j_z:Nat) (f_z:Nat) (s_k:Bool) (A_k:Option Addr) (B_k:Option Addr) (n_k:Nat) (c_k:Nat) (m_k:Nat) (d_k:Nat) (yx:Rat) (yy:Rat) (zx:Rat) (zy:Rat) (kv:Rat) (ks:Nat) (kt:Nat) (sl:Nat):Value→World→Prop :=
 match sl with
 | 66=>fun x _=>x=Value.agg #[.bool s_y,.slice A_y n_y c_y,.slice B_y m_y d_y,.bool t_y,.slice E_y i_y e_y,.slice F_y j_y f_y]
 | 67=>fun x _=>x=Value.agg #[.bool s_z,.slice A_z n_z c_z,.slice B_z m_z d_z,.bool t_z,.slice E_z i_z e_z,.slice F_z j_z f_z]
 | 68=>VQ ((yx*zy - yy*zx)) ((ks+ks+(ks+ks)+1))
 | 69=>fun x _=>x=Value.agg #[.bool s_k,.slice A_k n_k c_k,.slice B_k m_k d_k]
 | 70=>VQT ((yx*zy - yy*zx) / kv) ((ks+ks+(ks+ks)+1)+kt)
 | 65=>VQT ((yx*zy - yy*zx) / kv) ((ks+ks+(ks+ks)+1)+kt)
 | 71=>VQ ((yx*zy - yy*zx) / kv) ((ks+ks+(ks+ks)+1)+kt)
 | 72=>fun x _=>x=Value.bool true
 | 16=>fun x _=>x=Value.bool true
 | _=>fun _ _=>True
def B0_share8yes (yx:Rat) (yy:Rat) (zx:Rat) (zy:Rat) (kv:Rat) (ks:Nat) (kt:Nat):BoxOp :=
 ⟨8,9,15,26,#[.bool false,.slice none 0 0,.slice none 0 0],fun cs w=>∃ s A n c B m d,cs=#[.bool s,.slice A n c,.slice B m d]∧QG w s A n c B m d ((yx*zy - yy*zx) / kv) ((ks+ks+(ks+ks)+1)+kt)⟩
theorem share8yes_region {id:Nat} {ac:Act} {Q:Exit→Act→World→Prop} {yx yy zx zy kv:Rat} {ks kt gy gz gk:Nat}
 (hsz:72 < ac.tmps.size) (e11:ac.eval (.tmp 11)=Value.pointer (some ⟨gy,0,none⟩)) (e9:ac.eval (.tmp 9)=Value.pointer (some ⟨gz,0,none⟩)) (e12:ac.eval (.tmp 12)=Value.pointer (some ⟨gk,0,none⟩)) (XY:B6 w gy (.bool s_y) (.slice A_y n_y c_y) (.slice B_y m_y d_y) (.bool t_y) (.slice E_y i_y e_y) (.slice F_y j_y f_y)) (XZ:B6 w gz (.bool s_z) (.slice A_z n_z c_z) (.slice B_z m_z d_z) (.bool t_z) (.slice E_z i_z e_z) (.slice F_z j_z f_z)) (XK:B3 w gk (.bool s_k) (.slice A_k n_k c_k) (.slice B_k m_k d_k)) (y:PR w s_y A_y n_y c_y B_y m_y d_y t_y E_y i_y e_y F_y j_y f_y yx yy ks) (z:PR w s_z A_z n_z c_z B_z m_z d_z t_z E_z i_z e_z F_z j_z f_z zx zy ks) (kk:QR w s_k A_k n_k c_k B_k m_k d_k kv kt) (hs:ks≤41) (ht:kt≤180) (h1:1≤ks) (h2:1≤kt) (hsh:shareOK (yx*zy - yy*zx) kv)
 (hend:∀ (V:Nat→Value) (w':World) (g0:Nat) (s0:Bool) (A0:Option Addr) (n0:Nat) (c0:Nat) (B0:Option Addr) (m0:Nat) (d0:Nat),QG w' s0 A0 n0 c0 B0 m0 d0 ((yx*zy - yy*zx) / kv) ((ks+ks+(ks+ks)+1)+kt)→B3 w' g0 (.bool s0) (.slice A0 n0 c0) (.slice B0 m0 d0)→w.heap.size≤g0→V 15=.pointer (some ⟨g0,0,none⟩)→V 16=Value.bool true→Below w.heap.size w w'→Q .normal (putAll ac [66,67,68,69,70,65,71,72,15,16] V) w') :
 (Code.region id #[o0_share8yes,o1_share8yes,o2_share8yes,o3_share8yes,o4_share8yes,o5_share8yes,o6_share8yes,o7_share8yes,o8_share8yes,o9_share8yes,o10_share8yes] true).wp Tryz.prog Q ac w:=by
 have hnd:L_share8yes.Nodup:=by decide
 have G:∀ (sv:Nat→Value) (t:Nat),t ∈ L_share8yes→t≤72→(putAll ac L_share8yes sv).eval (.tmp t)=sv t:=fun sv t ht h=>eval_putAll_mem (t:=t) L_share8yes ac hnd ht (Nat.lt_of_le_of_lt h hsz)
 have E11:∀ sv:Nat→Value,(putAll ac L_share8yes sv).eval (.tmp 11)=Value.pointer (some ⟨gy,0,none⟩):=fun sv=>(eval_putAll_not (v:=sv) L_share8yes ac (show 11 ∉ _ by decide)).trans e11
 have E9:∀ sv:Nat→Value,(putAll ac L_share8yes sv).eval (.tmp 9)=Value.pointer (some ⟨gz,0,none⟩):=fun sv=>(eval_putAll_not (v:=sv) L_share8yes ac (show 9 ∉ _ by decide)).trans e9
 have E12:∀ sv:Nat→Value,(putAll ac L_share8yes sv).eval (.tmp 12)=Value.pointer (some ⟨gk,0,none⟩):=fun sv=>(eval_putAll_not (v:=sv) L_share8yes ac (show 12 ∉ _ by decide)).trans e12
 have NE:∀ t:Nat,(t ≠ 15)→∀ p ∈ [B0_share8yes yx yy zx zy kv ks kt],t ≠ p.tA:=by
  intro t ht p hp
  simp only [List.mem_cons,List.not_mem_nil,or_false] at hp
  rcases hp with rfl
  · exact ht
 refine wp_region_flows L_share8yes [B0_share8yes yx yy zx zy kv ks kt] (F_share8yes s_y t_y A_y B_y E_y F_y n_y c_y m_y d_y i_y e_y j_y f_y s_z t_z A_z B_z E_z F_z n_z c_z m_z d_z i_z e_z j_z f_z s_k A_k B_k n_k c_k m_k d_k yx yy zx zy kv ks kt) (by kernel_rfl) (by kernel_rfl) rfl hnd ?_ ?_ ?_ ?_ ?_ ?_ ?_ ?_
 · intro p hp
   simp only [List.mem_cons,List.not_mem_nil,or_false] at hp
   rcases hp with rfl
   · refine ⟨⟨o8_share8yes,rfl,rfl,rfl,fun e w'=>run_allocQ⟩,⟨o9_share8yes,rfl,rfl,rfl,⟨8,.data⟩,by simp [o9_share8yes],rfl,rfl⟩,free3 _ _ _ _ _ _ _,?_,?_⟩
     · rintro cs w1 w2 ⟨s_,A_,n_,c_,B_,m_,d_,rfl,h⟩ hb;exact ⟨s_,A_,n_,c_,B_,m_,d_,rfl,h.below hb⟩
     · rintro T cs w1 w2 g c0 ⟨s_,A_,n_,c_,B_,m_,d_,rfl,h⟩ hB ho;exact ⟨s_,A_,n_,c_,B_,m_,d_,rfl,h.box hB ho⟩
 · intro p hp q hq h
   simp only [List.mem_cons,List.not_mem_nil,or_false] at hp hq
   rcases hp with rfl <;> rcases hq with rfl
   · rfl
 · intro p hp q hq h
   simp only [List.mem_cons,List.not_mem_nil,or_false] at hp hq
   rcases hp with rfl <;> rcases hq with rfl
   · rfl
 · intro i o h1 h2
   match i,h1 with
   | 0,h1=>cases h1;cases h2
   | 1,h1=>cases h1;cases h2
   | 2,h1=>cases h1;cases h2
   | 3,h1=>cases h1;cases h2
   | 4,h1=>cases h1;cases h2
   | 5,h1=>cases h1;cases h2
   | 6,h1=>cases h1;cases h2
   | 7,h1=>cases h1;cases h2
   | 8,h1=>cases h1;cases h2
   | 9,h1=>exact ⟨B0_share8yes yx yy zx zy kv ks kt,List.Mem.head _,rfl⟩
   | 10,h1=>cases h1;cases h2
   | i+11,h1=>cases h1
 · intro t
   unfold F_share8yes
   split <;> first | exact stays_eq _ | exact stays_q _ _ | exact stays_z _ _ | exact stays_r _ _ | exact stays_rq _ _ | exact stays_pg _ _ _ | exact stays_qt _ _ | exact stays_true
 · intro i o t sv w' ho hia hd J0 hf
   have y:=y.below J0;have z:=z.below J0;have kk:=kk.below J0;have XY:=XY.below J0;have XZ:=XZ.below J0;have XK:=XK.below J0
   match i,ho with
   | 0,ho =>
     obtain rfl:o0_share8yes=o:=Option.some.inj ho
     cases hd
     refine wpOp_plain' (o:=o0_share8yes) rfl rfl ?_
     unfold Oper.wp o0_share8yes
     rw [run_load6 (E11 sv) XY.c0 XY.c1 XY.c2 XY.c3 XY.c4 XY.c5,Oper.upon_value]
     exact ⟨_,rfl,Below.refl _ _,rfl⟩
   | 1,ho =>
     obtain rfl:o1_share8yes=o:=Option.some.inj ho
     cases hd
     refine wpOp_plain' (o:=o1_share8yes) rfl rfl ?_
     unfold Oper.wp o1_share8yes
     rw [run_load6 (E9 sv) XZ.c0 XZ.c1 XZ.c2 XZ.c3 XZ.c4 XZ.c5,Oper.upon_value]
     exact ⟨_,rfl,Below.refl _ _,rfl⟩
   | 2,ho =>
     obtain rfl:o2_share8yes=o:=Option.some.inj ho
     cases hd
     have f66:sv 66=Value.agg #[.bool s_y,.slice A_y n_y c_y,.slice B_y m_y d_y,.bool t_y,.slice E_y i_y e_y,.slice F_y j_y f_y]:=hf ⟨0,.data⟩ (by simp [o2_share8yes]) rfl _ 66 rfl rfl (NE _ (by decide))
     have f67:sv 67=Value.agg #[.bool s_z,.slice A_z n_z c_z,.slice B_z m_z d_z,.bool t_z,.slice E_z i_z e_z,.slice F_z j_z f_z]:=hf ⟨1,.data⟩ (by simp [o2_share8yes]) rfl _ 67 rfl rfl (NE _ (by decide))
     refine wpOp_plain' (o:=o2_share8yes) rfl rfl ?_
     unfold Oper.wp o2_share8yes
     rw [rc_gesso_pt_Cross ((G sv 66 (by decide) (by decide)).trans f66) ((G sv 67 (by decide) (by decide)).trans f67) rfl,Oper.upon_enter]
     refine (pcross_p y z (by omega) h1 h1).mono ?_
     rintro e w1 ⟨s_,A_,n_,c_,B_,m_,d_,rfl,hq,hh⟩
     exact ⟨_,rfl,hh,s_,A_,n_,c_,B_,m_,d_,rfl,hq⟩
   | 3,ho =>
     obtain rfl:o3_share8yes=o:=Option.some.inj ho
     cases hd
     refine wpOp_plain' (o:=o3_share8yes) rfl rfl ?_
     unfold Oper.wp o3_share8yes
     rw [run_loadQ (E12 sv) XK.c0 XK.c1 XK.c2,Oper.upon_value]
     exact ⟨_,rfl,Below.refl _ _,rfl⟩
   | 4,ho =>
     obtain rfl:o4_share8yes=o:=Option.some.inj ho
     cases hd
     have h68:VQ ((yx*zy - yy*zx)) ((ks+ks+(ks+ks)+1)) (sv 68) w':=hf ⟨2,.data⟩ (by simp [o4_share8yes]) rfl _ 68 rfl rfl (NE _ (by decide))
     obtain ⟨s68_,A68_,n68_,c68_,B68_,m68_,d68_,f68,q68⟩:=h68
     have f69:sv 69=Value.agg #[.bool s_k,.slice A_k n_k c_k,.slice B_k m_k d_k]:=hf ⟨3,.data⟩ (by simp [o4_share8yes]) rfl _ 69 rfl rfl (NE _ (by decide))
     refine wpOp_plain' (o:=o4_share8yes) rfl rfl ?_
     unfold Oper.wp o4_share8yes
     rw [rc_gesso_seg_share ((G sv 68 (by decide) (by decide)).trans f68) ((G sv 69 (by decide) (by decide)).trans f69) rfl,Oper.upon_enter]
     refine (share_yes q68.qr kk (by omega) ht (by omega) h2 hsh).mono ?_
     rintro e w1 ⟨s_,A_,n_,c_,B_,m_,d_,rfl,hq,hh⟩
     exact ⟨_,rfl,hh,s_,A_,n_,c_,B_,m_,d_,rfl,hq⟩
   | 5,ho =>
     obtain rfl:o5_share8yes=o:=Option.some.inj ho
     cases hd
     have f:=hf ⟨4,.data⟩ (by simp [o5_share8yes]) rfl _ 70 rfl rfl (NE _ (by decide))
     refine wpOp_plain' (o:=o5_share8yes) rfl rfl ?_
     unfold Oper.wp o5_share8yes
     rw [run_move (G sv 70 (by decide) (by decide)),Oper.upon_value]
     exact ⟨_,rfl,Below.refl _ _,f⟩
   | 6,ho =>
     obtain rfl:o6_share8yes=o:=Option.some.inj ho
     cases hd
     have h65:VQT ((yx*zy - yy*zx) / kv) ((ks+ks+(ks+ks)+1)+kt) (sv 65) w':=hf ⟨5,.data⟩ (by simp [o6_share8yes]) rfl _ 65 rfl rfl (NE _ (by decide))
     obtain ⟨s65_,A65_,n65_,c65_,B65_,m65_,d65_,f65,q65⟩:=h65
     refine wpOp_plain' (o:=o6_share8yes) rfl rfl ?_
     unfold Oper.wp o6_share8yes
     rw [run_ext0 ((G sv 65 (by decide) (by decide)).trans f65),Oper.upon_value]
     exact ⟨_,rfl,Below.refl _ _,s65_,A65_,n65_,c65_,B65_,m65_,d65_,rfl,q65⟩
   | 7,ho =>
     obtain rfl:o7_share8yes=o:=Option.some.inj ho
     cases hd
     have h65:VQT ((yx*zy - yy*zx) / kv) ((ks+ks+(ks+ks)+1)+kt) (sv 65) w':=hf ⟨5,.data⟩ (by simp [o7_share8yes]) rfl _ 65 rfl rfl (NE _ (by decide))
     obtain ⟨s65_,A65_,n65_,c65_,B65_,m65_,d65_,f65,q65⟩:=h65
     refine wpOp_plain' (o:=o7_share8yes) rfl rfl ?_
     unfold Oper.wp o7_share8yes
     rw [run_ext1 ((G sv 65 (by decide) (by decide)).trans f65),Oper.upon_value]
     exact ⟨_,rfl,Below.refl _ _,rfl⟩
   | 8,ho=>cases ho;cases hd;exact absurd rfl (hia (B0_share8yes yx yy zx zy kv ks kt) (List.Mem.head _))
   | 9,ho=>cases ho;cases hd
   | 10,ho =>
     obtain rfl:o10_share8yes=o:=Option.some.inj ho
     cases hd
     have f:=hf ⟨7,.data⟩ (by simp [o10_share8yes]) rfl _ 72 rfl rfl (NE _ (by decide))
     refine wpOp_plain' (o:=o10_share8yes) rfl rfl ?_
     unfold Oper.wp o10_share8yes
     rw [run_assign (G sv 72 (by decide) (by decide)),Oper.upon_value]
     exact ⟨_,rfl,Below.refl _ _,f⟩
   | i+11,ho=>cases ho
 · intro p hp os sv w' g hos J0 p1 p3 hf
   simp only [List.mem_cons,List.not_mem_nil,or_false] at hp
   rcases hp with rfl
   · obtain rfl:o9_share8yes=os:=Option.some.inj hos
     have h1:VQ ((yx*zy - yy*zx) / kv) ((ks+ks+(ks+ks)+1)+kt) (sv 71) w':=hf ⟨6,.data⟩ (by simp [o9_share8yes]) rfl _ 71 rfl rfl (NE _ (by decide))
     rw [← G sv 71 (by decide) (by decide)] at h1
     refine store_q (V:=(yx*zy - yy*zx) / kv) (k:=(ks+ks+(ks+ks)+1)+kt) (ac:=putAll ac L_share8yes sv) (z:=.tmp 71) ?_ ?_ ?_
     · exact (G sv 15 (by decide) (by decide)).trans p1
     · exact h1
     · exact p3
 · intro sv w' J0 hF hB hap
   obtain ⟨g0,cs0,p0,r0,b0,⟨s0,A0,n0,c0,B0,m0,d0,rfl,h0⟩⟩:=hB (B0_share8yes yx yy zx zy kv ks kt) (List.Mem.head _)
   have p0':sv 15=.pointer (some ⟨g0,0,none⟩):=p0
   exact hend sv w' g0 _ _ _ _ _ _ _ h0 b0.at_ r0 p0' (hF 10 _ 16 rfl rfl (NE _ (by decide))) J0
def F_share8no (s_y:Bool) (t_y:Bool) (A_y:Option Addr) (B_y:Option Addr) (E_y:Option Addr) (F_y:Option Addr) (n_y:Nat) (c_y:Nat) (m_y:Nat) (d_y:Nat) (i_y:Nat) (e_y:Nat) (j_y:Nat) (f_y:Nat) (s_z:Bool) (t_z:Bool) (A_z:Option Addr) (B_z:Option Addr) (E_z:Option Addr) (F_z:Option Addr) (n_z:Nat) (c_z:Nat) (m_z:Nat) (d_z:Nat) (i_z:Nat) (e_z:Nat) (j_z:Nat) (f_z:Nat) (s_k:Bool) (A_k:Option Addr) (B_k:Option Addr) (n_k:Nat) (c_k:Nat) (m_k:Nat) (d_k:Nat) (yx:Rat) (yy:Rat) (zx:Rat) (zy:Rat) (ks:Nat) (sl:Nat):Value→World→Prop :=
 match sl with
 | 66=>fun x _=>x=Value.agg #[.bool s_y,.slice A_y n_y c_y,.slice B_y m_y d_y,.bool t_y,.slice E_y i_y e_y,.slice F_y j_y f_y]
 | 67=>fun x _=>x=Value.agg #[.bool s_z,.slice A_z n_z c_z,.slice B_z m_z d_z,.bool t_z,.slice E_z i_z e_z,.slice F_z j_z f_z]
 | 68=>VQ ((yx*zy - yy*zx)) ((ks+ks+(ks+ks)+1))
 | 69=>fun x _=>x=Value.agg #[.bool s_k,.slice A_k n_k c_k,.slice B_k m_k d_k]
 | 70=>fun x _=>x=Value.tuple #[.agg #[.bool false,.slice none 0 0,.slice none 0 0],.bool false]
 | 65=>fun x _=>x=Value.tuple #[.agg #[.bool false,.slice none 0 0,.slice none 0 0],.bool false]
 | 71=>VK (#[.bool false,.slice none 0 0,.slice none 0 0])
 | 72=>fun x _=>x=Value.bool false
 | 16=>fun x _=>x=Value.bool false
 | _=>fun _ _=>True
def B0_share8no :BoxOp :=
 ⟨8,9,15,26,#[.bool false,.slice none 0 0,.slice none 0 0],fun cs _=>cs=#[.bool false,.slice none 0 0,.slice none 0 0]⟩
theorem share8no_region {id:Nat} {ac:Act} {Q:Exit→Act→World→Prop} {yx yy zx zy kv:Rat} {ks kt gy gz gk:Nat}
 (hsz:72 < ac.tmps.size) (e11:ac.eval (.tmp 11)=Value.pointer (some ⟨gy,0,none⟩)) (e9:ac.eval (.tmp 9)=Value.pointer (some ⟨gz,0,none⟩)) (e12:ac.eval (.tmp 12)=Value.pointer (some ⟨gk,0,none⟩)) (XY:B6 w gy (.bool s_y) (.slice A_y n_y c_y) (.slice B_y m_y d_y) (.bool t_y) (.slice E_y i_y e_y) (.slice F_y j_y f_y)) (XZ:B6 w gz (.bool s_z) (.slice A_z n_z c_z) (.slice B_z m_z d_z) (.bool t_z) (.slice E_z i_z e_z) (.slice F_z j_z f_z)) (XK:B3 w gk (.bool s_k) (.slice A_k n_k c_k) (.slice B_k m_k d_k)) (y:PR w s_y A_y n_y c_y B_y m_y d_y t_y E_y i_y e_y F_y j_y f_y yx yy ks) (z:PR w s_z A_z n_z c_z B_z m_z d_z t_z E_z i_z e_z F_z j_z f_z zx zy ks) (kk:QR w s_k A_k n_k c_k B_k m_k d_k kv kt) (hs:ks≤41) (ht:kt≤180) (h1:1≤ks) (h2:1≤kt) (hsh:¬ shareOK (yx*zy - yy*zx) kv)
 (hend:∀ (V:Nat→Value) (w':World) (g0:Nat),B3 w' g0 (.bool false) (.slice none 0 0) (.slice none 0 0)→w.heap.size≤g0→V 15=.pointer (some ⟨g0,0,none⟩)→V 16=Value.bool false→Below w.heap.size w w'→Q .normal (putAll ac [66,67,68,69,70,65,71,72,15,16] V) w') :
 (Code.region id #[o0_share8yes,o1_share8yes,o2_share8yes,o3_share8yes,o4_share8yes,o5_share8yes,o6_share8yes,o7_share8yes,o8_share8yes,o9_share8yes,o10_share8yes] true).wp Tryz.prog Q ac w:=by
 have hnd:L_share8yes.Nodup:=by decide
 have G:∀ (sv:Nat→Value) (t:Nat),t ∈ L_share8yes→t≤72→(putAll ac L_share8yes sv).eval (.tmp t)=sv t:=fun sv t ht h=>eval_putAll_mem (t:=t) L_share8yes ac hnd ht (Nat.lt_of_le_of_lt h hsz)
 have E11:∀ sv:Nat→Value,(putAll ac L_share8yes sv).eval (.tmp 11)=Value.pointer (some ⟨gy,0,none⟩):=fun sv=>(eval_putAll_not (v:=sv) L_share8yes ac (show 11 ∉ _ by decide)).trans e11
 have E9:∀ sv:Nat→Value,(putAll ac L_share8yes sv).eval (.tmp 9)=Value.pointer (some ⟨gz,0,none⟩):=fun sv=>(eval_putAll_not (v:=sv) L_share8yes ac (show 9 ∉ _ by decide)).trans e9
 have E12:∀ sv:Nat→Value,(putAll ac L_share8yes sv).eval (.tmp 12)=Value.pointer (some ⟨gk,0,none⟩):=fun sv=>(eval_putAll_not (v:=sv) L_share8yes ac (show 12 ∉ _ by decide)).trans e12
 have NE:∀ t:Nat,(t ≠ 15)→∀ p ∈ [B0_share8no],t ≠ p.tA:=by
  intro t ht p hp
  simp only [List.mem_cons,List.not_mem_nil,or_false] at hp
  rcases hp with rfl
  · exact ht
 refine wp_region_flows L_share8yes [B0_share8no] (F_share8no s_y t_y A_y B_y E_y F_y n_y c_y m_y d_y i_y e_y j_y f_y s_z t_z A_z B_z E_z F_z n_z c_z m_z d_z i_z e_z j_z f_z s_k A_k B_k n_k c_k m_k d_k yx yy zx zy ks) (by kernel_rfl) (by kernel_rfl) rfl hnd ?_ ?_ ?_ ?_ ?_ ?_ ?_ ?_
 · intro p hp
   simp only [List.mem_cons,List.not_mem_nil,or_false] at hp
   rcases hp with rfl
   · refine ⟨⟨o8_share8yes,rfl,rfl,rfl,fun e w'=>run_allocQ⟩,⟨o9_share8yes,rfl,rfl,rfl,⟨8,.data⟩,by simp [o9_share8yes],rfl,rfl⟩,free3 _ _ _ _ _ _ _,?_,?_⟩
     · rintro cs w1 w2 rfl hb;rfl
     · rintro T cs w1 w2 g c0 rfl hB ho;rfl
 · intro p hp q hq h
   simp only [List.mem_cons,List.not_mem_nil,or_false] at hp hq
   rcases hp with rfl <;> rcases hq with rfl
   · rfl
 · intro p hp q hq h
   simp only [List.mem_cons,List.not_mem_nil,or_false] at hp hq
   rcases hp with rfl <;> rcases hq with rfl
   · rfl
 · intro i o h1 h2
   match i,h1 with
   | 0,h1=>cases h1;cases h2
   | 1,h1=>cases h1;cases h2
   | 2,h1=>cases h1;cases h2
   | 3,h1=>cases h1;cases h2
   | 4,h1=>cases h1;cases h2
   | 5,h1=>cases h1;cases h2
   | 6,h1=>cases h1;cases h2
   | 7,h1=>cases h1;cases h2
   | 8,h1=>cases h1;cases h2
   | 9,h1=>exact ⟨B0_share8no,List.Mem.head _,rfl⟩
   | 10,h1=>cases h1;cases h2
   | i+11,h1=>cases h1
 · intro t
   unfold F_share8no
   split <;> first | exact stays_eq _ | exact stays_q _ _ | exact stays_z _ _ | exact stays_r _ _ | exact stays_rq _ _ | exact stays_pg _ _ _ | exact stays_k _ | exact stays_true
 · intro i o t sv w' ho hia hd J0 hf
   have y:=y.below J0;have z:=z.below J0;have kk:=kk.below J0;have XY:=XY.below J0;have XZ:=XZ.below J0;have XK:=XK.below J0
   match i,ho with
   | 0,ho =>
     obtain rfl:o0_share8yes=o:=Option.some.inj ho
     cases hd
     refine wpOp_plain' (o:=o0_share8yes) rfl rfl ?_
     unfold Oper.wp o0_share8yes
     rw [run_load6 (E11 sv) XY.c0 XY.c1 XY.c2 XY.c3 XY.c4 XY.c5,Oper.upon_value]
     exact ⟨_,rfl,Below.refl _ _,rfl⟩
   | 1,ho =>
     obtain rfl:o1_share8yes=o:=Option.some.inj ho
     cases hd
     refine wpOp_plain' (o:=o1_share8yes) rfl rfl ?_
     unfold Oper.wp o1_share8yes
     rw [run_load6 (E9 sv) XZ.c0 XZ.c1 XZ.c2 XZ.c3 XZ.c4 XZ.c5,Oper.upon_value]
     exact ⟨_,rfl,Below.refl _ _,rfl⟩
   | 2,ho =>
     obtain rfl:o2_share8yes=o:=Option.some.inj ho
     cases hd
     have f66:sv 66=Value.agg #[.bool s_y,.slice A_y n_y c_y,.slice B_y m_y d_y,.bool t_y,.slice E_y i_y e_y,.slice F_y j_y f_y]:=hf ⟨0,.data⟩ (by simp [o2_share8yes]) rfl _ 66 rfl rfl (NE _ (by decide))
     have f67:sv 67=Value.agg #[.bool s_z,.slice A_z n_z c_z,.slice B_z m_z d_z,.bool t_z,.slice E_z i_z e_z,.slice F_z j_z f_z]:=hf ⟨1,.data⟩ (by simp [o2_share8yes]) rfl _ 67 rfl rfl (NE _ (by decide))
     refine wpOp_plain' (o:=o2_share8yes) rfl rfl ?_
     unfold Oper.wp o2_share8yes
     rw [rc_gesso_pt_Cross ((G sv 66 (by decide) (by decide)).trans f66) ((G sv 67 (by decide) (by decide)).trans f67) rfl,Oper.upon_enter]
     refine (pcross_p y z (by omega) h1 h1).mono ?_
     rintro e w1 ⟨s_,A_,n_,c_,B_,m_,d_,rfl,hq,hh⟩
     exact ⟨_,rfl,hh,s_,A_,n_,c_,B_,m_,d_,rfl,hq⟩
   | 3,ho =>
     obtain rfl:o3_share8yes=o:=Option.some.inj ho
     cases hd
     refine wpOp_plain' (o:=o3_share8yes) rfl rfl ?_
     unfold Oper.wp o3_share8yes
     rw [run_loadQ (E12 sv) XK.c0 XK.c1 XK.c2,Oper.upon_value]
     exact ⟨_,rfl,Below.refl _ _,rfl⟩
   | 4,ho =>
     obtain rfl:o4_share8yes=o:=Option.some.inj ho
     cases hd
     have h68:VQ ((yx*zy - yy*zx)) ((ks+ks+(ks+ks)+1)) (sv 68) w':=hf ⟨2,.data⟩ (by simp [o4_share8yes]) rfl _ 68 rfl rfl (NE _ (by decide))
     obtain ⟨s68_,A68_,n68_,c68_,B68_,m68_,d68_,f68,q68⟩:=h68
     have f69:sv 69=Value.agg #[.bool s_k,.slice A_k n_k c_k,.slice B_k m_k d_k]:=hf ⟨3,.data⟩ (by simp [o4_share8yes]) rfl _ 69 rfl rfl (NE _ (by decide))
     refine wpOp_plain' (o:=o4_share8yes) rfl rfl ?_
     unfold Oper.wp o4_share8yes
     rw [rc_gesso_seg_share ((G sv 68 (by decide) (by decide)).trans f68) ((G sv 69 (by decide) (by decide)).trans f69) rfl,Oper.upon_enter]
     refine (share_no q68.qr kk (by omega) ht (by omega) h2 hsh).mono ?_
     rintro e w1 ⟨rfl,hh⟩
     exact ⟨_,rfl,hh,rfl⟩
   | 5,ho =>
     obtain rfl:o5_share8yes=o:=Option.some.inj ho
     cases hd
     have f:=hf ⟨4,.data⟩ (by simp [o5_share8yes]) rfl _ 70 rfl rfl (NE _ (by decide))
     refine wpOp_plain' (o:=o5_share8yes) rfl rfl ?_
     unfold Oper.wp o5_share8yes
     rw [run_move (G sv 70 (by decide) (by decide)),Oper.upon_value]
     exact ⟨_,rfl,Below.refl _ _,f⟩
   | 6,ho =>
     obtain rfl:o6_share8yes=o:=Option.some.inj ho
     cases hd
     have f65:sv 65=Value.tuple #[.agg #[.bool false,.slice none 0 0,.slice none 0 0],.bool false]:=hf ⟨5,.data⟩ (by simp [o6_share8yes]) rfl _ 65 rfl rfl (NE _ (by decide))
     refine wpOp_plain' (o:=o6_share8yes) rfl rfl ?_
     unfold Oper.wp o6_share8yes
     rw [run_ext0 ((G sv 65 (by decide) (by decide)).trans f65),Oper.upon_value]
     exact ⟨_,rfl,Below.refl _ _,rfl⟩
   | 7,ho =>
     obtain rfl:o7_share8yes=o:=Option.some.inj ho
     cases hd
     have f65:sv 65=Value.tuple #[.agg #[.bool false,.slice none 0 0,.slice none 0 0],.bool false]:=hf ⟨5,.data⟩ (by simp [o7_share8yes]) rfl _ 65 rfl rfl (NE _ (by decide))
     refine wpOp_plain' (o:=o7_share8yes) rfl rfl ?_
     unfold Oper.wp o7_share8yes
     rw [run_ext1 ((G sv 65 (by decide) (by decide)).trans f65),Oper.upon_value]
     exact ⟨_,rfl,Below.refl _ _,rfl⟩
   | 8,ho=>cases ho;cases hd;exact absurd rfl (hia (B0_share8no) (List.Mem.head _))
   | 9,ho=>cases ho;cases hd
   | 10,ho =>
     obtain rfl:o10_share8yes=o:=Option.some.inj ho
     cases hd
     have f:=hf ⟨7,.data⟩ (by simp [o10_share8yes]) rfl _ 72 rfl rfl (NE _ (by decide))
     refine wpOp_plain' (o:=o10_share8yes) rfl rfl ?_
     unfold Oper.wp o10_share8yes
     rw [run_assign (G sv 72 (by decide) (by decide)),Oper.upon_value]
     exact ⟨_,rfl,Below.refl _ _,f⟩
   | i+11,ho=>cases ho
 · intro p hp os sv w' g hos J0 p1 p3 hf
   simp only [List.mem_cons,List.not_mem_nil,or_false] at hp
   rcases hp with rfl
   · obtain rfl:o9_share8yes=os:=Option.some.inj hos
     have h1:VK (#[.bool false,.slice none 0 0,.slice none 0 0]) (sv 71) w':=hf ⟨6,.data⟩ (by simp [o9_share8yes]) rfl _ 71 rfl rfl (NE _ (by decide))
     rw [← G sv 71 (by decide) (by decide)] at h1
     refine store_kq  (ac:=putAll ac L_share8yes sv) (z:=.tmp 71) ?_ ?_ ?_
     · exact (G sv 15 (by decide) (by decide)).trans p1
     · exact h1
     · exact p3
 · intro sv w' J0 hF hB hap
   obtain ⟨g0,cs0,p0,r0,b0,rfl⟩:=hB (B0_share8no) (List.Mem.head _)
   have p0':sv 15=.pointer (some ⟨g0,0,none⟩):=p0
   exact hend sv w' g0 b0.at_ r0 p0' (hF 10 _ 16 rfl rfl (NE _ (by decide))) J0
theorem apart_yes {k:Nat} {xa xb xc xd:Rat} (a:QR w s_a A_a n_a c_a B_a m_a d_a xa k) (b:QR w s_b A_b n_b c_b B_b m_b d_b xb k) (c:QR w s_c A_c n_c c_c B_c m_c d_c xc k) (d:QR w s_d A_d n_d c_d B_d m_d d_d xd k) (hk:k≤400) (h1:1≤k) (h:apartQ xa xb xc xd) :
 Calls Tryz.prog 84 #[.agg #[.bool s_a,.slice A_a n_a c_a,.slice B_a m_a d_a],.agg #[.bool s_b,.slice A_b n_b c_b,.slice B_b m_b d_b],.agg #[.bool s_c,.slice A_c n_c c_c,.slice B_c m_c d_c],.agg #[.bool s_d,.slice A_d n_d c_d,.slice B_d m_d d_d]] w fun e w'=>e=.returned (.bool true)∧Below w.heap.size w w':=apart_q a b c d hk h1 true ⟨fun _=>h,fun _=>rfl⟩
theorem apart_no {k:Nat} {xa xb xc xd:Rat} (a:QR w s_a A_a n_a c_a B_a m_a d_a xa k) (b:QR w s_b A_b n_b c_b B_b m_b d_b xb k) (c:QR w s_c A_c n_c c_c B_c m_c d_c xc k) (d:QR w s_d A_d n_d c_d B_d m_d d_d xd k) (hk:k≤400) (h1:1≤k) (h:¬ apartQ xa xb xc xd) :
 Calls Tryz.prog 84 #[.agg #[.bool s_a,.slice A_a n_a c_a,.slice B_a m_a d_a],.agg #[.bool s_b,.slice A_b n_b c_b,.slice B_b m_b d_b],.agg #[.bool s_c,.slice A_c n_c c_c,.slice B_c m_c d_c],.agg #[.bool s_d,.slice A_d n_d c_d,.slice B_d m_d d_d]] w fun e w'=>e=.returned (.bool false)∧Below w.heap.size w w':=apart_q a b c d hk h1 false ⟨fun e=>(by cases e),fun e=>absurd e h⟩
theorem told_none {ax ay bx by_ cx cy dx dy f g:Rat} (hk:(bx - ax)*(dy - cy) - (by_ - ay)*(dx - cx) ≠ 0)
 (hf:f*((bx - ax)*(dy - cy) - (by_ - ay)*(dx - cx))=(cx - ax)*(dy - cy) - (cy - ay)*(dx - cx))
 (hg:g*((bx - ax)*(dy - cy) - (by_ - ay)*(dx - cx))=(cx - ax)*(by_ - ay) - (cy - ay)*(bx - ax))
 (h:¬ ((0≤f∧f≤1)∧(0≤g∧g≤1))):Told ax ay bx by_ cx cy dx dy []:=fun x y q=>by
 have:=(cross_iff hk hf hg).1 q
 exact h ⟨this.1,this.2.1⟩
theorem told_cross {ax ay bx by_ cx cy dx dy f g:Rat} (hk:(bx - ax)*(dy - cy) - (by_ - ay)*(dx - cx) ≠ 0)
 (hf:f*((bx - ax)*(dy - cy) - (by_ - ay)*(dx - cx))=(cx - ax)*(dy - cy) - (cy - ay)*(dx - cx))
 (hg:g*((bx - ax)*(dy - cy) - (by_ - ay)*(dx - cx))=(cx - ax)*(by_ - ay) - (cy - ay)*(bx - ax))
 (h:(0≤f∧f≤1)∧(0≤g∧g≤1)):Told ax ay bx by_ cx cy dx dy [(ax+(bx - ax)*f,ay+(by_ - ay)*f)]:=fun x y =>
 (cross_iff hk hf hg).trans ⟨fun q=>⟨q.2.2.1,q.2.2.2⟩,fun q=>⟨h.1,h.2,q.1,q.2⟩⟩
theorem meet_ax {k:Nat} {ax ay bx by_ cx cy dx dy:Rat} (p:PR w s_p A_p n_p c_p B_p m_p d_p t_p E_p i_p e_p F_p j_p f_p ax ay k) (q:PR w s_q A_q n_q c_q B_q m_q d_q t_q E_q i_q e_q F_q j_q f_q bx by_ k) (r:PR w s_r A_r n_r c_r B_r m_r d_r t_r E_r i_r e_r F_r j_r f_r cx cy k) (u:PR w s_u A_u n_u c_u B_u m_u d_u t_u E_u i_u e_u F_u j_u f_u dx dy k) (hk:k≤7) (h1:1≤k) (ha:apartQ ax bx cx dx) :
 Calls Tryz.prog 33 #[.agg #[.bool s_p,.slice A_p n_p c_p,.slice B_p m_p d_p,.bool t_p,.slice E_p i_p e_p,.slice F_p j_p f_p],.agg #[.bool s_q,.slice A_q n_q c_q,.slice B_q m_q d_q,.bool t_q,.slice E_q i_q e_q,.slice F_q j_q f_q],.agg #[.bool s_r,.slice A_r n_r c_r,.slice B_r m_r d_r,.bool t_r,.slice E_r i_r e_r,.slice F_r j_r f_r],.agg #[.bool s_u,.slice A_u n_u c_u,.slice B_u m_u d_u,.bool t_u,.slice E_u i_u e_u,.slice F_u j_u f_u]] w (GivesTold w ax ay bx by_ cx cy dx dy k):=by
 have HT:Hid (Told ax ay bx by_ cx cy dx dy []):=told_apart (.inl ha)
 have H1:=Lib.hid ha;clear ha
 go_enter Tryz.func33,Tryz.ntmps33
 go_upto_region 1 with (fail)
 generalize hW:World.alloc _ _=W
 obtain ⟨hb,XA,XB,XC,XD,hzW⟩:=mkbx44_16 hW;clear hW;replace p:=p.below hb;replace q:=q.below hb;replace r:=r.below hb;replace u:=u.below hb;obtain ⟨xa0,xa1,xa2,xa3,xa4,xa5⟩:=XA.all;obtain ⟨xb0,xb1,xb2,xb3,xb4,xb5⟩:=XB.all;obtain ⟨xc0,xc1,xc2,xc3,xc4,xc5⟩:=XC.all;obtain ⟨xd0,xd1,xd2,xd3,xd4,xd5⟩:=XD.all
 go_wp2_with (first
  | (go_at_call 84;(with_reducible refine (apart_yes p.qx q.qx r.qx u.qx (by omega) h1 H1.out).mono ?_);rintro e w_z ⟨rfl,hh⟩
     (try replace p:=p.below hh);(try replace q:=q.below hh);(try replace r:=r.below hh);(try replace u:=u.below hh);(try replace XA:=XA.below hh);(try replace XB:=XB.below hh);(try replace XC:=XC.below hh);(try replace XD:=XD.below hh);replace hb:=bend hb hh;obtain ⟨xa0,xa1,xa2,xa3,xa4,xa5⟩:=XA.all;obtain ⟨xb0,xb1,xb2,xb3,xb4,xb5⟩:=XB.all;obtain ⟨xc0,xc1,xc2,xc3,xc4,xc5⟩:=XC.all;obtain ⟨xd0,xd1,xd2,xd3,xd4,xd5⟩:=XD.all))
 go_ret
 exact ⟨[],HT.out,.slice none 0 0,[],rfl,Ln.nil _ _ _,Each.nil,hb⟩
theorem meet_ay {k:Nat} {ax ay bx by_ cx cy dx dy:Rat} (p:PR w s_p A_p n_p c_p B_p m_p d_p t_p E_p i_p e_p F_p j_p f_p ax ay k) (q:PR w s_q A_q n_q c_q B_q m_q d_q t_q E_q i_q e_q F_q j_q f_q bx by_ k) (r:PR w s_r A_r n_r c_r B_r m_r d_r t_r E_r i_r e_r F_r j_r f_r cx cy k) (u:PR w s_u A_u n_u c_u B_u m_u d_u t_u E_u i_u e_u F_u j_u f_u dx dy k) (hk:k≤7) (h1:1≤k) (ha:¬ apartQ ax bx cx dx) (hb_:apartQ ay by_ cy dy) :
 Calls Tryz.prog 33 #[.agg #[.bool s_p,.slice A_p n_p c_p,.slice B_p m_p d_p,.bool t_p,.slice E_p i_p e_p,.slice F_p j_p f_p],.agg #[.bool s_q,.slice A_q n_q c_q,.slice B_q m_q d_q,.bool t_q,.slice E_q i_q e_q,.slice F_q j_q f_q],.agg #[.bool s_r,.slice A_r n_r c_r,.slice B_r m_r d_r,.bool t_r,.slice E_r i_r e_r,.slice F_r j_r f_r],.agg #[.bool s_u,.slice A_u n_u c_u,.slice B_u m_u d_u,.bool t_u,.slice E_u i_u e_u,.slice F_u j_u f_u]] w (GivesTold w ax ay bx by_ cx cy dx dy k):=by
 have HT:Hid (Told ax ay bx by_ cx cy dx dy []):=told_apart (.inr hb_)
 have H1:=Lib.hid ha;have H2:=Lib.hid hb_;clear ha hb_
 go_enter Tryz.func33,Tryz.ntmps33
 go_upto_region 1 with (fail)
 generalize hW:World.alloc _ _=W
 obtain ⟨hb,XA,XB,XC,XD,hzW⟩:=mkbx44_16 hW;clear hW;replace p:=p.below hb;replace q:=q.below hb;replace r:=r.below hb;replace u:=u.below hb;obtain ⟨xa0,xa1,xa2,xa3,xa4,xa5⟩:=XA.all;obtain ⟨xb0,xb1,xb2,xb3,xb4,xb5⟩:=XB.all;obtain ⟨xc0,xc1,xc2,xc3,xc4,xc5⟩:=XC.all;obtain ⟨xd0,xd1,xd2,xd3,xd4,xd5⟩:=XD.all
 go_wp2_with (first
  | (go_at_call 84;(with_reducible refine (apart_no p.qx q.qx r.qx u.qx (by omega) h1 H1.out).mono ?_);rintro e w_z ⟨rfl,hh⟩
     (try replace p:=p.below hh);(try replace q:=q.below hh);(try replace r:=r.below hh);(try replace u:=u.below hh);(try replace XA:=XA.below hh);(try replace XB:=XB.below hh);(try replace XC:=XC.below hh);(try replace XD:=XD.below hh);replace hb:=bend hb hh;obtain ⟨xa0,xa1,xa2,xa3,xa4,xa5⟩:=XA.all;obtain ⟨xb0,xb1,xb2,xb3,xb4,xb5⟩:=XB.all;obtain ⟨xc0,xc1,xc2,xc3,xc4,xc5⟩:=XC.all;obtain ⟨xd0,xd1,xd2,xd3,xd4,xd5⟩:=XD.all)
  | (go_at_call 84;(with_reducible refine (apart_yes p.qy q.qy r.qy u.qy (by omega) h1 H2.out).mono ?_);rintro e w_z ⟨rfl,hh⟩
     (try replace p:=p.below hh);(try replace q:=q.below hh);(try replace r:=r.below hh);(try replace u:=u.below hh);(try replace XA:=XA.below hh);(try replace XB:=XB.below hh);(try replace XC:=XC.below hh);(try replace XD:=XD.below hh);replace hb:=bend hb hh;obtain ⟨xa0,xa1,xa2,xa3,xa4,xa5⟩:=XA.all;obtain ⟨xb0,xb1,xb2,xb3,xb4,xb5⟩:=XB.all;obtain ⟨xc0,xc1,xc2,xc3,xc4,xc5⟩:=XC.all;obtain ⟨xd0,xd1,xd2,xd3,xd4,xd5⟩:=XD.all))
 go_ret
 exact ⟨[],HT.out,.slice none 0 0,[],rfl,Ln.nil _ _ _,Each.nil,hb⟩
theorem meet_par {k:Nat} {ax ay bx by_ cx cy dx dy:Rat} (p:PR w s_p A_p n_p c_p B_p m_p d_p t_p E_p i_p e_p F_p j_p f_p ax ay k) (q:PR w s_q A_q n_q c_q B_q m_q d_q t_q E_q i_q e_q F_q j_q f_q bx by_ k) (r:PR w s_r A_r n_r c_r B_r m_r d_r t_r E_r i_r e_r F_r j_r f_r cx cy k) (u:PR w s_u A_u n_u c_u B_u m_u d_u t_u E_u i_u e_u F_u j_u f_u dx dy k) (hk:k≤7) (h1:1≤k) (ha:¬ apartQ ax bx cx dx) (hb_:¬ apartQ ay by_ cy dy) (hz:((bx - ax)*(dy - cy) - (by_ - ay)*(dx - cx))=0) :
 Calls Tryz.prog 33 #[.agg #[.bool s_p,.slice A_p n_p c_p,.slice B_p m_p d_p,.bool t_p,.slice E_p i_p e_p,.slice F_p j_p f_p],.agg #[.bool s_q,.slice A_q n_q c_q,.slice B_q m_q d_q,.bool t_q,.slice E_q i_q e_q,.slice F_q j_q f_q],.agg #[.bool s_r,.slice A_r n_r c_r,.slice B_r m_r d_r,.bool t_r,.slice E_r i_r e_r,.slice F_r j_r f_r],.agg #[.bool s_u,.slice A_u n_u c_u,.slice B_u m_u d_u,.bool t_u,.slice E_u i_u e_u,.slice F_u j_u f_u]] w (GivesTold w ax ay bx by_ cx cy dx dy k):=by
 have H1:=Lib.hid ha;have H2:=Lib.hid hb_;have HZ:=Lib.hid hz
 obtain ⟨T,hT,hT0⟩:∃ T,sgnQ ((bx - ax)*(dy - cy) - (by_ - ay)*(dx - cx))=T∧((T:Int) == 0)=true:=⟨_,rfl,by rw [hz];rfl⟩
 have HS:=Lib.hid hT;clear hT;clear ha hb_ hz
 go_enter Tryz.func33,Tryz.ntmps33
 go_upto_region 1 with (fail)
 generalize hW:World.alloc _ _=W
 obtain ⟨hb,XA,XB,XC,XD,hzW⟩:=mkbx44_16 hW;clear hW;replace p:=p.below hb;replace q:=q.below hb;replace r:=r.below hb;replace u:=u.below hb;obtain ⟨xa0,xa1,xa2,xa3,xa4,xa5⟩:=XA.all;obtain ⟨xb0,xb1,xb2,xb3,xb4,xb5⟩:=XB.all;obtain ⟨xc0,xc1,xc2,xc3,xc4,xc5⟩:=XC.all;obtain ⟨xd0,xd1,xd2,xd3,xd4,xd5⟩:=XD.all
 go_upto_region 3 with (first
  | (go_at_call 84;(with_reducible refine (apart_no p.qx q.qx r.qx u.qx (by omega) h1 H1.out).mono ?_);rintro e w_z ⟨rfl,hh⟩
     (try replace p:=p.below hh);(try replace q:=q.below hh);(try replace r:=r.below hh);(try replace u:=u.below hh);(try replace XA:=XA.below hh);(try replace XB:=XB.below hh);(try replace XC:=XC.below hh);(try replace XD:=XD.below hh);replace hb:=bend hb hh;obtain ⟨xa0,xa1,xa2,xa3,xa4,xa5⟩:=XA.all;obtain ⟨xb0,xb1,xb2,xb3,xb4,xb5⟩:=XB.all;obtain ⟨xc0,xc1,xc2,xc3,xc4,xc5⟩:=XC.all;obtain ⟨xd0,xd1,xd2,xd3,xd4,xd5⟩:=XD.all)
  | (go_at_call 84;(with_reducible refine (apart_no p.qy q.qy r.qy u.qy (by omega) h1 H2.out).mono ?_);rintro e w_z ⟨rfl,hh⟩
     (try replace p:=p.below hh);(try replace q:=q.below hh);(try replace r:=r.below hh);(try replace u:=u.below hh);(try replace XA:=XA.below hh);(try replace XB:=XB.below hh);(try replace XC:=XC.below hh);(try replace XD:=XD.below hh);replace hb:=bend hb hh;obtain ⟨xa0,xa1,xa2,xa3,xa4,xa5⟩:=XA.all;obtain ⟨xb0,xb1,xb2,xb3,xb4,xb5⟩:=XB.all;obtain ⟨xc0,xc1,xc2,xc3,xc4,xc5⟩:=XC.all;obtain ⟨xd0,xd1,xd2,xd3,xd4,xd5⟩:=XD.all))
 refine subs_region (by simp) rfl rfl rfl rfl XA XB XC XD p q r u (by omega) h1 ?_
 intro V w_s g_m s_m A_m n_m c_m B_m m_m d_m t_m E_m i_m e_m F_m j_m f_m g_o s_o A_o n_o c_o B_o m_o d_o t_o E_o i_o e_o F_o j_o f_o g_b s_b A_b n_b c_b B_b m_b d_b t_b E_b i_b e_b F_b j_b f_b m XM hg_m hvm o XO hg_o hvo b XP hg_b hvb hne1 hne2 hne3 hh
 simp only [putAll,Act.put,List.setIfInBounds_toArray,List.set_cons_zero,List.set_cons_succ,hvm,hvo,hvb]
 clear hvm hvo hvb hne1 hne2 hne3;replace p:=p.below hh;replace q:=q.below hh;replace r:=r.below hh;replace u:=u.below hh;replace XA:=XA.below hh;replace XB:=XB.below hh;replace XC:=XC.below hh;replace XD:=XD.below hh;replace hb:=bend hb hh;obtain ⟨xm0,xm1,xm2,xm3,xm4,xm5⟩:=XM.all;obtain ⟨xo0,xo1,xo2,xo3,xo4,xo5⟩:=XO.all
 go_upto_region 5 with (first
  | (go_at_call 86;(with_reducible refine (pcross_p m.pr o.pr (by omega) (by omega) (by omega)).mono ?_);rintro e w_k ⟨s_k,A_k,n_k,c_k,B_k,m_k,d_k,rfl,kk,hh⟩
     (try replace p:=p.below hh);(try replace q:=q.below hh);(try replace r:=r.below hh);(try replace u:=u.below hh);(try replace XA:=XA.below hh);(try replace XB:=XB.below hh);(try replace XC:=XC.below hh);(try replace XD:=XD.below hh);(try replace m:=m.below hh);(try replace o:=o.below hh);(try replace b:=b.below hh);(try replace XM:=XM.below hh);(try replace XO:=XO.below hh);(try replace XP:=XP.below hh);replace hb:=bend hb hh))
 generalize hW:World.alloc _ _=W2
 obtain ⟨hh,XK,hzW2⟩:=mkbx12_8 hW;clear hW;(try replace p:=p.below hh);(try replace q:=q.below hh);(try replace r:=r.below hh);(try replace u:=u.below hh);(try replace XA:=XA.below hh);(try replace XB:=XB.below hh);(try replace XC:=XC.below hh);(try replace XD:=XD.below hh);(try replace m:=m.below hh);(try replace o:=o.below hh);(try replace b:=b.below hh);(try replace XM:=XM.below hh);(try replace XO:=XO.below hh);(try replace XP:=XP.below hh);(try replace kk:=kk.below hh);replace hb:=bend hb hh;obtain ⟨xk0,xk1,xk2⟩:=XK.all
 go_wp2_with (first
  | (go_at_call 87;(with_reducible refine (rsign_q kk.qr (by omega) (by omega)).mono ?_);rintro e w_z ⟨rfl,hh⟩
     rw [HS.out];(try replace p:=p.below hh);(try replace q:=q.below hh);(try replace r:=r.below hh);(try replace u:=u.below hh);(try replace XA:=XA.below hh);(try replace XB:=XB.below hh);(try replace XC:=XC.below hh);(try replace XD:=XD.below hh);(try replace m:=m.below hh);(try replace o:=o.below hh);(try replace b:=b.below hh);(try replace XM:=XM.below hh);(try replace XO:=XO.below hh);(try replace XP:=XP.below hh);(try replace kk:=kk.below hh);(try replace XK:=XK.below hh);replace hb:=bend hb hh;obtain ⟨xa0,xa1,xa2,xa3,xa4,xa5⟩:=XA.all;obtain ⟨xb0,xb1,xb2,xb3,xb4,xb5⟩:=XB.all;obtain ⟨xc0,xc1,xc2,xc3,xc4,xc5⟩:=XC.all;obtain ⟨xd0,xd1,xd2,xd3,xd4,xd5⟩:=XD.all)
  | (go_at_call 88;(with_reducible refine (ends_told p q r u (by omega) h1 HZ.out).mono ?_);rintro e w_e ⟨l,ht,v,L,rfl,hL,hE,hh⟩
     replace hL:=Ln.base_le hL hb.size;replace hb:=bend hb hh))
 go_ret
 exact ⟨l,ht,v,L,rfl,hL,hE,hb⟩
theorem meet_x {k:Nat} {ax ay bx by_ cx cy dx dy:Rat} (p:PR w s_p A_p n_p c_p B_p m_p d_p t_p E_p i_p e_p F_p j_p f_p ax ay k) (q:PR w s_q A_q n_q c_q B_q m_q d_q t_q E_q i_q e_q F_q j_q f_q bx by_ k) (r:PR w s_r A_r n_r c_r B_r m_r d_r t_r E_r i_r e_r F_r j_r f_r cx cy k) (u:PR w s_u A_u n_u c_u B_u m_u d_u t_u E_u i_u e_u F_u j_u f_u dx dy k) (hk:k≤7) (h1:1≤k) (ha:¬ apartQ ax bx cx dx) (hb_:¬ apartQ ay by_ cy dy) (hz:((bx - ax)*(dy - cy) - (by_ - ay)*(dx - cx)) ≠ 0) :
 Calls Tryz.prog 33 #[.agg #[.bool s_p,.slice A_p n_p c_p,.slice B_p m_p d_p,.bool t_p,.slice E_p i_p e_p,.slice F_p j_p f_p],.agg #[.bool s_q,.slice A_q n_q c_q,.slice B_q m_q d_q,.bool t_q,.slice E_q i_q e_q,.slice F_q j_q f_q],.agg #[.bool s_r,.slice A_r n_r c_r,.slice B_r m_r d_r,.bool t_r,.slice E_r i_r e_r,.slice F_r j_r f_r],.agg #[.bool s_u,.slice A_u n_u c_u,.slice B_u m_u d_u,.bool t_u,.slice E_u i_u e_u,.slice F_u j_u f_u]] w (GivesTold w ax ay bx by_ cx cy dx dy k):=by
 have H1:=Lib.hid ha;have H2:=Lib.hid hb_;have HZ:=Lib.hid hz
 obtain ⟨T,hT,hT0⟩:∃ T,sgnQ ((bx - ax)*(dy - cy) - (by_ - ay)*(dx - cx))=T∧((T:Int) == 0)=false:=⟨_,rfl,by simpa using fun e=>hz (sgn_nul e)⟩
 have HS:=Lib.hid hT;clear hT
 have ef:Hid (((cx - ax)*(dy - cy) - (cy - ay)*(dx - cx)) / ((bx - ax)*(dy - cy) - (by_ - ay)*(dx - cx))*((bx - ax)*(dy - cy) - (by_ - ay)*(dx - cx))=((cx - ax)*(dy - cy) - (cy - ay)*(dx - cx))):=div_mul_self hz
 have eg:Hid (((cx - ax)*(by_ - ay) - (cy - ay)*(bx - ax)) / ((bx - ax)*(dy - cy) - (by_ - ay)*(dx - cx))*((bx - ax)*(dy - cy) - (by_ - ay)*(dx - cx))=((cx - ax)*(by_ - ay) - (cy - ay)*(bx - ax))):=div_mul_self hz
 clear ha hb_ hz
 go_enter Tryz.func33,Tryz.ntmps33
 go_upto_region 1 with (fail)
 generalize hW:World.alloc _ _=W
 obtain ⟨hb,XA,XB,XC,XD,hzW⟩:=mkbx44_16 hW;clear hW;replace p:=p.below hb;replace q:=q.below hb;replace r:=r.below hb;replace u:=u.below hb;obtain ⟨xa0,xa1,xa2,xa3,xa4,xa5⟩:=XA.all;obtain ⟨xb0,xb1,xb2,xb3,xb4,xb5⟩:=XB.all;obtain ⟨xc0,xc1,xc2,xc3,xc4,xc5⟩:=XC.all;obtain ⟨xd0,xd1,xd2,xd3,xd4,xd5⟩:=XD.all
 go_upto_region 3 with (first
  | (go_at_call 84;(with_reducible refine (apart_no p.qx q.qx r.qx u.qx (by omega) h1 H1.out).mono ?_);rintro e w_z ⟨rfl,hh⟩
     (try replace p:=p.below hh);(try replace q:=q.below hh);(try replace r:=r.below hh);(try replace u:=u.below hh);(try replace XA:=XA.below hh);(try replace XB:=XB.below hh);(try replace XC:=XC.below hh);(try replace XD:=XD.below hh);replace hb:=bend hb hh;obtain ⟨xa0,xa1,xa2,xa3,xa4,xa5⟩:=XA.all;obtain ⟨xb0,xb1,xb2,xb3,xb4,xb5⟩:=XB.all;obtain ⟨xc0,xc1,xc2,xc3,xc4,xc5⟩:=XC.all;obtain ⟨xd0,xd1,xd2,xd3,xd4,xd5⟩:=XD.all)
  | (go_at_call 84;(with_reducible refine (apart_no p.qy q.qy r.qy u.qy (by omega) h1 H2.out).mono ?_);rintro e w_z ⟨rfl,hh⟩
     (try replace p:=p.below hh);(try replace q:=q.below hh);(try replace r:=r.below hh);(try replace u:=u.below hh);(try replace XA:=XA.below hh);(try replace XB:=XB.below hh);(try replace XC:=XC.below hh);(try replace XD:=XD.below hh);replace hb:=bend hb hh;obtain ⟨xa0,xa1,xa2,xa3,xa4,xa5⟩:=XA.all;obtain ⟨xb0,xb1,xb2,xb3,xb4,xb5⟩:=XB.all;obtain ⟨xc0,xc1,xc2,xc3,xc4,xc5⟩:=XC.all;obtain ⟨xd0,xd1,xd2,xd3,xd4,xd5⟩:=XD.all))
 refine subs_region (by simp) rfl rfl rfl rfl XA XB XC XD p q r u (by omega) h1 ?_
 intro V w_s g_m s_m A_m n_m c_m B_m m_m d_m t_m E_m i_m e_m F_m j_m f_m g_o s_o A_o n_o c_o B_o m_o d_o t_o E_o i_o e_o F_o j_o f_o g_b s_b A_b n_b c_b B_b m_b d_b t_b E_b i_b e_b F_b j_b f_b m XM hg_m hvm o XO hg_o hvo b XP hg_b hvb hne1 hne2 hne3 hh
 simp only [putAll,Act.put,List.setIfInBounds_toArray,List.set_cons_zero,List.set_cons_succ,hvm,hvo,hvb]
 clear hvm hvo hvb hne1 hne2 hne3;replace p:=p.below hh;replace q:=q.below hh;replace r:=r.below hh;replace u:=u.below hh;replace XA:=XA.below hh;replace XB:=XB.below hh;replace XC:=XC.below hh;replace XD:=XD.below hh;replace hb:=bend hb hh;obtain ⟨xm0,xm1,xm2,xm3,xm4,xm5⟩:=XM.all;obtain ⟨xo0,xo1,xo2,xo3,xo4,xo5⟩:=XO.all
 go_upto_region 5 with (first
  | (go_at_call 86;(with_reducible refine (pcross_p m.pr o.pr (by omega) (by omega) (by omega)).mono ?_);rintro e w_k ⟨s_k,A_k,n_k,c_k,B_k,m_k,d_k,rfl,kk,hh⟩
     (try replace p:=p.below hh);(try replace q:=q.below hh);(try replace r:=r.below hh);(try replace u:=u.below hh);(try replace XA:=XA.below hh);(try replace XB:=XB.below hh);(try replace XC:=XC.below hh);(try replace XD:=XD.below hh);(try replace m:=m.below hh);(try replace o:=o.below hh);(try replace b:=b.below hh);(try replace XM:=XM.below hh);(try replace XO:=XO.below hh);(try replace XP:=XP.below hh);replace hb:=bend hb hh))
 generalize hW:World.alloc _ _=W2
 obtain ⟨hh,XK,hzW2⟩:=mkbx12_8 hW;clear hW;(try replace p:=p.below hh);(try replace q:=q.below hh);(try replace r:=r.below hh);(try replace u:=u.below hh);(try replace XA:=XA.below hh);(try replace XB:=XB.below hh);(try replace XC:=XC.below hh);(try replace XD:=XD.below hh);(try replace m:=m.below hh);(try replace o:=o.below hh);(try replace b:=b.below hh);(try replace XM:=XM.below hh);(try replace XO:=XO.below hh);(try replace XP:=XP.below hh);(try replace kk:=kk.below hh);replace hb:=bend hb hh;obtain ⟨xk0,xk1,xk2⟩:=XK.all
 go_upto_region 7 with (first
  | (go_at_call 87;(with_reducible refine (rsign_q kk.qr (by omega) (by omega)).mono ?_);rintro e w_z ⟨rfl,hh⟩
     rw [HS.out];(try replace p:=p.below hh);(try replace q:=q.below hh);(try replace r:=r.below hh);(try replace u:=u.below hh);(try replace XA:=XA.below hh);(try replace XB:=XB.below hh);(try replace XC:=XC.below hh);(try replace XD:=XD.below hh);(try replace m:=m.below hh);(try replace o:=o.below hh);(try replace b:=b.below hh);(try replace XM:=XM.below hh);(try replace XO:=XO.below hh);(try replace XP:=XP.below hh);(try replace kk:=kk.below hh);(try replace XK:=XK.below hh);replace hb:=bend hb hh))
 by_cases hf:shareOK ((cx - ax)*(dy - cy) - (cy - ay)*(dx - cx)) ((bx - ax)*(dy - cy) - (by_ - ay)*(dx - cx))
 · by_cases hg:shareOK ((cx - ax)*(by_ - ay) - (cy - ay)*(bx - ax)) ((bx - ax)*(dy - cy) - (by_ - ay)*(dx - cx))
   · have HT:=Lib.hid (told_cross HZ.out ef.out eg.out ⟨hf.2,hg.2⟩)
     have HF:=Lib.hid hf;have HG:=Lib.hid hg;clear hf hg
     refine share7yes_region (by simp) rfl rfl rfl XP XO XK b.pr o.pr kk.qr (by omega) (by omega) (by omega) (by omega) HF.out ?_
     intro V w_f g_f s_f A_f n_f c_f B_f m_f d_f f XF hg_f hv_ hvo_ hh
     simp only [putAll,Act.put,List.setIfInBounds_toArray,List.set_cons_zero,List.set_cons_succ,hv_,hvo_]
     clear hv_ hvo_;replace p:=p.below hh;replace q:=q.below hh;replace r:=r.below hh;replace u:=u.below hh;replace XA:=XA.below hh;replace XB:=XB.below hh;replace XC:=XC.below hh;replace XD:=XD.below hh;replace m:=m.below hh;replace o:=o.below hh;replace b:=b.below hh;replace XM:=XM.below hh;replace XO:=XO.below hh;replace XP:=XP.below hh;replace kk:=kk.below hh;replace XK:=XK.below hh;replace hb:=bend hb hh
     go_upto_region 8 with (fail)
     refine share8yes_region (by simp) rfl rfl rfl XP XM XK b.pr m.pr kk.qr (by omega) (by omega) (by omega) (by omega) HG.out ?_
     intro V w_g g_g s_g A_g n_g c_g B_g m_g d_g g XG hg_g hv_ hvo_ hh
     simp only [putAll,Act.put,List.setIfInBounds_toArray,List.set_cons_zero,List.set_cons_succ,hv_,hvo_]
     clear hv_ hvo_;replace p:=p.below hh;replace q:=q.below hh;replace r:=r.below hh;replace u:=u.below hh;replace XA:=XA.below hh;replace XB:=XB.below hh;replace XC:=XC.below hh;replace XD:=XD.below hh;replace m:=m.below hh;replace o:=o.below hh;replace b:=b.below hh;replace XM:=XM.below hh;replace XO:=XO.below hh;replace XP:=XP.below hh;replace kk:=kk.below hh;replace XK:=XK.below hh;replace XF:=XF.below hh;replace f:=f.below hh;replace hb:=bend hb hh;obtain ⟨xa0,xa1,xa2,xa3,xa4,xa5⟩:=XA.all;obtain ⟨xb0,xb1,xb2,xb3,xb4,xb5⟩:=XB.all;obtain ⟨xf0,xf1,xf2⟩:=XF.all
     go_wp2_with (first
      | (go_at_call 44;(with_reducible refine (pmix_w p q f.qr (by omega) (by omega) (by omega) h1 h1 (by omega)).mono ?_);rintro e w_x ⟨s_x,A_x,n_x,c_x,B_x,m_x,d_x,t_x,E_x,i_x,e_x,F_x,j_x,f_x,rfl,x,hh⟩
         replace hb:=bend hb hh))
     go_ret
     have hal:Below w_x.heap.size w_x (w_x.alloc (Obj.cells #[Value.bool s_x,Value.slice A_x n_x c_x,Value.slice B_x m_x d_x,Value.bool t_x,Value.slice E_x i_x e_x,Value.slice F_x j_x f_x] 56)):=(Below.refl _ _).alloc (Nat.le_refl _) _
     refine ⟨_,HT.out,_,[(PV.mk s_x A_x n_x c_x B_x m_x d_x t_x E_x i_x e_x F_x j_x f_x)],rfl,Ln.lit w_x [(PV.mk s_x A_x n_x c_x B_x m_x d_x t_x E_x i_x e_x F_x j_x f_x)] hb.size (show 1≤1000000 by decide),⟨rfl,fun i P v hP hv=>?_⟩,bend hb hal⟩
     match i,hP,hv with
     | 0,hP,hv=>cases hP;cases hv;exact PG.more (PG.below x hal) (by show _≤19*k+12;omega)
     | i+1,hP,hv=>cases hP
   · have HT:Hid (Told ax ay bx by_ cx cy dx dy []):=told_none HZ.out ef.out eg.out (fun e=>hg ⟨HZ.out,e.2⟩)
     have HF:=Lib.hid hf;have HG:=Lib.hid hg;clear hf hg
     refine share7yes_region (by simp) rfl rfl rfl XP XO XK b.pr o.pr kk.qr (by omega) (by omega) (by omega) (by omega) HF.out ?_
     intro V w_f g_f s_f A_f n_f c_f B_f m_f d_f f XF hg_f hv_ hvo_ hh
     simp only [putAll,Act.put,List.setIfInBounds_toArray,List.set_cons_zero,List.set_cons_succ,hv_,hvo_]
     clear hv_ hvo_;replace p:=p.below hh;replace q:=q.below hh;replace r:=r.below hh;replace u:=u.below hh;replace XA:=XA.below hh;replace XB:=XB.below hh;replace XC:=XC.below hh;replace XD:=XD.below hh;replace m:=m.below hh;replace o:=o.below hh;replace b:=b.below hh;replace XM:=XM.below hh;replace XO:=XO.below hh;replace XP:=XP.below hh;replace kk:=kk.below hh;replace XK:=XK.below hh;replace hb:=bend hb hh
     go_upto_region 8 with (fail)
     refine share8no_region (by simp) rfl rfl rfl XP XM XK b.pr m.pr kk.qr (by omega) (by omega) (by omega) (by omega) HG.out ?_
     intro V w_g g_g XG hg_g hv_ hvo_ hh
     simp only [putAll,Act.put,List.setIfInBounds_toArray,List.set_cons_zero,List.set_cons_succ,hv_,hvo_]
     clear hv_ hvo_;replace p:=p.below hh;replace q:=q.below hh;replace r:=r.below hh;replace u:=u.below hh;replace XA:=XA.below hh;replace XB:=XB.below hh;replace XC:=XC.below hh;replace XD:=XD.below hh;replace m:=m.below hh;replace o:=o.below hh;replace b:=b.below hh;replace XM:=XM.below hh;replace XO:=XO.below hh;replace XP:=XP.below hh;replace kk:=kk.below hh;replace XK:=XK.below hh;replace XF:=XF.below hh;replace f:=f.below hh;replace hb:=bend hb hh
     go_wp2_with fail
     go_ret
     exact ⟨[],HT.out,.slice none 0 0,[],rfl,Ln.nil _ _ _,Each.nil,hb⟩
 · by_cases hg:shareOK ((cx - ax)*(by_ - ay) - (cy - ay)*(bx - ax)) ((bx - ax)*(dy - cy) - (by_ - ay)*(dx - cx))
   · have HT:Hid (Told ax ay bx by_ cx cy dx dy []):=told_none HZ.out ef.out eg.out (fun e=>hf ⟨HZ.out,e.1⟩)
     have HF:=Lib.hid hf;have HG:=Lib.hid hg;clear hf hg
     refine share7no_region (by simp) rfl rfl rfl XP XO XK b.pr o.pr kk.qr (by omega) (by omega) (by omega) (by omega) HF.out ?_
     intro V w_f g_f XF hg_f hv_ hvo_ hh
     simp only [putAll,Act.put,List.setIfInBounds_toArray,List.set_cons_zero,List.set_cons_succ,hv_,hvo_]
     clear hv_ hvo_;replace p:=p.below hh;replace q:=q.below hh;replace r:=r.below hh;replace u:=u.below hh;replace XA:=XA.below hh;replace XB:=XB.below hh;replace XC:=XC.below hh;replace XD:=XD.below hh;replace m:=m.below hh;replace o:=o.below hh;replace b:=b.below hh;replace XM:=XM.below hh;replace XO:=XO.below hh;replace XP:=XP.below hh;replace kk:=kk.below hh;replace XK:=XK.below hh;replace hb:=bend hb hh
     go_upto_region 8 with (fail)
     refine share8yes_region (by simp) rfl rfl rfl XP XM XK b.pr m.pr kk.qr (by omega) (by omega) (by omega) (by omega) HG.out ?_
     intro V w_g g_g s_g A_g n_g c_g B_g m_g d_g g XG hg_g hv_ hvo_ hh
     simp only [putAll,Act.put,List.setIfInBounds_toArray,List.set_cons_zero,List.set_cons_succ,hv_,hvo_]
     clear hv_ hvo_;replace p:=p.below hh;replace q:=q.below hh;replace r:=r.below hh;replace u:=u.below hh;replace XA:=XA.below hh;replace XB:=XB.below hh;replace XC:=XC.below hh;replace XD:=XD.below hh;replace m:=m.below hh;replace o:=o.below hh;replace b:=b.below hh;replace XM:=XM.below hh;replace XO:=XO.below hh;replace XP:=XP.below hh;replace kk:=kk.below hh;replace XK:=XK.below hh;replace XF:=XF.below hh;replace hb:=bend hb hh
     go_wp2_with fail
     go_ret
     exact ⟨[],HT.out,.slice none 0 0,[],rfl,Ln.nil _ _ _,Each.nil,hb⟩
   · have HT:Hid (Told ax ay bx by_ cx cy dx dy []):=told_none HZ.out ef.out eg.out (fun e=>hf ⟨HZ.out,e.1⟩)
     have HF:=Lib.hid hf;have HG:=Lib.hid hg;clear hf hg
     refine share7no_region (by simp) rfl rfl rfl XP XO XK b.pr o.pr kk.qr (by omega) (by omega) (by omega) (by omega) HF.out ?_
     intro V w_f g_f XF hg_f hv_ hvo_ hh
     simp only [putAll,Act.put,List.setIfInBounds_toArray,List.set_cons_zero,List.set_cons_succ,hv_,hvo_]
     clear hv_ hvo_;replace p:=p.below hh;replace q:=q.below hh;replace r:=r.below hh;replace u:=u.below hh;replace XA:=XA.below hh;replace XB:=XB.below hh;replace XC:=XC.below hh;replace XD:=XD.below hh;replace m:=m.below hh;replace o:=o.below hh;replace b:=b.below hh;replace XM:=XM.below hh;replace XO:=XO.below hh;replace XP:=XP.below hh;replace kk:=kk.below hh;replace XK:=XK.below hh;replace hb:=bend hb hh
     go_upto_region 8 with (fail)
     refine share8no_region (by simp) rfl rfl rfl XP XM XK b.pr m.pr kk.qr (by omega) (by omega) (by omega) (by omega) HG.out ?_
     intro V w_g g_g XG hg_g hv_ hvo_ hh
     simp only [putAll,Act.put,List.setIfInBounds_toArray,List.set_cons_zero,List.set_cons_succ,hv_,hvo_]
     clear hv_ hvo_;replace p:=p.below hh;replace q:=q.below hh;replace r:=r.below hh;replace u:=u.below hh;replace XA:=XA.below hh;replace XB:=XB.below hh;replace XC:=XC.below hh;replace XD:=XD.below hh;replace m:=m.below hh;replace o:=o.below hh;replace b:=b.below hh;replace XM:=XM.below hh;replace XO:=XO.below hh;replace XP:=XP.below hh;replace kk:=kk.below hh;replace XK:=XK.below hh;replace XF:=XF.below hh;replace hb:=bend hb hh
     go_wp2_with fail
     go_ret
     exact ⟨[],HT.out,.slice none 0 0,[],rfl,Ln.nil _ _ _,Each.nil,hb⟩
theorem meet_p {k:Nat} {ax ay bx by_ cx cy dx dy:Rat} (p:PR w s_p A_p n_p c_p B_p m_p d_p t_p E_p i_p e_p F_p j_p f_p ax ay k) (q:PR w s_q A_q n_q c_q B_q m_q d_q t_q E_q i_q e_q F_q j_q f_q bx by_ k) (r:PR w s_r A_r n_r c_r B_r m_r d_r t_r E_r i_r e_r F_r j_r f_r cx cy k) (u:PR w s_u A_u n_u c_u B_u m_u d_u t_u E_u i_u e_u F_u j_u f_u dx dy k) (hk:k≤7) (h1:1≤k):Calls Tryz.prog 33 #[.agg #[.bool s_p,.slice A_p n_p c_p,.slice B_p m_p d_p,.bool t_p,.slice E_p i_p e_p,.slice F_p j_p f_p],.agg #[.bool s_q,.slice A_q n_q c_q,.slice B_q m_q d_q,.bool t_q,.slice E_q i_q e_q,.slice F_q j_q f_q],.agg #[.bool s_r,.slice A_r n_r c_r,.slice B_r m_r d_r,.bool t_r,.slice E_r i_r e_r,.slice F_r j_r f_r],.agg #[.bool s_u,.slice A_u n_u c_u,.slice B_u m_u d_u,.bool t_u,.slice E_u i_u e_u,.slice F_u j_u f_u]] w (GivesTold w ax ay bx by_ cx cy dx dy k):=by
 by_cases ha:apartQ ax bx cx dx
 · exact meet_ax p q r u hk h1 ha
 · by_cases hb:apartQ ay by_ cy dy
   · exact meet_ay p q r u hk h1 ha hb
   · by_cases hz:((bx - ax)*(dy - cy) - (by_ - ay)*(dx - cx))=0
     · exact meet_par p q r u hk h1 ha hb hz
     · exact meet_x p q r u hk h1 ha hb hz
end Go.Proofs.YtmgklaklnaihpaaGreat
