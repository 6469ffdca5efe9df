/- CurveOf: part 10. -/
import Derived.Test.YtfpaeophfcoohaaGreatKCurveOf6
import Derived.Test.YtfpaeophfcoohaaGreatKCurveOf7
import Derived.Test.YtfpaeophfcoohaaGreatKCurveOf8
import Derived.Test.YtfpaeophfcoohaaGreatKCurveOf9
set_option linter.unusedVariables false
set_option maxRecDepth 100000
set_option maxHeartbeats 16000000
variable {w:Go.World}
variable {s_p t_p:Bool} {A_p B_p E_p F_p:Option Go.Addr} {n_p c_p m_p d_p i_p e_p j_p f_p:Nat}
variable {s_q t_q:Bool} {A_q B_q E_q F_q:Option Go.Addr} {n_q c_q m_q d_q i_q e_q j_q f_q:Nat}
namespace Go.Proofs.YtfpaeophfcoohaaGreat
section
open Go Go.RowKit
def B6 (W:World) (g:Nat) (x y z u v t:Value):Prop:=W.heap[g]?=some (.cells #[x,y,z,u,v,t] 28 (0,0))
section
variable {W W':World} {g:Nat} {x y z u v t:Value}
theorem B6.c0 (h:B6 W g x y z u v t):W.cell? ⟨g,0,none⟩=some x:=by rw [cell_of_row W g 0 _ _ (0,0) h];rfl
theorem B6.c1 (h:B6 W g x y z u v t):W.cell? ⟨g,1,none⟩=some y:=by rw [cell_of_row W g 1 _ _ (0,0) h];rfl
theorem B6.c2 (h:B6 W g x y z u v t):W.cell? ⟨g,2,none⟩=some z:=by rw [cell_of_row W g 2 _ _ (0,0) h];rfl
theorem B6.c3 (h:B6 W g x y z u v t):W.cell? ⟨g,3,none⟩=some u:=by rw [cell_of_row W g 3 _ _ (0,0) h];rfl
theorem B6.c4 (h:B6 W g x y z u v t):W.cell? ⟨g,4,none⟩=some v:=by rw [cell_of_row W g 4 _ _ (0,0) h];rfl
theorem B6.c5 (h:B6 W g x y z u v t):W.cell? ⟨g,5,none⟩=some t:=by rw [cell_of_row W g 5 _ _ (0,0) h];rfl
theorem B6.all (h:B6 W g x y z u v t):W.cell? ⟨g,0,none⟩=some x∧W.cell? ⟨g,1,none⟩=some y∧W.cell? ⟨g,2,none⟩=some z∧W.cell? ⟨g,3,none⟩=some u∧W.cell? ⟨g,4,none⟩=some v∧W.cell? ⟨g,5,none⟩=some t:=⟨h.c0,h.c1,h.c2,h.c3,h.c4,h.c5⟩
theorem B6.f0 (h:B6 W g x y z u v t):W.frozen? ⟨g,0,none⟩=false:=frozen_of_row W g 0 _ _ h
theorem B6.f1 (h:B6 W g x y z u v t):W.frozen? ⟨g,1,none⟩=false:=frozen_of_row W g 1 _ _ h
theorem B6.f2 (h:B6 W g x y z u v t):W.frozen? ⟨g,2,none⟩=false:=frozen_of_row W g 2 _ _ h
theorem B6.f3 (h:B6 W g x y z u v t):W.frozen? ⟨g,3,none⟩=false:=frozen_of_row W g 3 _ _ h
theorem B6.f4 (h:B6 W g x y z u v t):W.frozen? ⟨g,4,none⟩=false:=frozen_of_row W g 4 _ _ h
theorem B6.f5 (h:B6 W g x y z u v t):W.frozen? ⟨g,5,none⟩=false:=frozen_of_row W g 5 _ _ h
theorem B6.lt (h:B6 W g x y z u v t):g < W.heap.size:=World.block_lt_of_cell? W _ h.c0
theorem B6.below (h:B6 W g x y z u v t) (hb:Below W.heap.size W W'):B6 W' g x y z u v t:=(hb.block g h.lt).trans h
theorem B6.alloc (h:B6 W g x y z u v t) (o:Obj):B6 (W.alloc o) g x y z u v t:=(Below.heap_alloc W o g h.lt).trans h
theorem B6.new' (W:World) (x y z u v t:Value) (g:Nat) (hg:g=W.heap.size):B6 (W.alloc (.cells #[x,y,z,u,v,t] 28)) g x y z u v t:=by subst hg;exact heap_alloc_new W _
end
def set6 (W:World) (g:Nat) (a b c d e f:Value):World:=(((((W.setCell ⟨g,0,none⟩ a).setCell ⟨g,1,none⟩ b).setCell ⟨g,2,none⟩ c).setCell ⟨g,3,none⟩ d).setCell ⟨g,4,none⟩ e).setCell ⟨g,5,none⟩ f
theorem B6.set6 {W:World} {g:Nat} {x y z u v t:Value} (h:B6 W g x y z u v t) (a b c d e f:Value):B6 ((((((W.setCell ⟨g,0,none⟩ a).setCell ⟨g,1,none⟩ b).setCell ⟨g,2,none⟩ c).setCell ⟨g,3,none⟩ d).setCell ⟨g,4,none⟩ e).setCell ⟨g,5,none⟩ f) g a b c d e f:=by
 unfold B6 at h ⊢
 simp [World.setCell,Array.getElem?_modify,h]
theorem set6_cell (W:World) (g k o:Nat) (a b c d e f:Value) (h:k ≠ g):((((((W.setCell ⟨g,0,none⟩ a).setCell ⟨g,1,none⟩ b).setCell ⟨g,2,none⟩ c).setCell ⟨g,3,none⟩ d).setCell ⟨g,4,none⟩ e).setCell ⟨g,5,none⟩ f).cell? ⟨k,o,none⟩=W.cell? ⟨k,o,none⟩:=by
 rw [World.cell?_of_block (Below.heap_setCell _ _ _ _ h),World.cell?_of_block (Below.heap_setCell _ _ _ _ h),World.cell?_of_block (Below.heap_setCell _ _ _ _ h),World.cell?_of_block (Below.heap_setCell _ _ _ _ h),World.cell?_of_block (Below.heap_setCell _ _ _ _ h),World.cell?_of_block (Below.heap_setCell _ _ _ _ h)]
theorem below_set6 {B g:Nat} {w W:World} (h:Below B w W) (hg:B≤g) (a b c d e f:Value):Below B w ((((((W.setCell ⟨g,0,none⟩ a).setCell ⟨g,1,none⟩ b).setCell ⟨g,2,none⟩ c).setCell ⟨g,3,none⟩ d).setCell ⟨g,4,none⟩ e).setCell ⟨g,5,none⟩ f):=(((((h.setCell hg _).setCell hg _).setCell hg _).setCell hg _).setCell hg _).setCell hg _
theorem Rd.off6 {K:IntKind} {W:World} {g:Nat} {s t:Bool} {A A1 A2 A3 A4:Option Addr} {n n1 c1 n2 c2 n3 c3 n4 c4:Nat} {l:List Nat} (hr:Rd K W A n l) (h:B6 W g (.bool s) (.slice A1 n1 c1) (.slice A2 n2 c2) (.bool t) (.slice A3 n3 c3) (.slice A4 n4 c4)):Off A n g:=by
 intro hn ad e hg
 obtain ⟨b,o,eA,hc⟩:=hr.at_ hn
 obtain ⟨x,_,hx⟩:=hc 0 hn
 rw [eA] at e
 cases e
 have hg2:b=g:=hg
 subst hg2
 rw [cell_of_row W b (o+0) _ _ (0,0) h] at hx
 match o,hx with
 | 0,hx=>cases hx
 | 1,hx=>cases hx
 | 2,hx=>cases hx
 | 3,hx=>cases hx
 | 4,hx=>cases hx
 | 5,hx=>cases hx
 | o+6,hx=>cases hx
def PR (w:World) (s:Bool) (A:Option Addr) (n c:Nat) (B:Option Addr) (m d:Nat) (t:Bool) (E:Option Addr) (i e:Nat) (F:Option Addr) (j f:Nat) (x y:Rat) (k:Nat):Prop:=QR w s A n c B m d x k∧QR w t E i e F j f y k
def PG (w:World) (s:Bool) (A:Option Addr) (n c:Nat) (B:Option Addr) (m d:Nat) (t:Bool) (E:Option Addr) (i e:Nat) (F:Option Addr) (j f:Nat) (x y:Rat) (k:Nat):Prop:=QG w s A n c B m d x k∧QG w t E i e F j f y k
def GivesPt (w:World) (x y:Rat) (k:Nat) (en:Ending) (w':World):Prop :=
 ∃ s A n c B m d t E i e F j f,en=.returned (.agg #[.bool s,.slice A n c,.slice B m d,.bool t,.slice E i e,.slice F j f])∧PG w' s A n c B m d t E i e F j f x y k∧Below w.heap.size w w'
section
variable {w w':World} {s t:Bool} {A B E F:Option Addr} {n c m d i e j f k k1:Nat} {x y:Rat}
theorem PR.below (h:PR w s A n c B m d t E i e F j f x y k) (hb:Below w.heap.size w w'):PR w' s A n c B m d t E i e F j f x y k:=⟨h.1.below hb,h.2.below hb⟩
theorem PG.below (h:PG w s A n c B m d t E i e F j f x y k) (hb:Below w.heap.size w w'):PG w' s A n c B m d t E i e F j f x y k:=⟨h.1.below hb,h.2.below hb⟩
theorem PG.pr (h:PG w s A n c B m d t E i e F j f x y k):PR w s A n c B m d t E i e F j f x y k:=⟨h.1.qr,h.2.qr⟩
theorem PR.qx (h:PR w s A n c B m d t E i e F j f x y k):QR w s A n c B m d x k:=h.1
theorem PR.qy (h:PR w s A n c B m d t E i e F j f x y k):QR w t E i e F j f y k:=h.2
theorem PG.qx (h:PG w s A n c B m d t E i e F j f x y k):QG w s A n c B m d x k:=h.1
theorem PG.qy (h:PG w s A n c B m d t E i e F j f x y k):QG w t E i e F j f y k:=h.2
theorem QG.more (h:QG w s A n c B m d x k) (hk:k≤k1):QG w s A n c B m d x k1:=⟨⟨h.1.1,h.1.2.1,h.1.2.2.1,Nat.le_trans h.1.2.2.2 hk⟩,h.2.more hk⟩
theorem PG.more (h:PG w s A n c B m d t E i e F j f x y k) (hk:k≤k1):PG w s A n c B m d t E i e F j f x y k1:=⟨h.1.more hk,h.2.more hk⟩
theorem PR.more (h:PR w s A n c B m d t E i e F j f x y k) (hk:k≤k1):PR w s A n c B m d t E i e F j f x y k1:=⟨h.1.more hk,h.2.more hk⟩
theorem QG.set6 {v0:Rat} {s0 t0:Bool} {g:Nat} {A1 A2 A3 A4:Option Addr} {n1 c1 n2 c2 n3 c3 n4 c4:Nat} (h:QG w s A n c B m d v0 k) (Z:B6 w g (.bool s0) (.slice A1 n1 c1) (.slice A2 n2 c2) (.bool t0) (.slice A3 n3 c3) (.slice A4 n4 c4)) (a1 a2 a3 a4 a5 a6:Value) :
 QG ((((((w.setCell ⟨g,0,none⟩ a1).setCell ⟨g,1,none⟩ a2).setCell ⟨g,2,none⟩ a3).setCell ⟨g,3,none⟩ a4).setCell ⟨g,4,none⟩ a5).setCell ⟨g,5,none⟩ a6) s A n c B m d v0 k:=by
 have ho:Only g w ((((((w.setCell ⟨g,0,none⟩ a1).setCell ⟨g,1,none⟩ a2).setCell ⟨g,2,none⟩ a3).setCell ⟨g,3,none⟩ a4).setCell ⟨g,4,none⟩ a5).setCell ⟨g,5,none⟩ a6):=((((((Only.refl g w).setCell 0 _).setCell 1 _).setCell 2 _).setCell 3 _).setCell 4 _).setCell 5 _
 exact ⟨⟨h.1.1,h.1.2.1.only (h.1.2.1.off6 Z) ho,h.1.2.2⟩,⟨h.2.1.only (h.2.1.off6 Z) ho,h.2.2⟩⟩
theorem PG.set6 {s0 t0:Bool} {g:Nat} {A1 A2 A3 A4:Option Addr} {n1 c1 n2 c2 n3 c3 n4 c4:Nat} (h:PG w s A n c B m d t E i e F j f x y k) (Z:B6 w g (.bool s0) (.slice A1 n1 c1) (.slice A2 n2 c2) (.bool t0) (.slice A3 n3 c3) (.slice A4 n4 c4)) (a1 a2 a3 a4 a5 a6:Value) :
 PG ((((((w.setCell ⟨g,0,none⟩ a1).setCell ⟨g,1,none⟩ a2).setCell ⟨g,2,none⟩ a3).setCell ⟨g,3,none⟩ a4).setCell ⟨g,4,none⟩ a5).setCell ⟨g,5,none⟩ a6) s A n c B m d t E i e F j f x y k:=⟨h.1.set6 Z _ _ _ _ _ _,h.2.set6 Z _ _ _ _ _ _⟩
end
theorem mkbx16_10 {w W:World} {x0 x1 x2 x3 x4 x5 x6 x7 x8:Value} (h:((w.alloc (Obj.cells #[x0,x1,x2,x3,x4,x5] 28)).alloc (Obj.cells #[x6,x7,x8] 26))=W):Below w.heap.size w W∧B6 W (w.heap.size) x0 x1 x2 x3 x4 x5∧B3 W (w.heap.size+1) x6 x7 x8∧W.heap.size=w.heap.size+2:=by subst h;exact ⟨by exact (((Below.refl _ _).alloc (Nat.le_refl _) _).alloc (by simp) _),by exact (B6.new' _ _ _ _ _ _ _ _ rfl).alloc _,by exact B3.new' _ _ _ _ _ (by simp),by simp⟩
theorem partx_any :
 Calls Tryz.prog 133 #[.agg #[.bool s_p,.slice A_p n_p c_p,.slice B_p m_p d_p,.bool t_p,.slice E_p i_p e_p,.slice F_p j_p f_p]] w fun e w'=>e=.returned (.agg #[.bool s_p,.slice A_p n_p c_p,.slice B_p m_p d_p])∧Below w.heap.size w w':=by
 go_enter Tryz.func133,Tryz.ntmps133
 go_upto_region 1 with (fail)
 generalize hW:World.alloc _ _=W
 obtain ⟨hb,XA,Z,hzW⟩:=mkbx16_10 hW;clear hW;obtain ⟨xa0,xa1,xa2,xa3,xa4,xa5⟩:=XA.all;have zf0:=Z.f0;have zf1:=Z.f1;have zf2:=Z.f2;obtain ⟨z0,z1,z2⟩:=Z.all
 go_wp2_with fail
 have Z2:=Z.set3 (.bool s_p) (.slice A_p n_p c_p) (.slice B_p m_p d_p)
 obtain ⟨g0,g1,g2⟩:=Z2.all
 refine bodyPost_ret (v:=.agg #[.bool s_p,.slice A_p n_p c_p,.slice B_p m_p d_p]) (by simp [results,Tryz.results133,go_sem,g0,g1,g2]) rfl ?_
 exact ⟨rfl,below_set3 hb (by omega) _ _ _⟩
theorem party_any :
 Calls Tryz.prog 134 #[.agg #[.bool s_p,.slice A_p n_p c_p,.slice B_p m_p d_p,.bool t_p,.slice E_p i_p e_p,.slice F_p j_p f_p]] w fun e w'=>e=.returned (.agg #[.bool t_p,.slice E_p i_p e_p,.slice F_p j_p f_p])∧Below w.heap.size w w':=by
 go_enter Tryz.func134,Tryz.ntmps134
 go_upto_region 1 with (fail)
 generalize hW:World.alloc _ _=W
 obtain ⟨hb,XA,Z,hzW⟩:=mkbx16_10 hW;clear hW;obtain ⟨xa0,xa1,xa2,xa3,xa4,xa5⟩:=XA.all;have zf0:=Z.f0;have zf1:=Z.f1;have zf2:=Z.f2;obtain ⟨z0,z1,z2⟩:=Z.all
 go_wp2_with fail
 have Z2:=Z.set3 (.bool t_p) (.slice E_p i_p e_p) (.slice F_p j_p f_p)
 obtain ⟨g0,g1,g2⟩:=Z2.all
 refine bodyPost_ret (v:=.agg #[.bool t_p,.slice E_p i_p e_p,.slice F_p j_p f_p]) (by simp [results,Tryz.results134,go_sem,g0,g1,g2]) rfl ?_
 exact ⟨rfl,below_set3 hb (by omega) _ _ _⟩
theorem add1_x {g1 g2 k k2:Nat} {x y x2 y2:Rat} (XA:B6 w g1 (.bool s_p) (.slice A_p n_p c_p) (.slice B_p m_p d_p) (.bool t_p) (.slice E_p i_p e_p) (.slice F_p j_p f_p)) (XB:B6 w g2 (.bool s_q) (.slice A_q n_q c_q) (.slice B_q m_q d_q) (.bool t_q) (.slice E_q i_q e_q) (.slice F_q j_q f_q)) (p:PR w s_p A_p n_p c_p B_p m_p d_p t_p E_p i_p e_p F_p j_p f_p x y k) (q:PR w s_q A_q n_q c_q B_q m_q d_q t_q E_q i_q e_q F_q j_q f_q x2 y2 k2) (hk:k≤30000) (hk2:k2≤30000) (h40:k≤40000 ∨ k2≤40000) (hk1:1≤k) (hk3:1≤k2) :
 Calls Tryz.prog 111 #[(.func (.func 133) #[] #[]),.pointer (some ⟨g1,0,none⟩),.pointer (some ⟨g2,0,none⟩)] w (GivesQ w (x+x2) (k+k2+1)):=by
 go_enter Tryz.func111,Tryz.ntmps111
 go_upto_region 1 with (fail)
 have hl1:=XA.lt;have hl2:=XB.lt
 generalize hW:World.alloc _ _=W
 obtain ⟨hb,Z,hzW⟩:=mkbx11_8 hW;clear hW;replace p:=p.below hb;replace q:=q.below hb;replace XA:=XA.below hb;replace XB:=XB.below hb
 replace p:=p.below (Below.refl _ _).drew
 replace q:=q.below (Below.refl _ _).drew
 replace XA:=XA.below (Below.refl _ _).drew
 replace XB:=XB.below (Below.refl _ _).drew
 replace Z:=Z.below (Below.refl _ _).drew
 replace hb:=hb.drew
 go_region_held3 (fun w'=>w'.cell? ⟨g1,0,none⟩=some (.bool s_p)∧w'.cell? ⟨g1,1,none⟩=some (.slice A_p n_p c_p)∧w'.cell? ⟨g1,2,none⟩=some (.slice B_p m_p d_p)∧w'.cell? ⟨g1,3,none⟩=some (.bool t_p)∧w'.cell? ⟨g1,4,none⟩=some (.slice E_p i_p e_p)∧w'.cell? ⟨g1,5,none⟩=some (.slice F_p j_p f_p)∧w'.cell? ⟨g2,0,none⟩=some (.bool s_q)∧w'.cell? ⟨g2,1,none⟩=some (.slice A_q n_q c_q)∧w'.cell? ⟨g2,2,none⟩=some (.slice B_q m_q d_q)∧w'.cell? ⟨g2,3,none⟩=some (.bool t_q)∧w'.cell? ⟨g2,4,none⟩=some (.slice E_q i_q e_q)∧w'.cell? ⟨g2,5,none⟩=some (.slice F_q j_q f_q))
  (first | with_reducible exact ⟨XA.c0,XA.c1,XA.c2,XA.c3,XA.c4,XA.c5,XB.c0,XB.c1,XB.c2,XB.c3,XB.c4,XB.c5⟩ | with_reducible exact ⟨(set3_cell _ _ _ _ _ _ _ (by omega)).trans (XA.c0),(set3_cell _ _ _ _ _ _ _ (by omega)).trans (XA.c1),(set3_cell _ _ _ _ _ _ _ (by omega)).trans (XA.c2),(set3_cell _ _ _ _ _ _ _ (by omega)).trans (XA.c3),(set3_cell _ _ _ _ _ _ _ (by omega)).trans (XA.c4),(set3_cell _ _ _ _ _ _ _ (by omega)).trans (XA.c5),(set3_cell _ _ _ _ _ _ _ (by omega)).trans (XB.c0),(set3_cell _ _ _ _ _ _ _ (by omega)).trans (XB.c1),(set3_cell _ _ _ _ _ _ _ (by omega)).trans (XB.c2),(set3_cell _ _ _ _ _ _ _ (by omega)).trans (XB.c3),(set3_cell _ _ _ _ _ _ _ (by omega)).trans (XB.c4),(set3_cell _ _ _ _ _ _ _ (by omega)).trans (XB.c5)⟩)
  (first
  | (go_at_call 133;(with_reducible refine (partx_any).mono ?_);rintro e w_z ⟨rfl,hh⟩
     (try replace p:=p.below hh);(try replace q:=q.below hh);(try replace XA:=XA.below hh);(try replace XB:=XB.below hh);(try replace Z:=Z.below hh);replace hb:=bend hb hh)
  | (go_at_call 112;(with_reducible refine (radd_q p.qx q.qx (by omega) (by omega) h40 hk1 hk3).mono ?_);rintro e w_r ⟨s_r,A_r,n_r,c_r,B_r,m_r,d_r,rfl,r,hh⟩
     (try replace p:=p.below hh);(try replace q:=q.below hh);(try replace XA:=XA.below hh);(try replace XB:=XB.below hh);(try replace Z:=Z.below hh);replace hb:=bend hb hh;have zf0:=Z.f0;have zf1:=Z.f1;have zf2:=Z.f2;obtain ⟨z0,z1,z2⟩:=Z.all))
 go_wp2_with fail
 have Z2:=Z.set3 (.bool s_r) (.slice A_r n_r c_r) (.slice B_r m_r d_r)
 obtain ⟨g0,g1,g2⟩:=Z2.all
 refine bodyPost_ret (v:=.agg #[.bool s_r,.slice A_r n_r c_r,.slice B_r m_r d_r]) (by simp [results,Tryz.results111,go_sem,g0,g1,g2]) rfl ?_
 exact ⟨s_r,A_r,n_r,c_r,B_r,m_r,d_r,rfl,r.set3 Z _ _ _,below_set3 hb (by omega) _ _ _⟩
theorem add1_y {g1 g2 k k2:Nat} {x y x2 y2:Rat} (XA:B6 w g1 (.bool s_p) (.slice A_p n_p c_p) (.slice B_p m_p d_p) (.bool t_p) (.slice E_p i_p e_p) (.slice F_p j_p f_p)) (XB:B6 w g2 (.bool s_q) (.slice A_q n_q c_q) (.slice B_q m_q d_q) (.bool t_q) (.slice E_q i_q e_q) (.slice F_q j_q f_q)) (p:PR w s_p A_p n_p c_p B_p m_p d_p t_p E_p i_p e_p F_p j_p f_p x y k) (q:PR w s_q A_q n_q c_q B_q m_q d_q t_q E_q i_q e_q F_q j_q f_q x2 y2 k2) (hk:k≤30000) (hk2:k2≤30000) (h40:k≤40000 ∨ k2≤40000) (hk1:1≤k) (hk3:1≤k2) :
 Calls Tryz.prog 111 #[(.func (.func 134) #[] #[]),.pointer (some ⟨g1,0,none⟩),.pointer (some ⟨g2,0,none⟩)] w (GivesQ w (y+y2) (k+k2+1)):=by
 go_enter Tryz.func111,Tryz.ntmps111
 go_upto_region 1 with (fail)
 have hl1:=XA.lt;have hl2:=XB.lt
 generalize hW:World.alloc _ _=W
 obtain ⟨hb,Z,hzW⟩:=mkbx11_8 hW;clear hW;replace p:=p.below hb;replace q:=q.below hb;replace XA:=XA.below hb;replace XB:=XB.below hb
 replace p:=p.below (Below.refl _ _).drew
 replace q:=q.below (Below.refl _ _).drew
 replace XA:=XA.below (Below.refl _ _).drew
 replace XB:=XB.below (Below.refl _ _).drew
 replace Z:=Z.below (Below.refl _ _).drew
 replace hb:=hb.drew
 go_region_held3 (fun w'=>w'.cell? ⟨g1,0,none⟩=some (.bool s_p)∧w'.cell? ⟨g1,1,none⟩=some (.slice A_p n_p c_p)∧w'.cell? ⟨g1,2,none⟩=some (.slice B_p m_p d_p)∧w'.cell? ⟨g1,3,none⟩=some (.bool t_p)∧w'.cell? ⟨g1,4,none⟩=some (.slice E_p i_p e_p)∧w'.cell? ⟨g1,5,none⟩=some (.slice F_p j_p f_p)∧w'.cell? ⟨g2,0,none⟩=some (.bool s_q)∧w'.cell? ⟨g2,1,none⟩=some (.slice A_q n_q c_q)∧w'.cell? ⟨g2,2,none⟩=some (.slice B_q m_q d_q)∧w'.cell? ⟨g2,3,none⟩=some (.bool t_q)∧w'.cell? ⟨g2,4,none⟩=some (.slice E_q i_q e_q)∧w'.cell? ⟨g2,5,none⟩=some (.slice F_q j_q f_q))
  (first | with_reducible exact ⟨XA.c0,XA.c1,XA.c2,XA.c3,XA.c4,XA.c5,XB.c0,XB.c1,XB.c2,XB.c3,XB.c4,XB.c5⟩ | with_reducible exact ⟨(set3_cell _ _ _ _ _ _ _ (by omega)).trans (XA.c0),(set3_cell _ _ _ _ _ _ _ (by omega)).trans (XA.c1),(set3_cell _ _ _ _ _ _ _ (by omega)).trans (XA.c2),(set3_cell _ _ _ _ _ _ _ (by omega)).trans (XA.c3),(set3_cell _ _ _ _ _ _ _ (by omega)).trans (XA.c4),(set3_cell _ _ _ _ _ _ _ (by omega)).trans (XA.c5),(set3_cell _ _ _ _ _ _ _ (by omega)).trans (XB.c0),(set3_cell _ _ _ _ _ _ _ (by omega)).trans (XB.c1),(set3_cell _ _ _ _ _ _ _ (by omega)).trans (XB.c2),(set3_cell _ _ _ _ _ _ _ (by omega)).trans (XB.c3),(set3_cell _ _ _ _ _ _ _ (by omega)).trans (XB.c4),(set3_cell _ _ _ _ _ _ _ (by omega)).trans (XB.c5)⟩)
  (first
  | (go_at_call 134;(with_reducible refine (party_any).mono ?_);rintro e w_z ⟨rfl,hh⟩
     (try replace p:=p.below hh);(try replace q:=q.below hh);(try replace XA:=XA.below hh);(try replace XB:=XB.below hh);(try replace Z:=Z.below hh);replace hb:=bend hb hh)
  | (go_at_call 112;(with_reducible refine (radd_q p.qy q.qy (by omega) (by omega) h40 hk1 hk3).mono ?_);rintro e w_r ⟨s_r,A_r,n_r,c_r,B_r,m_r,d_r,rfl,r,hh⟩
     (try replace p:=p.below hh);(try replace q:=q.below hh);(try replace XA:=XA.below hh);(try replace XB:=XB.below hh);(try replace Z:=Z.below hh);replace hb:=bend hb hh;have zf0:=Z.f0;have zf1:=Z.f1;have zf2:=Z.f2;obtain ⟨z0,z1,z2⟩:=Z.all))
 go_wp2_with fail
 have Z2:=Z.set3 (.bool s_r) (.slice A_r n_r c_r) (.slice B_r m_r d_r)
 obtain ⟨g0,g1,g2⟩:=Z2.all
 refine bodyPost_ret (v:=.agg #[.bool s_r,.slice A_r n_r c_r,.slice B_r m_r d_r]) (by simp [results,Tryz.results111,go_sem,g0,g1,g2]) rfl ?_
 exact ⟨s_r,A_r,n_r,c_r,B_r,m_r,d_r,rfl,r.set3 Z _ _ _,below_set3 hb (by omega) _ _ _⟩
theorem mkbx17_10 {w W:World} {x0 x1 x2 x3 x4 x5:Value} (h:(w.alloc (Obj.cells #[x0,x1,x2,x3,x4,x5] 28))=W):Below w.heap.size w W∧B6 W (w.heap.size) x0 x1 x2 x3 x4 x5∧W.heap.size=w.heap.size+1:=by subst h;exact ⟨by exact ((Below.refl _ _).alloc (Nat.le_refl _) _),by exact B6.new' _ _ _ _ _ _ _ _ rfl,by simp⟩
theorem made_add {g1 g2 k k2:Nat} {x y x2 y2:Rat} (XA:B6 w g1 (.bool s_p) (.slice A_p n_p c_p) (.slice B_p m_p d_p) (.bool t_p) (.slice E_p i_p e_p) (.slice F_p j_p f_p)) (XB:B6 w g2 (.bool s_q) (.slice A_q n_q c_q) (.slice B_q m_q d_q) (.bool t_q) (.slice E_q i_q e_q) (.slice F_q j_q f_q)) (p:PR w s_p A_p n_p c_p B_p m_p d_p t_p E_p i_p e_p F_p j_p f_p x y k) (q:PR w s_q A_q n_q c_q B_q m_q d_q t_q E_q i_q e_q F_q j_q f_q x2 y2 k2) (hk:k≤30000) (hk2:k2≤30000) (h40:k≤40000 ∨ k2≤40000) (hk1:1≤k) (hk3:1≤k2) :
 Calls Tryz.prog 105 #[.func (.func 111) #[] #[.pointer (some ⟨g1,0,none⟩),.pointer (some ⟨g2,0,none⟩)]] w (GivesPt w (x+x2) (y+y2) (k+k2+1)):=by
 go_enter Tryz.func105,Tryz.ntmps105
 go_upto_region 1 with (fail)
 generalize hW:World.alloc _ _=W
 obtain ⟨hb,Z,hzW⟩:=mkbx17_10 hW;clear hW;replace p:=p.below hb;replace q:=q.below hb;replace XA:=XA.below hb;replace XB:=XB.below hb
 go_wp2_with (first
  | (go_at_call 111;(with_reducible refine (add1_x XA XB p q hk hk2 h40 hk1 hk3).mono ?_);rintro e w_r ⟨s_r,A_r,n_r,c_r,B_r,m_r,d_r,rfl,r,hh⟩
     (try replace p:=p.below hh);(try replace q:=q.below hh);(try replace XA:=XA.below hh);(try replace XB:=XB.below hh);(try replace Z:=Z.below hh);replace hb:=bend hb hh)
  | (go_at_call 111;(with_reducible refine (add1_y XA XB p q hk hk2 h40 hk1 hk3).mono ?_);rintro e w_u ⟨s_u,A_u,n_u,c_u,B_u,m_u,d_u,rfl,u,hh⟩
     (try replace p:=p.below hh);(try replace q:=q.below hh);(try replace r:=r.below hh);(try replace XA:=XA.below hh);(try replace XB:=XB.below hh);(try replace Z:=Z.below hh);replace hb:=bend hb hh;have zg0:=Z.f0;have zg1:=Z.f1;have zg2:=Z.f2;have zg3:=Z.f3;have zg4:=Z.f4;have zg5:=Z.f5;obtain ⟨zc0,zc1,zc2,zc3,zc4,zc5⟩:=Z.all))
 have Z2:=Z.set6 (.bool s_r) (.slice A_r n_r c_r) (.slice B_r m_r d_r) (.bool s_u) (.slice A_u n_u c_u) (.slice B_u m_u d_u)
 obtain ⟨g0,g1,g2,g3,g4,g5⟩:=Z2.all
 refine bodyPost_ret (v:=.agg #[.bool s_r,.slice A_r n_r c_r,.slice B_r m_r d_r,.bool s_u,.slice A_u n_u c_u,.slice B_u m_u d_u]) (by simp [results,Tryz.results105,go_sem,g0,g1,g2,g3,g4,g5]) rfl ?_
 exact ⟨_,_,_,_,_,_,_,_,_,_,_,_,_,_,rfl,(show PG _ _ _ _ _ _ _ _ _ _ _ _ _ _ _ _ _ _ from ⟨r,u⟩).set6 Z _ _ _ _ _ _,below_set6 hb (by omega) _ _ _ _ _ _⟩
theorem mkbx18_10 {w W:World} {x0 x1 x2 x3 x4 x5 x6 x7 x8 x9 x10 x11 x12 x13 x14 x15 x16 x17:Value} (h:(((w.alloc (Obj.cells #[x0,x1,x2,x3,x4,x5] 28)).alloc (Obj.cells #[x6,x7,x8,x9,x10,x11] 28)).alloc (Obj.cells #[x12,x13,x14,x15,x16,x17] 28))=W):Below w.heap.size w W∧B6 W (w.heap.size) x0 x1 x2 x3 x4 x5∧B6 W (w.heap.size+1) x6 x7 x8 x9 x10 x11∧B6 W (w.heap.size+1+1) x12 x13 x14 x15 x16 x17∧W.heap.size=w.heap.size+3:=by subst h;exact ⟨by exact ((((Below.refl _ _).alloc (Nat.le_refl _) _).alloc (by simp) _).alloc (by simp;omega) _),by exact ((B6.new' _ _ _ _ _ _ _ _ rfl).alloc _).alloc _,by exact (B6.new' _ _ _ _ _ _ _ _ (by simp)).alloc _,by exact B6.new' _ _ _ _ _ _ _ _ (by simp),by simp⟩
theorem padd_p {k k2:Nat} {x y x2 y2:Rat} (p:PR w s_p A_p n_p c_p B_p m_p d_p t_p E_p i_p e_p F_p j_p f_p x y k) (q:PR w s_q A_q n_q c_q B_q m_q d_q t_q E_q i_q e_q F_q j_q f_q x2 y2 k2) (hk:k≤30000) (hk2:k2≤30000) (h40:k≤40000 ∨ k2≤40000) (hk1:1≤k) (hk3:1≤k2) :
 Calls Tryz.prog 73 #[.agg #[.bool s_p,.slice A_p n_p c_p,.slice B_p m_p d_p,.bool t_p,.slice E_p i_p e_p,.slice F_p j_p f_p],.agg #[.bool s_q,.slice A_q n_q c_q,.slice B_q m_q d_q,.bool t_q,.slice E_q i_q e_q,.slice F_q j_q f_q]] w (GivesPt w (x+x2) (y+y2) (k+k2+1)):=by
 have hmf:∀ (fn:Fn) (first cap:Array Value) (w:World),(Instr.makeFunc fn first cap).run Tryz.prog w=.ok (.func fn first cap) w:=fun _ _ _ _=>rfl
 go_enter Tryz.func73,Tryz.ntmps73
 go_upto_region 1 with (fail)
 generalize hW:World.alloc _ _=W
 obtain ⟨hb,XA,XB,Z,hzW⟩:=mkbx18_10 hW;clear hW;replace p:=p.below hb;replace q:=q.below hb
 go_wp2_with (first
  | (go_at_call 105;(with_reducible refine (made_add XA XB p q hk hk2 h40 hk1 hk3).mono ?_);rintro e w_r ⟨s_r,A_r,n_r,c_r,B_r,m_r,d_r,t_r,E_r,i_r,e_r,F_r,j_r,f_r,rfl,r,hh⟩
     (try replace Z:=Z.below hh);replace hb:=bend hb hh;have zg0:=Z.f0;have zg1:=Z.f1;have zg2:=Z.f2;have zg3:=Z.f3;have zg4:=Z.f4;have zg5:=Z.f5;obtain ⟨zc0,zc1,zc2,zc3,zc4,zc5⟩:=Z.all))
 have Z2:=Z.set6 (.bool s_r) (.slice A_r n_r c_r) (.slice B_r m_r d_r) (.bool t_r) (.slice E_r i_r e_r) (.slice F_r j_r f_r)
 obtain ⟨g0,g1,g2,g3,g4,g5⟩:=Z2.all
 refine bodyPost_ret (v:=.agg #[.bool s_r,.slice A_r n_r c_r,.slice B_r m_r d_r,.bool t_r,.slice E_r i_r e_r,.slice F_r j_r f_r]) (by simp [results,Tryz.results73,go_sem,g0,g1,g2,g3,g4,g5]) rfl ?_
 exact ⟨s_r,A_r,n_r,c_r,B_r,m_r,d_r,t_r,E_r,i_r,e_r,F_r,j_r,f_r,rfl,r.set6 Z _ _ _ _ _ _,below_set6 hb (by omega) _ _ _ _ _ _⟩
theorem scale1_x {g1 g2 k k2:Nat} {x y x2:Rat} {s:Bool} {A A':Option Addr} {n c n' c':Nat} (XA:B6 w g1 (.bool s_p) (.slice A_p n_p c_p) (.slice B_p m_p d_p) (.bool t_p) (.slice E_p i_p e_p) (.slice F_p j_p f_p)) (XB:B3 w g2 (.bool s) (.slice A n c) (.slice A' n' c')) (p:PR w s_p A_p n_p c_p B_p m_p d_p t_p E_p i_p e_p F_p j_p f_p x y k) (q:QR w s A n c A' n' c' x2 k2) (hk:k≤30000) (hk2:k2≤30000) (h40:k≤40000 ∨ k2≤40000) (hk1:1≤k) (hk3:1≤k2) :
 Calls Tryz.prog 106 #[(.func (.func 133) #[] #[]),.pointer (some ⟨g1,0,none⟩),.pointer (some ⟨g2,0,none⟩)] w (GivesQ w (x*x2) (k+k2)):=by
 go_enter Tryz.func106,Tryz.ntmps106
 go_upto_region 1 with (fail)
 have hl1:=XA.lt;have hl2:=XB.lt
 generalize hW:World.alloc _ _=W
 obtain ⟨hb,Z,hzW⟩:=mkbx11_8 hW;clear hW;replace p:=p.below hb;replace q:=q.below hb;replace XA:=XA.below hb;replace XB:=XB.below hb
 replace p:=p.below (Below.refl _ _).drew
 replace q:=q.below (Below.refl _ _).drew
 replace XA:=XA.below (Below.refl _ _).drew
 replace XB:=XB.below (Below.refl _ _).drew
 replace Z:=Z.below (Below.refl _ _).drew
 replace hb:=hb.drew
 go_region_held3 (fun w'=>w'.cell? ⟨g1,0,none⟩=some (.bool s_p)∧w'.cell? ⟨g1,1,none⟩=some (.slice A_p n_p c_p)∧w'.cell? ⟨g1,2,none⟩=some (.slice B_p m_p d_p)∧w'.cell? ⟨g1,3,none⟩=some (.bool t_p)∧w'.cell? ⟨g1,4,none⟩=some (.slice E_p i_p e_p)∧w'.cell? ⟨g1,5,none⟩=some (.slice F_p j_p f_p)∧w'.cell? ⟨g2,0,none⟩=some (.bool s)∧w'.cell? ⟨g2,1,none⟩=some (.slice A n c)∧w'.cell? ⟨g2,2,none⟩=some (.slice A' n' c'))
  (first | with_reducible exact ⟨XA.c0,XA.c1,XA.c2,XA.c3,XA.c4,XA.c5,XB.c0,XB.c1,XB.c2⟩ | with_reducible exact ⟨(set3_cell _ _ _ _ _ _ _ (by omega)).trans (XA.c0),(set3_cell _ _ _ _ _ _ _ (by omega)).trans (XA.c1),(set3_cell _ _ _ _ _ _ _ (by omega)).trans (XA.c2),(set3_cell _ _ _ _ _ _ _ (by omega)).trans (XA.c3),(set3_cell _ _ _ _ _ _ _ (by omega)).trans (XA.c4),(set3_cell _ _ _ _ _ _ _ (by omega)).trans (XA.c5),(set3_cell _ _ _ _ _ _ _ (by omega)).trans (XB.c0),(set3_cell _ _ _ _ _ _ _ (by omega)).trans (XB.c1),(set3_cell _ _ _ _ _ _ _ (by omega)).trans (XB.c2)⟩)
  (first
  | (go_at_call 133;(with_reducible refine (partx_any).mono ?_);rintro e w_z ⟨rfl,hh⟩
     (try replace p:=p.below hh);(try replace q:=q.below hh);(try replace XA:=XA.below hh);(try replace XB:=XB.below hh);(try replace Z:=Z.below hh);replace hb:=bend hb hh)
  | (go_at_call 107;(with_reducible refine (rmul_q p.qx q (by omega) (by omega) h40 hk1 hk3).mono ?_);rintro e w_r ⟨s_r,A_r,n_r,c_r,B_r,m_r,d_r,rfl,r,hh⟩
     (try replace p:=p.below hh);(try replace q:=q.below hh);(try replace XA:=XA.below hh);(try replace XB:=XB.below hh);(try replace Z:=Z.below hh);replace hb:=bend hb hh;have zf0:=Z.f0;have zf1:=Z.f1;have zf2:=Z.f2;obtain ⟨z0,z1,z2⟩:=Z.all))
 go_wp2_with fail
 have Z2:=Z.set3 (.bool s_r) (.slice A_r n_r c_r) (.slice B_r m_r d_r)
 obtain ⟨g0,g1,g2⟩:=Z2.all
 refine bodyPost_ret (v:=.agg #[.bool s_r,.slice A_r n_r c_r,.slice B_r m_r d_r]) (by simp [results,Tryz.results106,go_sem,g0,g1,g2]) rfl ?_
 exact ⟨s_r,A_r,n_r,c_r,B_r,m_r,d_r,rfl,r.set3 Z _ _ _,below_set3 hb (by omega) _ _ _⟩
theorem scale1_y {g1 g2 k k2:Nat} {x y x2:Rat} {s:Bool} {A A':Option Addr} {n c n' c':Nat} (XA:B6 w g1 (.bool s_p) (.slice A_p n_p c_p) (.slice B_p m_p d_p) (.bool t_p) (.slice E_p i_p e_p) (.slice F_p j_p f_p)) (XB:B3 w g2 (.bool s) (.slice A n c) (.slice A' n' c')) (p:PR w s_p A_p n_p c_p B_p m_p d_p t_p E_p i_p e_p F_p j_p f_p x y k) (q:QR w s A n c A' n' c' x2 k2) (hk:k≤30000) (hk2:k2≤30000) (h40:k≤40000 ∨ k2≤40000) (hk1:1≤k) (hk3:1≤k2) :
 Calls Tryz.prog 106 #[(.func (.func 134) #[] #[]),.pointer (some ⟨g1,0,none⟩),.pointer (some ⟨g2,0,none⟩)] w (GivesQ w (y*x2) (k+k2)):=by
 go_enter Tryz.func106,Tryz.ntmps106
 go_upto_region 1 with (fail)
 have hl1:=XA.lt;have hl2:=XB.lt
 generalize hW:World.alloc _ _=W
 obtain ⟨hb,Z,hzW⟩:=mkbx11_8 hW;clear hW;replace p:=p.below hb;replace q:=q.below hb;replace XA:=XA.below hb;replace XB:=XB.below hb
 replace p:=p.below (Below.refl _ _).drew
 replace q:=q.below (Below.refl _ _).drew
 replace XA:=XA.below (Below.refl _ _).drew
 replace XB:=XB.below (Below.refl _ _).drew
 replace Z:=Z.below (Below.refl _ _).drew
 replace hb:=hb.drew
 go_region_held3 (fun w'=>w'.cell? ⟨g1,0,none⟩=some (.bool s_p)∧w'.cell? ⟨g1,1,none⟩=some (.slice A_p n_p c_p)∧w'.cell? ⟨g1,2,none⟩=some (.slice B_p m_p d_p)∧w'.cell? ⟨g1,3,none⟩=some (.bool t_p)∧w'.cell? ⟨g1,4,none⟩=some (.slice E_p i_p e_p)∧w'.cell? ⟨g1,5,none⟩=some (.slice F_p j_p f_p)∧w'.cell? ⟨g2,0,none⟩=some (.bool s)∧w'.cell? ⟨g2,1,none⟩=some (.slice A n c)∧w'.cell? ⟨g2,2,none⟩=some (.slice A' n' c'))
  (first | with_reducible exact ⟨XA.c0,XA.c1,XA.c2,XA.c3,XA.c4,XA.c5,XB.c0,XB.c1,XB.c2⟩ | with_reducible exact ⟨(set3_cell _ _ _ _ _ _ _ (by omega)).trans (XA.c0),(set3_cell _ _ _ _ _ _ _ (by omega)).trans (XA.c1),(set3_cell _ _ _ _ _ _ _ (by omega)).trans (XA.c2),(set3_cell _ _ _ _ _ _ _ (by omega)).trans (XA.c3),(set3_cell _ _ _ _ _ _ _ (by omega)).trans (XA.c4),(set3_cell _ _ _ _ _ _ _ (by omega)).trans (XA.c5),(set3_cell _ _ _ _ _ _ _ (by omega)).trans (XB.c0),(set3_cell _ _ _ _ _ _ _ (by omega)).trans (XB.c1),(set3_cell _ _ _ _ _ _ _ (by omega)).trans (XB.c2)⟩)
  (first
  | (go_at_call 134;(with_reducible refine (party_any).mono ?_);rintro e w_z ⟨rfl,hh⟩
     (try replace p:=p.below hh);(try replace q:=q.below hh);(try replace XA:=XA.below hh);(try replace XB:=XB.below hh);(try replace Z:=Z.below hh);replace hb:=bend hb hh)
  | (go_at_call 107;(with_reducible refine (rmul_q p.qy q (by omega) (by omega) h40 hk1 hk3).mono ?_);rintro e w_r ⟨s_r,A_r,n_r,c_r,B_r,m_r,d_r,rfl,r,hh⟩
     (try replace p:=p.below hh);(try replace q:=q.below hh);(try replace XA:=XA.below hh);(try replace XB:=XB.below hh);(try replace Z:=Z.below hh);replace hb:=bend hb hh;have zf0:=Z.f0;have zf1:=Z.f1;have zf2:=Z.f2;obtain ⟨z0,z1,z2⟩:=Z.all))
 go_wp2_with fail
 have Z2:=Z.set3 (.bool s_r) (.slice A_r n_r c_r) (.slice B_r m_r d_r)
 obtain ⟨g0,g1,g2⟩:=Z2.all
 refine bodyPost_ret (v:=.agg #[.bool s_r,.slice A_r n_r c_r,.slice B_r m_r d_r]) (by simp [results,Tryz.results106,go_sem,g0,g1,g2]) rfl ?_
 exact ⟨s_r,A_r,n_r,c_r,B_r,m_r,d_r,rfl,r.set3 Z _ _ _,below_set3 hb (by omega) _ _ _⟩
theorem made_scale {g1 g2 k k2:Nat} {x y x2:Rat} {s:Bool} {A A':Option Addr} {n c n' c':Nat} (XA:B6 w g1 (.bool s_p) (.slice A_p n_p c_p) (.slice B_p m_p d_p) (.bool t_p) (.slice E_p i_p e_p) (.slice F_p j_p f_p)) (XB:B3 w g2 (.bool s) (.slice A n c) (.slice A' n' c')) (p:PR w s_p A_p n_p c_p B_p m_p d_p t_p E_p i_p e_p F_p j_p f_p x y k) (q:QR w s A n c A' n' c' x2 k2) (hk:k≤30000) (hk2:k2≤30000) (h40:k≤40000 ∨ k2≤40000) (hk1:1≤k) (hk3:1≤k2) :
 Calls Tryz.prog 105 #[.func (.func 106) #[] #[.pointer (some ⟨g1,0,none⟩),.pointer (some ⟨g2,0,none⟩)]] w (GivesPt w (x*x2) (y*x2) (k+k2)):=by
 go_enter Tryz.func105,Tryz.ntmps105
 go_upto_region 1 with (fail)
 generalize hW:World.alloc _ _=W
 obtain ⟨hb,Z,hzW⟩:=mkbx17_10 hW;clear hW;replace p:=p.below hb;replace q:=q.below hb;replace XA:=XA.below hb;replace XB:=XB.below hb
 go_wp2_with (first
  | (go_at_call 106;(with_reducible refine (scale1_x XA XB p q hk hk2 h40 hk1 hk3).mono ?_);rintro e w_r ⟨s_r,A_r,n_r,c_r,B_r,m_r,d_r,rfl,r,hh⟩
     (try replace p:=p.below hh);(try replace q:=q.below hh);(try replace XA:=XA.below hh);(try replace XB:=XB.below hh);(try replace Z:=Z.below hh);replace hb:=bend hb hh)
  | (go_at_call 106;(with_reducible refine (scale1_y XA XB p q hk hk2 h40 hk1 hk3).mono ?_);rintro e w_u ⟨s_u,A_u,n_u,c_u,B_u,m_u,d_u,rfl,u,hh⟩
     (try replace p:=p.below hh);(try replace q:=q.below hh);(try replace r:=r.below hh);(try replace XA:=XA.below hh);(try replace XB:=XB.below hh);(try replace Z:=Z.below hh);replace hb:=bend hb hh;have zg0:=Z.f0;have zg1:=Z.f1;have zg2:=Z.f2;have zg3:=Z.f3;have zg4:=Z.f4;have zg5:=Z.f5;obtain ⟨zc0,zc1,zc2,zc3,zc4,zc5⟩:=Z.all))
 have Z2:=Z.set6 (.bool s_r) (.slice A_r n_r c_r) (.slice B_r m_r d_r) (.bool s_u) (.slice A_u n_u c_u) (.slice B_u m_u d_u)
 obtain ⟨g0,g1,g2,g3,g4,g5⟩:=Z2.all
 refine bodyPost_ret (v:=.agg #[.bool s_r,.slice A_r n_r c_r,.slice B_r m_r d_r,.bool s_u,.slice A_u n_u c_u,.slice B_u m_u d_u]) (by simp [results,Tryz.results105,go_sem,g0,g1,g2,g3,g4,g5]) rfl ?_
 exact ⟨_,_,_,_,_,_,_,_,_,_,_,_,_,_,rfl,(show PG _ _ _ _ _ _ _ _ _ _ _ _ _ _ _ _ _ _ from ⟨r,u⟩).set6 Z _ _ _ _ _ _,below_set6 hb (by omega) _ _ _ _ _ _⟩
theorem mkbx19_10 {w W:World} {x0 x1 x2 x3 x4 x5 x6 x7 x8 x9 x10 x11 x12 x13 x14:Value} (h:(((w.alloc (Obj.cells #[x0,x1,x2,x3,x4,x5] 28)).alloc (Obj.cells #[x6,x7,x8] 26)).alloc (Obj.cells #[x9,x10,x11,x12,x13,x14] 28))=W):Below w.heap.size w W∧B6 W (w.heap.size) x0 x1 x2 x3 x4 x5∧B3 W (w.heap.size+1) x6 x7 x8∧B6 W (w.heap.size+1+1) x9 x10 x11 x12 x13 x14∧W.heap.size=w.heap.size+3:=by subst h;exact ⟨by exact ((((Below.refl _ _).alloc (Nat.le_refl _) _).alloc (by simp) _).alloc (by simp;omega) _),by exact ((B6.new' _ _ _ _ _ _ _ _ rfl).alloc _).alloc _,by exact (B3.new' _ _ _ _ _ (by simp)).alloc _,by exact B6.new' _ _ _ _ _ _ _ _ (by simp),by simp⟩
theorem pscale_p {k k2:Nat} {x y x2:Rat} {s:Bool} {A A':Option Addr} {n c n' c':Nat} (p:PR w s_p A_p n_p c_p B_p m_p d_p t_p E_p i_p e_p F_p j_p f_p x y k) (q:QR w s A n c A' n' c' x2 k2) (hk:k≤30000) (hk2:k2≤30000) (h40:k≤40000 ∨ k2≤40000) (hk1:1≤k) (hk3:1≤k2) :
 Calls Tryz.prog 63 #[.agg #[.bool s_p,.slice A_p n_p c_p,.slice B_p m_p d_p,.bool t_p,.slice E_p i_p e_p,.slice F_p j_p f_p],.agg #[.bool s,.slice A n c,.slice A' n' c']] w (GivesPt w (x*x2) (y*x2) (k+k2)):=by
 have hmf:∀ (fn:Fn) (first cap:Array Value) (w:World),(Instr.makeFunc fn first cap).run Tryz.prog w=.ok (.func fn first cap) w:=fun _ _ _ _=>rfl
 go_enter Tryz.func63,Tryz.ntmps63
 go_upto_region 1 with (fail)
 generalize hW:World.alloc _ _=W
 obtain ⟨hb,XA,XB,Z,hzW⟩:=mkbx19_10 hW;clear hW;replace p:=p.below hb;replace q:=q.below hb
 go_wp2_with (first
  | (go_at_call 105;(with_reducible refine (made_scale XA XB p q hk hk2 h40 hk1 hk3).mono ?_);rintro e w_r ⟨s_r,A_r,n_r,c_r,B_r,m_r,d_r,t_r,E_r,i_r,e_r,F_r,j_r,f_r,rfl,r,hh⟩
     (try replace Z:=Z.below hh);replace hb:=bend hb hh;have zg0:=Z.f0;have zg1:=Z.f1;have zg2:=Z.f2;have zg3:=Z.f3;have zg4:=Z.f4;have zg5:=Z.f5;obtain ⟨zc0,zc1,zc2,zc3,zc4,zc5⟩:=Z.all))
 have Z2:=Z.set6 (.bool s_r) (.slice A_r n_r c_r) (.slice B_r m_r d_r) (.bool t_r) (.slice E_r i_r e_r) (.slice F_r j_r f_r)
 obtain ⟨g0,g1,g2,g3,g4,g5⟩:=Z2.all
 refine bodyPost_ret (v:=.agg #[.bool s_r,.slice A_r n_r c_r,.slice B_r m_r d_r,.bool t_r,.slice E_r i_r e_r,.slice F_r j_r f_r]) (by simp [results,Tryz.results63,go_sem,g0,g1,g2,g3,g4,g5]) rfl ?_
 exact ⟨s_r,A_r,n_r,c_r,B_r,m_r,d_r,t_r,E_r,i_r,e_r,F_r,j_r,f_r,rfl,r.set6 Z _ _ _ _ _ _,below_set6 hb (by omega) _ _ _ _ _ _⟩
end
section
open Go Go.RowKit
theorem cmpQ_nul {v u:Rat}:cmpQ v u=0 ↔ v=u:=by
 unfold cmpQ
 split
 · rename_i q;exact ⟨fun e=>absurd e (by decide),fun e=>by rw [e] at q;exact absurd q Rat.lt_irrefl⟩
 · split
   · rename_i q;exact ⟨fun e=>absurd e (by decide),fun e=>by rw [e] at q;exact absurd q Rat.lt_irrefl⟩
   · rename_i q r;exact ⟨fun _=>Rat.le_antisymm (Rat.not_lt.1 r) (Rat.not_lt.1 q),fun _=>rfl⟩
theorem B3.rest {W W':World} {g k:Nat} {x y z:Value} (h:B3 W g x y z) (hne:g ≠ k) (ho:Only k W W'):B3 W' g x y z:=(ho.block g h.lt hne).trans h
theorem mkbx20_10 {w W:World} {x0 x1 x2 x3 x4 x5 x6 x7 x8 x9 x10 x11:Value} (h:((w.alloc (Obj.cells #[x0,x1,x2,x3,x4,x5] 28)).alloc (Obj.cells #[x6,x7,x8,x9,x10,x11] 28))=W):Below w.heap.size w W∧B6 W (w.heap.size) x0 x1 x2 x3 x4 x5∧B6 W (w.heap.size+1) x6 x7 x8 x9 x10 x11∧W.heap.size=w.heap.size+2:=by subst h;exact ⟨by exact (((Below.refl _ _).alloc (Nat.le_refl _) _).alloc (by simp) _),by exact (B6.new' _ _ _ _ _ _ _ _ rfl).alloc _,by exact B6.new' _ _ _ _ _ _ _ _ (by simp),by simp⟩
theorem psame_ne {k k2:Nat} {x y x2 y2:Rat} (p:PR w s_p A_p n_p c_p B_p m_p d_p t_p E_p i_p e_p F_p j_p f_p x y k) (q:PR w s_q A_q n_q c_q B_q m_q d_q t_q E_q i_q e_q F_q j_q f_q x2 y2 k2) (hk:k≤40000) (hk2:k2≤40000) (h1:1≤k) (h2:1≤k2) (hx:x ≠ x2) :
 Calls Tryz.prog 27 #[.agg #[.bool s_p,.slice A_p n_p c_p,.slice B_p m_p d_p,.bool t_p,.slice E_p i_p e_p,.slice F_p j_p f_p],.agg #[.bool s_q,.slice A_q n_q c_q,.slice B_q m_q d_q,.bool t_q,.slice E_q i_q e_q,.slice F_q j_q f_q]] w fun e w'=>e=.returned (.bool (false))∧Below w.heap.size w w':=by
 obtain ⟨K,hK,hK0⟩:∃ K,cmpQ x x2=K∧((K:Int) == 0)=false:=⟨_,rfl,by simpa using fun q=>hx (cmpQ_nul.1 q)⟩
 have HK:=Lib.hid hK;clear hK hx
 go_enter Tryz.func27,Tryz.ntmps27
 go_wp2_with fail
 generalize hW:World.alloc _ _=W
 obtain ⟨hb,XA,XB,hzW⟩:=mkbx20_10 hW;clear hW;replace p:=p.below hb;replace q:=q.below hb;obtain ⟨xa0,xa1,xa2,xa3,xa4,xa5⟩:=XA.all;obtain ⟨xb0,xb1,xb2,xb3,xb4,xb5⟩:=XB.all
 go_wp2_with (first
  | (go_at_call 28;(with_reducible refine (rcmp_q p.qx q.qx hk hk2 (.inl hk) h1 h2).mono ?_);rintro e w_z ⟨rfl,hh⟩
     rw [HK.out];(try replace p:=p.below hh);(try replace q:=q.below hh);(try replace XA:=XA.below hh);(try replace XB:=XB.below hh);replace hb:=bend hb hh;obtain ⟨xa0,xa1,xa2,xa3,xa4,xa5⟩:=XA.all;obtain ⟨xb0,xb1,xb2,xb3,xb4,xb5⟩:=XB.all))
 go_ret;exact ⟨rfl,hb⟩
theorem psame_eq {k k2:Nat} {x y x2 y2:Rat} (p:PR w s_p A_p n_p c_p B_p m_p d_p t_p E_p i_p e_p F_p j_p f_p x y k) (q:PR w s_q A_q n_q c_q B_q m_q d_q t_q E_q i_q e_q F_q j_q f_q x2 y2 k2) (hk:k≤40000) (hk2:k2≤40000) (h1:1≤k) (h2:1≤k2) (hx:x=x2) :
 Calls Tryz.prog 27 #[.agg #[.bool s_p,.slice A_p n_p c_p,.slice B_p m_p d_p,.bool t_p,.slice E_p i_p e_p,.slice F_p j_p f_p],.agg #[.bool s_q,.slice A_q n_q c_q,.slice B_q m_q d_q,.bool t_q,.slice E_q i_q e_q,.slice F_q j_q f_q]] w fun e w'=>e=.returned (.bool (cmpQ y y2 == 0))∧Below w.heap.size w w':=by
 have HK:Hid (cmpQ x x2=0):=cmpQ_nul.2 hx
 obtain ⟨M,hM⟩:∃ M,cmpQ y y2=M:=⟨_,rfl⟩
 have HM:=Lib.hid hM;clear hM hx
 go_enter Tryz.func27,Tryz.ntmps27
 go_wp2_with fail
 generalize hW:World.alloc _ _=W
 obtain ⟨hb,XA,XB,hzW⟩:=mkbx20_10 hW;clear hW;replace p:=p.below hb;replace q:=q.below hb;obtain ⟨xa0,xa1,xa2,xa3,xa4,xa5⟩:=XA.all;obtain ⟨xb0,xb1,xb2,xb3,xb4,xb5⟩:=XB.all
 go_wp2_with (first
  | (go_at_call 28;(with_reducible refine (rcmp_q p.qx q.qx hk hk2 (.inl hk) h1 h2).mono ?_);rintro e w_z ⟨rfl,hh⟩
     rw [HK.out];(try replace p:=p.below hh);(try replace q:=q.below hh);(try replace XA:=XA.below hh);(try replace XB:=XB.below hh);replace hb:=bend hb hh;obtain ⟨xa0,xa1,xa2,xa3,xa4,xa5⟩:=XA.all;obtain ⟨xb0,xb1,xb2,xb3,xb4,xb5⟩:=XB.all)
  | (go_at_call 28;(with_reducible refine (rcmp_q p.qy q.qy hk hk2 (.inl hk) h1 h2).mono ?_);rintro e w_z ⟨rfl,hh⟩
     rw [HM.out];(try replace p:=p.below hh);(try replace q:=q.below hh);(try replace XA:=XA.below hh);(try replace XB:=XB.below hh);replace hb:=bend hb hh;obtain ⟨xa0,xa1,xa2,xa3,xa4,xa5⟩:=XA.all;obtain ⟨xb0,xb1,xb2,xb3,xb4,xb5⟩:=XB.all))
 go_ret
 exact ⟨by rw [HM.out];first | rfl | simp,hb⟩
theorem psame_p {k k2:Nat} {x y x2 y2:Rat} (p:PR w s_p A_p n_p c_p B_p m_p d_p t_p E_p i_p e_p F_p j_p f_p x y k) (q:PR w s_q A_q n_q c_q B_q m_q d_q t_q E_q i_q e_q F_q j_q f_q x2 y2 k2) (hk:k≤40000) (hk2:k2≤40000) (h1:1≤k) (h2:1≤k2) (R:Bool) (hR:decide (x=x2∧y=y2)=R) :
 Calls Tryz.prog 27 #[.agg #[.bool s_p,.slice A_p n_p c_p,.slice B_p m_p d_p,.bool t_p,.slice E_p i_p e_p,.slice F_p j_p f_p],.agg #[.bool s_q,.slice A_q n_q c_q,.slice B_q m_q d_q,.bool t_q,.slice E_q i_q e_q,.slice F_q j_q f_q]] w fun e w'=>e=.returned (.bool R)∧Below w.heap.size w w':=by
 subst hR
 by_cases h:x=x2
 · have:=psame_eq p q hk hk2 h1 h2 h
   rwa [show (cmpQ y y2 == 0)=decide (x=x2∧y=y2) from by
    by_cases h':y=y2
    · rw [decide_eq_true ⟨h,h'⟩,cmpQ_nul.2 h'];rfl
    · rw [decide_eq_false (fun q=>h' q.2)];simpa using fun q=>h' (cmpQ_nul.1 q)] at this
 · have:=psame_ne p q hk hk2 h1 h2 h
   rwa [show false=decide (x=x2∧y=y2) from (decide_eq_false (fun q=>h q.1)).symm] at this
end
section
open Go Go.RowKit
def IsZ (w:World) (v:Value) (x:Int) (k:Nat):Prop:=∃ s A n c,v=.agg #[.bool s,.slice A n c]∧ZR w s A n c x k
def IsDM (w:World) (v:Value) (x:Int) (k:Nat):Prop:=∃ s A n c s' A' n' c',v=.tuple #[.agg #[.bool s,.slice A n c],.agg #[.bool s',.slice A' n' c'],.int .i64 0]∧ZG w s A n c x k
def IBox (w:World) (base:Nat) (p cont:Value) (full:Bool):Prop:=∃ g s A n c,p=.pointer (some ⟨g,0,none⟩)∧base≤g∧Bx w g (.bool s) (.slice A n c)∧(full=true→cont=.agg #[.bool s,.slice A n c])
theorem IsZ.below {w w':World} {v:Value} {x:Int} {k:Nat} (h:IsZ w v x k) (hb:Below w.heap.size w w'):IsZ w' v x k:=by
 obtain ⟨s,A,n,c,h1,h2⟩:=h;exact ⟨s,A,n,c,h1,h2.below hb⟩
theorem IsDM.below {w w':World} {v:Value} {x:Int} {k:Nat} (h:IsDM w v x k) (hb:Below w.heap.size w w'):IsDM w' v x k:=by
 obtain ⟨s,A,n,c,s',A',n',c',h1,h2⟩:=h;exact ⟨s,A,n,c,s',A',n',c',h1,h2.below hb⟩
theorem IBox.below {w w':World} {base:Nat} {p cont:Value} {full:Bool} (h:IBox w base p cont full) (hb:Below w.heap.size w w'):IBox w' base p cont full:=by
 obtain ⟨g,s,A,n,c,h1,h2,h3,h4⟩:=h;exact ⟨g,s,A,n,c,h1,h2,h3.below hb,h4⟩
theorem IsZ.store {v:Value} {x:Int} {k g n0 c0:Nat} {s0:Bool} {A0:Option Addr} (h:IsZ w v x k) (Z:Bx w g (.bool s0) (.slice A0 n0 c0)) (y z:Value):IsZ ((w.setCell ⟨g,0,none⟩ y).setCell ⟨g,1,none⟩ z) v x k:=by
 obtain ⟨s,A,n,c,h1,h2⟩:=h;exact ⟨s,A,n,c,h1,h2.set2x Z y z⟩
theorem IsDM.store {v:Value} {x:Int} {k g n0 c0:Nat} {s0:Bool} {A0:Option Addr} (h:IsDM w v x k) (Z:Bx w g (.bool s0) (.slice A0 n0 c0)) (y z:Value):IsDM ((w.setCell ⟨g,0,none⟩ y).setCell ⟨g,1,none⟩ z) v x k:=by
 obtain ⟨s,A,n,c,s',A',n',c',h1,h2⟩:=h;exact ⟨s,A,n,c,s',A',n',c',h1,h2.set2x Z y z⟩
theorem IBox.other {base g:Nat} {p cont:Value} {full:Bool} (h:IBox w base p cont full) (hne:p ≠ .pointer (some ⟨g,0,none⟩)) (y z:Value):IBox ((w.setCell ⟨g,0,none⟩ y).setCell ⟨g,1,none⟩ z) base p cont full:=by
 obtain ⟨g',s,A,n,c,h1,h2,h3,h4⟩:=h
 exact ⟨g',s,A,n,c,h1,h2,h3.other (fun q=>hne (by rw [h1,q])) y z,h4⟩
end
section
open Go Go.RowKit
theorem wpOp_plain' {P:Program} {ops:Array Oper} {Q:Exit→Act→World→Prop} {i:Nat} {o:Oper} {K:Act→World→Prop} {a:Act} (hi:ops[i]?=some o) (hg:o.guard=none) (h:o.wp P a w K Q):wpOp P ops Q i K a w:=by
 unfold wpOp
 rw [hi]
 simp only [Region.wanted,hg,if_true]
 exact .inl h
structure BoxAt (T:TypeId) (w:World) (g:Nat) (cs:Array Value):Prop where
 at_:w.heap[g]?=some (.cells cs T (0,0))
 free:∀ (i:Nat) (k:IntKind) (x:Int),cs[i]? ≠ some (Value.int k x)
section
variable {T:TypeId} {w w':World} {g:Nat} {cs:Array Value}
theorem BoxAt.lt (h:BoxAt T w g cs):g < w.heap.size:=by
 rcases Nat.lt_or_ge g w.heap.size with k | k
 · exact k
 · have:=h.at_;simp [Array.getElem?_eq_none k] at this
theorem BoxAt.below (h:BoxAt T w g cs) (hb:Below w.heap.size w w'):BoxAt T w' g cs:=⟨(hb.block g h.lt).trans h.at_,h.free⟩
theorem BoxAt.offx {K:IntKind} {A:Option Addr} {n:Nat} {l:List Nat} (h:BoxAt T w g cs) (hr:Rd K w A n l):Off A n g:=by
 intro hn ad e hg
 obtain ⟨b,o,eA,hc⟩:=hr.at_ hn
 obtain ⟨y,_,hx⟩:=hc 0 hn
 rw [eA] at e
 cases e
 have hg2:b=g:=hg
 subst hg2
 rw [cell_of_row w b (o+0) _ _ (0,0) h.at_] at hx
 exact h.free _ _ _ hx
theorem NR.box {A:Option Addr} {n c V k:Nat} (h:NR w A n c V k) (B:BoxAt T w g cs) (ho:Only g w w'):NR w' A n c V k:=by
 obtain ⟨l,h1,h2⟩:=h;exact ⟨l,h1.only (B.offx h1) ho,h2⟩
theorem NG.box {A:Option Addr} {n c V k:Nat} (h:NG w A n c V k) (B:BoxAt T w g cs) (ho:Only g w w'):NG w' A n c V k:=⟨h.1.only (B.offx h.1) ho,h.2⟩
theorem ZG.box {s:Bool} {A:Option Addr} {n c k:Nat} {v:Int} (h:ZG w s A n c v k) (B:BoxAt T w g cs) (ho:Only g w w'):ZG w' s A n c v k:=⟨h.1,h.2.1.only (B.offx h.2.1) ho,h.2.2⟩
theorem ZR.box {s:Bool} {A:Option Addr} {n c k:Nat} {v:Int} (h:ZR w s A n c v k) (B:BoxAt T w g cs) (ho:Only g w w'):ZR w' s A n c v k:=by
 obtain ⟨l,h1,h2⟩:=h;exact ⟨l,h1.only (B.offx h1) ho,h2⟩
theorem QG.box {s:Bool} {A A':Option Addr} {n c n' c' k:Nat} {v:Rat} (h:QG w s A n c A' n' c' v k) (B:BoxAt T w g cs) (ho:Only g w w'):QG w' s A n c A' n' c' v k:=⟨h.1.box B ho,h.2.box B ho⟩
theorem QR.box {s:Bool} {A A':Option Addr} {n c n' c' k:Nat} {v:Rat} (h:QR w s A n c A' n' c' v k) (B:BoxAt T w g cs) (ho:Only g w w'):QR w' s A n c A' n' c' v k:=by
 obtain ⟨p,q,h1,h2,h3⟩:=h;exact ⟨p,q,h1.box B ho,h2.box B ho,h3⟩
end
theorem free3 (s:Bool) (A B:Option Addr) (n c m d:Nat):∀ (i:Nat) (k:IntKind) (v:Int),(#[.bool s,.slice A n c,.slice B m d]:Array Value)[i]? ≠ some (.int k v):=by
 intro i k v h
 match i,h with
 | 0,h=>cases h
 | 1,h=>cases h
 | 2,h=>cases h
 | i+3,h=>cases h
theorem free2 (s:Bool) (A:Option Addr) (n c:Nat):∀ (i:Nat) (k:IntKind) (v:Int),(#[.bool s,.slice A n c]:Array Value)[i]? ≠ some (.int k v):=by
 intro i k v h
 match i,h with
 | 0,h=>cases h
 | 1,h=>cases h
 | i+2,h=>cases h
def VQ (v:Rat) (k:Nat) (x:Value) (w:World):Prop:=∃ s A n c B m d,x=.agg #[.bool s,.slice A n c,.slice B m d]∧QG w s A n c B m d v k
def VZG (v:Int) (k:Nat) (x:Value) (w:World):Prop:=∃ s A n c,x=.agg #[.bool s,.slice A n c]∧ZG w s A n c v k
def VQE (S:Rat→Prop) (k:Nat) (x:Value) (w:World):Prop:=∃ v,S v∧∃ s A n c B m d,x=.tuple #[.agg #[.bool s,.slice A n c,.slice B m d],.int .i64 0]∧QG w s A n c B m d v k
def VQS (S:Rat→Prop) (k:Nat) (x:Value) (w:World):Prop:=∃ v,S v∧VQ v k x w
def Stays (F:Value→World→Prop):Prop:=(∀ x w w',F x w→Below w.heap.size w w'→F x w')∧∀ (T:TypeId) x w w' g cs,F x w→BoxAt T w g cs→Only g w w'→F x w'
theorem stays_eq (c:Value):Stays (fun x _=>x=c):=⟨fun _ _ _ h _=>h,fun _ _ _ _ _ _ h _ _=>h⟩
theorem stays_true:Stays (fun _ _=>True):=⟨fun _ _ _ h _=>h,fun _ _ _ _ _ _ h _ _=>h⟩
theorem stays_q (v:Rat) (k:Nat):Stays (VQ v k) :=
 ⟨fun _ _ _ ⟨s,A,n,c,B,m,d,h1,h2⟩ hb=>⟨s,A,n,c,B,m,d,h1,h2.below hb⟩,fun _ _ _ _ _ _ ⟨s,A,n,c,B,m,d,h1,h2⟩ hB ho=>⟨s,A,n,c,B,m,d,h1,h2.box hB ho⟩⟩
theorem stays_z (v:Int) (k:Nat):Stays (VZG v k) :=
 ⟨fun _ _ _ ⟨s,A,n,c,h1,h2⟩ hb=>⟨s,A,n,c,h1,h2.below hb⟩,fun _ _ _ _ _ _ ⟨s,A,n,c,h1,h2⟩ hB ho=>⟨s,A,n,c,h1,h2.box hB ho⟩⟩
theorem stays_qe (S:Rat→Prop) (k:Nat):Stays (VQE S k) :=
 ⟨fun _ _ _ ⟨v,hv,s,A,n,c,B,m,d,h1,h2⟩ hb=>⟨v,hv,s,A,n,c,B,m,d,h1,h2.below hb⟩,fun _ _ _ _ _ _ ⟨v,hv,s,A,n,c,B,m,d,h1,h2⟩ hB ho=>⟨v,hv,s,A,n,c,B,m,d,h1,h2.box hB ho⟩⟩
theorem stays_qs (S:Rat→Prop) (k:Nat):Stays (VQS S k) :=
 ⟨fun _ _ _ ⟨v,hv,h⟩ hb=>⟨v,hv,(stays_q v k).1 _ _ _ h hb⟩,fun T _ _ _ _ _ ⟨v,hv,h⟩ hB ho=>⟨v,hv,(stays_q v k).2 T _ _ _ _ _ h hB ho⟩⟩
theorem store_q {ac:Act} {x z:Operand} {y g:Nat} {pos:String} {af:Array Edge} {Q:Exit→Act→World→Prop} {V:Rat} {k:Nat} (p1:ac.eval x=.pointer (some ⟨g,0,none⟩)) (h:VQ V k (ac.eval z) w) (B:BoxAt 26 w g #[.bool false,.slice none 0 0,.slice none 0 0]) :
 (⟨none,.store 26 x z,y,pos,af,none⟩:Oper).wp Tryz.prog ac w (fun a'' w''=>a''=ac∧Only g w w''∧∃ cs',BoxAt 26 w'' g cs'∧(fun cs w=>∃ s A n c B m d,cs=#[.bool s,.slice A n c,.slice B m d]∧QG w s A n c B m d V k) cs' w'') Q:=by
 obtain ⟨s1,A1,n1,c1,B1,m1,d1,h1,h2⟩:=h
 have Z:B3 w g (Value.bool false) (Value.slice none 0 0) (Value.slice none 0 0):=B.at_
 unfold Oper.wp
 rw [run_storeQ p1 h1 Z.c0 Z.c1 Z.c2 Z.f0 Z.f1 Z.f2,Oper.upon_skip]
 refine ⟨put_none ac undef,((((Only.refl g w).setCell 0 _).setCell 1 _).setCell 2 _),#[.bool s1,.slice A1 n1 c1,.slice B1 m1 d1],⟨Z.set3 (Value.bool s1) (Value.slice A1 n1 c1) (Value.slice B1 m1 d1),free3 _ _ _ _ _ _ _⟩,s1,A1,n1,c1,B1,m1,d1,rfl,h2.box B ((((Only.refl g w).setCell 0 _).setCell 1 _).setCell 2 _)⟩
section
variable {P:Program} {ops:Array Oper} {Q:Exit→Act→World→Prop}
def JFlow (ops:Array Oper) (w0:World) (T:TypeId) (zs:Array Value) (ia is tA:Nat) (F:Nat→Value→World→Prop) (Fst:Array Value→World→Prop) (D:Nat→Bool) (v:Nat→Value) (w':World):Prop :=
 Below w0.heap.size w0 w'∧(∀ (i:Nat) (o:Oper) (t:Nat),ops[i]?=some o→o.dst=some t→t ≠ tA→D i=true→F t (v t) w') ∧
 (D ia=true→∃ g cs,v tA=.pointer (some ⟨g,0,none⟩)∧w0.heap.size≤g∧BoxAt T w' g cs∧(D is=true→Fst cs w')∧(D is=false→cs=zs))∧(D is=true→D ia=true)
theorem once_of {i j:Nat} {oi oj:Oper} {t:Nat}:∀ {l:List Oper},(l.filterMap (·.dst)).Nodup→l[i]?=some oi→l[j]?=some oj→oi.dst=some t→oj.dst=some t→i=j:=by
 intro l
 induction l generalizing i j with
 | nil=>intro _ h;simp at h
 | cons o l ih =>
   intro hn h1 h2 d1 d2
   have mem:∀ {k:Nat} {p:Oper},l[k]?=some p→p.dst=some t→t ∈ l.filterMap (·.dst):=fun h d=>List.mem_filterMap.2 ⟨_,List.mem_of_getElem? h,d⟩
   have hn':(l.filterMap (·.dst)).Nodup:=by
    rw [List.filterMap_cons] at hn
    split at hn
    · exact hn
    · exact (List.nodup_cons.1 hn).2
   match i,j with
   | 0,0=>rfl
   | 0,j+1 =>
     exfalso
     simp at h1
     subst h1
     rw [List.filterMap_cons,d1] at hn
     exact (List.nodup_cons.1 hn).1 (mem (by simpa using h2) d2)
   | i+1,0 =>
     exfalso
     simp at h2
     subst h2
     rw [List.filterMap_cons,d2] at hn
     exact (List.nodup_cons.1 hn).1 (mem (by simpa using h1) d1)
   | i+1,j+1=>exact congrArg (·+1) (ih hn' (by simpa using h1) (by simpa using h2) d1 d2)
theorem wp_region_flow {id:Nat} {a:Act} {w0:World} (T:TypeId) (zs:Array Value) (l:List Nat) (ia is tA:Nat) (oa os:Oper) (F:Nat→Value→World→Prop) (Fst:Array Value→World→Prop)
 (hm:P.follows .mixedOrders=true) (hb:backB ops=true) (hl:ops.toList.filterMap (·.dst)=l) (hn:l.Nodup)
 (hoa:ops[ia]?=some oa) (hos:ops[is]?=some os) (hda:oa.dst=some tA) (hds:os.dst=none) (hone:∀ (i:Nat) (o:Oper),ops[i]?=some o→o.dst=none→i=is)
 (hga:oa.guard=none) (hgs:os.guard=none) (hedge:∃ e ∈ os.after,Region.binds .any e=true∧e.on=ia)
 (hst:∀ t,Stays (F t)) (hzs:∀ (i:Nat) (k:IntKind) (x:Int),zs[i]? ≠ some (Value.int k x))
 (halloc:∀ (e:Operand→Value) (w':World),(execOp e oa).run P w'=.ok (.value (.pointer (some ⟨w'.heap.size,0,none⟩))) (w'.alloc (.cells zs T)))
 (hval:∀ (i:Nat) (o:Oper) (t:Nat) (v:Nat→Value) (w':World),ops[i]?=some o→i ≠ ia→o.dst=some t→Below w0.heap.size w0 w' →
  (∀ e ∈ o.after,Region.binds .any e=true→∀ (oe:Oper) (te:Nat),ops[e.on]?=some oe→oe.dst=some te→te ≠ tA→F te (v te) w') →
  wpOp P ops Q i (fun a'' w''=>∃ x,a''=(putAll a l v).put (some t) x∧Below w'.heap.size w' w''∧F t x w'') (putAll a l v) w')
 (hstore:∀ (v:Nat→Value) (w':World) (g:Nat),Below w0.heap.size w0 w'→v tA=.pointer (some ⟨g,0,none⟩)→BoxAt T w' g zs →
  (∀ e ∈ os.after,Region.binds .any e=true→∀ (oe:Oper) (te:Nat),ops[e.on]?=some oe→oe.dst=some te→te ≠ tA→F te (v te) w') →
  os.wp P (putAll a l v) w' (fun a'' w''=>a''=putAll a l v∧Only g w' w''∧∃ cs',BoxAt T w'' g cs'∧Fst cs' w'') Q)
 (hfst:∀ cs w w',Fst cs w→Below w.heap.size w w'→Fst cs w')
 (hend:∀ (v:Nat→Value) (w':World) (g:Nat) (cs:Array Value),Below w0.heap.size w0 w'→(∀ (i:Nat) (o:Oper) (t:Nat),ops[i]?=some o→o.dst=some t→t ≠ tA→F t (v t) w')→v tA=.pointer (some ⟨g,0,none⟩)→w0.heap.size≤g→BoxAt T w' g cs→Fst cs w'→Q .normal (putAll a l v) w') :
 (Code.region id ops true).wp P Q a w0:=by
 have hmem:∀ {i:Nat} {o:Oper} {t:Nat},ops[i]?=some o→o.dst=some t→t ∈ l:=fun {i o t} h d=>by
  rw [← hl];exact List.mem_filterMap.2 ⟨o,List.mem_of_getElem? (by simpa using h),d⟩
 have hinj:∀ {i j:Nat} {oi oj:Oper} {t:Nat},ops[i]?=some oi→ops[j]?=some oj→oi.dst=some t→oj.dst=some t→i=j:=fun {i j oi oj t} h1 h2 d1 d2 =>
  once_of (l:=ops.toList) (by rw [hl];exact hn) (by simpa using h1) (by simpa using h2) d1 d2
 refine wp_region_inv l (JFlow ops w0 T zs ia is tA F Fst) hm hb ?_ ?_ ?_ ?_
 · refine ⟨(Below.refl _ _).drew,?_,?_,?_⟩
   · intro i o t _ _ _ h;exact absurd (show false=true from h) (by decide)
   · intro h;exact absurd (show false=true from h) (by decide)
   · intro h;exact absurd (show false=true from h) (by decide)
 · intro D D' v w hD h
   obtain ⟨h0,h1,h2,h3⟩:=h
   have lt_of:∀ {i:Nat} {o:Oper},ops[i]?=some o→i < ops.size:=fun {i o} h=>by
    rcases Nat.lt_or_ge i ops.size with k | k
    · exact k
    · rw [Array.getElem?_eq_none k] at h;cases h
   have e1:=hD ia (lt_of hoa)
   have e2:=hD is (lt_of hos)
   refine ⟨h0,fun i o t hi ht hne hd=>h1 i o t hi ht hne (by rw [hD i (lt_of hi)];exact hd),?_,?_⟩
   · rw [← e1,← e2];exact h2
   · rw [← e1,← e2];exact h3
 · intro i o D v w' ho hDi hall hJ
   obtain ⟨J0,J1,J2,J3⟩:=hJ
   by_cases hia:i=ia
   · subst hia
     rw [hoa] at ho
     cases ho
     have nis:¬ D is=true:=fun h=>by have:=J3 h;rw [hDi] at this;cases this
     refine wpOp_plain' hoa hga ?_
     unfold Oper.wp
     rw [halloc,Oper.upon_value,hda]
     have hbl:=(Below.refl w'.heap.size w').alloc (Nat.le_refl _) (.cells zs T)
     refine ⟨_,putAll_put _ _ _ _ _ hn (hmem hoa hda),J0.trans (hbl.mono J0.size),?_,?_,?_⟩
     · intro j oj t hj ht hne hd
       have hji:j ≠ i:=fun q=>hne (by subst q;rw [hoa] at hj;cases hj;rw [hda] at ht;cases ht;rfl)
       rw [upd_ne _ _ hji] at hd;rw [upd_ne _ _ hne]
       exact (hst t).1 _ _ _ (J1 j oj t hj ht hne hd) hbl
     · intro _
       refine ⟨w'.heap.size,zs,upd_same _ _ _,J0.size,⟨heap_alloc_new _ _,hzs⟩,fun h=>?_,fun _=>rfl⟩
       have:is ≠ i:=fun q=>by subst q;rw [hos] at hoa;cases hoa;rw [hds] at hda;cases hda
       rw [upd_ne _ _ this] at h
       exact absurd h nis
     · intro h
       have:is ≠ i:=fun q=>by subst q;rw [hos] at hoa;cases hoa;rw [hds] at hda;cases hda
       rw [upd_ne _ _ this] at h
       exact absurd h nis
   · cases hd:o.dst with
     | none =>
       have his:=hone i o ho hd
       subst his
       rw [hos] at ho
       cases ho
       obtain ⟨e,he,hbd,hon⟩:=hedge
       have hDa:D ia=true:=by rw [← hon];exact hall e he hbd
       obtain ⟨g,cs,p1,p2,p3,_,pz⟩:=J2 hDa
       obtain rfl:=pz hDi
       refine wpOp_plain' hos hgs ?_
       refine Oper.wp_mono ?_ (hstore v w' g J0 p1 p3 (fun e he hb' oe te h1 h2 h3=>J1 e.on oe te h1 h2 h3 (hall e he hb')))
       rintro a'' w'' ⟨rfl,ho2,cs',hB,hF⟩
       refine ⟨v,rfl,Below.only J0 p2 J0.size ho2,?_,?_,?_⟩
       · intro j oj t hj ht hne hd2
         have hji:j ≠ i:=fun q=>by subst q;rw [hos] at hj;cases hj;rw [hds] at ht;cases ht
         rw [upd_ne _ _ hji] at hd2
         exact (hst t).2 T _ _ _ _ _ (J1 j oj t hj ht hne hd2) p3 ho2
       · intro _
         exact ⟨g,cs',p1,p2,hB,fun _=>hF,fun q=>by rw [upd_same] at q;cases q⟩
       · intro _
         rw [upd_ne _ _ (Ne.symm hia)];exact hDa
     | some t =>
       have htA:t ≠ tA:=fun q=>hia (by subst q;exact hinj ho hoa hd hda)
       refine wpOp_mono ?_ (hval i o t v w' ho hia hd J0 (fun e he hb' oe te h1 h2 h3=>J1 e.on oe te h1 h2 h3 (hall e he hb')))
       rintro a'' w'' ⟨x,rfl,hbl,hF⟩
       have nis:is ≠ i:=fun q=>by subst q;rw [hos] at ho;cases ho;rw [hds] at hd;cases hd
       refine ⟨_,putAll_put _ _ _ _ _ hn (hmem ho hd),J0.trans (hbl.mono J0.size),?_,?_,?_⟩
       · intro j oj t' hj ht hne hd2
         by_cases hji:j=i
         · subst hji
           rw [ho] at hj
           cases hj
           rw [hd] at ht
           cases ht
           rw [upd_same]
           exact hF
         · rw [upd_ne _ _ hji] at hd2
           have htt:t' ≠ t:=fun q=>hji (by subst q;exact hinj hj ho ht hd)
           rw [upd_ne _ _ htt]
           exact (hst t').1 _ _ _ (J1 j oj t' hj ht hne hd2) hbl
       · intro h
         rw [upd_ne _ _ (Ne.symm hia)] at h
         obtain ⟨g,cs,p1,p2,p3,p4,pz⟩:=J2 h
         refine ⟨g,cs,by rw [upd_ne _ _ (Ne.symm htA)];exact p1,p2,p3.below hbl,fun h'=>?_,fun h'=>?_⟩
         · rw [upd_ne _ _ nis] at h'
           exact hfst _ _ _ (p4 h') hbl
         · rw [upd_ne _ _ nis] at h'
           exact pz h'
       · intro h
         rw [upd_ne _ _ nis] at h
         rw [upd_ne _ _ (Ne.symm hia)]
         exact J3 h
 · intro D v w' hall hJ
   obtain ⟨J0,J1,J2,J3⟩:=hJ
   have lt_of:∀ {i:Nat} {o:Oper},ops[i]?=some o→i < ops.size:=fun {i o} h=>by
    rcases Nat.lt_or_ge i ops.size with k | k
    · exact k
    · rw [Array.getElem?_eq_none k] at h;cases h
   obtain ⟨g,cs,p1,p2,p3,p4,_⟩:=J2 (hall ia (lt_of hoa))
   exact hend v w' g cs J0 (fun i o t hi ht hne=>J1 i o t hi ht hne (hall i (lt_of hi))) p1 p2 p3 (p4 (hall is (lt_of hos)))
end
end
section
open Go Go.RowKit
structure BoxOp where
 ia:Nat
 is:Nat
 tA:Nat
 T:TypeId
 zs:Array Value
 Fst:Array Value→World→Prop
structure JFlows (ops:Array Oper) (w0:World) (L:List BoxOp) (F:Nat→Value→World→Prop) (D:Nat→Bool) (v:Nat→Value) (w':World):Prop where
 below:Below w0.heap.size w0 w'
 vals:∀ (i:Nat) (o:Oper) (t:Nat),ops[i]?=some o→o.dst=some t→(∀ p ∈ L,t ≠ p.tA)→D i=true→F t (v t) w'
 box:∀ p ∈ L,D p.ia=true→∃ g cs,v p.tA=.pointer (some ⟨g,0,none⟩)∧w0.heap.size≤g∧BoxAt p.T w' g cs∧(D p.is=true→p.Fst cs w')∧(D p.is=false→cs=p.zs)
 after:∀ p ∈ L,D p.is=true→D p.ia=true
 apart:∀ p ∈ L,∀ q ∈ L,p.tA ≠ q.tA→D p.ia=true→D q.ia=true→v p.tA ≠ v q.tA
section
variable {P:Program} {ops:Array Oper} {Q:Exit→Act→World→Prop}
structure BoxIn (P:Program) (ops:Array Oper) (p:BoxOp):Prop where
 alloc:∃ oa,ops[p.ia]?=some oa∧oa.dst=some p.tA∧oa.guard=none∧∀ (e:Operand→Value) (w':World),(execOp e oa).run P w'=.ok (.value (.pointer (some ⟨w'.heap.size,0,none⟩))) (w'.alloc (.cells p.zs p.T))
 fill:∃ os,ops[p.is]?=some os∧os.dst=none∧os.guard=none∧∃ e ∈ os.after,Region.binds .any e=true∧e.on=p.ia
 free:∀ (i:Nat) (k:IntKind) (x:Int),p.zs[i]? ≠ some (Value.int k x)
 stays:∀ cs w w',p.Fst cs w→Below w.heap.size w w'→p.Fst cs w'
 stays2:∀ (T:TypeId) cs w w' g c0,p.Fst cs w→BoxAt T w g c0→Only g w w'→p.Fst cs w'
end
end
section
open Go Go.RowKit
def B3R (W:World) (g:Nat) (x y z:Value):Prop:=W.heap[g]?=some (.cells #[x,y,z] 49 (0,0))
section
variable {W W':World} {g:Nat} {x y z:Value}
theorem B3R.c0 (h:B3R W g x y z):W.cell? ⟨g,0,none⟩=some x:=by rw [cell_of_row W g 0 _ _ (0,0) h];rfl
theorem B3R.c1 (h:B3R W g x y z):W.cell? ⟨g,1,none⟩=some y:=by rw [cell_of_row W g 1 _ _ (0,0) h];rfl
theorem B3R.c2 (h:B3R W g x y z):W.cell? ⟨g,2,none⟩=some z:=by rw [cell_of_row W g 2 _ _ (0,0) h];rfl
theorem B3R.all (h:B3R W g x y z):W.cell? ⟨g,0,none⟩=some x∧W.cell? ⟨g,1,none⟩=some y∧W.cell? ⟨g,2,none⟩=some z:=⟨h.c0,h.c1,h.c2⟩
theorem B3R.f0 (h:B3R W g x y z):W.frozen? ⟨g,0,none⟩=false:=frozen_of_row W g 0 _ _ h
theorem B3R.f1 (h:B3R W g x y z):W.frozen? ⟨g,1,none⟩=false:=frozen_of_row W g 1 _ _ h
theorem B3R.f2 (h:B3R W g x y z):W.frozen? ⟨g,2,none⟩=false:=frozen_of_row W g 2 _ _ h
theorem B3R.lt (h:B3R W g x y z):g < W.heap.size:=World.block_lt_of_cell? W _ h.c0
theorem B3R.below (h:B3R W g x y z) (hb:Below W.heap.size W W'):B3R W' g x y z:=(hb.block g h.lt).trans h
theorem B3R.alloc (h:B3R W g x y z) (o:Obj):B3R (W.alloc o) g x y z:=(Below.heap_alloc W o g h.lt).trans h
theorem B3R.new' (W:World) (x y z:Value) (g:Nat) (hg:g=W.heap.size):B3R (W.alloc (.cells #[x,y,z] 49)) g x y z:=by subst hg;exact heap_alloc_new W _
theorem B3R.set3 (h:B3R W g x y z) (a b c:Value):B3R (((W.setCell ⟨g,0,none⟩ a).setCell ⟨g,1,none⟩ b).setCell ⟨g,2,none⟩ c) g a b c:=by
 unfold B3R at h ⊢
 simp [World.setCell,Array.getElem?_modify,h]
theorem B3R.offx {s:Bool} {A A1 A2:Option Addr} {n n1 n2 c1 c2:Nat} {K:IntKind} {l:List Nat} (h:B3R W g (.bool s) (.slice A1 n1 c1) (.slice A2 n2 c2)) (hr:Rd K W A n l):Off A n g:=by
 intro hn ad e hg
 obtain ⟨b,o,eA,hc⟩:=hr.at_ hn
 obtain ⟨x,_,hx⟩:=hc 0 hn
 rw [eA] at e
 cases e
 have hg2:b=g:=hg
 subst hg2
 rw [cell_of_row W b (o+0) _ _ (0,0) h] at hx
 match o,hx with
 | 0,hx=>cases hx
 | 1,hx=>cases hx
 | 2,hx=>cases hx
 | o+3,hx=>cases hx
end
def RQ (w:World) (s:Bool) (A:Option Addr) (n c:Nat) (A':Option Addr) (n' c':Nat) (v:Rat) (k:Nat):Prop:=RG w s A n c v.num k∧RN w A' n' c' v.den k
def GivesRQ (w:World) (v:Rat) (k:Nat) (e:Ending) (w':World):Prop :=
 ∃ s A n c A' n' c',e=.returned (.agg #[.bool s,.slice A n c,.slice A' n' c'])∧RQ w' s A n c A' n' c' v k∧Below w.heap.size w w'
section
variable {w w':World} {s:Bool} {A A':Option Addr} {n c n' c' k g:Nat} {v:Rat}
theorem RQ.below (h:RQ w s A n c A' n' c' v k) (hb:Below w.heap.size w w'):RQ w' s A n c A' n' c' v k:=⟨h.1.below hb,h.2.below hb⟩
theorem RN.only {V:Nat} (h:RN w A n c V k) (ho:Off A n g) (hb:Only g w w'):RN w' A n c V k:=⟨h.1.only ho hb,h.2⟩
theorem RG.only {V:Int} (h:RG w s A n c V k) (ho:Off A n g) (hb:Only g w w'):RG w' s A n c V k:=⟨h.1,h.2.only ho hb⟩
theorem RG.rn {V:Int} (h:RG w s A n c V k):RN w A n c V.natAbs k:=h.2
theorem RG.more {V:Int} {k1:Nat} (h:RG w s A n c V k) (hk:k≤k1):RG w s A n c V k1:=⟨h.1,h.2.more hk⟩
theorem RQ.set3 {t:Bool} {A1 A2:Option Addr} {n1 c1 n2 c2:Nat} (h:RQ w s A n c A' n' c' v k) (Z:B3R w g (.bool t) (.slice A1 n1 c1) (.slice A2 n2 c2)) (x y z:Value) :
 RQ (((w.setCell ⟨g,0,none⟩ x).setCell ⟨g,1,none⟩ y).setCell ⟨g,2,none⟩ z) s A n c A' n' c' v k:=by
 have ho:Only g w (((w.setCell ⟨g,0,none⟩ x).setCell ⟨g,1,none⟩ y).setCell ⟨g,2,none⟩ z):=(((Only.refl g w).setCell 0 _).setCell 1 _).setCell 2 _
 exact ⟨h.1.only (Z.offx h.1.2.1) ho,h.2.only (Z.offx h.2.1) ho⟩
end
theorem mkRat_num {p:Int} {q:Nat} (hq:q ≠ 0):(mkRat p q).num.natAbs=p.natAbs / Nat.gcd p.natAbs q∧(mkRat p q).den=q / Nat.gcd p.natAbs q∧((mkRat p q).num < 0 ↔ p < 0):=by
 have h0:(q:Int) ≠ 0:=by omega
 have h1:=div_num (p:=p) h0
 have h2:=div_den (p:=p) h0
 rw [Rat.divInt_ofNat] at h1 h2
 simp only [Int.natAbs_natCast] at h1 h2
 exact ⟨h1,h2,by rw [num_neg_iff,mk_negv hq]⟩
theorem mkbx21_10 {w W:World} {x0 x1 x2 x3 x4:Value} (h:((w.alloc (Obj.cells #[x0,x1] 47)).alloc (Obj.cells #[x2,x3,x4] 49))=W):Below w.heap.size w W∧By W (w.heap.size) x0 x1∧B3R W (w.heap.size+1) x2 x3 x4∧W.heap.size=w.heap.size+2:=by subst h;exact ⟨by exact (((Below.refl _ _).alloc (Nat.le_refl _) _).alloc (by simp) _),by exact (By.new' _ _ _ _ rfl).alloc _,by exact B3R.new' _ _ _ _ _ (by simp),by simp⟩
theorem made_one {s:Bool} {A B:Option Addr} {n c m d k q:Nat} {p:Int} (X:RG w s A n c p k) (Y:RN w B m d q k) (hk:k≤100000) (hq:q ≠ 0) (hg:Nat.gcd p.natAbs q=1) :
 Calls Tryz.prog 78 #[.agg #[.bool s,.slice A n c],.slice B m d] w (GivesRQ w (mkRat p q) k):=by
 have HG:=Lib.hid hg
 have hm:=mkRat_num (p:=p) hq
 rw [hg,Nat.div_one,Nat.div_one] at hm
 have HM:=Lib.hid hm;clear hg hm
 go_enter Tryz.func78,Tryz.ntmps78
 go_wp2_with fail
 generalize hW:World.alloc _ _=W
 obtain ⟨hb,XP,Z,hzW⟩:=mkbx21_10 hW;clear hW;replace X:=X.below hb;replace Y:=Y.below hb;obtain ⟨xp0,xp1⟩:=XP.all
 go_upto_region 2 with (first
  | (go_at_call 116;(with_reducible refine (rgcd_nr X.rn Y (by omega)).mono ?_);rintro e w_g ⟨A_g,n_g,c_g,rfl,g,hh⟩
     rw [HG.out] at g;(try replace X:=X.below hh);(try replace Y:=Y.below hh);(try replace x:=x.below hh);(try replace y:=y.below hh);(try replace XP:=XP.below hh);(try replace Z:=Z.below hh);replace hb:=bend hb hh;obtain ⟨xp0,xp1⟩:=XP.all))
 have hl:limbs B32 1=[1]:=limbs_small B32_two (by decide) (by decide)
 have hg1:=g.1;rw [hl] at hg1
 have hn:1=n_g:=hg1.1
 subst hn
 obtain ⟨gb,go,rfl,hgc⟩:=hg1.at_ (by decide)
 obtain ⟨gx,hgx,hgc0⟩:=hgc 0 (by decide)
 have hgx1:1=gx:=by simpa using hgx
 subst hgx1
 have hc1:w_g.cell? ⟨gb,go,none⟩=some (.int .u32 1):=by simpa using hgc0
 clear hgc hgx hgc0 hg1 hl g;have zf0:=Z.f0;have zf1:=Z.f1;have zf2:=Z.f2;obtain ⟨z0,z1,z2⟩:=Z.all
 go_wp2_with fail
 have Z2:=Z.set3 (.bool s) (.slice A n c) (.slice B m d)
 obtain ⟨g0,g1,g2⟩:=Z2.all
 refine bodyPost_ret (v:=.agg #[.bool s,.slice A n c,.slice B m d]) (by simp [results,Tryz.results78,go_sem,g0,g1,g2]) rfl ?_
 have hm:=HM.out
 have hr:RQ w_g s A n c B m d (mkRat p q) k:=⟨⟨X.1.trans (by rw [decide_eq_decide];exact hm.2.2.symm),by rw [hm.1];exact X.rn⟩,by rw [hm.2.1];exact Y⟩
 exact ⟨s,_,_,_,_,_,_,rfl,hr.set3 Z _ _ _,below_set3 hb (by omega) _ _ _⟩
theorem made_big {s:Bool} {A B:Option Addr} {n c m d k q G:Nat} {p:Int} (X:RG w s A n c p k) (Y:RN w B m d q k) (hk:k≤100000) (hq:q ≠ 0) (hg:Nat.gcd p.natAbs q=G) (hG:B32≤G) :
 Calls Tryz.prog 78 #[.agg #[.bool s,.slice A n c],.slice B m d] w (GivesRQ w (mkRat p q) k):=by
 have HG:=Lib.hid hg
 have HG0:Hid (G ≠ 0):=by
  show G ≠ 0
  have:=Nat.gcd_pos_of_pos_right p.natAbs (Nat.pos_of_ne_zero hq)
  omega
 have hm:=mkRat_num (p:=p) hq
 rw [hg] at hm;have HM:=Lib.hid hm;clear hg hm
 go_enter Tryz.func78,Tryz.ntmps78
 go_wp2_with fail
 generalize hW:World.alloc _ _=W
 obtain ⟨hb,XP,Z,hzW⟩:=mkbx21_10 hW;clear hW;replace X:=X.below hb;replace Y:=Y.below hb;obtain ⟨xp0,xp1⟩:=XP.all
 go_upto_region 2 with (first
  | (go_at_call 116;(with_reducible refine (rgcd_nr X.rn Y (by omega)).mono ?_);rintro e w_g ⟨A_g,n_g,c_g,rfl,g,hh⟩
     rw [HG.out] at g;(try replace X:=X.below hh);(try replace Y:=Y.below hh);(try replace x:=x.below hh);(try replace y:=y.below hh);(try replace XP:=XP.below hh);(try replace Z:=Z.below hh);replace hb:=bend hb hh;obtain ⟨xp0,xp1⟩:=XP.all))
 have hng:2≤n_g:=by
  rcases Nat.lt_or_ge n_g 2 with h | h
  · have h1:=val_lt (lim_limbs B32_two G)
    rw [val_limbs B32_two,g.1.1] at h1
    have h2:B32 ^ n_g≤B32 ^ 1:=Nat.pow_le_pow_right (by decide) (by omega)
    rw [Nat.pow_one] at h2
    omega
  · exact h
 have hn0:((n_g:Int) == 0)=false:=by simp;omega
 have hn1:((n_g:Int) == 1)=false:=by simp;omega
 clear hng hG
 have hfd:∀ (A:Option Addr) (n c:Nat) (A':Option Addr) (n' c':Nat) (w:World),(Instr.field 175 (.agg #[.slice A n c,.slice A' n' c']) 0).run Tryz.prog w=.ok (.slice A n c) w:=fun _ _ _ _ _ _ _=>by kernel_rfl
 go_upto_region 4 with (fail)
 replace X:=X.below (Below.refl _ _).drew
 replace Y:=Y.below (Below.refl _ _).drew
 replace g:=g.below (Below.refl _ _).drew
 replace XP:=XP.below (Below.refl _ _).drew
 replace Z:=Z.below (Below.refl _ _).drew
 replace hb:=hb.drew
 go_region_held3 (fun w'=>w'.cell? ⟨w.heap.size,0,none⟩=some (.bool s)∧w'.cell? ⟨w.heap.size,1,none⟩=some (.slice A n c))
  (first | with_reducible exact ⟨XP.c0,XP.c1⟩ | with_reducible exact ⟨(set3_cell _ _ _ _ _ _ _ (by omega)).trans XP.c0,(set3_cell _ _ _ _ _ _ _ (by omega)).trans XP.c1⟩)
  (first
  | (go_at_call 117;(with_reducible refine (rdm_nr X.rn g (by omega) (by omega) HG0.out).mono ?_);rintro e w_x ⟨A_x,n_x,c_x,A_r,n_r,c_r,rfl,x,xr,hh⟩
     (try replace X:=X.below hh);(try replace Y:=Y.below hh);(try replace g:=g.below hh);(try replace y:=y.below hh);(try replace XP:=XP.below hh);(try replace Z:=Z.below hh);replace hb:=bend hb hh;have zf0:=Z.f0;have zf1:=Z.f1;have zf2:=Z.f2;obtain ⟨z0,z1,z2⟩:=Z.all)
  | (go_at_call 117;(with_reducible refine (rdm_nr Y g (by omega) (by omega) HG0.out).mono ?_);rintro e w_y ⟨A_y,n_y,c_y,A_t,n_t,c_t,rfl,y,yr,hh⟩
     (try replace X:=X.below hh);(try replace Y:=Y.below hh);(try replace g:=g.below hh);(try replace x:=x.below hh);(try replace XP:=XP.below hh);(try replace Z:=Z.below hh);replace hb:=bend hb hh;have zf0:=Z.f0;have zf1:=Z.f1;have zf2:=Z.f2;obtain ⟨z0,z1,z2⟩:=Z.all))
 go_wp2_with fail
 have Z2:=Z.set3 (.bool s) (.slice A_x n_x c_x) (.slice A_y n_y c_y)
 obtain ⟨g0,g1,g2⟩:=Z2.all
 refine bodyPost_ret (v:=.agg #[.bool s,.slice A_x n_x c_x,.slice A_y n_y c_y]) (by simp [results,Tryz.results78,go_sem,g0,g1,g2]) rfl ?_
 have hm:=HM.out
 have hr:RQ w_y s A_x n_x c_x A_y n_y c_y (mkRat p q) k:=⟨⟨X.1.trans (by rw [decide_eq_decide];exact hm.2.2.symm),by rw [hm.1];exact x⟩,by rw [hm.2.1];exact y⟩
 exact ⟨s,_,_,_,_,_,_,rfl,hr.set3 Z _ _ _,below_set3 hb (by omega) _ _ _⟩
theorem made_small {s:Bool} {A B:Option Addr} {n c m d k q G:Nat} {p:Int} (X:RG w s A n c p k) (Y:RN w B m d q k) (hk:k≤100000) (hq:q ≠ 0) (hg:Nat.gcd p.natAbs q=G) (hG:G < B32) (hG1:G ≠ 1) :
 Calls Tryz.prog 78 #[.agg #[.bool s,.slice A n c],.slice B m d] w (GivesRQ w (mkRat p q) k):=by
 have HG:=Lib.hid hg
 have HG0:Hid (G ≠ 0):=by
  show G ≠ 0
  have:=Nat.gcd_pos_of_pos_right p.natAbs (Nat.pos_of_ne_zero hq)
  omega
 have hm:=mkRat_num (p:=p) hq
 rw [hg] at hm;have HM:=Lib.hid hm;clear hg hm
 go_enter Tryz.func78,Tryz.ntmps78
 go_wp2_with fail
 generalize hW:World.alloc _ _=W
 obtain ⟨hb,XP,Z,hzW⟩:=mkbx21_10 hW;clear hW;replace X:=X.below hb;replace Y:=Y.below hb;obtain ⟨xp0,xp1⟩:=XP.all
 go_upto_region 2 with (first
  | (go_at_call 116;(with_reducible refine (rgcd_nr X.rn Y (by omega)).mono ?_);rintro e w_g ⟨A_g,n_g,c_g,rfl,g,hh⟩
     rw [HG.out] at g;(try replace X:=X.below hh);(try replace Y:=Y.below hh);(try replace x:=x.below hh);(try replace y:=y.below hh);(try replace XP:=XP.below hh);(try replace Z:=Z.below hh);replace hb:=bend hb hh;obtain ⟨xp0,xp1⟩:=XP.all))
 have hl:limbs B32 G=[G]:=limbs_small B32_two hG HG0.out
 have hg1:=g.1;rw [hl] at hg1
 have hn:1=n_g:=hg1.1
 subst hn
 obtain ⟨gb,go,eA,hgc⟩:=hg1.at_ (by decide)
 subst eA
 obtain ⟨gx,hgx,hgc0⟩:=hgc 0 (by decide)
 have hgx1:G=gx:=by simpa using hgx
 subst hgx1
 have hc1:w_g.cell? ⟨gb,go,none⟩=some (.int .u32 (G:Int)):=by simpa using hgc0
 have hG2:((G:Int) == 1)=false:=by simp;omega
 clear hgc hgx hgc0 hg1 hl hG hG1
 have hfd:∀ (A:Option Addr) (n c:Nat) (A':Option Addr) (n' c':Nat) (w:World),(Instr.field 175 (.agg #[.slice A n c,.slice A' n' c']) 0).run Tryz.prog w=.ok (.slice A n c) w:=fun _ _ _ _ _ _ _=>by kernel_rfl
 go_upto_region 4 with (fail)
 replace X:=X.below (Below.refl _ _).drew
 replace Y:=Y.below (Below.refl _ _).drew
 replace g:=g.below (Below.refl _ _).drew
 replace XP:=XP.below (Below.refl _ _).drew
 replace Z:=Z.below (Below.refl _ _).drew
 replace hb:=hb.drew
 go_region_held3 (fun w'=>w'.cell? ⟨w.heap.size,0,none⟩=some (.bool s)∧w'.cell? ⟨w.heap.size,1,none⟩=some (.slice A n c))
  (first | with_reducible exact ⟨XP.c0,XP.c1⟩ | with_reducible exact ⟨(set3_cell _ _ _ _ _ _ _ (by omega)).trans XP.c0,(set3_cell _ _ _ _ _ _ _ (by omega)).trans XP.c1⟩)
  (first
  | (go_at_call 117;(with_reducible refine (rdm_nr X.rn g (by omega) (by omega) HG0.out).mono ?_);rintro e w_x ⟨A_x,n_x,c_x,A_r,n_r,c_r,rfl,x,xr,hh⟩
     (try replace X:=X.below hh);(try replace Y:=Y.below hh);(try replace g:=g.below hh);(try replace y:=y.below hh);(try replace XP:=XP.below hh);(try replace Z:=Z.below hh);replace hb:=bend hb hh;have zf0:=Z.f0;have zf1:=Z.f1;have zf2:=Z.f2;obtain ⟨z0,z1,z2⟩:=Z.all)
  | (go_at_call 117;(with_reducible refine (rdm_nr Y g (by omega) (by omega) HG0.out).mono ?_);rintro e w_y ⟨A_y,n_y,c_y,A_t,n_t,c_t,rfl,y,yr,hh⟩
     (try replace X:=X.below hh);(try replace Y:=Y.below hh);(try replace g:=g.below hh);(try replace x:=x.below hh);(try replace XP:=XP.below hh);(try replace Z:=Z.below hh);replace hb:=bend hb hh;have zf0:=Z.f0;have zf1:=Z.f1;have zf2:=Z.f2;obtain ⟨z0,z1,z2⟩:=Z.all))
 go_wp2_with fail
 have Z2:=Z.set3 (.bool s) (.slice A_x n_x c_x) (.slice A_y n_y c_y)
 obtain ⟨g0,g1,g2⟩:=Z2.all
 refine bodyPost_ret (v:=.agg #[.bool s,.slice A_x n_x c_x,.slice A_y n_y c_y]) (by simp [results,Tryz.results78,go_sem,g0,g1,g2]) rfl ?_
 have hm:=HM.out
 have hr:RQ w_y s A_x n_x c_x A_y n_y c_y (mkRat p q) k:=⟨⟨X.1.trans (by rw [decide_eq_decide];exact hm.2.2.symm),by rw [hm.1];exact x⟩,by rw [hm.2.1];exact y⟩
 exact ⟨s,_,_,_,_,_,_,rfl,hr.set3 Z _ _ _,below_set3 hb (by omega) _ _ _⟩
theorem made_rq {s:Bool} {A B:Option Addr} {n c m d k q:Nat} {p:Int} (X:RG w s A n c p k) (Y:RN w B m d q k) (hk:k≤100000) (hq:q ≠ 0) :
 Calls Tryz.prog 78 #[.agg #[.bool s,.slice A n c],.slice B m d] w (GivesRQ w (mkRat p q) k):=by
 by_cases h1:Nat.gcd p.natAbs q=1
 · exact made_one X Y hk hq h1
 · rcases Nat.lt_or_ge (Nat.gcd p.natAbs q) B32 with h | h
   · exact made_small X Y hk hq rfl h h1
   · exact made_big X Y hk hq rfl h
end
section
theorem int1 (n:Int):Rat.divInt n 1=(n:Rat):=by
 have h:Rat.divInt n 1=mkRat n 1:=Rat.divInt_ofNat n 1
 rw [h]
 apply Rat.ext
 · simp [Rat.num_mkRat]
 · simp [Rat.den_mkRat]
end
section
open Go Go.RowKit
theorem RN.pos_ne {A:Option Addr} {n c V k:Nat} (h:RN w A n c V k) (hV:V ≠ 0):((n:Int) == 0)=false:=by
 have h1:=rn_pos h
 rw [decide_eq_true (show 0 < V by omega)] at h1
 have:=of_decide_eq_true h1
 simp;omega
theorem RN.zero_n {A:Option Addr} {n c V k:Nat} (h:RN w A n c V k) (hV:V=0):n=0:=by
 have h1:=h.1.1
 rw [hV,limbs_zero] at h1
 exact h1.symm
theorem fld02 (s:Bool) (A:Option Addr) (n c:Nat) (w:World):(Instr.field 47 (.agg #[.bool s,.slice A n c]) 1).run Tryz.prog w=.ok (.slice A n c) w:=by kernel_rfl
section
variable {w:World} {s:Bool} {A A':Option Addr} {n c n' c' k k1:Nat} {v:Rat}
theorem RQ.pz (h:RQ w s A n c A' n' c' v k):RZ w s A n c v.num k:=h.1.rz
theorem RQ.pg (h:RQ w s A n c A' n' c' v k):RG w s A n c v.num k:=h.1
theorem RQ.qn (h:RQ w s A n c A' n' c' v k):RN w A' n' c' v.den k:=h.2
theorem RQ.qz (h:RQ w s A n c A' n' c' v k):RZ w false A' n' c' (v.den:Int) k:=⟨v.den,h.2,rfl⟩
theorem RQ.more (h:RQ w s A n c A' n' c' v k) (hk:k≤k1):RQ w s A n c A' n' c' v k1:=⟨h.1.more hk,h.2.more hk⟩
end
theorem parts_eq (v:Rat):v=mkRat v.num v.den:=(Rat.mkRat_self v).symm
theorem mkbx22_10 {w W:World} {x0 x1 x2 x3 x4 x5:Value} (h:((w.alloc (Obj.cells #[x0,x1,x2] 26)).alloc (Obj.cells #[x3,x4,x5] 49))=W):Below w.heap.size w W∧B3 W (w.heap.size) x0 x1 x2∧B3R W (w.heap.size+1) x3 x4 x5∧W.heap.size=w.heap.size+2:=by subst h;exact ⟨by exact (((Below.refl _ _).alloc (Nat.le_refl _) _).alloc (by simp) _),by exact (B3.new' _ _ _ _ _ rfl).alloc _,by exact B3R.new' _ _ _ _ _ (by simp),by simp⟩
theorem rin3_zero {s:Bool} {A A':Option Addr} {n c n' c' k qq:Nat} {pp:Int} (p:ZR w s A n c pp k) (q:NR w A' n' c' qq k) (hk:k≤1000) (hk1:1≤k) (hq:qq=0) :
 Calls Tryz.prog 46 #[.agg #[.bool s,.slice A n c,.slice A' n' c']] w (GivesRQ w (mkRat pp (den1 qq)) (2*k)):=by
 have HQ:=Lib.hid hq
 have HD:Hid (mkRat pp 1=mkRat pp (den1 qq)):=by show _=_;rw [hq];rfl
 clear hq
 go_enter Tryz.func46,Tryz.ntmps46
 go_wp2_with fail
 generalize hW:World.alloc _ _=W
 obtain ⟨hb,XA,Z,hzW⟩:=mkbx22_10 hW;clear hW;replace p:=p.below hb;replace q:=q.below hb;obtain ⟨xa0,xa1,xa2⟩:=XA.all
 go_upto_region 2 with (first
  | (go_at_call 81;(with_reducible refine (rin_nr (2*k) q (by omega) rfl).mono ?_);rintro e w_x ⟨A_x,n_x,c_x,rfl,x,hh⟩
     (try replace p:=p.below hh);(try replace q:=q.below hh);(try replace y:=y.below hh);(try replace o:=o.below hh);(try replace r:=r.below hh);(try replace XA:=XA.below hh);(try replace Z:=Z.below hh);replace hb:=bend hb hh;obtain ⟨xa0,xa1,xa2⟩:=XA.all))
 have hx0:=x.zero_n HQ.out
 subst hx0
 go_wp2_with (first
  | (go_at_call 82;(with_reducible refine (rof_rn _).mono ?_);rintro e w_o ⟨A_o,n_o,c_o,rfl,o,hh⟩
     (try replace p:=p.below hh);(try replace q:=q.below hh);(try replace x:=x.below hh);(try replace y:=y.below hh);(try replace r:=r.below hh);(try replace XA:=XA.below hh);(try replace Z:=Z.below hh);replace hb:=bend hb hh;obtain ⟨xa0,xa1,xa2⟩:=XA.all)
  | (go_at_call 83;(with_reducible refine (rin2 p hk).mono ?_);rintro e w_y ⟨s_y,A_y,n_y,c_y,rfl,y,hh⟩
     (try replace p:=p.below hh);(try replace q:=q.below hh);(try replace x:=x.below hh);(try replace o:=o.below hh);(try replace r:=r.below hh);(try replace XA:=XA.below hh);(try replace Z:=Z.below hh);replace hb:=bend hb hh;obtain ⟨xa0,xa1,xa2⟩:=XA.all)
  | (go_at_call 78;(with_reducible refine (made_rq y (o.more (by omega)) (by omega) (by decide)).mono ?_);rintro e w_r ⟨s_r,A_r,n_r,c_r,B_r,m_r,d_r,rfl,r,hh⟩
     rw [HD.out] at r;(try replace p:=p.below hh);(try replace q:=q.below hh);(try replace x:=x.below hh);(try replace y:=y.below hh);(try replace o:=o.below hh);(try replace XA:=XA.below hh);(try replace Z:=Z.below hh);replace hb:=bend hb hh;obtain ⟨xa0,xa1,xa2⟩:=XA.all;have zf0:=Z.f0;have zf1:=Z.f1;have zf2:=Z.f2;obtain ⟨z0,z1,z2⟩:=Z.all))
 have Z2:=Z.set3 (.bool s_r) (.slice A_r n_r c_r) (.slice B_r m_r d_r)
 obtain ⟨g0,g1,g2⟩:=Z2.all
 refine bodyPost_ret (v:=.agg #[.bool s_r,.slice A_r n_r c_r,.slice B_r m_r d_r]) (by simp [results,Tryz.results46,go_sem,g0,g1,g2]) rfl ?_
 exact ⟨s_r,A_r,n_r,c_r,B_r,m_r,d_r,rfl,r.set3 Z _ _ _,below_set3 hb (by omega) _ _ _⟩
theorem rin3_pos {s:Bool} {A A':Option Addr} {n c n' c' k qq:Nat} {pp:Int} (p:ZR w s A n c pp k) (q:NR w A' n' c' qq k) (hk:k≤1000) (hk1:1≤k) (hq:qq ≠ 0) :
 Calls Tryz.prog 46 #[.agg #[.bool s,.slice A n c,.slice A' n' c']] w (GivesRQ w (mkRat pp (den1 qq)) (2*k)):=by
 have HQ:=Lib.hid hq
 have HD:Hid (mkRat pp qq=mkRat pp (den1 qq)):=by show _=_;rw [den1_of hq]
 clear hq
 go_enter Tryz.func46,Tryz.ntmps46
 go_wp2_with fail
 generalize hW:World.alloc _ _=W
 obtain ⟨hb,XA,Z,hzW⟩:=mkbx22_10 hW;clear hW;replace p:=p.below hb;replace q:=q.below hb;obtain ⟨xa0,xa1,xa2⟩:=XA.all
 go_upto_region 2 with (first
  | (go_at_call 81;(with_reducible refine (rin_nr (2*k) q (by omega) rfl).mono ?_);rintro e w_x ⟨A_x,n_x,c_x,rfl,x,hh⟩
     (try replace p:=p.below hh);(try replace q:=q.below hh);(try replace y:=y.below hh);(try replace o:=o.below hh);(try replace r:=r.below hh);(try replace XA:=XA.below hh);(try replace Z:=Z.below hh);replace hb:=bend hb hh;obtain ⟨xa0,xa1,xa2⟩:=XA.all))
 have hx0:=x.pos_ne HQ.out
 go_wp2_with (first
  | (go_at_call 83;(with_reducible refine (rin2 p hk).mono ?_);rintro e w_y ⟨s_y,A_y,n_y,c_y,rfl,y,hh⟩
     (try replace p:=p.below hh);(try replace q:=q.below hh);(try replace x:=x.below hh);(try replace o:=o.below hh);(try replace r:=r.below hh);(try replace XA:=XA.below hh);(try replace Z:=Z.below hh);replace hb:=bend hb hh;obtain ⟨xa0,xa1,xa2⟩:=XA.all)
  | (go_at_call 78;(with_reducible refine (made_rq y x (by omega) HQ.out).mono ?_);rintro e w_r ⟨s_r,A_r,n_r,c_r,B_r,m_r,d_r,rfl,r,hh⟩
     rw [HD.out] at r;(try replace p:=p.below hh);(try replace q:=q.below hh);(try replace x:=x.below hh);(try replace y:=y.below hh);(try replace o:=o.below hh);(try replace XA:=XA.below hh);(try replace Z:=Z.below hh);replace hb:=bend hb hh;obtain ⟨xa0,xa1,xa2⟩:=XA.all;have zf0:=Z.f0;have zf1:=Z.f1;have zf2:=Z.f2;obtain ⟨z0,z1,z2⟩:=Z.all))
 have Z2:=Z.set3 (.bool s_r) (.slice A_r n_r c_r) (.slice B_r m_r d_r)
 obtain ⟨g0,g1,g2⟩:=Z2.all
 refine bodyPost_ret (v:=.agg #[.bool s_r,.slice A_r n_r c_r,.slice B_r m_r d_r]) (by simp [results,Tryz.results46,go_sem,g0,g1,g2]) rfl ?_
 exact ⟨s_r,A_r,n_r,c_r,B_r,m_r,d_r,rfl,r.set3 Z _ _ _,below_set3 hb (by omega) _ _ _⟩
theorem rin3 {s:Bool} {A A':Option Addr} {n c n' c' k:Nat} {v:Rat} (X0:QR w s A n c A' n' c' v k) (hk:k≤1000) (hk1:1≤k) :
 Calls Tryz.prog 46 #[.agg #[.bool s,.slice A n c,.slice A' n' c']] w (GivesRQ w v (2*k)):=by
 obtain ⟨pp,qq,p,q,rfl⟩:=X0
 by_cases h:qq=0
 · exact rin3_zero p q hk hk1 h
 · exact rin3_pos p q hk hk1 h
theorem mkbx23_10 {w W:World} {x0 x1 x2 x3 x4:Value} (h:((w.alloc (Obj.cells #[x0,x1,x2] 49)).alloc (Obj.cells #[x3,x4] 47))=W):Below w.heap.size w W∧B3R W (w.heap.size) x0 x1 x2∧By W (w.heap.size+1) x3 x4∧W.heap.size=w.heap.size+2:=by subst h;exact ⟨by exact (((Below.refl _ _).alloc (Nat.le_refl _) _).alloc (by simp) _),by exact (B3R.new' _ _ _ _ _ rfl).alloc _,by exact By.new' _ _ _ _ (by simp),by simp⟩
theorem rden3 {s:Bool} {A A':Option Addr} {n c n' c' k:Nat} {v:Rat} (X:RQ w s A n c A' n' c' v k) :
 Calls Tryz.prog 120 #[.agg #[.bool s,.slice A n c,.slice A' n' c']] w fun e w'=>e=.returned (.agg #[.bool false,.slice A' n' c'])∧Below w.heap.size w w':=by
 have hn:=X.qn.pos_ne v.den_nz;clear X
 go_enter Tryz.func120,Tryz.ntmps120
 go_upto_region 1 with (fail)
 generalize hW:World.alloc _ _=W
 obtain ⟨hb,XA,Z,hzW⟩:=mkbx23_10 hW;clear hW;obtain ⟨xa0,xa1,xa2⟩:=XA.all;obtain ⟨z0,z1⟩:=Z.all;have zf0:=Z.f0;have zf1:=Z.f1
 go_wp2_with fail
 have Z2:=Z.set2 (.bool false) (.slice A' n' c')
 obtain ⟨g0,g1⟩:=Z2.all
 refine bodyPost_ret (v:=.agg #[.bool false,.slice A' n' c']) (by simp [results,Tryz.results120,go_sem,g0,g1]) rfl ?_
 exact ⟨rfl,below_set2' hb (by omega) _ _⟩
theorem mkbx24_10 {w W:World} {x0 x1 x2 x3 x4 x5 x6 x7 x8:Value} (h:(((w.alloc (Obj.cells #[x0,x1,x2] 49)).alloc (Obj.cells #[x3,x4,x5] 49)).alloc (Obj.cells #[x6,x7,x8] 49))=W):Below w.heap.size w W∧B3R W (w.heap.size) x0 x1 x2∧B3R W (w.heap.size+1) x3 x4 x5∧B3R W (w.heap.size+1+1) x6 x7 x8∧W.heap.size=w.heap.size+3:=by subst h;exact ⟨by exact ((((Below.refl _ _).alloc (Nat.le_refl _) _).alloc (by simp) _).alloc (by simp;omega) _),by exact ((B3R.new' _ _ _ _ _ rfl).alloc _).alloc _,by exact (B3R.new' _ _ _ _ _ (by simp)).alloc _,by exact B3R.new' _ _ _ _ _ (by simp),by simp⟩
theorem rmul3 {s t:Bool} {A A' B B':Option Addr} {n c n' c' m d m' d' k k2:Nat} {v u:Rat} (X:RQ w s A n c A' n' c' v k) (Y:RQ w t B m d B' m' d' u k2) (hk:k≤10000) (hk2:k2≤10000) :
 Calls Tryz.prog 79 #[.agg #[.bool s,.slice A n c,.slice A' n' c'],.agg #[.bool t,.slice B m d,.slice B' m' d']] w (GivesRQ w (v*u) (k+k2)):=by
 have HE:Hid (mkRat (v.num*u.num) (v.den*u.den)=v*u):=by
  show _=_
  conv=>rhs;rw [parts_eq v,parts_eq u,mk_mul]
 have H0:Hid (v.den*u.den ≠ 0):=Nat.mul_ne_zero v.den_nz u.den_nz
 have HJ:Hid (v.den*u.den < B32 ^ (k+k2)):=by
  show _ < _
  rw [Nat.pow_add]
  exact Nat.mul_lt_mul'' X.qn.lt Y.qn.lt
 have hfd:=fld02
 go_enter Tryz.func79,Tryz.ntmps79
 go_wp2_with fail
 generalize hW:World.alloc _ _=W
 obtain ⟨hb,XA,XB,Z,hzW⟩:=mkbx24_10 hW;clear hW;replace X:=X.below hb;replace Y:=Y.below hb
 replace X:=X.below (Below.refl _ _).drew
 replace Y:=Y.below (Below.refl _ _).drew
 replace XA:=XA.below (Below.refl _ _).drew
 replace XB:=XB.below (Below.refl _ _).drew
 replace Z:=Z.below (Below.refl _ _).drew
 replace hb:=hb.drew
 go_region_held3 (fun w'=>w'.cell? ⟨w.heap.size,0,none⟩=some (.bool s)∧w'.cell? ⟨w.heap.size,1,none⟩=some (.slice A n c)∧w'.cell? ⟨w.heap.size,2,none⟩=some (.slice A' n' c')∧w'.cell? ⟨w.heap.size+1,0,none⟩=some (.bool t)∧w'.cell? ⟨w.heap.size+1,1,none⟩=some (.slice B m d)∧w'.cell? ⟨w.heap.size+1,2,none⟩=some (.slice B' m' d'))
  (first | with_reducible exact ⟨XA.c0,XA.c1,XA.c2,XB.c0,XB.c1,XB.c2⟩ | with_reducible exact ⟨(set3_cell _ _ _ _ _ _ _ (by omega)).trans XA.c0,(set3_cell _ _ _ _ _ _ _ (by omega)).trans XA.c1,(set3_cell _ _ _ _ _ _ _ (by omega)).trans XA.c2,(set3_cell _ _ _ _ _ _ _ (by omega)).trans XB.c0,(set3_cell _ _ _ _ _ _ _ (by omega)).trans XB.c1,(set3_cell _ _ _ _ _ _ _ (by omega)).trans XB.c2⟩)
  (first
  | (go_at_call 118;(with_reducible refine (rmul2 X.pz Y.pz (by omega) (by omega)).mono ?_);rintro e w_x ⟨s_x,A_x,n_x,c_x,rfl,x,hh⟩
     (try replace X:=X.below hh);(try replace Y:=Y.below hh);(try replace y:=y.below hh);(try replace r:=r.below hh);(try replace XA:=XA.below hh);(try replace XB:=XB.below hh);(try replace Z:=Z.below hh);replace hb:=bend hb hh)
  | (go_at_call 120;(with_reducible refine (rden3 X).mono ?_);rintro e w_z ⟨rfl,hh⟩
     (try replace X:=X.below hh);(try replace Y:=Y.below hh);(try replace x:=x.below hh);(try replace y:=y.below hh);(try replace r:=r.below hh);(try replace XA:=XA.below hh);(try replace XB:=XB.below hh);(try replace Z:=Z.below hh);replace hb:=bend hb hh)
  | (go_at_call 120;(with_reducible refine (rden3 Y).mono ?_);rintro e w_z ⟨rfl,hh⟩
     (try replace X:=X.below hh);(try replace Y:=Y.below hh);(try replace x:=x.below hh);(try replace y:=y.below hh);(try replace r:=r.below hh);(try replace XA:=XA.below hh);(try replace XB:=XB.below hh);(try replace Z:=Z.below hh);replace hb:=bend hb hh)
  | (go_at_call 119;(with_reducible refine (rmul_rn (k+k2) X.qn Y.qn (by omega) (by omega) HJ.out).mono ?_);rintro e w_y ⟨A_y,n_y,c_y,rfl,y,hh⟩
     (try replace X:=X.below hh);(try replace Y:=Y.below hh);(try replace x:=x.below hh);(try replace r:=r.below hh);(try replace XA:=XA.below hh);(try replace XB:=XB.below hh);(try replace Z:=Z.below hh);replace hb:=bend hb hh)
  | (go_at_call 78;(with_reducible refine (made_rq x y (by omega) H0.out).mono ?_);rintro e w_r ⟨s_r,A_r,n_r,c_r,B_r,m_r,d_r,rfl,r,hh⟩
     rw [HE.out] at r;(try replace X:=X.below hh);(try replace Y:=Y.below hh);(try replace x:=x.below hh);(try replace y:=y.below hh);(try replace XA:=XA.below hh);(try replace XB:=XB.below hh);(try replace Z:=Z.below hh);replace hb:=bend hb hh;have zf0:=Z.f0;have zf1:=Z.f1;have zf2:=Z.f2;obtain ⟨z0,z1,z2⟩:=Z.all))
 go_wp2_with fail
 have Z2:=Z.set3 (.bool s_r) (.slice A_r n_r c_r) (.slice B_r m_r d_r)
 obtain ⟨g0,g1,g2⟩:=Z2.all
 refine bodyPost_ret (v:=.agg #[.bool s_r,.slice A_r n_r c_r,.slice B_r m_r d_r]) (by simp [results,Tryz.results79,go_sem,g0,g1,g2]) rfl ?_
 exact ⟨s_r,A_r,n_r,c_r,B_r,m_r,d_r,rfl,r.set3 Z _ _ _,below_set3 hb (by omega) _ _ _⟩
end
section
open Go Go.RowKit
def VRG (v:Int) (k:Nat) (x:Value) (w:World):Prop:=∃ s A n c,x=.agg #[.bool s,.slice A n c]∧RG w s A n c v k
theorem RG.box {T:TypeId} {w w':World} {g:Nat} {cs:Array Value} {s:Bool} {A:Option Addr} {n c k:Nat} {v:Int} (h:RG w s A n c v k) (B:BoxAt T w g cs) (ho:Only g w w'):RG w' s A n c v k:=h.only (B.offx h.2.1) ho
theorem stays_r (v:Int) (k:Nat):Stays (VRG v k) :=
 ⟨fun _ _ _ ⟨s,A,n,c,h1,h2⟩ hb=>⟨s,A,n,c,h1,h2.below hb⟩,fun _ _ _ _ _ _ ⟨s,A,n,c,h1,h2⟩ hB ho=>⟨s,A,n,c,h1,h2.box hB ho⟩⟩
theorem run_load3 {e:Operand→Value} {x:Operand} {d:Option Tmp} {y g:Nat} {pos:String} {af:Array Edge} {u v z:Value} (h:e x=.pointer (some ⟨g,0,none⟩)) (h0:w.cell? ⟨g,0,none⟩=some u) (h1:w.cell? ⟨g,1,none⟩=some v) (h2:w.cell? ⟨g,2,none⟩=some z) :
 (execOp e ⟨d,.load 49 x,y,pos,af,none⟩).run Tryz.prog w=.ok (.value (.agg #[u,v,z])) w:=by
 go_simp
theorem run_load32 {e:Operand→Value} {x:Operand} {d:Option Tmp} {y g:Nat} {pos:String} {af:Array Edge} {u v:Value} (h:e x=.pointer (some ⟨g,0,none⟩)) (h0:w.cell? ⟨g,0,none⟩=some u) (h1:w.cell? ⟨g,1,none⟩=some v) :
 (execOp e ⟨d,.load 47 x,y,pos,af,none⟩).run Tryz.prog w=.ok (.value (.agg #[u,v])) w:=by
 go_simp
theorem run_fa0 {e:Operand→Value} {x:Operand} {d:Option Tmp} {y g:Nat} {pos:String} {af:Array Edge} (h:e x=.pointer (some ⟨g,0,none⟩)) :
 (execOp e ⟨d,.fieldAddr 49 x 0,y,pos,af,none⟩).run Tryz.prog w=.ok (.value (.pointer (some ⟨g,0,none⟩))) w:=by
 go_simp
theorem store_r {ac:Act} {x z:Operand} {y g:Nat} {pos:String} {af:Array Edge} {Q:Exit→Act→World→Prop} {V:Int} {k:Nat} (p1:ac.eval x=.pointer (some ⟨g,0,none⟩)) (h:VRG V k (ac.eval z) w) (B:BoxAt 47 w g #[.bool false,.slice none 0 0]) :
 (⟨none,.store 47 x z,y,pos,af,none⟩:Oper).wp Tryz.prog ac w (fun a'' w''=>a''=ac∧Only g w w''∧∃ cs',BoxAt 47 w'' g cs'∧(fun cs w=>∃ s A n c,cs=#[.bool s,.slice A n c]∧RG w s A n c V k) cs' w'') Q:=by
 obtain ⟨s1,A1,n1,c1,h1,h2⟩:=h
 have Z:By w g (Value.bool false) (Value.slice none 0 0):=B.at_
 unfold Oper.wp
 rw [run_storeR p1 h1 Z.c0 Z.c1 Z.f0 Z.f1,Oper.upon_skip]
 refine ⟨put_none ac undef,(((Only.refl g w).setCell 0 _).setCell 1 _),#[.bool s1,.slice A1 n1 c1],⟨Z.set2 (Value.bool s1) (Value.slice A1 n1 c1),free2 _ _ _ _⟩,s1,A1,n1,c1,rfl,h2.box B (((Only.refl g w).setCell 0 _).setCell 1 _)⟩
def VRQ (v:Rat) (k:Nat) (x:Value) (w:World):Prop:=∃ s A n c B m d,x=.agg #[.bool s,.slice A n c,.slice B m d]∧RQ w s A n c B m d v k
theorem RQ.box {T:TypeId} {w w':World} {g:Nat} {cs:Array Value} {s:Bool} {A A':Option Addr} {n c n' c' k:Nat} {v:Rat} (h:RQ w s A n c A' n' c' v k) (B:BoxAt T w g cs) (ho:Only g w w'):RQ w' s A n c A' n' c' v k:=⟨h.1.box B ho,h.2.only (B.offx h.2.1) ho⟩
theorem stays_rq (v:Rat) (k:Nat):Stays (VRQ v k) :=
 ⟨fun _ _ _ ⟨s,A,n,c,B,m,d,h1,h2⟩ hb=>⟨s,A,n,c,B,m,d,h1,h2.below hb⟩,fun _ _ _ _ _ _ ⟨s,A,n,c,B,m,d,h1,h2⟩ hB ho=>⟨s,A,n,c,B,m,d,h1,h2.box hB ho⟩⟩
end
end Go.Proofs.YtfpaeophfcoohaaGreat
