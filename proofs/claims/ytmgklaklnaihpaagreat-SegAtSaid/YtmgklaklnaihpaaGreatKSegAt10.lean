/- SegAt: part 10. -/
import Derived.Test.YtmgklaklnaihpaaGreatKSegAt9
set_option linter.unusedVariables false
set_option maxRecDepth 100000
set_option maxHeartbeats 16000000
variable {s_p t_p:Bool} {A_p B_p E_p F_p:Option Go.Addr} {n_p c_p m_p d_p i_p e_p j_p f_p:Nat}
variable {s_q t_q:Bool} {A_q B_q E_q F_q:Option Go.Addr} {n_q c_q m_q d_q i_q e_q j_q f_q:Nat}
namespace Go.Proofs.YtmgklaklnaihpaaGreat
open Go Go.RowKit
def B6 (W:World) (g:Nat) (x y z u v t:Value):Prop:=W.heap[g]?=some (.cells #[x,y,z,u,v,t] 56 (0,0))
section
variable {W W':World} {g:Nat} {x y z u v t:Value}
theorem B6.c0 (h:B6 W g x y z u v t):W.cell? ⟨g,0,none⟩=some x:=by rw [cell_of_row W g 0 _ _ (0,0) h];rfl
theorem B6.c1 (h:B6 W g x y z u v t):W.cell? ⟨g,1,none⟩=some y:=by rw [cell_of_row W g 1 _ _ (0,0) h];rfl
theorem B6.c2 (h:B6 W g x y z u v t):W.cell? ⟨g,2,none⟩=some z:=by rw [cell_of_row W g 2 _ _ (0,0) h];rfl
theorem B6.c3 (h:B6 W g x y z u v t):W.cell? ⟨g,3,none⟩=some u:=by rw [cell_of_row W g 3 _ _ (0,0) h];rfl
theorem B6.c4 (h:B6 W g x y z u v t):W.cell? ⟨g,4,none⟩=some v:=by rw [cell_of_row W g 4 _ _ (0,0) h];rfl
theorem B6.c5 (h:B6 W g x y z u v t):W.cell? ⟨g,5,none⟩=some t:=by rw [cell_of_row W g 5 _ _ (0,0) h];rfl
theorem B6.all (h:B6 W g x y z u v t):W.cell? ⟨g,0,none⟩=some x∧W.cell? ⟨g,1,none⟩=some y∧W.cell? ⟨g,2,none⟩=some z∧W.cell? ⟨g,3,none⟩=some u∧W.cell? ⟨g,4,none⟩=some v∧W.cell? ⟨g,5,none⟩=some t:=⟨h.c0,h.c1,h.c2,h.c3,h.c4,h.c5⟩
theorem B6.f0 (h:B6 W g x y z u v t):W.frozen? ⟨g,0,none⟩=false:=frozen_of_row W g 0 _ _ h
theorem B6.f1 (h:B6 W g x y z u v t):W.frozen? ⟨g,1,none⟩=false:=frozen_of_row W g 1 _ _ h
theorem B6.f2 (h:B6 W g x y z u v t):W.frozen? ⟨g,2,none⟩=false:=frozen_of_row W g 2 _ _ h
theorem B6.f3 (h:B6 W g x y z u v t):W.frozen? ⟨g,3,none⟩=false:=frozen_of_row W g 3 _ _ h
theorem B6.f4 (h:B6 W g x y z u v t):W.frozen? ⟨g,4,none⟩=false:=frozen_of_row W g 4 _ _ h
theorem B6.f5 (h:B6 W g x y z u v t):W.frozen? ⟨g,5,none⟩=false:=frozen_of_row W g 5 _ _ h
theorem B6.lt (h:B6 W g x y z u v t):g < W.heap.size:=World.block_lt_of_cell? W _ h.c0
theorem B6.below (h:B6 W g x y z u v t) (hb:Below W.heap.size W W'):B6 W' g x y z u v t:=(hb.block g h.lt).trans h
theorem B6.alloc (h:B6 W g x y z u v t) (o:Obj):B6 (W.alloc o) g x y z u v t:=(Below.heap_alloc W o g h.lt).trans h
theorem B6.new' (W:World) (x y z u v t:Value) (g:Nat) (hg:g=W.heap.size):B6 (W.alloc (.cells #[x,y,z,u,v,t] 56)) g x y z u v t:=by subst hg;exact heap_alloc_new W _
end
def set6 (W:World) (g:Nat) (a b c d e f:Value):World:=(((((W.setCell ⟨g,0,none⟩ a).setCell ⟨g,1,none⟩ b).setCell ⟨g,2,none⟩ c).setCell ⟨g,3,none⟩ d).setCell ⟨g,4,none⟩ e).setCell ⟨g,5,none⟩ f
theorem B6.set6 {W:World} {g:Nat} {x y z u v t:Value} (h:B6 W g x y z u v t) (a b c d e f:Value):B6 ((((((W.setCell ⟨g,0,none⟩ a).setCell ⟨g,1,none⟩ b).setCell ⟨g,2,none⟩ c).setCell ⟨g,3,none⟩ d).setCell ⟨g,4,none⟩ e).setCell ⟨g,5,none⟩ f) g a b c d e f:=by
  unfold B6 at h ⊢
  simp [World.setCell,Array.getElem?_modify,h]
theorem set6_cell (W:World) (g k o:Nat) (a b c d e f:Value) (h:k ≠ g):((((((W.setCell ⟨g,0,none⟩ a).setCell ⟨g,1,none⟩ b).setCell ⟨g,2,none⟩ c).setCell ⟨g,3,none⟩ d).setCell ⟨g,4,none⟩ e).setCell ⟨g,5,none⟩ f).cell? ⟨k,o,none⟩=W.cell? ⟨k,o,none⟩:=by
  rw [World.cell?_of_block (Below.heap_setCell _ _ _ _ h),World.cell?_of_block (Below.heap_setCell _ _ _ _ h),World.cell?_of_block (Below.heap_setCell _ _ _ _ h),World.cell?_of_block (Below.heap_setCell _ _ _ _ h),World.cell?_of_block (Below.heap_setCell _ _ _ _ h),World.cell?_of_block (Below.heap_setCell _ _ _ _ h)]
theorem below_set6 {B g:Nat} {w W:World} (h:Below B w W) (hg:B≤g) (a b c d e f:Value):Below B w ((((((W.setCell ⟨g,0,none⟩ a).setCell ⟨g,1,none⟩ b).setCell ⟨g,2,none⟩ c).setCell ⟨g,3,none⟩ d).setCell ⟨g,4,none⟩ e).setCell ⟨g,5,none⟩ f):=(((((h.setCell hg _).setCell hg _).setCell hg _).setCell hg _).setCell hg _).setCell hg _
theorem Rd.off6 {K:IntKind} {W:World} {g:Nat} {s t:Bool} {A A1 A2 A3 A4:Option Addr} {n n1 c1 n2 c2 n3 c3 n4 c4:Nat} {l:List Nat} (hr:Rd K W A n l) (h:B6 W g (.bool s) (.slice A1 n1 c1) (.slice A2 n2 c2) (.bool t) (.slice A3 n3 c3) (.slice A4 n4 c4)):Off A n g:=by
  intro hn ad e hg
  obtain ⟨b,o,eA,hc⟩:=hr.at_ hn
  obtain ⟨x,_,hx⟩:=hc 0 hn
  rw [eA] at e
  cases e
  have hg2:b=g:=hg
  subst hg2
  rw [cell_of_row W b (o+0) _ _ (0,0) h] at hx
  match o,hx with
  | 0,hx=>cases hx
  | 1,hx=>cases hx
  | 2,hx=>cases hx
  | 3,hx=>cases hx
  | 4,hx=>cases hx
  | 5,hx=>cases hx
  | o+6,hx=>cases hx
def PR (w:World) (s:Bool) (A:Option Addr) (n c:Nat) (B:Option Addr) (m d:Nat) (t:Bool) (E:Option Addr) (i e:Nat) (F:Option Addr) (j f:Nat) (x y:Rat) (k:Nat):Prop:=QR w s A n c B m d x k∧QR w t E i e F j f y k
def PG (w:World) (s:Bool) (A:Option Addr) (n c:Nat) (B:Option Addr) (m d:Nat) (t:Bool) (E:Option Addr) (i e:Nat) (F:Option Addr) (j f:Nat) (x y:Rat) (k:Nat):Prop:=QG w s A n c B m d x k∧QG w t E i e F j f y k
def GivesPt (w:World) (x y:Rat) (k:Nat) (en:Ending) (w':World):Prop :=
  ∃ s A n c B m d t E i e F j f,en=.returned (.agg #[.bool s,.slice A n c,.slice B m d,.bool t,.slice E i e,.slice F j f])∧PG w' s A n c B m d t E i e F j f x y k∧Below w.heap.size w w'
section
variable {w w':World} {s t:Bool} {A B E F:Option Addr} {n c m d i e j f k k1:Nat} {x y:Rat}
theorem PR.below (h:PR w s A n c B m d t E i e F j f x y k) (hb:Below w.heap.size w w'):PR w' s A n c B m d t E i e F j f x y k:=⟨h.1.below hb,h.2.below hb⟩
theorem PG.below (h:PG w s A n c B m d t E i e F j f x y k) (hb:Below w.heap.size w w'):PG w' s A n c B m d t E i e F j f x y k:=⟨h.1.below hb,h.2.below hb⟩
theorem PG.pr (h:PG w s A n c B m d t E i e F j f x y k):PR w s A n c B m d t E i e F j f x y k:=⟨h.1.qr,h.2.qr⟩
theorem PR.qx (h:PR w s A n c B m d t E i e F j f x y k):QR w s A n c B m d x k:=h.1
theorem PR.qy (h:PR w s A n c B m d t E i e F j f x y k):QR w t E i e F j f y k:=h.2
theorem PG.qx (h:PG w s A n c B m d t E i e F j f x y k):QG w s A n c B m d x k:=h.1
theorem PG.qy (h:PG w s A n c B m d t E i e F j f x y k):QG w t E i e F j f y k:=h.2
theorem QG.more (h:QG w s A n c B m d x k) (hk:k≤k1):QG w s A n c B m d x k1:=⟨⟨h.1.1,h.1.2.1,h.1.2.2.1,Nat.le_trans h.1.2.2.2 hk⟩,h.2.more hk⟩
theorem PG.more (h:PG w s A n c B m d t E i e F j f x y k) (hk:k≤k1):PG w s A n c B m d t E i e F j f x y k1:=⟨h.1.more hk,h.2.more hk⟩
theorem PR.more (h:PR w s A n c B m d t E i e F j f x y k) (hk:k≤k1):PR w s A n c B m d t E i e F j f x y k1:=⟨h.1.more hk,h.2.more hk⟩
theorem QG.set6 {v0:Rat} {s0 t0:Bool} {g:Nat} {A1 A2 A3 A4:Option Addr} {n1 c1 n2 c2 n3 c3 n4 c4:Nat} (h:QG w s A n c B m d v0 k) (Z:B6 w g (.bool s0) (.slice A1 n1 c1) (.slice A2 n2 c2) (.bool t0) (.slice A3 n3 c3) (.slice A4 n4 c4)) (a1 a2 a3 a4 a5 a6:Value) :
    QG ((((((w.setCell ⟨g,0,none⟩ a1).setCell ⟨g,1,none⟩ a2).setCell ⟨g,2,none⟩ a3).setCell ⟨g,3,none⟩ a4).setCell ⟨g,4,none⟩ a5).setCell ⟨g,5,none⟩ a6) s A n c B m d v0 k:=by
  have ho:Only g w ((((((w.setCell ⟨g,0,none⟩ a1).setCell ⟨g,1,none⟩ a2).setCell ⟨g,2,none⟩ a3).setCell ⟨g,3,none⟩ a4).setCell ⟨g,4,none⟩ a5).setCell ⟨g,5,none⟩ a6):=((((((Only.refl g w).setCell 0 _).setCell 1 _).setCell 2 _).setCell 3 _).setCell 4 _).setCell 5 _
  exact ⟨⟨h.1.1,h.1.2.1.only (h.1.2.1.off6 Z) ho,h.1.2.2⟩,⟨h.2.1.only (h.2.1.off6 Z) ho,h.2.2⟩⟩
theorem PG.set6 {s0 t0:Bool} {g:Nat} {A1 A2 A3 A4:Option Addr} {n1 c1 n2 c2 n3 c3 n4 c4:Nat} (h:PG w s A n c B m d t E i e F j f x y k) (Z:B6 w g (.bool s0) (.slice A1 n1 c1) (.slice A2 n2 c2) (.bool t0) (.slice A3 n3 c3) (.slice A4 n4 c4)) (a1 a2 a3 a4 a5 a6:Value) :
    PG ((((((w.setCell ⟨g,0,none⟩ a1).setCell ⟨g,1,none⟩ a2).setCell ⟨g,2,none⟩ a3).setCell ⟨g,3,none⟩ a4).setCell ⟨g,4,none⟩ a5).setCell ⟨g,5,none⟩ a6) s A n c B m d t E i e F j f x y k:=⟨h.1.set6 Z _ _ _ _ _ _,h.2.set6 Z _ _ _ _ _ _⟩
end
theorem partx_any {w:World} :
    Calls Tryz.prog 181 #[.agg #[.bool s_p,.slice A_p n_p c_p,.slice B_p m_p d_p,.bool t_p,.slice E_p i_p e_p,.slice F_p j_p f_p]] w fun e w'=>e=.returned (.agg #[.bool s_p,.slice A_p n_p c_p,.slice B_p m_p d_p])∧Below w.heap.size w w':=by
  go_enter Tryz.func181,Tryz.ntmps181
  go_upto_region 1 with (fail)
  generalize hW:((w.alloc (Obj.cells #[Value.bool s_p,Value.slice A_p n_p c_p,Value.slice B_p m_p d_p,Value.bool t_p,Value.slice E_p i_p e_p,Value.slice F_p j_p f_p] 56)).alloc (Obj.cells #[Value.bool false,Value.slice none 0 0,Value.slice none 0 0] 26))=W
  have hb:Below w.heap.size w W:=by subst hW;exact (((Below.refl _ _).alloc (Nat.le_refl _) _).alloc (by simp) _)
  have XA:B6 W (w.heap.size) (Value.bool s_p) (Value.slice A_p n_p c_p) (Value.slice B_p m_p d_p) (Value.bool t_p) (Value.slice E_p i_p e_p) (Value.slice F_p j_p f_p):=by subst hW;exact (B6.new' _ _ _ _ _ _ _ _ rfl).alloc _
  have Z:B3 W (w.heap.size+1) (Value.bool false) (Value.slice none 0 0) (Value.slice none 0 0):=by subst hW;exact B3.new' _ _ _ _ _ (by simp)
  have hzW:W.heap.size=w.heap.size+2:=by subst hW;simp
  clear hW;obtain ⟨xa0,xa1,xa2,xa3,xa4,xa5⟩:=XA.all;have zf0:=Z.f0;have zf1:=Z.f1;have zf2:=Z.f2;obtain ⟨z0,z1,z2⟩:=Z.all
  go_wp2_with fail
  have Z2:=Z.set3 (.bool s_p) (.slice A_p n_p c_p) (.slice B_p m_p d_p)
  obtain ⟨g0,g1,g2⟩:=Z2.all
  refine bodyPost_ret (v:=.agg #[.bool s_p,.slice A_p n_p c_p,.slice B_p m_p d_p]) (by simp [results,Tryz.results181,go_sem,g0,g1,g2]) rfl ?_
  exact ⟨rfl,below_set3 hb (by omega) _ _ _⟩
theorem party_any {w:World} :
    Calls Tryz.prog 182 #[.agg #[.bool s_p,.slice A_p n_p c_p,.slice B_p m_p d_p,.bool t_p,.slice E_p i_p e_p,.slice F_p j_p f_p]] w fun e w'=>e=.returned (.agg #[.bool t_p,.slice E_p i_p e_p,.slice F_p j_p f_p])∧Below w.heap.size w w':=by
  go_enter Tryz.func182,Tryz.ntmps182
  go_upto_region 1 with (fail)
  generalize hW:((w.alloc (Obj.cells #[Value.bool s_p,Value.slice A_p n_p c_p,Value.slice B_p m_p d_p,Value.bool t_p,Value.slice E_p i_p e_p,Value.slice F_p j_p f_p] 56)).alloc (Obj.cells #[Value.bool false,Value.slice none 0 0,Value.slice none 0 0] 26))=W
  have hb:Below w.heap.size w W:=by subst hW;exact (((Below.refl _ _).alloc (Nat.le_refl _) _).alloc (by simp) _)
  have XA:B6 W (w.heap.size) (Value.bool s_p) (Value.slice A_p n_p c_p) (Value.slice B_p m_p d_p) (Value.bool t_p) (Value.slice E_p i_p e_p) (Value.slice F_p j_p f_p):=by subst hW;exact (B6.new' _ _ _ _ _ _ _ _ rfl).alloc _
  have Z:B3 W (w.heap.size+1) (Value.bool false) (Value.slice none 0 0) (Value.slice none 0 0):=by subst hW;exact B3.new' _ _ _ _ _ (by simp)
  have hzW:W.heap.size=w.heap.size+2:=by subst hW;simp
  clear hW;obtain ⟨xa0,xa1,xa2,xa3,xa4,xa5⟩:=XA.all;have zf0:=Z.f0;have zf1:=Z.f1;have zf2:=Z.f2;obtain ⟨z0,z1,z2⟩:=Z.all
  go_wp2_with fail
  have Z2:=Z.set3 (.bool t_p) (.slice E_p i_p e_p) (.slice F_p j_p f_p)
  obtain ⟨g0,g1,g2⟩:=Z2.all
  refine bodyPost_ret (v:=.agg #[.bool t_p,.slice E_p i_p e_p,.slice F_p j_p f_p]) (by simp [results,Tryz.results182,go_sem,g0,g1,g2]) rfl ?_
  exact ⟨rfl,below_set3 hb (by omega) _ _ _⟩
theorem add1_x {w:World} {g1 g2 k k2:Nat} {x y x2 y2:Rat} (XA:B6 w g1 (.bool s_p) (.slice A_p n_p c_p) (.slice B_p m_p d_p) (.bool t_p) (.slice E_p i_p e_p) (.slice F_p j_p f_p)) (XB:B6 w g2 (.bool s_q) (.slice A_q n_q c_q) (.slice B_q m_q d_q) (.bool t_q) (.slice E_q i_q e_q) (.slice F_q j_q f_q)) (p:PR w s_p A_p n_p c_p B_p m_p d_p t_p E_p i_p e_p F_p j_p f_p x y k) (q:PR w s_q A_q n_q c_q B_q m_q d_q t_q E_q i_q e_q F_q j_q f_q x2 y2 k2) (hk:k≤300) (hk2:k2≤300) (h40:k≤400 ∨ k2≤400) (hk1:1≤k) (hk3:1≤k2) :
    Calls Tryz.prog 157 #[(.func (.func 181) #[] #[]),.pointer (some ⟨g1,0,none⟩),.pointer (some ⟨g2,0,none⟩)] w (GivesQ w (x+x2) (k+k2+1)):=by
  go_enter Tryz.func157,Tryz.ntmps157
  go_upto_region 1 with (fail)
  have hl1:=XA.lt;have hl2:=XB.lt
  generalize hW:(w.alloc (Obj.cells #[Value.bool false,Value.slice none 0 0,Value.slice none 0 0] 26))=W
  have hb:Below w.heap.size w W:=by subst hW;exact ((Below.refl _ _).alloc (Nat.le_refl _) _)
  have Z:B3 W (w.heap.size) (Value.bool false) (Value.slice none 0 0) (Value.slice none 0 0):=by subst hW;exact B3.new' _ _ _ _ _ rfl
  have hzW:W.heap.size=w.heap.size+1:=by subst hW;simp
  clear hW;replace p:=p.below hb;replace q:=q.below hb;replace XA:=XA.below hb;replace XB:=XB.below hb
  replace p:=p.below (Below.refl _ _).drew
  replace q:=q.below (Below.refl _ _).drew
  replace XA:=XA.below (Below.refl _ _).drew
  replace XB:=XB.below (Below.refl _ _).drew
  replace Z:=Z.below (Below.refl _ _).drew
  replace hb:=hb.drew
  go_region_held3 (fun w'=>w'.cell? ⟨g1,0,none⟩=some (.bool s_p)∧w'.cell? ⟨g1,1,none⟩=some (.slice A_p n_p c_p)∧w'.cell? ⟨g1,2,none⟩=some (.slice B_p m_p d_p)∧w'.cell? ⟨g1,3,none⟩=some (.bool t_p)∧w'.cell? ⟨g1,4,none⟩=some (.slice E_p i_p e_p)∧w'.cell? ⟨g1,5,none⟩=some (.slice F_p j_p f_p)∧w'.cell? ⟨g2,0,none⟩=some (.bool s_q)∧w'.cell? ⟨g2,1,none⟩=some (.slice A_q n_q c_q)∧w'.cell? ⟨g2,2,none⟩=some (.slice B_q m_q d_q)∧w'.cell? ⟨g2,3,none⟩=some (.bool t_q)∧w'.cell? ⟨g2,4,none⟩=some (.slice E_q i_q e_q)∧w'.cell? ⟨g2,5,none⟩=some (.slice F_q j_q f_q))
    (first | with_reducible exact ⟨XA.c0,XA.c1,XA.c2,XA.c3,XA.c4,XA.c5,XB.c0,XB.c1,XB.c2,XB.c3,XB.c4,XB.c5⟩ | with_reducible exact ⟨(set3_cell _ _ _ _ _ _ _ (by omega)).trans (XA.c0),(set3_cell _ _ _ _ _ _ _ (by omega)).trans (XA.c1),(set3_cell _ _ _ _ _ _ _ (by omega)).trans (XA.c2),(set3_cell _ _ _ _ _ _ _ (by omega)).trans (XA.c3),(set3_cell _ _ _ _ _ _ _ (by omega)).trans (XA.c4),(set3_cell _ _ _ _ _ _ _ (by omega)).trans (XA.c5),(set3_cell _ _ _ _ _ _ _ (by omega)).trans (XB.c0),(set3_cell _ _ _ _ _ _ _ (by omega)).trans (XB.c1),(set3_cell _ _ _ _ _ _ _ (by omega)).trans (XB.c2),(set3_cell _ _ _ _ _ _ _ (by omega)).trans (XB.c3),(set3_cell _ _ _ _ _ _ _ (by omega)).trans (XB.c4),(set3_cell _ _ _ _ _ _ _ (by omega)).trans (XB.c5)⟩)
    (first
    | (go_at_call 181;(with_reducible refine (partx_any).mono ?_);rintro e w_z ⟨rfl,hh⟩
       (try replace p:=p.below hh);(try replace q:=q.below hh);(try replace XA:=XA.below hh);(try replace XB:=XB.below hh);(try replace Z:=Z.below hh);replace hb:=bend hb hh)
    | (go_at_call 18;(with_reducible refine (radd_q p.qx q.qx (by omega) (by omega) h40 hk1 hk3).mono ?_);rintro e w_r ⟨s_r,A_r,n_r,c_r,B_r,m_r,d_r,rfl,r,hh⟩
       (try replace p:=p.below hh);(try replace q:=q.below hh);(try replace XA:=XA.below hh);(try replace XB:=XB.below hh);(try replace Z:=Z.below hh);replace hb:=bend hb hh;have zf0:=Z.f0;have zf1:=Z.f1;have zf2:=Z.f2;obtain ⟨z0,z1,z2⟩:=Z.all))
  go_wp2_with fail
  have Z2:=Z.set3 (.bool s_r) (.slice A_r n_r c_r) (.slice B_r m_r d_r)
  obtain ⟨g0,g1,g2⟩:=Z2.all
  refine bodyPost_ret (v:=.agg #[.bool s_r,.slice A_r n_r c_r,.slice B_r m_r d_r]) (by simp [results,Tryz.results157,go_sem,g0,g1,g2]) rfl ?_
  exact ⟨s_r,A_r,n_r,c_r,B_r,m_r,d_r,rfl,r.set3 Z _ _ _,below_set3 hb (by omega) _ _ _⟩
theorem add1_y {w:World} {g1 g2 k k2:Nat} {x y x2 y2:Rat} (XA:B6 w g1 (.bool s_p) (.slice A_p n_p c_p) (.slice B_p m_p d_p) (.bool t_p) (.slice E_p i_p e_p) (.slice F_p j_p f_p)) (XB:B6 w g2 (.bool s_q) (.slice A_q n_q c_q) (.slice B_q m_q d_q) (.bool t_q) (.slice E_q i_q e_q) (.slice F_q j_q f_q)) (p:PR w s_p A_p n_p c_p B_p m_p d_p t_p E_p i_p e_p F_p j_p f_p x y k) (q:PR w s_q A_q n_q c_q B_q m_q d_q t_q E_q i_q e_q F_q j_q f_q x2 y2 k2) (hk:k≤300) (hk2:k2≤300) (h40:k≤400 ∨ k2≤400) (hk1:1≤k) (hk3:1≤k2) :
    Calls Tryz.prog 157 #[(.func (.func 182) #[] #[]),.pointer (some ⟨g1,0,none⟩),.pointer (some ⟨g2,0,none⟩)] w (GivesQ w (y+y2) (k+k2+1)):=by
  go_enter Tryz.func157,Tryz.ntmps157
  go_upto_region 1 with (fail)
  have hl1:=XA.lt;have hl2:=XB.lt
  generalize hW:(w.alloc (Obj.cells #[Value.bool false,Value.slice none 0 0,Value.slice none 0 0] 26))=W
  have hb:Below w.heap.size w W:=by subst hW;exact ((Below.refl _ _).alloc (Nat.le_refl _) _)
  have Z:B3 W (w.heap.size) (Value.bool false) (Value.slice none 0 0) (Value.slice none 0 0):=by subst hW;exact B3.new' _ _ _ _ _ rfl
  have hzW:W.heap.size=w.heap.size+1:=by subst hW;simp
  clear hW;replace p:=p.below hb;replace q:=q.below hb;replace XA:=XA.below hb;replace XB:=XB.below hb
  replace p:=p.below (Below.refl _ _).drew
  replace q:=q.below (Below.refl _ _).drew
  replace XA:=XA.below (Below.refl _ _).drew
  replace XB:=XB.below (Below.refl _ _).drew
  replace Z:=Z.below (Below.refl _ _).drew
  replace hb:=hb.drew
  go_region_held3 (fun w'=>w'.cell? ⟨g1,0,none⟩=some (.bool s_p)∧w'.cell? ⟨g1,1,none⟩=some (.slice A_p n_p c_p)∧w'.cell? ⟨g1,2,none⟩=some (.slice B_p m_p d_p)∧w'.cell? ⟨g1,3,none⟩=some (.bool t_p)∧w'.cell? ⟨g1,4,none⟩=some (.slice E_p i_p e_p)∧w'.cell? ⟨g1,5,none⟩=some (.slice F_p j_p f_p)∧w'.cell? ⟨g2,0,none⟩=some (.bool s_q)∧w'.cell? ⟨g2,1,none⟩=some (.slice A_q n_q c_q)∧w'.cell? ⟨g2,2,none⟩=some (.slice B_q m_q d_q)∧w'.cell? ⟨g2,3,none⟩=some (.bool t_q)∧w'.cell? ⟨g2,4,none⟩=some (.slice E_q i_q e_q)∧w'.cell? ⟨g2,5,none⟩=some (.slice F_q j_q f_q))
    (first | with_reducible exact ⟨XA.c0,XA.c1,XA.c2,XA.c3,XA.c4,XA.c5,XB.c0,XB.c1,XB.c2,XB.c3,XB.c4,XB.c5⟩ | with_reducible exact ⟨(set3_cell _ _ _ _ _ _ _ (by omega)).trans (XA.c0),(set3_cell _ _ _ _ _ _ _ (by omega)).trans (XA.c1),(set3_cell _ _ _ _ _ _ _ (by omega)).trans (XA.c2),(set3_cell _ _ _ _ _ _ _ (by omega)).trans (XA.c3),(set3_cell _ _ _ _ _ _ _ (by omega)).trans (XA.c4),(set3_cell _ _ _ _ _ _ _ (by omega)).trans (XA.c5),(set3_cell _ _ _ _ _ _ _ (by omega)).trans (XB.c0),(set3_cell _ _ _ _ _ _ _ (by omega)).trans (XB.c1),(set3_cell _ _ _ _ _ _ _ (by omega)).trans (XB.c2),(set3_cell _ _ _ _ _ _ _ (by omega)).trans (XB.c3),(set3_cell _ _ _ _ _ _ _ (by omega)).trans (XB.c4),(set3_cell _ _ _ _ _ _ _ (by omega)).trans (XB.c5)⟩)
    (first
    | (go_at_call 182;(with_reducible refine (party_any).mono ?_);rintro e w_z ⟨rfl,hh⟩
       (try replace p:=p.below hh);(try replace q:=q.below hh);(try replace XA:=XA.below hh);(try replace XB:=XB.below hh);(try replace Z:=Z.below hh);replace hb:=bend hb hh)
    | (go_at_call 18;(with_reducible refine (radd_q p.qy q.qy (by omega) (by omega) h40 hk1 hk3).mono ?_);rintro e w_r ⟨s_r,A_r,n_r,c_r,B_r,m_r,d_r,rfl,r,hh⟩
       (try replace p:=p.below hh);(try replace q:=q.below hh);(try replace XA:=XA.below hh);(try replace XB:=XB.below hh);(try replace Z:=Z.below hh);replace hb:=bend hb hh;have zf0:=Z.f0;have zf1:=Z.f1;have zf2:=Z.f2;obtain ⟨z0,z1,z2⟩:=Z.all))
  go_wp2_with fail
  have Z2:=Z.set3 (.bool s_r) (.slice A_r n_r c_r) (.slice B_r m_r d_r)
  obtain ⟨g0,g1,g2⟩:=Z2.all
  refine bodyPost_ret (v:=.agg #[.bool s_r,.slice A_r n_r c_r,.slice B_r m_r d_r]) (by simp [results,Tryz.results157,go_sem,g0,g1,g2]) rfl ?_
  exact ⟨s_r,A_r,n_r,c_r,B_r,m_r,d_r,rfl,r.set3 Z _ _ _,below_set3 hb (by omega) _ _ _⟩
theorem made_add {w:World} {g1 g2 k k2:Nat} {x y x2 y2:Rat} (XA:B6 w g1 (.bool s_p) (.slice A_p n_p c_p) (.slice B_p m_p d_p) (.bool t_p) (.slice E_p i_p e_p) (.slice F_p j_p f_p)) (XB:B6 w g2 (.bool s_q) (.slice A_q n_q c_q) (.slice B_q m_q d_q) (.bool t_q) (.slice E_q i_q e_q) (.slice F_q j_q f_q)) (p:PR w s_p A_p n_p c_p B_p m_p d_p t_p E_p i_p e_p F_p j_p f_p x y k) (q:PR w s_q A_q n_q c_q B_q m_q d_q t_q E_q i_q e_q F_q j_q f_q x2 y2 k2) (hk:k≤300) (hk2:k2≤300) (h40:k≤400 ∨ k2≤400) (hk1:1≤k) (hk3:1≤k2) :
    Calls Tryz.prog 140 #[.func (.func 157) #[] #[.pointer (some ⟨g1,0,none⟩),.pointer (some ⟨g2,0,none⟩)]] w (GivesPt w (x+x2) (y+y2) (k+k2+1)):=by
  go_enter Tryz.func140,Tryz.ntmps140
  go_upto_region 1 with (fail)
  generalize hW:(w.alloc (Obj.cells #[Value.bool false,Value.slice none 0 0,Value.slice none 0 0,Value.bool false,Value.slice none 0 0,Value.slice none 0 0] 56))=W
  have hb:Below w.heap.size w W:=by subst hW;exact ((Below.refl _ _).alloc (Nat.le_refl _) _)
  have Z:B6 W (w.heap.size) (Value.bool false) (Value.slice none 0 0) (Value.slice none 0 0) (Value.bool false) (Value.slice none 0 0) (Value.slice none 0 0):=by subst hW;exact B6.new' _ _ _ _ _ _ _ _ rfl
  have hzW:W.heap.size=w.heap.size+1:=by subst hW;simp
  clear hW;replace p:=p.below hb;replace q:=q.below hb;replace XA:=XA.below hb;replace XB:=XB.below hb
  go_wp2_with (first
      | (go_at_call 157;(with_reducible refine (add1_x XA XB p q hk hk2 h40 hk1 hk3).mono ?_);rintro e w_r ⟨s_r,A_r,n_r,c_r,B_r,m_r,d_r,rfl,r,hh⟩
         (try replace p:=p.below hh);(try replace q:=q.below hh);(try replace XA:=XA.below hh);(try replace XB:=XB.below hh);(try replace Z:=Z.below hh);replace hb:=bend hb hh)
      | (go_at_call 157;(with_reducible refine (add1_y XA XB p q hk hk2 h40 hk1 hk3).mono ?_);rintro e w_u ⟨s_u,A_u,n_u,c_u,B_u,m_u,d_u,rfl,u,hh⟩
         (try replace p:=p.below hh);(try replace q:=q.below hh);(try replace r:=r.below hh);(try replace XA:=XA.below hh);(try replace XB:=XB.below hh);(try replace Z:=Z.below hh);replace hb:=bend hb hh;have zg0:=Z.f0;have zg1:=Z.f1;have zg2:=Z.f2;have zg3:=Z.f3;have zg4:=Z.f4;have zg5:=Z.f5;obtain ⟨zc0,zc1,zc2,zc3,zc4,zc5⟩:=Z.all))
  have Z2:=Z.set6 (.bool s_r) (.slice A_r n_r c_r) (.slice B_r m_r d_r) (.bool s_u) (.slice A_u n_u c_u) (.slice B_u m_u d_u)
  obtain ⟨g0,g1,g2,g3,g4,g5⟩:=Z2.all
  refine bodyPost_ret (v:=.agg #[.bool s_r,.slice A_r n_r c_r,.slice B_r m_r d_r,.bool s_u,.slice A_u n_u c_u,.slice B_u m_u d_u]) (by simp [results,Tryz.results140,go_sem,g0,g1,g2,g3,g4,g5]) rfl ?_
  exact ⟨_,_,_,_,_,_,_,_,_,_,_,_,_,_,rfl,(show PG _ _ _ _ _ _ _ _ _ _ _ _ _ _ _ _ _ _ from ⟨r,u⟩).set6 Z _ _ _ _ _ _,below_set6 hb (by omega) _ _ _ _ _ _⟩
theorem padd_p {w:World} {k k2:Nat} {x y x2 y2:Rat} (p:PR w s_p A_p n_p c_p B_p m_p d_p t_p E_p i_p e_p F_p j_p f_p x y k) (q:PR w s_q A_q n_q c_q B_q m_q d_q t_q E_q i_q e_q F_q j_q f_q x2 y2 k2) (hk:k≤300) (hk2:k2≤300) (h40:k≤400 ∨ k2≤400) (hk1:1≤k) (hk3:1≤k2) :
    Calls Tryz.prog 104 #[.agg #[.bool s_p,.slice A_p n_p c_p,.slice B_p m_p d_p,.bool t_p,.slice E_p i_p e_p,.slice F_p j_p f_p],.agg #[.bool s_q,.slice A_q n_q c_q,.slice B_q m_q d_q,.bool t_q,.slice E_q i_q e_q,.slice F_q j_q f_q]] w (GivesPt w (x+x2) (y+y2) (k+k2+1)):=by
  have hmf:∀ (fn:Fn) (first cap:Array Value) (w:World),(Instr.makeFunc fn first cap).run Tryz.prog w=.ok (.func fn first cap) w:=fun _ _ _ _=>rfl
  go_enter Tryz.func104,Tryz.ntmps104
  go_upto_region 1 with (fail)
  generalize hW:(((w.alloc (Obj.cells #[Value.bool s_p,Value.slice A_p n_p c_p,Value.slice B_p m_p d_p,Value.bool t_p,Value.slice E_p i_p e_p,Value.slice F_p j_p f_p] 56)).alloc (Obj.cells #[Value.bool s_q,Value.slice A_q n_q c_q,Value.slice B_q m_q d_q,Value.bool t_q,Value.slice E_q i_q e_q,Value.slice F_q j_q f_q] 56)).alloc (Obj.cells #[Value.bool false,Value.slice none 0 0,Value.slice none 0 0,Value.bool false,Value.slice none 0 0,Value.slice none 0 0] 56))=W
  have hb:Below w.heap.size w W:=by subst hW;exact ((((Below.refl _ _).alloc (Nat.le_refl _) _).alloc (by simp) _).alloc (by simp;omega) _)
  have XA:B6 W (w.heap.size) (Value.bool s_p) (Value.slice A_p n_p c_p) (Value.slice B_p m_p d_p) (Value.bool t_p) (Value.slice E_p i_p e_p) (Value.slice F_p j_p f_p):=by subst hW;exact ((B6.new' _ _ _ _ _ _ _ _ rfl).alloc _).alloc _
  have XB:B6 W (w.heap.size+1) (Value.bool s_q) (Value.slice A_q n_q c_q) (Value.slice B_q m_q d_q) (Value.bool t_q) (Value.slice E_q i_q e_q) (Value.slice F_q j_q f_q):=by subst hW;exact (B6.new' _ _ _ _ _ _ _ _ (by simp)).alloc _
  have Z:B6 W (w.heap.size+1+1) (Value.bool false) (Value.slice none 0 0) (Value.slice none 0 0) (Value.bool false) (Value.slice none 0 0) (Value.slice none 0 0):=by subst hW;exact B6.new' _ _ _ _ _ _ _ _ (by simp)
  have hzW:W.heap.size=w.heap.size+3:=by subst hW;simp
  clear hW;replace p:=p.below hb;replace q:=q.below hb
  go_wp2_with (first
      | (go_at_call 140;(with_reducible refine (made_add XA XB p q hk hk2 h40 hk1 hk3).mono ?_);rintro e w_r ⟨s_r,A_r,n_r,c_r,B_r,m_r,d_r,t_r,E_r,i_r,e_r,F_r,j_r,f_r,rfl,r,hh⟩
         (try replace Z:=Z.below hh);replace hb:=bend hb hh;have zg0:=Z.f0;have zg1:=Z.f1;have zg2:=Z.f2;have zg3:=Z.f3;have zg4:=Z.f4;have zg5:=Z.f5;obtain ⟨zc0,zc1,zc2,zc3,zc4,zc5⟩:=Z.all))
  have Z2:=Z.set6 (.bool s_r) (.slice A_r n_r c_r) (.slice B_r m_r d_r) (.bool t_r) (.slice E_r i_r e_r) (.slice F_r j_r f_r)
  obtain ⟨g0,g1,g2,g3,g4,g5⟩:=Z2.all
  refine bodyPost_ret (v:=.agg #[.bool s_r,.slice A_r n_r c_r,.slice B_r m_r d_r,.bool t_r,.slice E_r i_r e_r,.slice F_r j_r f_r]) (by simp [results,Tryz.results104,go_sem,g0,g1,g2,g3,g4,g5]) rfl ?_
  exact ⟨s_r,A_r,n_r,c_r,B_r,m_r,d_r,t_r,E_r,i_r,e_r,F_r,j_r,f_r,rfl,r.set6 Z _ _ _ _ _ _,below_set6 hb (by omega) _ _ _ _ _ _⟩
theorem sub1_x {w:World} {g1 g2 k k2:Nat} {x y x2 y2:Rat} (XA:B6 w g1 (.bool s_p) (.slice A_p n_p c_p) (.slice B_p m_p d_p) (.bool t_p) (.slice E_p i_p e_p) (.slice F_p j_p f_p)) (XB:B6 w g2 (.bool s_q) (.slice A_q n_q c_q) (.slice B_q m_q d_q) (.bool t_q) (.slice E_q i_q e_q) (.slice F_q j_q f_q)) (p:PR w s_p A_p n_p c_p B_p m_p d_p t_p E_p i_p e_p F_p j_p f_p x y k) (q:PR w s_q A_q n_q c_q B_q m_q d_q t_q E_q i_q e_q F_q j_q f_q x2 y2 k2) (hk:k≤300) (hk2:k2≤300) (h40:k≤400 ∨ k2≤400) (hk1:1≤k) (hk3:1≤k2) :
    Calls Tryz.prog 141 #[(.func (.func 181) #[] #[]),.pointer (some ⟨g1,0,none⟩),.pointer (some ⟨g2,0,none⟩)] w (GivesQ w (x - x2) (k+k2+1)):=by
  go_enter Tryz.func141,Tryz.ntmps141
  go_upto_region 1 with (fail)
  have hl1:=XA.lt;have hl2:=XB.lt
  generalize hW:(w.alloc (Obj.cells #[Value.bool false,Value.slice none 0 0,Value.slice none 0 0] 26))=W
  have hb:Below w.heap.size w W:=by subst hW;exact ((Below.refl _ _).alloc (Nat.le_refl _) _)
  have Z:B3 W (w.heap.size) (Value.bool false) (Value.slice none 0 0) (Value.slice none 0 0):=by subst hW;exact B3.new' _ _ _ _ _ rfl
  have hzW:W.heap.size=w.heap.size+1:=by subst hW;simp
  clear hW;replace p:=p.below hb;replace q:=q.below hb;replace XA:=XA.below hb;replace XB:=XB.below hb
  replace p:=p.below (Below.refl _ _).drew
  replace q:=q.below (Below.refl _ _).drew
  replace XA:=XA.below (Below.refl _ _).drew
  replace XB:=XB.below (Below.refl _ _).drew
  replace Z:=Z.below (Below.refl _ _).drew
  replace hb:=hb.drew
  go_region_held3 (fun w'=>w'.cell? ⟨g1,0,none⟩=some (.bool s_p)∧w'.cell? ⟨g1,1,none⟩=some (.slice A_p n_p c_p)∧w'.cell? ⟨g1,2,none⟩=some (.slice B_p m_p d_p)∧w'.cell? ⟨g1,3,none⟩=some (.bool t_p)∧w'.cell? ⟨g1,4,none⟩=some (.slice E_p i_p e_p)∧w'.cell? ⟨g1,5,none⟩=some (.slice F_p j_p f_p)∧w'.cell? ⟨g2,0,none⟩=some (.bool s_q)∧w'.cell? ⟨g2,1,none⟩=some (.slice A_q n_q c_q)∧w'.cell? ⟨g2,2,none⟩=some (.slice B_q m_q d_q)∧w'.cell? ⟨g2,3,none⟩=some (.bool t_q)∧w'.cell? ⟨g2,4,none⟩=some (.slice E_q i_q e_q)∧w'.cell? ⟨g2,5,none⟩=some (.slice F_q j_q f_q))
    (first | with_reducible exact ⟨XA.c0,XA.c1,XA.c2,XA.c3,XA.c4,XA.c5,XB.c0,XB.c1,XB.c2,XB.c3,XB.c4,XB.c5⟩ | with_reducible exact ⟨(set3_cell _ _ _ _ _ _ _ (by omega)).trans (XA.c0),(set3_cell _ _ _ _ _ _ _ (by omega)).trans (XA.c1),(set3_cell _ _ _ _ _ _ _ (by omega)).trans (XA.c2),(set3_cell _ _ _ _ _ _ _ (by omega)).trans (XA.c3),(set3_cell _ _ _ _ _ _ _ (by omega)).trans (XA.c4),(set3_cell _ _ _ _ _ _ _ (by omega)).trans (XA.c5),(set3_cell _ _ _ _ _ _ _ (by omega)).trans (XB.c0),(set3_cell _ _ _ _ _ _ _ (by omega)).trans (XB.c1),(set3_cell _ _ _ _ _ _ _ (by omega)).trans (XB.c2),(set3_cell _ _ _ _ _ _ _ (by omega)).trans (XB.c3),(set3_cell _ _ _ _ _ _ _ (by omega)).trans (XB.c4),(set3_cell _ _ _ _ _ _ _ (by omega)).trans (XB.c5)⟩)
    (first
    | (go_at_call 181;(with_reducible refine (partx_any).mono ?_);rintro e w_z ⟨rfl,hh⟩
       (try replace p:=p.below hh);(try replace q:=q.below hh);(try replace XA:=XA.below hh);(try replace XB:=XB.below hh);(try replace Z:=Z.below hh);replace hb:=bend hb hh)
    | (go_at_call 19;(with_reducible refine (rsub_q p.qx q.qx (by omega) (by omega) h40 hk1 hk3).mono ?_);rintro e w_r ⟨s_r,A_r,n_r,c_r,B_r,m_r,d_r,rfl,r,hh⟩
       (try replace p:=p.below hh);(try replace q:=q.below hh);(try replace XA:=XA.below hh);(try replace XB:=XB.below hh);(try replace Z:=Z.below hh);replace hb:=bend hb hh;have zf0:=Z.f0;have zf1:=Z.f1;have zf2:=Z.f2;obtain ⟨z0,z1,z2⟩:=Z.all))
  go_wp2_with fail
  have Z2:=Z.set3 (.bool s_r) (.slice A_r n_r c_r) (.slice B_r m_r d_r)
  obtain ⟨g0,g1,g2⟩:=Z2.all
  refine bodyPost_ret (v:=.agg #[.bool s_r,.slice A_r n_r c_r,.slice B_r m_r d_r]) (by simp [results,Tryz.results141,go_sem,g0,g1,g2]) rfl ?_
  exact ⟨s_r,A_r,n_r,c_r,B_r,m_r,d_r,rfl,r.set3 Z _ _ _,below_set3 hb (by omega) _ _ _⟩
theorem sub1_y {w:World} {g1 g2 k k2:Nat} {x y x2 y2:Rat} (XA:B6 w g1 (.bool s_p) (.slice A_p n_p c_p) (.slice B_p m_p d_p) (.bool t_p) (.slice E_p i_p e_p) (.slice F_p j_p f_p)) (XB:B6 w g2 (.bool s_q) (.slice A_q n_q c_q) (.slice B_q m_q d_q) (.bool t_q) (.slice E_q i_q e_q) (.slice F_q j_q f_q)) (p:PR w s_p A_p n_p c_p B_p m_p d_p t_p E_p i_p e_p F_p j_p f_p x y k) (q:PR w s_q A_q n_q c_q B_q m_q d_q t_q E_q i_q e_q F_q j_q f_q x2 y2 k2) (hk:k≤300) (hk2:k2≤300) (h40:k≤400 ∨ k2≤400) (hk1:1≤k) (hk3:1≤k2) :
    Calls Tryz.prog 141 #[(.func (.func 182) #[] #[]),.pointer (some ⟨g1,0,none⟩),.pointer (some ⟨g2,0,none⟩)] w (GivesQ w (y - y2) (k+k2+1)):=by
  go_enter Tryz.func141,Tryz.ntmps141
  go_upto_region 1 with (fail)
  have hl1:=XA.lt;have hl2:=XB.lt
  generalize hW:(w.alloc (Obj.cells #[Value.bool false,Value.slice none 0 0,Value.slice none 0 0] 26))=W
  have hb:Below w.heap.size w W:=by subst hW;exact ((Below.refl _ _).alloc (Nat.le_refl _) _)
  have Z:B3 W (w.heap.size) (Value.bool false) (Value.slice none 0 0) (Value.slice none 0 0):=by subst hW;exact B3.new' _ _ _ _ _ rfl
  have hzW:W.heap.size=w.heap.size+1:=by subst hW;simp
  clear hW;replace p:=p.below hb;replace q:=q.below hb;replace XA:=XA.below hb;replace XB:=XB.below hb
  replace p:=p.below (Below.refl _ _).drew
  replace q:=q.below (Below.refl _ _).drew
  replace XA:=XA.below (Below.refl _ _).drew
  replace XB:=XB.below (Below.refl _ _).drew
  replace Z:=Z.below (Below.refl _ _).drew
  replace hb:=hb.drew
  go_region_held3 (fun w'=>w'.cell? ⟨g1,0,none⟩=some (.bool s_p)∧w'.cell? ⟨g1,1,none⟩=some (.slice A_p n_p c_p)∧w'.cell? ⟨g1,2,none⟩=some (.slice B_p m_p d_p)∧w'.cell? ⟨g1,3,none⟩=some (.bool t_p)∧w'.cell? ⟨g1,4,none⟩=some (.slice E_p i_p e_p)∧w'.cell? ⟨g1,5,none⟩=some (.slice F_p j_p f_p)∧w'.cell? ⟨g2,0,none⟩=some (.bool s_q)∧w'.cell? ⟨g2,1,none⟩=some (.slice A_q n_q c_q)∧w'.cell? ⟨g2,2,none⟩=some (.slice B_q m_q d_q)∧w'.cell? ⟨g2,3,none⟩=some (.bool t_q)∧w'.cell? ⟨g2,4,none⟩=some (.slice E_q i_q e_q)∧w'.cell? ⟨g2,5,none⟩=some (.slice F_q j_q f_q))
    (first | with_reducible exact ⟨XA.c0,XA.c1,XA.c2,XA.c3,XA.c4,XA.c5,XB.c0,XB.c1,XB.c2,XB.c3,XB.c4,XB.c5⟩ | with_reducible exact ⟨(set3_cell _ _ _ _ _ _ _ (by omega)).trans (XA.c0),(set3_cell _ _ _ _ _ _ _ (by omega)).trans (XA.c1),(set3_cell _ _ _ _ _ _ _ (by omega)).trans (XA.c2),(set3_cell _ _ _ _ _ _ _ (by omega)).trans (XA.c3),(set3_cell _ _ _ _ _ _ _ (by omega)).trans (XA.c4),(set3_cell _ _ _ _ _ _ _ (by omega)).trans (XA.c5),(set3_cell _ _ _ _ _ _ _ (by omega)).trans (XB.c0),(set3_cell _ _ _ _ _ _ _ (by omega)).trans (XB.c1),(set3_cell _ _ _ _ _ _ _ (by omega)).trans (XB.c2),(set3_cell _ _ _ _ _ _ _ (by omega)).trans (XB.c3),(set3_cell _ _ _ _ _ _ _ (by omega)).trans (XB.c4),(set3_cell _ _ _ _ _ _ _ (by omega)).trans (XB.c5)⟩)
    (first
    | (go_at_call 182;(with_reducible refine (party_any).mono ?_);rintro e w_z ⟨rfl,hh⟩
       (try replace p:=p.below hh);(try replace q:=q.below hh);(try replace XA:=XA.below hh);(try replace XB:=XB.below hh);(try replace Z:=Z.below hh);replace hb:=bend hb hh)
    | (go_at_call 19;(with_reducible refine (rsub_q p.qy q.qy (by omega) (by omega) h40 hk1 hk3).mono ?_);rintro e w_r ⟨s_r,A_r,n_r,c_r,B_r,m_r,d_r,rfl,r,hh⟩
       (try replace p:=p.below hh);(try replace q:=q.below hh);(try replace XA:=XA.below hh);(try replace XB:=XB.below hh);(try replace Z:=Z.below hh);replace hb:=bend hb hh;have zf0:=Z.f0;have zf1:=Z.f1;have zf2:=Z.f2;obtain ⟨z0,z1,z2⟩:=Z.all))
  go_wp2_with fail
  have Z2:=Z.set3 (.bool s_r) (.slice A_r n_r c_r) (.slice B_r m_r d_r)
  obtain ⟨g0,g1,g2⟩:=Z2.all
  refine bodyPost_ret (v:=.agg #[.bool s_r,.slice A_r n_r c_r,.slice B_r m_r d_r]) (by simp [results,Tryz.results141,go_sem,g0,g1,g2]) rfl ?_
  exact ⟨s_r,A_r,n_r,c_r,B_r,m_r,d_r,rfl,r.set3 Z _ _ _,below_set3 hb (by omega) _ _ _⟩
theorem made_sub {w:World} {g1 g2 k k2:Nat} {x y x2 y2:Rat} (XA:B6 w g1 (.bool s_p) (.slice A_p n_p c_p) (.slice B_p m_p d_p) (.bool t_p) (.slice E_p i_p e_p) (.slice F_p j_p f_p)) (XB:B6 w g2 (.bool s_q) (.slice A_q n_q c_q) (.slice B_q m_q d_q) (.bool t_q) (.slice E_q i_q e_q) (.slice F_q j_q f_q)) (p:PR w s_p A_p n_p c_p B_p m_p d_p t_p E_p i_p e_p F_p j_p f_p x y k) (q:PR w s_q A_q n_q c_q B_q m_q d_q t_q E_q i_q e_q F_q j_q f_q x2 y2 k2) (hk:k≤300) (hk2:k2≤300) (h40:k≤400 ∨ k2≤400) (hk1:1≤k) (hk3:1≤k2) :
    Calls Tryz.prog 140 #[.func (.func 141) #[] #[.pointer (some ⟨g1,0,none⟩),.pointer (some ⟨g2,0,none⟩)]] w (GivesPt w (x - x2) (y - y2) (k+k2+1)):=by
  go_enter Tryz.func140,Tryz.ntmps140
  go_upto_region 1 with (fail)
  generalize hW:(w.alloc (Obj.cells #[Value.bool false,Value.slice none 0 0,Value.slice none 0 0,Value.bool false,Value.slice none 0 0,Value.slice none 0 0] 56))=W
  have hb:Below w.heap.size w W:=by subst hW;exact ((Below.refl _ _).alloc (Nat.le_refl _) _)
  have Z:B6 W (w.heap.size) (Value.bool false) (Value.slice none 0 0) (Value.slice none 0 0) (Value.bool false) (Value.slice none 0 0) (Value.slice none 0 0):=by subst hW;exact B6.new' _ _ _ _ _ _ _ _ rfl
  have hzW:W.heap.size=w.heap.size+1:=by subst hW;simp
  clear hW;replace p:=p.below hb;replace q:=q.below hb;replace XA:=XA.below hb;replace XB:=XB.below hb
  go_wp2_with (first
      | (go_at_call 141;(with_reducible refine (sub1_x XA XB p q hk hk2 h40 hk1 hk3).mono ?_);rintro e w_r ⟨s_r,A_r,n_r,c_r,B_r,m_r,d_r,rfl,r,hh⟩
         (try replace p:=p.below hh);(try replace q:=q.below hh);(try replace XA:=XA.below hh);(try replace XB:=XB.below hh);(try replace Z:=Z.below hh);replace hb:=bend hb hh)
      | (go_at_call 141;(with_reducible refine (sub1_y XA XB p q hk hk2 h40 hk1 hk3).mono ?_);rintro e w_u ⟨s_u,A_u,n_u,c_u,B_u,m_u,d_u,rfl,u,hh⟩
         (try replace p:=p.below hh);(try replace q:=q.below hh);(try replace r:=r.below hh);(try replace XA:=XA.below hh);(try replace XB:=XB.below hh);(try replace Z:=Z.below hh);replace hb:=bend hb hh;have zg0:=Z.f0;have zg1:=Z.f1;have zg2:=Z.f2;have zg3:=Z.f3;have zg4:=Z.f4;have zg5:=Z.f5;obtain ⟨zc0,zc1,zc2,zc3,zc4,zc5⟩:=Z.all))
  have Z2:=Z.set6 (.bool s_r) (.slice A_r n_r c_r) (.slice B_r m_r d_r) (.bool s_u) (.slice A_u n_u c_u) (.slice B_u m_u d_u)
  obtain ⟨g0,g1,g2,g3,g4,g5⟩:=Z2.all
  refine bodyPost_ret (v:=.agg #[.bool s_r,.slice A_r n_r c_r,.slice B_r m_r d_r,.bool s_u,.slice A_u n_u c_u,.slice B_u m_u d_u]) (by simp [results,Tryz.results140,go_sem,g0,g1,g2,g3,g4,g5]) rfl ?_
  exact ⟨_,_,_,_,_,_,_,_,_,_,_,_,_,_,rfl,(show PG _ _ _ _ _ _ _ _ _ _ _ _ _ _ _ _ _ _ from ⟨r,u⟩).set6 Z _ _ _ _ _ _,below_set6 hb (by omega) _ _ _ _ _ _⟩
theorem psub_p {w:World} {k k2:Nat} {x y x2 y2:Rat} (p:PR w s_p A_p n_p c_p B_p m_p d_p t_p E_p i_p e_p F_p j_p f_p x y k) (q:PR w s_q A_q n_q c_q B_q m_q d_q t_q E_q i_q e_q F_q j_q f_q x2 y2 k2) (hk:k≤300) (hk2:k2≤300) (h40:k≤400 ∨ k2≤400) (hk1:1≤k) (hk3:1≤k2) :
    Calls Tryz.prog 85 #[.agg #[.bool s_p,.slice A_p n_p c_p,.slice B_p m_p d_p,.bool t_p,.slice E_p i_p e_p,.slice F_p j_p f_p],.agg #[.bool s_q,.slice A_q n_q c_q,.slice B_q m_q d_q,.bool t_q,.slice E_q i_q e_q,.slice F_q j_q f_q]] w (GivesPt w (x - x2) (y - y2) (k+k2+1)):=by
  have hmf:∀ (fn:Fn) (first cap:Array Value) (w:World),(Instr.makeFunc fn first cap).run Tryz.prog w=.ok (.func fn first cap) w:=fun _ _ _ _=>rfl
  go_enter Tryz.func85,Tryz.ntmps85
  go_upto_region 1 with (fail)
  generalize hW:(((w.alloc (Obj.cells #[Value.bool s_p,Value.slice A_p n_p c_p,Value.slice B_p m_p d_p,Value.bool t_p,Value.slice E_p i_p e_p,Value.slice F_p j_p f_p] 56)).alloc (Obj.cells #[Value.bool s_q,Value.slice A_q n_q c_q,Value.slice B_q m_q d_q,Value.bool t_q,Value.slice E_q i_q e_q,Value.slice F_q j_q f_q] 56)).alloc (Obj.cells #[Value.bool false,Value.slice none 0 0,Value.slice none 0 0,Value.bool false,Value.slice none 0 0,Value.slice none 0 0] 56))=W
  have hb:Below w.heap.size w W:=by subst hW;exact ((((Below.refl _ _).alloc (Nat.le_refl _) _).alloc (by simp) _).alloc (by simp;omega) _)
  have XA:B6 W (w.heap.size) (Value.bool s_p) (Value.slice A_p n_p c_p) (Value.slice B_p m_p d_p) (Value.bool t_p) (Value.slice E_p i_p e_p) (Value.slice F_p j_p f_p):=by subst hW;exact ((B6.new' _ _ _ _ _ _ _ _ rfl).alloc _).alloc _
  have XB:B6 W (w.heap.size+1) (Value.bool s_q) (Value.slice A_q n_q c_q) (Value.slice B_q m_q d_q) (Value.bool t_q) (Value.slice E_q i_q e_q) (Value.slice F_q j_q f_q):=by subst hW;exact (B6.new' _ _ _ _ _ _ _ _ (by simp)).alloc _
  have Z:B6 W (w.heap.size+1+1) (Value.bool false) (Value.slice none 0 0) (Value.slice none 0 0) (Value.bool false) (Value.slice none 0 0) (Value.slice none 0 0):=by subst hW;exact B6.new' _ _ _ _ _ _ _ _ (by simp)
  have hzW:W.heap.size=w.heap.size+3:=by subst hW;simp
  clear hW;replace p:=p.below hb;replace q:=q.below hb
  go_wp2_with (first
      | (go_at_call 140;(with_reducible refine (made_sub XA XB p q hk hk2 h40 hk1 hk3).mono ?_);rintro e w_r ⟨s_r,A_r,n_r,c_r,B_r,m_r,d_r,t_r,E_r,i_r,e_r,F_r,j_r,f_r,rfl,r,hh⟩
         (try replace Z:=Z.below hh);replace hb:=bend hb hh;have zg0:=Z.f0;have zg1:=Z.f1;have zg2:=Z.f2;have zg3:=Z.f3;have zg4:=Z.f4;have zg5:=Z.f5;obtain ⟨zc0,zc1,zc2,zc3,zc4,zc5⟩:=Z.all))
  have Z2:=Z.set6 (.bool s_r) (.slice A_r n_r c_r) (.slice B_r m_r d_r) (.bool t_r) (.slice E_r i_r e_r) (.slice F_r j_r f_r)
  obtain ⟨g0,g1,g2,g3,g4,g5⟩:=Z2.all
  refine bodyPost_ret (v:=.agg #[.bool s_r,.slice A_r n_r c_r,.slice B_r m_r d_r,.bool t_r,.slice E_r i_r e_r,.slice F_r j_r f_r]) (by simp [results,Tryz.results85,go_sem,g0,g1,g2,g3,g4,g5]) rfl ?_
  exact ⟨s_r,A_r,n_r,c_r,B_r,m_r,d_r,t_r,E_r,i_r,e_r,F_r,j_r,f_r,rfl,r.set6 Z _ _ _ _ _ _,below_set6 hb (by omega) _ _ _ _ _ _⟩
theorem scale1_x {w:World} {g1 g2 k k2:Nat} {x y x2:Rat} {s:Bool} {A A':Option Addr} {n c n' c':Nat} (XA:B6 w g1 (.bool s_p) (.slice A_p n_p c_p) (.slice B_p m_p d_p) (.bool t_p) (.slice E_p i_p e_p) (.slice F_p j_p f_p)) (XB:B3 w g2 (.bool s) (.slice A n c) (.slice A' n' c')) (p:PR w s_p A_p n_p c_p B_p m_p d_p t_p E_p i_p e_p F_p j_p f_p x y k) (q:QR w s A n c A' n' c' x2 k2) (hk:k≤300) (hk2:k2≤300) (h40:k≤400 ∨ k2≤400) (hk1:1≤k) (hk3:1≤k2) :
    Calls Tryz.prog 158 #[(.func (.func 181) #[] #[]),.pointer (some ⟨g1,0,none⟩),.pointer (some ⟨g2,0,none⟩)] w (GivesQ w (x*x2) (k+k2)):=by
  go_enter Tryz.func158,Tryz.ntmps158
  go_upto_region 1 with (fail)
  have hl1:=XA.lt;have hl2:=XB.lt
  generalize hW:(w.alloc (Obj.cells #[Value.bool false,Value.slice none 0 0,Value.slice none 0 0] 26))=W
  have hb:Below w.heap.size w W:=by subst hW;exact ((Below.refl _ _).alloc (Nat.le_refl _) _)
  have Z:B3 W (w.heap.size) (Value.bool false) (Value.slice none 0 0) (Value.slice none 0 0):=by subst hW;exact B3.new' _ _ _ _ _ rfl
  have hzW:W.heap.size=w.heap.size+1:=by subst hW;simp
  clear hW;replace p:=p.below hb;replace q:=q.below hb;replace XA:=XA.below hb;replace XB:=XB.below hb
  replace p:=p.below (Below.refl _ _).drew
  replace q:=q.below (Below.refl _ _).drew
  replace XA:=XA.below (Below.refl _ _).drew
  replace XB:=XB.below (Below.refl _ _).drew
  replace Z:=Z.below (Below.refl _ _).drew
  replace hb:=hb.drew
  go_region_held3 (fun w'=>w'.cell? ⟨g1,0,none⟩=some (.bool s_p)∧w'.cell? ⟨g1,1,none⟩=some (.slice A_p n_p c_p)∧w'.cell? ⟨g1,2,none⟩=some (.slice B_p m_p d_p)∧w'.cell? ⟨g1,3,none⟩=some (.bool t_p)∧w'.cell? ⟨g1,4,none⟩=some (.slice E_p i_p e_p)∧w'.cell? ⟨g1,5,none⟩=some (.slice F_p j_p f_p)∧w'.cell? ⟨g2,0,none⟩=some (.bool s)∧w'.cell? ⟨g2,1,none⟩=some (.slice A n c)∧w'.cell? ⟨g2,2,none⟩=some (.slice A' n' c'))
    (first | with_reducible exact ⟨XA.c0,XA.c1,XA.c2,XA.c3,XA.c4,XA.c5,XB.c0,XB.c1,XB.c2⟩ | with_reducible exact ⟨(set3_cell _ _ _ _ _ _ _ (by omega)).trans (XA.c0),(set3_cell _ _ _ _ _ _ _ (by omega)).trans (XA.c1),(set3_cell _ _ _ _ _ _ _ (by omega)).trans (XA.c2),(set3_cell _ _ _ _ _ _ _ (by omega)).trans (XA.c3),(set3_cell _ _ _ _ _ _ _ (by omega)).trans (XA.c4),(set3_cell _ _ _ _ _ _ _ (by omega)).trans (XA.c5),(set3_cell _ _ _ _ _ _ _ (by omega)).trans (XB.c0),(set3_cell _ _ _ _ _ _ _ (by omega)).trans (XB.c1),(set3_cell _ _ _ _ _ _ _ (by omega)).trans (XB.c2)⟩)
    (first
    | (go_at_call 181;(with_reducible refine (partx_any).mono ?_);rintro e w_z ⟨rfl,hh⟩
       (try replace p:=p.below hh);(try replace q:=q.below hh);(try replace XA:=XA.below hh);(try replace XB:=XB.below hh);(try replace Z:=Z.below hh);replace hb:=bend hb hh)
    | (go_at_call 20;(with_reducible refine (rmul_q p.qx q (by omega) (by omega) h40 hk1 hk3).mono ?_);rintro e w_r ⟨s_r,A_r,n_r,c_r,B_r,m_r,d_r,rfl,r,hh⟩
       (try replace p:=p.below hh);(try replace q:=q.below hh);(try replace XA:=XA.below hh);(try replace XB:=XB.below hh);(try replace Z:=Z.below hh);replace hb:=bend hb hh;have zf0:=Z.f0;have zf1:=Z.f1;have zf2:=Z.f2;obtain ⟨z0,z1,z2⟩:=Z.all))
  go_wp2_with fail
  have Z2:=Z.set3 (.bool s_r) (.slice A_r n_r c_r) (.slice B_r m_r d_r)
  obtain ⟨g0,g1,g2⟩:=Z2.all
  refine bodyPost_ret (v:=.agg #[.bool s_r,.slice A_r n_r c_r,.slice B_r m_r d_r]) (by simp [results,Tryz.results158,go_sem,g0,g1,g2]) rfl ?_
  exact ⟨s_r,A_r,n_r,c_r,B_r,m_r,d_r,rfl,r.set3 Z _ _ _,below_set3 hb (by omega) _ _ _⟩
theorem scale1_y {w:World} {g1 g2 k k2:Nat} {x y x2:Rat} {s:Bool} {A A':Option Addr} {n c n' c':Nat} (XA:B6 w g1 (.bool s_p) (.slice A_p n_p c_p) (.slice B_p m_p d_p) (.bool t_p) (.slice E_p i_p e_p) (.slice F_p j_p f_p)) (XB:B3 w g2 (.bool s) (.slice A n c) (.slice A' n' c')) (p:PR w s_p A_p n_p c_p B_p m_p d_p t_p E_p i_p e_p F_p j_p f_p x y k) (q:QR w s A n c A' n' c' x2 k2) (hk:k≤300) (hk2:k2≤300) (h40:k≤400 ∨ k2≤400) (hk1:1≤k) (hk3:1≤k2) :
    Calls Tryz.prog 158 #[(.func (.func 182) #[] #[]),.pointer (some ⟨g1,0,none⟩),.pointer (some ⟨g2,0,none⟩)] w (GivesQ w (y*x2) (k+k2)):=by
  go_enter Tryz.func158,Tryz.ntmps158
  go_upto_region 1 with (fail)
  have hl1:=XA.lt;have hl2:=XB.lt
  generalize hW:(w.alloc (Obj.cells #[Value.bool false,Value.slice none 0 0,Value.slice none 0 0] 26))=W
  have hb:Below w.heap.size w W:=by subst hW;exact ((Below.refl _ _).alloc (Nat.le_refl _) _)
  have Z:B3 W (w.heap.size) (Value.bool false) (Value.slice none 0 0) (Value.slice none 0 0):=by subst hW;exact B3.new' _ _ _ _ _ rfl
  have hzW:W.heap.size=w.heap.size+1:=by subst hW;simp
  clear hW;replace p:=p.below hb;replace q:=q.below hb;replace XA:=XA.below hb;replace XB:=XB.below hb
  replace p:=p.below (Below.refl _ _).drew
  replace q:=q.below (Below.refl _ _).drew
  replace XA:=XA.below (Below.refl _ _).drew
  replace XB:=XB.below (Below.refl _ _).drew
  replace Z:=Z.below (Below.refl _ _).drew
  replace hb:=hb.drew
  go_region_held3 (fun w'=>w'.cell? ⟨g1,0,none⟩=some (.bool s_p)∧w'.cell? ⟨g1,1,none⟩=some (.slice A_p n_p c_p)∧w'.cell? ⟨g1,2,none⟩=some (.slice B_p m_p d_p)∧w'.cell? ⟨g1,3,none⟩=some (.bool t_p)∧w'.cell? ⟨g1,4,none⟩=some (.slice E_p i_p e_p)∧w'.cell? ⟨g1,5,none⟩=some (.slice F_p j_p f_p)∧w'.cell? ⟨g2,0,none⟩=some (.bool s)∧w'.cell? ⟨g2,1,none⟩=some (.slice A n c)∧w'.cell? ⟨g2,2,none⟩=some (.slice A' n' c'))
    (first | with_reducible exact ⟨XA.c0,XA.c1,XA.c2,XA.c3,XA.c4,XA.c5,XB.c0,XB.c1,XB.c2⟩ | with_reducible exact ⟨(set3_cell _ _ _ _ _ _ _ (by omega)).trans (XA.c0),(set3_cell _ _ _ _ _ _ _ (by omega)).trans (XA.c1),(set3_cell _ _ _ _ _ _ _ (by omega)).trans (XA.c2),(set3_cell _ _ _ _ _ _ _ (by omega)).trans (XA.c3),(set3_cell _ _ _ _ _ _ _ (by omega)).trans (XA.c4),(set3_cell _ _ _ _ _ _ _ (by omega)).trans (XA.c5),(set3_cell _ _ _ _ _ _ _ (by omega)).trans (XB.c0),(set3_cell _ _ _ _ _ _ _ (by omega)).trans (XB.c1),(set3_cell _ _ _ _ _ _ _ (by omega)).trans (XB.c2)⟩)
    (first
    | (go_at_call 182;(with_reducible refine (party_any).mono ?_);rintro e w_z ⟨rfl,hh⟩
       (try replace p:=p.below hh);(try replace q:=q.below hh);(try replace XA:=XA.below hh);(try replace XB:=XB.below hh);(try replace Z:=Z.below hh);replace hb:=bend hb hh)
    | (go_at_call 20;(with_reducible refine (rmul_q p.qy q (by omega) (by omega) h40 hk1 hk3).mono ?_);rintro e w_r ⟨s_r,A_r,n_r,c_r,B_r,m_r,d_r,rfl,r,hh⟩
       (try replace p:=p.below hh);(try replace q:=q.below hh);(try replace XA:=XA.below hh);(try replace XB:=XB.below hh);(try replace Z:=Z.below hh);replace hb:=bend hb hh;have zf0:=Z.f0;have zf1:=Z.f1;have zf2:=Z.f2;obtain ⟨z0,z1,z2⟩:=Z.all))
  go_wp2_with fail
  have Z2:=Z.set3 (.bool s_r) (.slice A_r n_r c_r) (.slice B_r m_r d_r)
  obtain ⟨g0,g1,g2⟩:=Z2.all
  refine bodyPost_ret (v:=.agg #[.bool s_r,.slice A_r n_r c_r,.slice B_r m_r d_r]) (by simp [results,Tryz.results158,go_sem,g0,g1,g2]) rfl ?_
  exact ⟨s_r,A_r,n_r,c_r,B_r,m_r,d_r,rfl,r.set3 Z _ _ _,below_set3 hb (by omega) _ _ _⟩
theorem made_scale {w:World} {g1 g2 k k2:Nat} {x y x2:Rat} {s:Bool} {A A':Option Addr} {n c n' c':Nat} (XA:B6 w g1 (.bool s_p) (.slice A_p n_p c_p) (.slice B_p m_p d_p) (.bool t_p) (.slice E_p i_p e_p) (.slice F_p j_p f_p)) (XB:B3 w g2 (.bool s) (.slice A n c) (.slice A' n' c')) (p:PR w s_p A_p n_p c_p B_p m_p d_p t_p E_p i_p e_p F_p j_p f_p x y k) (q:QR w s A n c A' n' c' x2 k2) (hk:k≤300) (hk2:k2≤300) (h40:k≤400 ∨ k2≤400) (hk1:1≤k) (hk3:1≤k2) :
    Calls Tryz.prog 140 #[.func (.func 158) #[] #[.pointer (some ⟨g1,0,none⟩),.pointer (some ⟨g2,0,none⟩)]] w (GivesPt w (x*x2) (y*x2) (k+k2)):=by
  go_enter Tryz.func140,Tryz.ntmps140
  go_upto_region 1 with (fail)
  generalize hW:(w.alloc (Obj.cells #[Value.bool false,Value.slice none 0 0,Value.slice none 0 0,Value.bool false,Value.slice none 0 0,Value.slice none 0 0] 56))=W
  have hb:Below w.heap.size w W:=by subst hW;exact ((Below.refl _ _).alloc (Nat.le_refl _) _)
  have Z:B6 W (w.heap.size) (Value.bool false) (Value.slice none 0 0) (Value.slice none 0 0) (Value.bool false) (Value.slice none 0 0) (Value.slice none 0 0):=by subst hW;exact B6.new' _ _ _ _ _ _ _ _ rfl
  have hzW:W.heap.size=w.heap.size+1:=by subst hW;simp
  clear hW;replace p:=p.below hb;replace q:=q.below hb;replace XA:=XA.below hb;replace XB:=XB.below hb
  go_wp2_with (first
      | (go_at_call 158;(with_reducible refine (scale1_x XA XB p q hk hk2 h40 hk1 hk3).mono ?_);rintro e w_r ⟨s_r,A_r,n_r,c_r,B_r,m_r,d_r,rfl,r,hh⟩
         (try replace p:=p.below hh);(try replace q:=q.below hh);(try replace XA:=XA.below hh);(try replace XB:=XB.below hh);(try replace Z:=Z.below hh);replace hb:=bend hb hh)
      | (go_at_call 158;(with_reducible refine (scale1_y XA XB p q hk hk2 h40 hk1 hk3).mono ?_);rintro e w_u ⟨s_u,A_u,n_u,c_u,B_u,m_u,d_u,rfl,u,hh⟩
         (try replace p:=p.below hh);(try replace q:=q.below hh);(try replace r:=r.below hh);(try replace XA:=XA.below hh);(try replace XB:=XB.below hh);(try replace Z:=Z.below hh);replace hb:=bend hb hh;have zg0:=Z.f0;have zg1:=Z.f1;have zg2:=Z.f2;have zg3:=Z.f3;have zg4:=Z.f4;have zg5:=Z.f5;obtain ⟨zc0,zc1,zc2,zc3,zc4,zc5⟩:=Z.all))
  have Z2:=Z.set6 (.bool s_r) (.slice A_r n_r c_r) (.slice B_r m_r d_r) (.bool s_u) (.slice A_u n_u c_u) (.slice B_u m_u d_u)
  obtain ⟨g0,g1,g2,g3,g4,g5⟩:=Z2.all
  refine bodyPost_ret (v:=.agg #[.bool s_r,.slice A_r n_r c_r,.slice B_r m_r d_r,.bool s_u,.slice A_u n_u c_u,.slice B_u m_u d_u]) (by simp [results,Tryz.results140,go_sem,g0,g1,g2,g3,g4,g5]) rfl ?_
  exact ⟨_,_,_,_,_,_,_,_,_,_,_,_,_,_,rfl,(show PG _ _ _ _ _ _ _ _ _ _ _ _ _ _ _ _ _ _ from ⟨r,u⟩).set6 Z _ _ _ _ _ _,below_set6 hb (by omega) _ _ _ _ _ _⟩
theorem pscale_p {w:World} {k k2:Nat} {x y x2:Rat} {s:Bool} {A A':Option Addr} {n c n' c':Nat} (p:PR w s_p A_p n_p c_p B_p m_p d_p t_p E_p i_p e_p F_p j_p f_p x y k) (q:QR w s A n c A' n' c' x2 k2) (hk:k≤300) (hk2:k2≤300) (h40:k≤400 ∨ k2≤400) (hk1:1≤k) (hk3:1≤k2) :
    Calls Tryz.prog 105 #[.agg #[.bool s_p,.slice A_p n_p c_p,.slice B_p m_p d_p,.bool t_p,.slice E_p i_p e_p,.slice F_p j_p f_p],.agg #[.bool s,.slice A n c,.slice A' n' c']] w (GivesPt w (x*x2) (y*x2) (k+k2)):=by
  have hmf:∀ (fn:Fn) (first cap:Array Value) (w:World),(Instr.makeFunc fn first cap).run Tryz.prog w=.ok (.func fn first cap) w:=fun _ _ _ _=>rfl
  go_enter Tryz.func105,Tryz.ntmps105
  go_upto_region 1 with (fail)
  generalize hW:(((w.alloc (Obj.cells #[Value.bool s_p,Value.slice A_p n_p c_p,Value.slice B_p m_p d_p,Value.bool t_p,Value.slice E_p i_p e_p,Value.slice F_p j_p f_p] 56)).alloc (Obj.cells #[Value.bool s,Value.slice A n c,Value.slice A' n' c'] 26)).alloc (Obj.cells #[Value.bool false,Value.slice none 0 0,Value.slice none 0 0,Value.bool false,Value.slice none 0 0,Value.slice none 0 0] 56))=W
  have hb:Below w.heap.size w W:=by subst hW;exact ((((Below.refl _ _).alloc (Nat.le_refl _) _).alloc (by simp) _).alloc (by simp;omega) _)
  have XA:B6 W (w.heap.size) (Value.bool s_p) (Value.slice A_p n_p c_p) (Value.slice B_p m_p d_p) (Value.bool t_p) (Value.slice E_p i_p e_p) (Value.slice F_p j_p f_p):=by subst hW;exact ((B6.new' _ _ _ _ _ _ _ _ rfl).alloc _).alloc _
  have XB:B3 W (w.heap.size+1) (Value.bool s) (Value.slice A n c) (Value.slice A' n' c'):=by subst hW;exact (B3.new' _ _ _ _ _ (by simp)).alloc _
  have Z:B6 W (w.heap.size+1+1) (Value.bool false) (Value.slice none 0 0) (Value.slice none 0 0) (Value.bool false) (Value.slice none 0 0) (Value.slice none 0 0):=by subst hW;exact B6.new' _ _ _ _ _ _ _ _ (by simp)
  have hzW:W.heap.size=w.heap.size+3:=by subst hW;simp
  clear hW;replace p:=p.below hb;replace q:=q.below hb
  go_wp2_with (first
      | (go_at_call 140;(with_reducible refine (made_scale XA XB p q hk hk2 h40 hk1 hk3).mono ?_);rintro e w_r ⟨s_r,A_r,n_r,c_r,B_r,m_r,d_r,t_r,E_r,i_r,e_r,F_r,j_r,f_r,rfl,r,hh⟩
         (try replace Z:=Z.below hh);replace hb:=bend hb hh;have zg0:=Z.f0;have zg1:=Z.f1;have zg2:=Z.f2;have zg3:=Z.f3;have zg4:=Z.f4;have zg5:=Z.f5;obtain ⟨zc0,zc1,zc2,zc3,zc4,zc5⟩:=Z.all))
  have Z2:=Z.set6 (.bool s_r) (.slice A_r n_r c_r) (.slice B_r m_r d_r) (.bool t_r) (.slice E_r i_r e_r) (.slice F_r j_r f_r)
  obtain ⟨g0,g1,g2,g3,g4,g5⟩:=Z2.all
  refine bodyPost_ret (v:=.agg #[.bool s_r,.slice A_r n_r c_r,.slice B_r m_r d_r,.bool t_r,.slice E_r i_r e_r,.slice F_r j_r f_r]) (by simp [results,Tryz.results105,go_sem,g0,g1,g2,g3,g4,g5]) rfl ?_
  exact ⟨s_r,A_r,n_r,c_r,B_r,m_r,d_r,t_r,E_r,i_r,e_r,F_r,j_r,f_r,rfl,r.set6 Z _ _ _ _ _ _,below_set6 hb (by omega) _ _ _ _ _ _⟩
end Go.Proofs.YtmgklaklnaihpaaGreat
