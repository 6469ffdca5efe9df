/- FlatNear: part 8. -/
import Derived.BigRegion
import Derived.Deep.Cut
import Derived.Deep.CutRange
import Derived.Test.YtlpogecpdfdggaaGreatKFlatNear6
import Derived.Test.YtlpogecpdfdggaaGreatKFlatNear7
set_option linter.unusedVariables false
set_option maxRecDepth 100000
set_option maxHeartbeats 16000000
variable {w:Go.World}
namespace Go.Proofs.YtlpogecpdfdggaaGreat
section
open Go Go.RowKit
def B3 (W:World) (g:Nat) (x y z:Value):Prop:=W.heap[g]?=some (.cells #[x,y,z] 27 (0,0))
section
variable {W W':World} {g:Nat} {x y z:Value}
theorem B3.c0 (h:B3 W g x y z):W.cell? ⟨g,0,none⟩=some x:=by rw [cell_of_row W g 0 _ _ (0,0) h];rfl
theorem B3.c1 (h:B3 W g x y z):W.cell? ⟨g,1,none⟩=some y:=by rw [cell_of_row W g 1 _ _ (0,0) h];rfl
theorem B3.c2 (h:B3 W g x y z):W.cell? ⟨g,2,none⟩=some z:=by rw [cell_of_row W g 2 _ _ (0,0) h];rfl
theorem B3.all (h:B3 W g x y z):W.cell? ⟨g,0,none⟩=some x∧W.cell? ⟨g,1,none⟩=some y∧W.cell? ⟨g,2,none⟩=some z:=⟨h.c0,h.c1,h.c2⟩
theorem B3.f0 (h:B3 W g x y z):W.frozen? ⟨g,0,none⟩=false:=frozen_of_row W g 0 _ _ h
theorem B3.f1 (h:B3 W g x y z):W.frozen? ⟨g,1,none⟩=false:=frozen_of_row W g 1 _ _ h
theorem B3.f2 (h:B3 W g x y z):W.frozen? ⟨g,2,none⟩=false:=frozen_of_row W g 2 _ _ h
theorem B3.lt (h:B3 W g x y z):g < W.heap.size:=World.block_lt_of_cell? W _ h.c0
theorem B3.below (h:B3 W g x y z) (hb:Below W.heap.size W W'):B3 W' g x y z:=(hb.block g h.lt).trans h
theorem B3.drew (h:B3 W g x y z):B3 W.drew g x y z:=h
theorem B3.alloc (h:B3 W g x y z) (o:Obj):B3 (W.alloc o) g x y z:=(Below.heap_alloc W o g h.lt).trans h
theorem B3.new' (W:World) (x y z:Value) (g:Nat) (hg:g=W.heap.size):B3 (W.alloc (.cells #[x,y,z] 27)) g x y z:=by subst hg;exact heap_alloc_new W _
theorem B3.set3 (h:B3 W g x y z) (a b c:Value):B3 (((W.setCell ⟨g,0,none⟩ a).setCell ⟨g,1,none⟩ b).setCell ⟨g,2,none⟩ c) g a b c:=by
 unfold B3 at h ⊢
 simp [World.setCell,Array.getElem?_modify,h]
theorem B3.offx {s:Bool} {A A1 A2:Option Addr} {n n1 n2 c1 c2:Nat} {K:IntKind} {l:List Nat} (h:B3 W g (.bool s) (.slice A1 n1 c1) (.slice A2 n2 c2)) (hr:Rd K W A n l):Off A n g:=by
 intro hn ad e hg
 obtain ⟨b,o,eA,hc⟩:=hr.at_ hn
 obtain ⟨x,_,hx⟩:=hc 0 hn
 rw [eA] at e
 cases e
 have hg2:b=g:=hg
 subst hg2
 rw [cell_of_row W b (o+0) _ _ (0,0) h] at hx
 match o,hx with
 | 0,hx=>cases hx
 | 1,hx=>cases hx
 | 2,hx=>cases hx
 | o+3,hx=>cases hx
end
theorem set3_cell (W:World) (g k o:Nat) (x y z:Value) (h:k ≠ g):(((W.setCell ⟨g,0,none⟩ x).setCell ⟨g,1,none⟩ y).setCell ⟨g,2,none⟩ z).cell? ⟨k,o,none⟩=W.cell? ⟨k,o,none⟩:=by
 rw [World.cell?_of_block (Below.heap_setCell _ _ _ _ h),World.cell?_of_block (Below.heap_setCell _ _ _ _ h),World.cell?_of_block (Below.heap_setCell _ _ _ _ h)]
theorem below_set3 {B g:Nat} {w W:World} (h:Below B w W) (hg:B≤g) (x y z:Value):Below B w (((W.setCell ⟨g,0,none⟩ x).setCell ⟨g,1,none⟩ y).setCell ⟨g,2,none⟩ z):=((h.setCell hg _).setCell hg _).setCell hg _
def QR (w:World) (s:Bool) (A:Option Addr) (n c:Nat) (A':Option Addr) (n' c':Nat) (v:Rat) (k:Nat):Prop :=
 ∃ p q,ZR w s A n c p k∧NR w A' n' c' q k∧v=mkRat p (den1 q)
def QG (w:World) (s:Bool) (A:Option Addr) (n c:Nat) (A':Option Addr) (n' c':Nat) (v:Rat) (k:Nat):Prop :=
 ZG w s A n c v.num k∧NG w A' n' c' v.den k
section
variable {w w':World} {s:Bool} {A A':Option Addr} {n c n' c' k k1:Nat} {v:Rat}
theorem QR.below (h:QR w s A n c A' n' c' v k) (hb:Below w.heap.size w w'):QR w' s A n c A' n' c' v k:=by
 obtain ⟨p,q,h1,h2,h3⟩:=h;exact ⟨p,q,h1.below hb,h2.below hb,h3⟩
theorem QG.below (h:QG w s A n c A' n' c' v k) (hb:Below w.heap.size w w'):QG w' s A n c A' n' c' v k:=⟨h.1.below hb,h.2.below hb⟩
theorem QG.qr (h:QG w s A n c A' n' c' v k):QR w s A n c A' n' c' v k :=
 ⟨v.num,v.den,h.1.zr,h.2.nr,by rw [den1_of v.den_nz,Rat.mkRat_self]⟩
theorem QG.set3 {g:Nat} {t:Bool} {A1 A2:Option Addr} {n1 c1 n2 c2:Nat} (h:QG w s A n c A' n' c' v k) (Z:B3 w g (.bool t) (.slice A1 n1 c1) (.slice A2 n2 c2)) (x y z:Value) :
 QG (((w.setCell ⟨g,0,none⟩ x).setCell ⟨g,1,none⟩ y).setCell ⟨g,2,none⟩ z) s A n c A' n' c' v k:=by
 have ho:Only g w (((w.setCell ⟨g,0,none⟩ x).setCell ⟨g,1,none⟩ y).setCell ⟨g,2,none⟩ z):=(((Only.refl g w).setCell 0 _).setCell 1 _).setCell 2 _
 exact ⟨⟨h.1.1,h.1.2.1.only (Z.offx h.1.2.1) ho,h.1.2.2⟩,⟨h.2.1.only (Z.offx h.2.1) ho,h.2.2⟩⟩
theorem ZR.set2x {g:Nat} {t:Bool} {A1:Option Addr} {n1 c1:Nat} {p:Int} (h:ZR w s A n c p k) (Z:Bx w g (.bool t) (.slice A1 n1 c1)) (x y:Value) :
 ZR ((w.setCell ⟨g,0,none⟩ x).setCell ⟨g,1,none⟩ y) s A n c p k:=by
 obtain ⟨l,h1,h2⟩:=h
 exact ⟨l,h1.only (Z.offx h1) (((Only.refl g w).setCell 0 _).setCell 1 _),h2⟩
theorem ZG.set2x {g:Nat} {t:Bool} {A1:Option Addr} {n1 c1:Nat} {p:Int} (h:ZG w s A n c p k) (Z:Bx w g (.bool t) (.slice A1 n1 c1)) (x y:Value) :
 ZG ((w.setCell ⟨g,0,none⟩ x).setCell ⟨g,1,none⟩ y) s A n c p k :=
 ⟨h.1,h.2.1.only (Z.offx h.2.1) (((Only.refl g w).setCell 0 _).setCell 1 _),h.2.2⟩
end
def GivesQ (w:World) (v:Rat) (k:Nat) (e:Ending) (w':World):Prop :=
 ∃ s A n c A' n' c',e=.returned (.agg #[.bool s,.slice A n c,.slice A' n' c'])∧QG w' s A n c A' n' c' v k∧Below w.heap.size w w'
theorem isone_nr {A:Option Addr} {n c V k:Nat} (X:NR w A n c V k) (hk:k≤900000) :
 Calls Tryz.prog 64 #[.slice A n c] w fun e w'=>e=.returned (.bool (decide (V=1)))∧w=w':=by
 have HB:=Lib.hid (bl_is1 V)
 go_enter Tryz.func64,Tryz.ntmps64
 go_wp2_with (go_at_call 87;((with_reducible refine (bits_nr X (by omega)).mono ?_);rintro e w' ⟨rfl,rfl⟩))
 go_ret;rw [HB.out]
 exact ⟨rfl,rfl⟩
def GivesL (w:World) (U V k1 k2:Nat) (e:Ending) (w':World):Prop :=
 ∃ A n c A' n' c',e=.returned (.tuple #[.slice A n c,.slice A' n' c'])∧NG w' A n c U k1∧NG w' A' n' c' V k2∧Below w.heap.size w w'
theorem lowest_nr {A B:Option Addr} {n c m d U V k1 k2:Nat} (X:NR w A n c U k1) (Y:NR w B m d V k2) (h1:k1≤100000) (h2:k2≤100000) (hV:V ≠ 0) :
 Calls Tryz.prog 88 #[.slice A n c,.slice B m d] w (GivesL w (U / Nat.gcd U V) (V / Nat.gcd U V) k1 k2):=by
 have hb:Below w.heap.size w w:=Below.refl _ _
 have hg:Nat.gcd U V ≠ 0:=by have:=Nat.gcd_pos_of_pos_right U (show 0 < V by omega);omega
 have HG:=Lib.hid hg;clear hg hV
 go_enter Tryz.func88,Tryz.ntmps88
 go_wp2_with (first
  | (go_at_call 118;(with_reducible refine (gcd_nr (k:=k1+k2) (X.more (by omega)) (Y.more (by omega)) (by omega)).mono ?_);rintro e w_g ⟨A_g,n_g,c_g,rfl,g,hh⟩
     (try replace X:=X.below hh);(try replace Y:=Y.below hh);replace hb:=bend hb hh)
  | (go_at_call 119;(with_reducible refine (dm_nr X g.nr (by omega) (by omega) HG.out).mono ?_);rintro e w_x ⟨A_x,n_x,c_x,A_r,n_r,c_r,rfl,x,r,hh⟩
     (try replace X:=X.below hh);(try replace Y:=Y.below hh);(try replace g:=g.below hh);replace hb:=bend hb hh)
  | (go_at_call 119;(with_reducible refine (dm_nr Y g.nr (by omega) (by omega) HG.out).mono ?_);rintro e w_y ⟨A_y,n_y,c_y,A_t,n_t,c_t,rfl,y,t,hh⟩
     (try replace X:=X.below hh);(try replace Y:=Y.below hh);(try replace g:=g.below hh);(try replace x:=x.below hh);(try replace r:=r.below hh);replace hb:=bend hb hh))
 go_ret2
 exact ⟨A_x,n_x,c_x,A_y,n_y,c_y,rfl,x,y,hb⟩
theorem ZR.nr {s:Bool} {A:Option Addr} {n c k:Nat} {v:Int} (h:ZR w s A n c v k):NR w A n c v.natAbs k:=by
 obtain ⟨l,h1,h2,rfl,h4,h5,h6⟩:=h
 exact ⟨l,h1,h2,(iv_natAbs _ _).symm,h4,h5⟩
theorem ZR.uv {s:Bool} {A:Option Addr} {n c k:Nat} {v:Int} (h:ZR w s A n c v k):v=iv s v.natAbs:=by
 obtain ⟨l,h1,h2,rfl,h4,h5,h6⟩:=h
 rw [iv_natAbs]
theorem ZR.ofn {s:Bool} {A:Option Addr} {n c k V:Nat} (h:NR w A n c V k):ZR w s A n c (iv s V) k:=by
 have:=h.lt
 obtain ⟨l,h1,h2,rfl,h4,h5⟩:=h
 exact ⟨l,h1,h2,rfl,h4,h5,by rw [iv_natAbs];exact this⟩
def GivesQE (w:World) (v:Rat) (k:Nat) (e:Ending) (w':World):Prop :=
 ∃ s A n c A' n' c',e=.returned (.tuple #[.agg #[.bool s,.slice A n c,.slice A' n' c'],.int .i64 0])∧QG w' s A n c A' n' c' v k∧Below w.heap.size w w'
theorem close_q {s t:Bool} {A B:Option Addr} {n c m d U V k1 k2 k:Nat} (hV:V ≠ 0) (x:NG w A n c (U / Nat.gcd U V) k1) (y:NG w B m d (V / Nat.gcd U V) k2) (h1:k1≤k) (h2:k2≤k) :
 QG w ((s != t) && decide (0 < n)) A n c B m d (Rat.divInt (iv s U) (iv t V)) k:=by
 have hq:iv t V ≠ 0:=by cases t <;> simp [iv] <;> omega
 have e1:=div_num (p:=iv s U) hq
 have e2:=div_den (p:=iv s U) hq
 rw [iv_natAbs,iv_natAbs] at e1 e2
 have h3:decide (0 < n)=decide (0 < U / Nat.gcd U V):=by
  have h5:=limbs_len_pos (V:=U / Nat.gcd U V) (n:=n) (x.rd.1)
  exact h5
 have hxn:=x.more h1;have hyn:=y.more h2;rw [← e1] at hxn;rw [← e2] at hyn
 exact ⟨⟨by rw [div_neg hV,h3],hxn.1,hxn.2⟩,hyn⟩
theorem mkbx7_8 {w W:World} {x0 x1 x2 x3 x4 x5 x6:Value} (h:(((w.alloc (Obj.cells #[x0,x1] 25)).alloc (Obj.cells #[x2,x3] 25)).alloc (Obj.cells #[x4,x5,x6] 27))=W):Below w.heap.size w W∧Bx W (w.heap.size) x0 x1∧Bx W (w.heap.size+1) x2 x3∧B3 W (w.heap.size+1+1) x4 x5 x6∧W.heap.size=w.heap.size+3:=by subst h;exact ⟨by exact ((((Below.refl _ _).alloc (Nat.le_refl _) _).alloc (by simp) _).alloc (by simp;omega) _),by exact ((Bx.new' _ _ _ _ rfl).alloc _).alloc _,by exact (Bx.new' _ _ _ _ (by simp)).alloc _,by exact B3.new' _ _ _ _ _ (by simp),by simp⟩
theorem make_same {s:Bool} {A B:Option Addr} {n c m d U V k1 k2:Nat} (X:NR w A n c U k1) (Y:NR w B m d V k2) (h1:k1≤100000) (h2:k2≤100000) (hV:V ≠ 0) (k:Nat) (hk1:k1≤k) (hk2:k2≤k) :
 Calls Tryz.prog 46 #[.agg #[.bool s,.slice A n c],.agg #[.bool s,.slice B m d]] w (GivesQE w (Rat.divInt (iv s U) (iv s V)) k):=by
 have hne:(s != s)=false:=by cases s <;> rfl
 have HB:Hid ((((bl V:Nat):Int) == 0)=false):=by show _=false;rw [bl_is0];exact decide_eq_false hV
 have HV:=Lib.hid hV;clear hV
 go_enter Tryz.func46,Tryz.ntmps46
 go_wp2_with fail
 generalize hW:World.alloc _ _=W
 obtain ⟨hb,XA,XB,Z,hzW⟩:=mkbx7_8 hW;clear hW;replace X:=X.below hb;replace Y:=Y.below hb;obtain ⟨xa0,xa1⟩:=XA.all;obtain ⟨xb0,xb1⟩:=XB.all;have hbl:=HB.out
 go_upto_region 4 with (first
  | (go_at_call 87;(with_reducible refine (bits_nr Y (by omega)).mono ?_);rintro e w_b ⟨rfl,rfl⟩)
  | (go_at_call 88;(with_reducible refine (lowest_nr X Y h1 h2 HV.out).mono ?_);rintro e w_l ⟨A_x,n_x,c_x,A_y,n_y,c_y,rfl,x,y,hh⟩
     clear hbl;(try replace X:=X.below hh);(try replace Y:=Y.below hh);(try replace XA:=XA.below hh);(try replace XB:=XB.below hh);(try replace Z:=Z.below hh);replace hb:=bend hb hh;obtain ⟨xa0,xa1⟩:=XA.all;obtain ⟨xb0,xb1⟩:=XB.all;obtain ⟨z0,z1,z2⟩:=Z.all))
 have zf0:=Z.f0;have zf1:=Z.f1;have zf2:=Z.f2
 go_wp2_with fail
 have Z2:=Z.set3 (.bool (false)) (.slice A_x n_x c_x) (.slice A_y n_y c_y)
 obtain ⟨g0,g1,g2⟩:=Z2.all
 refine bodyPost_ret (v:=.tuple #[.agg #[.bool (false),.slice A_x n_x c_x,.slice A_y n_y c_y],.int .i64 0]) (by simp [results,Tryz.results46,go_sem,g0,g1,g2]) rfl ?_
 have hc:=close_q (s:=s) (t:=s) HV.out x y hk1 hk2
 rw [hne] at hc
 refine ⟨_,A_x,n_x,c_x,A_y,n_y,c_y,rfl,?_,below_set3 hb (by omega) _ _ _⟩
 have:=hc.set3 Z (.bool (false)) (.slice A_x n_x c_x) (.slice A_y n_y c_y)
 simpa using this
theorem make_diff {s:Bool} {A B:Option Addr} {n c m d U V k1 k2:Nat} (X:NR w A n c U k1) (Y:NR w B m d V k2) (h1:k1≤100000) (h2:k2≤100000) (hV:V ≠ 0) (k:Nat) (hk1:k1≤k) (hk2:k2≤k) :
 Calls Tryz.prog 46 #[.agg #[.bool s,.slice A n c],.agg #[.bool (!s),.slice B m d]] w (GivesQE w (Rat.divInt (iv s U) (iv (!s) V)) k):=by
 have hne:(s != (!s))=true:=by cases s <;> rfl
 have HB:Hid ((((bl V:Nat):Int) == 0)=false):=by show _=false;rw [bl_is0];exact decide_eq_false hV
 have HV:=Lib.hid hV;clear hV
 go_enter Tryz.func46,Tryz.ntmps46
 go_wp2_with fail
 generalize hW:World.alloc _ _=W
 obtain ⟨hb,XA,XB,Z,hzW⟩:=mkbx7_8 hW;clear hW;replace X:=X.below hb;replace Y:=Y.below hb;obtain ⟨xa0,xa1⟩:=XA.all;obtain ⟨xb0,xb1⟩:=XB.all;have hbl:=HB.out
 go_upto_region 4 with (first
  | (go_at_call 87;(with_reducible refine (bits_nr Y (by omega)).mono ?_);rintro e w_b ⟨rfl,rfl⟩)
  | (go_at_call 88;(with_reducible refine (lowest_nr X Y h1 h2 HV.out).mono ?_);rintro e w_l ⟨A_x,n_x,c_x,A_y,n_y,c_y,rfl,x,y,hh⟩
     clear hbl;(try replace X:=X.below hh);(try replace Y:=Y.below hh);(try replace XA:=XA.below hh);(try replace XB:=XB.below hh);(try replace Z:=Z.below hh);replace hb:=bend hb hh;obtain ⟨xa0,xa1⟩:=XA.all;obtain ⟨xb0,xb1⟩:=XB.all;obtain ⟨z0,z1,z2⟩:=Z.all))
 have zf0:=Z.f0;have zf1:=Z.f1;have zf2:=Z.f2
 go_wp2_with fail
 have Z2:=Z.set3 (.bool (decide (0 < n_x))) (.slice A_x n_x c_x) (.slice A_y n_y c_y)
 obtain ⟨g0,g1,g2⟩:=Z2.all
 refine bodyPost_ret (v:=.tuple #[.agg #[.bool (decide (0 < n_x)),.slice A_x n_x c_x,.slice A_y n_y c_y],.int .i64 0]) (by simp [results,Tryz.results46,go_sem,g0,g1,g2]) rfl ?_
 have hc:=close_q (s:=s) (t:=(!s)) HV.out x y hk1 hk2
 rw [hne] at hc
 refine ⟨_,A_x,n_x,c_x,A_y,n_y,c_y,rfl,?_,below_set3 hb (by omega) _ _ _⟩
 have:=hc.set3 Z (.bool (decide (0 < n_x))) (.slice A_x n_x c_x) (.slice A_y n_y c_y)
 simpa using this
theorem bool_not {s t:Bool} (h:¬ t=s):t=!s:=by cases s <;> cases t <;> simp_all
theorem ZR.more {s:Bool} {A:Option Addr} {n c k k1:Nat} {v:Int} (h:ZR w s A n c v k) (hk:k≤k1):ZR w s A n c v k1:=by
 obtain ⟨l,a1,a2,a3,a4,a5,a6⟩:=h
 exact ⟨l,a1,a2,a3,a4,by omega,Nat.lt_of_lt_of_le a6 (Nat.pow_le_pow_right (by decide) hk)⟩
theorem make_zr {s t:Bool} {A B:Option Addr} {n c m d k1 k2:Nat} {p q:Int} (k:Nat) (X:ZR w s A n c p k1) (Y:ZR w t B m d q k2) (h1:k1≤100000) (h2:k2≤100000) (hq:q ≠ 0) (hk1:k1≤k) (hk2:k2≤k) :
 Calls Tryz.prog 46 #[.agg #[.bool s,.slice A n c],.agg #[.bool t,.slice B m d]] w (GivesQE w (Rat.divInt p q) k):=by
 have hp:=X.uv;have hqq:=Y.uv
 by_cases ht:t=s
 · subst ht
   have:=make_same (s:=t) X.nr Y.nr h1 h2 (by omega) k hk1 hk2
   rwa [← hp,← hqq] at this
 · have ht':t=!s:=bool_not ht
   subst ht'
   have:=make_diff (s:=s) X.nr Y.nr h1 h2 (by omega) k hk1 hk2
   rwa [← hp,← hqq] at this
end
section
open Go Go.RowKit
def GivesP (w:World) (p q:Int) (k:Nat) (e:Ending) (w':World):Prop :=
 ∃ s A n c t B m d,e=.returned (.tuple #[.agg #[.bool s,.slice A n c],.agg #[.bool t,.slice B m d]])∧ZR w' s A n c p k∧ZR w' t B m d q k∧Below w.heap.size w w'
theorem two_set {w W:World} {g1 g2 n c m d k n1 c1 n2 c2:Nat} {s t a b:Bool} {A B A1 A2:Option Addr} {p q:Int} (hb:Below w.heap.size w W) (h1:w.heap.size≤g1) (h2:w.heap.size≤g2) (hne:g1 ≠ g2)
 (Z1:Bx W g1 (.bool a) (.slice A1 n1 c1)) (Z2:Bx W g2 (.bool b) (.slice A2 n2 c2)) (X:ZR W s A n c p k) (Y:ZR W t B m d q k) (x y z u:Value) :
 ZR ((((W.setCell ⟨g1,0,none⟩ x).setCell ⟨g1,1,none⟩ y).setCell ⟨g2,0,none⟩ z).setCell ⟨g2,1,none⟩ u) s A n c p k ∧
 ZR ((((W.setCell ⟨g1,0,none⟩ x).setCell ⟨g1,1,none⟩ y).setCell ⟨g2,0,none⟩ z).setCell ⟨g2,1,none⟩ u) t B m d q k ∧
 Below w.heap.size w ((((W.setCell ⟨g1,0,none⟩ x).setCell ⟨g1,1,none⟩ y).setCell ⟨g2,0,none⟩ z).setCell ⟨g2,1,none⟩ u):=by
 have Z3:=Z2.other (k:=g1) (Ne.symm hne) x y
 exact ⟨(X.set2x Z1 x y).set2x Z3 z u,(Y.set2x Z1 x y).set2x Z3 z u,(((hb.setCell h1 _).setCell h1 _).setCell h2 _).setCell h2 _⟩
theorem mkbx8_8 {w W:World} {x0 x1 x2 x3 x4 x5 x6:Value} (h:(((w.alloc (Obj.cells #[x0,x1,x2] 27)).alloc (Obj.cells #[x3,x4] 25)).alloc (Obj.cells #[x5,x6] 25))=W):Below w.heap.size w W∧B3 W (w.heap.size) x0 x1 x2∧Bx W (w.heap.size+1) x3 x4∧Bx W (w.heap.size+1+1) x5 x6∧W.heap.size=w.heap.size+3:=by subst h;exact ⟨by exact ((((Below.refl _ _).alloc (Nat.le_refl _) _).alloc (by simp) _).alloc (by simp;omega) _),by exact ((B3.new' _ _ _ _ _ rfl).alloc _).alloc _,by exact (Bx.new' _ _ _ _ (by simp)).alloc _,by exact Bx.new' _ _ _ _ (by simp),by simp⟩
theorem parts_zero {s:Bool} {A A':Option Addr} {n c n' c' k q:Nat} {p:Int} (X:ZR w s A n c p k) (Q:NR w A' n' c' q k) (hk:k≤100000) (hk1:1≤k) (hq:q=0) :
 Calls Tryz.prog 50 #[.agg #[.bool s,.slice A n c,.slice A' n' c']] w (GivesP w p 1 k):=by
 have HB:Hid ((((bl q:Nat):Int) == 0)=true):=by show _=true;rw [bl_is0,hq];rfl
 clear hq
 go_enter Tryz.func50,Tryz.ntmps50
 go_wp2_with fail
 generalize hW:World.alloc _ _=W
 obtain ⟨hb,XA,Z1,Z2,hzW⟩:=mkbx8_8 hW;clear hW;replace X:=X.below hb;replace Q:=Q.below hb;obtain ⟨xa0,xa1,xa2⟩:=XA.all;have hbl:=HB.out
 go_upto_region 2 with ((go_at_call 87;((with_reducible refine (bits_nr Q (by omega)).mono ?_);rintro e w' ⟨rfl,rfl⟩)))
 clear hbl
 replace X:=X.below (Below.refl _ _).drew
 replace XA:=XA.below (Below.refl _ _).drew
 replace Z1:=Z1.below (Below.refl _ _).drew
 replace Z2:=Z2.below (Below.refl _ _).drew
 replace hb:=hb.drew
 go_region_held3 (fun w'=>w'.cell? ⟨w.heap.size,0,none⟩=some (Value.bool s)∧w'.cell? ⟨w.heap.size,1,none⟩=some (Value.slice A n c)∧w'.cell? ⟨w.heap.size,2,none⟩=some (Value.slice A' n' c'))
  (first | with_reducible exact ⟨XA.c0,XA.c1,XA.c2⟩ | with_reducible exact ⟨(set2_cell _ _ _ _ _ _ (by omega)).trans (XA.c0),(set2_cell _ _ _ _ _ _ (by omega)).trans (XA.c1),(set2_cell _ _ _ _ _ _ (by omega)).trans (XA.c2)⟩ | with_reducible exact ⟨(set2_cell _ _ _ _ _ _ (by omega)).trans ((set2_cell _ _ _ _ _ _ (by omega)).trans (XA.c0)),(set2_cell _ _ _ _ _ _ (by omega)).trans ((set2_cell _ _ _ _ _ _ (by omega)).trans (XA.c1)),(set2_cell _ _ _ _ _ _ (by omega)).trans ((set2_cell _ _ _ _ _ _ (by omega)).trans (XA.c2))⟩)
  (first
  | (go_at_call 47;(with_reducible refine (zof_zr 1 (by decide) (by decide) _).mono ?_);rintro e w_o ⟨s_o,A_o,n_o,c_o,rfl,o,hh⟩
     (try replace X:=X.below hh);(try replace XA:=XA.below hh);(try replace Z1:=Z1.below hh);(try replace Z2:=Z2.below hh);replace hb:=bend hb hh;obtain ⟨z0,z1⟩:=Z1.all;have z2:=Z1.f0;have z3:=Z1.f1;obtain ⟨y0,y1⟩:=Z2.all;have y2:=Z2.f0;have y3:=Z2.f1
     have Z2o:=Z2.other (k:=w.heap.size+1) (by omega) (.bool s) (.slice A n c)
     obtain ⟨zo0,zo1⟩:=Z2o.all;have zo2:=Z2o.f0;have zo3:=Z2o.f1))
 replace o:=o.more (show 1≤k from hk1)
 have Y:=o
 go_wp2_with fail
 have G1:=(Z1.set2 (.bool s) (.slice A n c)).other (k:=w.heap.size+1+1) (by omega) (.bool s_o) (.slice A_o n_o c_o)
 have G2:=(Z2.other (k:=w.heap.size+1) (by omega) (.bool s) (.slice A n c)).set2 (.bool s_o) (.slice A_o n_o c_o)
 obtain ⟨g0,g1⟩:=G1.all;have g2:=G2.c0;have g3:=G2.c1
 have HT:=two_set hb (by omega) (by omega) (by omega) Z1 Z2 X Y (.bool s) (.slice A n c) (.bool s_o) (.slice A_o n_o c_o)
 refine bodyPost_ret (v:=.tuple #[.agg #[.bool s,.slice A n c],.agg #[.bool s_o,.slice A_o n_o c_o]]) (by simp [results,Tryz.results50,go_sem,g0,g1,g2,g3]) rfl ?_
 exact ⟨s,A,n,c,_,_,_,_,rfl,HT.1,HT.2.1,HT.2.2⟩
theorem parts_pos {s:Bool} {A A':Option Addr} {n c n' c' k q:Nat} {p:Int} (X:ZR w s A n c p k) (Q:NR w A' n' c' q k) (hk:k≤100000) (hq:q ≠ 0) :
 Calls Tryz.prog 50 #[.agg #[.bool s,.slice A n c,.slice A' n' c']] w (GivesP w p (q:Int) k):=by
 have HB:Hid ((((bl q:Nat):Int) == 0)=false):=by show _=false;rw [bl_is0];exact decide_eq_false hq
 clear hq
 go_enter Tryz.func50,Tryz.ntmps50
 go_wp2_with fail
 generalize hW:World.alloc _ _=W
 obtain ⟨hb,XA,Z1,Z2,hzW⟩:=mkbx8_8 hW;clear hW;replace X:=X.below hb;replace Q:=Q.below hb;obtain ⟨xa0,xa1,xa2⟩:=XA.all;have hbl:=HB.out
 go_upto_region 3 with ((go_at_call 87;((with_reducible refine (bits_nr Q (by omega)).mono ?_);rintro e w' ⟨rfl,rfl⟩)))
 clear hbl;obtain ⟨z0,z1⟩:=Z1.all;have z2:=Z1.f0;have z3:=Z1.f1;obtain ⟨y0,y1⟩:=Z2.all;have y2:=Z2.f0;have y3:=Z2.f1
 have Z2o:=Z2.other (k:=w.heap.size+1) (by omega) (.bool s) (.slice A n c)
 obtain ⟨zo0,zo1⟩:=Z2o.all;have zo2:=Z2o.f0;have zo3:=Z2o.f1
 go_region
 have Y:=ZR.ofn (s:=false) Q
 rw [show iv false q=(q:Int) from rfl] at Y
 go_wp2_with fail
 have G1:=(Z1.set2 (.bool s) (.slice A n c)).other (k:=w.heap.size+1+1) (by omega) (.bool false) (.slice A' n' c')
 have G2:=(Z2.other (k:=w.heap.size+1) (by omega) (.bool s) (.slice A n c)).set2 (.bool false) (.slice A' n' c')
 obtain ⟨g0,g1⟩:=G1.all;have g2:=G2.c0;have g3:=G2.c1
 have HT:=two_set hb (by omega) (by omega) (by omega) Z1 Z2 X Y (.bool s) (.slice A n c) (.bool false) (.slice A' n' c')
 refine bodyPost_ret (v:=.tuple #[.agg #[.bool s,.slice A n c],Value.agg #[.bool false,.slice A' n' c']]) (by simp [results,Tryz.results50,go_sem,g0,g1,g2,g3]) rfl ?_
 exact ⟨s,A,n,c,_,_,_,_,rfl,HT.1.drew,HT.2.1.drew,HT.2.2.drew⟩
theorem parts_any {s:Bool} {A A':Option Addr} {n c n' c' k q:Nat} {p:Int} (X:ZR w s A n c p k) (Q:NR w A' n' c' q k) (hk:k≤100000) (hk1:1≤k) :
 Calls Tryz.prog 50 #[.agg #[.bool s,.slice A n c,.slice A' n' c']] w (GivesP w p (den1 q:Int) k):=by
 by_cases hq:q=0
 · have h:=parts_zero X Q hk hk1 hq
   rw [hq];exact h
 · rw [den1_of hq];exact parts_pos X Q hk hq
theorem mkbx9_8 {w W:World} {x0 x1 x2:Value} (h:(w.alloc (Obj.cells #[x0,x1,x2] 27))=W):Below w.heap.size w W∧B3 W (w.heap.size) x0 x1 x2∧W.heap.size=w.heap.size+1:=by subst h;exact ⟨by exact ((Below.refl _ _).alloc (Nat.le_refl _) _),by exact B3.new' _ _ _ _ _ rfl,by simp⟩
theorem by_zr {s t:Bool} {A B:Option Addr} {n c m d k1 k2:Nat} {p q:Int} (k:Nat) (X:ZR w s A n c p k1) (Y:ZR w t B m d q k2) (h1:k1≤100000) (h2:k2≤100000) (hq:q ≠ 0) (hk1:k1≤k) (hk2:k2≤k) :
 Calls Tryz.prog 58 #[.agg #[.bool s,.slice A n c],.agg #[.bool t,.slice B m d]] w (GivesQ w (Rat.divInt p q) k):=by
 have HQ:=Lib.hid hq;clear hq
 go_enter Tryz.func58,Tryz.ntmps58
 go_wp2_with fail
 generalize hW:World.alloc _ _=W
 obtain ⟨hb,XA,XB,Z,hzW⟩:=mkbx7_8 hW;clear hW;replace X:=X.below hb;replace Y:=Y.below hb;obtain ⟨xa0,xa1⟩:=XA.all;obtain ⟨xb0,xb1⟩:=XB.all
 go_upto_region 2 with (first
  | (go_at_call 46;(with_reducible refine (make_zr k X Y h1 h2 HQ.out hk1 hk2).mono ?_);rintro e w_r ⟨s_r,A_r,n_r,c_r,B_r,m_r,d_r,rfl,r,hh⟩
     (try replace XA:=XA.below hh);(try replace XB:=XB.below hh);(try replace Z:=Z.below hh);replace hb:=bend hb hh))
 generalize hW:World.alloc _ _=W2
 obtain ⟨hh,R,hzW2⟩:=mkbx9_8 hW;clear hW;(try replace r:=r.below hh);(try replace Z:=Z.below hh);replace hb:=bend hb hh;obtain ⟨r0,r1,r2⟩:=R.all;have zf0:=Z.f0;have zf1:=Z.f1;have zf2:=Z.f2;obtain ⟨z0,z1,z2⟩:=Z.all
 go_wp2_with fail
 have Z2:=Z.set3 (.bool s_r) (.slice A_r n_r c_r) (.slice B_r m_r d_r)
 obtain ⟨g0,g1,g2⟩:=Z2.all
 refine bodyPost_ret (v:=.agg #[.bool s_r,.slice A_r n_r c_r,.slice B_r m_r d_r]) (by simp [results,Tryz.results58,go_sem,g0,g1,g2]) rfl ?_
 exact ⟨s_r,A_r,n_r,c_r,B_r,m_r,d_r,rfl,r.set3 Z _ _ _,below_set3 hb (by omega) _ _ _⟩
end
section
open Go Go.RowKit
theorem den1_i (q:Nat):(den1 q:Int) ≠ 0:=by have:=den1_ne q;omega
theorem rsign_q {s:Bool} {A A':Option Addr} {n c n' c' k:Nat} {v:Rat} (X0:QR w s A n c A' n' c' v k) (hk:k≤90000) (hk1:1≤k) :
 Calls Tryz.prog 24 #[.agg #[.bool s,.slice A n c,.slice A' n' c']] w fun e w'=>e=.returned (.int .i64 (sgnQ v))∧Below w.heap.size w w':=by
 obtain ⟨p,q,X,Q,rfl⟩:=X0
 have HE:Hid (sgn p=sgnQ (mkRat p (den1 q))):=(sgnQ_mk (den1_ne q)).symm
 go_enter Tryz.func24,Tryz.ntmps24
 go_wp2_with fail
 generalize hW:World.alloc _ _=W
 obtain ⟨hb,XA,hzW⟩:=mkbx9_8 hW;clear hW;replace X:=X.below hb;replace Q:=Q.below hb;obtain ⟨xa0,xa1,xa2⟩:=XA.all
 go_wp2_with (first
  | (go_at_call 61;(with_reducible refine (sign_zr X (by omega)).mono ?_);rintro e w_z ⟨rfl,hh⟩
     rw [HE.out];(try replace X:=X.below hh);(try replace Q:=Q.below hh);(try replace XA:=XA.below hh);replace hb:=bend hb hh))
 go_ret;exact ⟨rfl,hb⟩
theorem cmpQ_signs {s t:Bool} {a b:Nat} {q q2:Nat} (hq:q ≠ 0) (hq2:q2 ≠ 0) (h:¬ s=t):cmpZ (iv s a) (iv t b)=cmpQ (mkRat (iv s a) q) (mkRat (iv t b) q2):=by
 rw [cmpQ_mk hq hq2]
 have h1:(0:Int) < q:=by omega
 have h2:(0:Int) < q2:=by omega
 cases s <;> cases t <;> simp at h
 · have e1:iv false a=(a:Int):=rfl
   have e2:iv true b=-(b:Int):=rfl
   rw [e1,e2]
   have e3:(0:Int)≤a*q2:=Int.mul_nonneg (by omega) (by omega)
   have e4:(0:Int)≤b*q:=Int.mul_nonneg (by omega) (by omega)
   have e5:(a:Int)*q2=0 ↔ (a:Int)=0:=by rw [Int.mul_eq_zero];omega
   have e6:(b:Int)*q=0 ↔ (b:Int)=0:=by rw [Int.mul_eq_zero];omega
   rw [Int.neg_mul]
   unfold cmpZ
   by_cases ha:(a:Int)=0 <;> by_cases hb:(b:Int)=0 <;> (repeat' split) <;> omega
 · have e1:iv true a=-(a:Int):=rfl
   have e2:iv false b=(b:Int):=rfl
   rw [e1,e2]
   have e3:(0:Int)≤a*q2:=Int.mul_nonneg (by omega) (by omega)
   have e4:(0:Int)≤b*q:=Int.mul_nonneg (by omega) (by omega)
   have e5:(a:Int)*q2=0 ↔ (a:Int)=0:=by rw [Int.mul_eq_zero];omega
   have e6:(b:Int)*q=0 ↔ (b:Int)=0:=by rw [Int.mul_eq_zero];omega
   rw [Int.neg_mul]
   unfold cmpZ
   by_cases ha:(a:Int)=0 <;> by_cases hb:(b:Int)=0 <;> (repeat' split) <;> omega
theorem cmpZ_zero {a b:Int} (h:cmpZ a b=0):a=b:=by
 unfold cmpZ at h
 (repeat' split at h) <;> omega
end
section
open Go Go.RowKit
theorem mkbx10_8 {w W:World} {x0 x1 x2 x3 x4 x5:Value} (h:((w.alloc (Obj.cells #[x0,x1,x2] 27)).alloc (Obj.cells #[x3,x4,x5] 27))=W):Below w.heap.size w W∧B3 W (w.heap.size) x0 x1 x2∧B3 W (w.heap.size+1) x3 x4 x5∧W.heap.size=w.heap.size+2:=by subst h;exact ⟨by exact (((Below.refl _ _).alloc (Nat.le_refl _) _).alloc (by simp) _),by exact (B3.new' _ _ _ _ _ rfl).alloc _,by exact B3.new' _ _ _ _ _ (by simp),by simp⟩
theorem mkbx11_8 {w W:World} {x0 x1 x2 x3:Value} (h:((w.alloc (Obj.cells #[x0,x1] 25)).alloc (Obj.cells #[x2,x3] 25))=W):Below w.heap.size w W∧Bx W (w.heap.size) x0 x1∧Bx W (w.heap.size+1) x2 x3∧W.heap.size=w.heap.size+2:=by subst h;exact ⟨by exact (((Below.refl _ _).alloc (Nat.le_refl _) _).alloc (by simp) _),by exact (Bx.new' _ _ _ _ rfl).alloc _,by exact Bx.new' _ _ _ _ (by simp),by simp⟩
theorem rcmp_q {s t:Bool} {A A' B B':Option Addr} {n c n' c' m d m' d' k k2:Nat} {v0 u0:Rat} (X0:QR w s A n c A' n' c' v0 k) (Y0:QR w t B m d B' m' d' u0 k2) (hk:k≤40000) (hkb:k2≤40000) (h40:k≤40000 ∨ k2≤40000) (hk1:1≤k) (hk3:1≤k2) :
 Calls Tryz.prog 20 #[.agg #[.bool s,.slice A n c,.slice A' n' c'],.agg #[.bool t,.slice B m d,.slice B' m' d']] w fun e w'=>e=.returned (.int .i64 (cmpQ v0 u0))∧Below w.heap.size w w':=by
 obtain ⟨p,q,X,Q,rfl⟩:=X0
 obtain ⟨p2,q2,Y,R,rfl⟩:=Y0
 go_enter Tryz.func20,Tryz.ntmps20
 go_wp2_with fail
 generalize hW:World.alloc _ _=W
 obtain ⟨hb,XA,XB,hzW⟩:=mkbx10_8 hW;clear hW;replace X:=X.below hb;replace Q:=Q.below hb;replace Y:=Y.below hb;replace R:=R.below hb;obtain ⟨xa0,xa1,xa2⟩:=XA.all;obtain ⟨xb0,xb1,xb2⟩:=XB.all
 go_upto_region 2 with (first
  | (go_at_call 50;(with_reducible refine (parts_any X Q (by omega) hk1).mono ?_);rintro e w_p ⟨s_x,A_x,n_x,c_x,s_y,A_y,n_y,c_y,rfl,x,y,hh⟩
     (try replace X:=X.below hh);(try replace Q:=Q.below hh);(try replace Y:=Y.below hh);(try replace R:=R.below hh);(try replace u:=u.below hh);(try replace v:=v.below hh);(try replace m1:=m1.below hh);(try replace m2:=m2.below hh);(try replace m3:=m3.below hh);(try replace XA:=XA.below hh);(try replace XB:=XB.below hh);(try replace Z:=Z.below hh);(try replace Z1:=Z1.below hh);(try replace Z2:=Z2.below hh);(try replace Z3:=Z3.below hh);(try replace XP:=XP.below hh);(try replace XQ:=XQ.below hh);(try replace XU:=XU.below hh);(try replace XV:=XV.below hh);replace hb:=bend hb hh))
 have hp1:=XB.lt
 generalize hW:World.alloc _ _=W2
 obtain ⟨hh,XP,XQ,hzW2⟩:=mkbx11_8 hW;clear hW;(try replace X:=X.below hh);(try replace Q:=Q.below hh);(try replace Y:=Y.below hh);(try replace R:=R.below hh);(try replace x:=x.below hh);(try replace y:=y.below hh);(try replace XA:=XA.below hh);(try replace XB:=XB.below hh);replace hb:=bend hb hh;obtain ⟨xb0,xb1,xb2⟩:=XB.all
 go_upto_region 3 with (first
  | (go_at_call 50;(with_reducible refine (parts_any Y R (by omega) hk3).mono ?_);rintro e w_u ⟨s_u,A_u,n_u,c_u,s_v,A_v,n_v,c_v,rfl,u,v,hh⟩
     (try replace X:=X.below hh);(try replace Q:=Q.below hh);(try replace Y:=Y.below hh);(try replace R:=R.below hh);(try replace x:=x.below hh);(try replace y:=y.below hh);(try replace m1:=m1.below hh);(try replace m2:=m2.below hh);(try replace m3:=m3.below hh);(try replace XA:=XA.below hh);(try replace XB:=XB.below hh);(try replace Z:=Z.below hh);(try replace Z1:=Z1.below hh);(try replace Z2:=Z2.below hh);(try replace Z3:=Z3.below hh);(try replace XP:=XP.below hh);(try replace XQ:=XQ.below hh);(try replace XU:=XU.below hh);(try replace XV:=XV.below hh);replace hb:=bend hb hh))
 have hu1:=XQ.lt
 generalize hW:World.alloc _ _=W3
 obtain ⟨hh,XU,XV,hzW3⟩:=mkbx11_8 hW;clear hW;(try replace x:=x.below hh);(try replace y:=y.below hh);(try replace u:=u.below hh);(try replace v:=v.below hh);(try replace XP:=XP.below hh);(try replace XQ:=XQ.below hh);replace hb:=bend hb hh;obtain ⟨xp0,xp1⟩:=XP.all;obtain ⟨xq0,xq1⟩:=XQ.all;obtain ⟨xu0,xu1⟩:=XU.all;obtain ⟨xv0,xv1⟩:=XV.all
 by_cases hst:s_u=s_x
 · have hst2:=hst.symm
   clear hst
   subst hst2
   by_cases heq:den1 q=den1 q2
   · have HE:Hid (cmpZ p p2=cmpQ (mkRat p (den1 q)) (mkRat p2 (den1 q2))):=by show _=_;rw [← heq];exact (cmpQ_same (den1_ne q)).symm
     have HC:Hid (cmpZ (den1 q:Int) (den1 q2:Int)=0):=by show _=_;rw [heq];exact cmpZ_self _
     have hne:(s_x != s_x)=false:=by cases s_x <;> rfl
     clear heq
     go_wp2_with (first
     | (go_at_call 51;(with_reducible refine (zcmp_zr y v (by omega)).mono ?_);rintro e w_z ⟨rfl,hh⟩
        rw [HC.out];(try replace X:=X.below hh);(try replace Q:=Q.below hh);(try replace Y:=Y.below hh);(try replace R:=R.below hh);(try replace x:=x.below hh);(try replace y:=y.below hh);(try replace u:=u.below hh);(try replace v:=v.below hh);(try replace m1:=m1.below hh);(try replace m2:=m2.below hh);(try replace m3:=m3.below hh);(try replace XA:=XA.below hh);(try replace XB:=XB.below hh);(try replace Z:=Z.below hh);(try replace Z1:=Z1.below hh);(try replace Z2:=Z2.below hh);(try replace Z3:=Z3.below hh);(try replace XP:=XP.below hh);(try replace XQ:=XQ.below hh);(try replace XU:=XU.below hh);(try replace XV:=XV.below hh);replace hb:=bend hb hh;obtain ⟨xp0,xp1⟩:=XP.all;obtain ⟨xq0,xq1⟩:=XQ.all;obtain ⟨xu0,xu1⟩:=XU.all;obtain ⟨xv0,xv1⟩:=XV.all)
     | (go_at_call 51;(with_reducible refine (zcmp_zr x u (by omega)).mono ?_);rintro e w_z ⟨rfl,hh⟩
        rw [HE.out];(try replace X:=X.below hh);(try replace Q:=Q.below hh);(try replace Y:=Y.below hh);(try replace R:=R.below hh);(try replace x:=x.below hh);(try replace y:=y.below hh);(try replace u:=u.below hh);(try replace v:=v.below hh);(try replace m1:=m1.below hh);(try replace m2:=m2.below hh);(try replace m3:=m3.below hh);(try replace XA:=XA.below hh);(try replace XB:=XB.below hh);(try replace Z:=Z.below hh);(try replace Z1:=Z1.below hh);(try replace Z2:=Z2.below hh);(try replace Z3:=Z3.below hh);(try replace XP:=XP.below hh);(try replace XQ:=XQ.below hh);(try replace XU:=XU.below hh);(try replace XV:=XV.below hh);replace hb:=bend hb hh;obtain ⟨xp0,xp1⟩:=XP.all;obtain ⟨xq0,xq1⟩:=XQ.all;obtain ⟨xu0,xu1⟩:=XU.all;obtain ⟨xv0,xv1⟩:=XV.all))
     go_ret;exact ⟨rfl,hb⟩
   · have HE:Hid (cmpZ (p*(den1 q2:Int)) (p2*(den1 q:Int))=cmpQ (mkRat p (den1 q)) (mkRat p2 (den1 q2))):=(cmpQ_mk (den1_ne q) (den1_ne q2)).symm
     obtain ⟨K,hK,hK0⟩:∃ K,cmpZ (den1 q:Int) (den1 q2:Int)=K∧((K:Int) == 0)=false:=⟨_,rfl,by
      rw [beq_eq_false_iff_ne];intro h;exact heq (by have:=cmpZ_zero h;omega)⟩
     have HC:=Lib.hid hK
     have hne:(s_x != s_x)=false:=by cases s_x <;> rfl
     clear heq hK
     go_upto_region 5 with (first
     | (go_at_call 51;(with_reducible refine (zcmp_zr y v (by omega)).mono ?_);rintro e w_z ⟨rfl,hh⟩
        rw [HC.out];(try replace X:=X.below hh);(try replace Q:=Q.below hh);(try replace Y:=Y.below hh);(try replace R:=R.below hh);(try replace x:=x.below hh);(try replace y:=y.below hh);(try replace u:=u.below hh);(try replace v:=v.below hh);(try replace m1:=m1.below hh);(try replace m2:=m2.below hh);(try replace m3:=m3.below hh);(try replace XA:=XA.below hh);(try replace XB:=XB.below hh);(try replace Z:=Z.below hh);(try replace Z1:=Z1.below hh);(try replace Z2:=Z2.below hh);(try replace Z3:=Z3.below hh);(try replace XP:=XP.below hh);(try replace XQ:=XQ.below hh);(try replace XU:=XU.below hh);(try replace XV:=XV.below hh);replace hb:=bend hb hh;obtain ⟨xp0,xp1⟩:=XP.all;obtain ⟨xq0,xq1⟩:=XQ.all;obtain ⟨xu0,xu1⟩:=XU.all;obtain ⟨xv0,xv1⟩:=XV.all))
     replace x:=x.below (Below.refl _ _).drew
     replace y:=y.below (Below.refl _ _).drew
     replace u:=u.below (Below.refl _ _).drew
     replace v:=v.below (Below.refl _ _).drew
     replace XP:=XP.below (Below.refl _ _).drew
     replace XQ:=XQ.below (Below.refl _ _).drew
     replace XU:=XU.below (Below.refl _ _).drew
     replace XV:=XV.below (Below.refl _ _).drew
     replace hb:=hb.drew
     go_region_held3 (fun w'=>w'.cell? ⟨w_p.heap.size,0,none⟩=some (.bool s_x)∧w'.cell? ⟨w_p.heap.size,1,none⟩=some (.slice A_x n_x c_x)∧w'.cell? ⟨w_p.heap.size+1,0,none⟩=some (.bool s_y)∧w'.cell? ⟨w_p.heap.size+1,1,none⟩=some (.slice A_y n_y c_y)∧w'.cell? ⟨w_u.heap.size,0,none⟩=some (.bool s_x)∧w'.cell? ⟨w_u.heap.size,1,none⟩=some (.slice A_u n_u c_u)∧w'.cell? ⟨w_u.heap.size+1,0,none⟩=some (.bool s_v)∧w'.cell? ⟨w_u.heap.size+1,1,none⟩=some (.slice A_v n_v c_v))
      (first | with_reducible exact ⟨XP.c0,XP.c1,XQ.c0,XQ.c1,XU.c0,XU.c1,XV.c0,XV.c1⟩)
      (first
      | (go_at_call 52;(with_reducible refine (zmul_zr (k+k2) x v (by omega) (by omega) (by omega)).mono ?_);rintro e w_m1 ⟨s_m1,A_m1,n_m1,c_m1,rfl,m1,hh⟩
         (try replace X:=X.below hh);(try replace Q:=Q.below hh);(try replace Y:=Y.below hh);(try replace R:=R.below hh);(try replace x:=x.below hh);(try replace y:=y.below hh);(try replace u:=u.below hh);(try replace v:=v.below hh);(try replace m2:=m2.below hh);(try replace m3:=m3.below hh);(try replace XA:=XA.below hh);(try replace XB:=XB.below hh);(try replace Z:=Z.below hh);(try replace Z1:=Z1.below hh);(try replace Z2:=Z2.below hh);(try replace Z3:=Z3.below hh);(try replace XP:=XP.below hh);(try replace XQ:=XQ.below hh);(try replace XU:=XU.below hh);(try replace XV:=XV.below hh);replace hb:=bend hb hh)
      | (go_at_call 52;(with_reducible refine (zmul_zr (k+k2) u y (by omega) (by omega) (by omega)).mono ?_);rintro e w_m2 ⟨s_m2,A_m2,n_m2,c_m2,rfl,m2,hh⟩
         (try replace X:=X.below hh);(try replace Q:=Q.below hh);(try replace Y:=Y.below hh);(try replace R:=R.below hh);(try replace x:=x.below hh);(try replace y:=y.below hh);(try replace u:=u.below hh);(try replace v:=v.below hh);(try replace m1:=m1.below hh);(try replace m3:=m3.below hh);(try replace XA:=XA.below hh);(try replace XB:=XB.below hh);(try replace Z:=Z.below hh);(try replace Z1:=Z1.below hh);(try replace Z2:=Z2.below hh);(try replace Z3:=Z3.below hh);(try replace XP:=XP.below hh);(try replace XQ:=XQ.below hh);(try replace XU:=XU.below hh);(try replace XV:=XV.below hh);replace hb:=bend hb hh)
      | (go_at_call 51;(with_reducible refine (zcmp_zr m1 m2 (by omega)).mono ?_);rintro e w_z ⟨rfl,hh⟩
         rw [HE.out];(try replace X:=X.below hh);(try replace Q:=Q.below hh);(try replace Y:=Y.below hh);(try replace R:=R.below hh);(try replace x:=x.below hh);(try replace y:=y.below hh);(try replace u:=u.below hh);(try replace v:=v.below hh);(try replace m1:=m1.below hh);(try replace m2:=m2.below hh);(try replace m3:=m3.below hh);(try replace XA:=XA.below hh);(try replace XB:=XB.below hh);(try replace Z:=Z.below hh);(try replace Z1:=Z1.below hh);(try replace Z2:=Z2.below hh);(try replace Z3:=Z3.below hh);(try replace XP:=XP.below hh);(try replace XQ:=XQ.below hh);(try replace XU:=XU.below hh);(try replace XV:=XV.below hh);replace hb:=bend hb hh))
     go_wp2_with fail
     go_ret;exact ⟨rfl,hb⟩
 · have HE : Hid (cmpZ p p2 = cmpQ (mkRat p (den1 q)) (mkRat p2 (den1 q2))) := by
     have:=cmpQ_signs (a:=p.natAbs) (b:=p2.natAbs) (den1_ne q) (den1_ne q2) (fun h=>hst h.symm)
     rw [← x.uv,← u.uv] at this
     exact this
   have hs:=bool_not hst;clear hst
   subst hs
   have hne:(s_x != (!s_x))=true:=by cases s_x <;> rfl
   go_wp2_with (first
    | (go_at_call 51;(with_reducible refine (zcmp_zr x u (by omega)).mono ?_);rintro e w_z ⟨rfl,hh⟩
       rw [HE.out];(try replace X:=X.below hh);(try replace Q:=Q.below hh);(try replace Y:=Y.below hh);(try replace R:=R.below hh);(try replace x:=x.below hh);(try replace y:=y.below hh);(try replace u:=u.below hh);(try replace v:=v.below hh);(try replace m1:=m1.below hh);(try replace m2:=m2.below hh);(try replace m3:=m3.below hh);(try replace XA:=XA.below hh);(try replace XB:=XB.below hh);(try replace Z:=Z.below hh);(try replace Z1:=Z1.below hh);(try replace Z2:=Z2.below hh);(try replace Z3:=Z3.below hh);(try replace XP:=XP.below hh);(try replace XQ:=XQ.below hh);(try replace XU:=XU.below hh);(try replace XV:=XV.below hh);replace hb:=bend hb hh;obtain ⟨xp0,xp1⟩:=XP.all;obtain ⟨xq0,xq1⟩:=XQ.all;obtain ⟨xu0,xu1⟩:=XU.all;obtain ⟨xv0,xv1⟩:=XV.all))
   go_ret;exact ⟨rfl,hb⟩
end
section
open Go Go.RowKit
theorem mkbx12_8 {w W:World} {x0 x1 x2 x3 x4 x5 x6 x7 x8 x9:Value} (h:((((w.alloc (Obj.cells #[x0,x1,x2] 27)).alloc (Obj.cells #[x3,x4,x5] 27)).alloc (Obj.cells #[x6,x7] 25)).alloc (Obj.cells #[x8,x9] 25))=W):Below w.heap.size w W∧B3 W (w.heap.size) x0 x1 x2∧B3 W (w.heap.size+1) x3 x4 x5∧Bx W (w.heap.size+1+1) x6 x7∧Bx W (w.heap.size+1+1+1) x8 x9∧W.heap.size=w.heap.size+4:=by subst h;exact ⟨by exact (((((Below.refl _ _).alloc (Nat.le_refl _) _).alloc (by simp) _).alloc (by simp;omega) _).alloc (by simp;omega) _),by exact (((B3.new' _ _ _ _ _ rfl).alloc _).alloc _).alloc _,by exact ((B3.new' _ _ _ _ _ (by simp)).alloc _).alloc _,by exact (Bx.new' _ _ _ _ (by simp)).alloc _,by exact Bx.new' _ _ _ _ (by simp),by simp⟩
theorem rprod_q {s t:Bool} {A A' B B':Option Addr} {n c n' c' m d m' d' k k2:Nat} {p p2:Int} {q q2:Nat} (X:ZR w s A n c p k) (Q:NR w A' n' c' q k) (Y:ZR w t B m d p2 k2) (R:NR w B' m' d' q2 k2) (hk:k≤40000) (hkb:k2≤40000) (h40:k≤40000 ∨ k2≤40000) (hk1:1≤k) (hk3:1≤k2) :
 Calls Tryz.prog 60 #[.agg #[.bool s,.slice A n c,.slice A' n' c'],.agg #[.bool t,.slice B m d,.slice B' m' d']] w (GivesP w (p*p2) ((den1 q:Int)*(den1 q2:Int)) (k+k2)):=by
 go_enter Tryz.func60,Tryz.ntmps60
 go_wp2_with fail
 generalize hW:World.alloc _ _=W
 obtain ⟨hb,XA,XB,Z1,Z2,hzW⟩:=mkbx12_8 hW;clear hW;replace X:=X.below hb;replace Q:=Q.below hb;replace Y:=Y.below hb;replace R:=R.below hb;obtain ⟨xa0,xa1,xa2⟩:=XA.all;obtain ⟨xb0,xb1,xb2⟩:=XB.all
 go_upto_region 2 with (first
  | (go_at_call 50;(with_reducible refine (parts_any X Q (by omega) hk1).mono ?_);rintro e w_p ⟨s_x,A_x,n_x,c_x,s_y,A_y,n_y,c_y,rfl,x,y,hh⟩
     (try replace X:=X.below hh);(try replace Q:=Q.below hh);(try replace Y:=Y.below hh);(try replace R:=R.below hh);(try replace u:=u.below hh);(try replace v:=v.below hh);(try replace m1:=m1.below hh);(try replace m2:=m2.below hh);(try replace m3:=m3.below hh);(try replace XA:=XA.below hh);(try replace XB:=XB.below hh);(try replace Z:=Z.below hh);(try replace Z1:=Z1.below hh);(try replace Z2:=Z2.below hh);(try replace Z3:=Z3.below hh);(try replace XP:=XP.below hh);(try replace XQ:=XQ.below hh);(try replace XU:=XU.below hh);(try replace XV:=XV.below hh);replace hb:=bend hb hh))
 have hp1:=Z2.lt
 generalize hW:World.alloc _ _=W2
 obtain ⟨hh,XP,XQ,hzW2⟩:=mkbx11_8 hW;clear hW;(try replace X:=X.below hh);(try replace Q:=Q.below hh);(try replace Y:=Y.below hh);(try replace R:=R.below hh);(try replace x:=x.below hh);(try replace y:=y.below hh);(try replace XA:=XA.below hh);(try replace XB:=XB.below hh);(try replace Z1:=Z1.below hh);(try replace Z2:=Z2.below hh);replace hb:=bend hb hh;obtain ⟨xb0,xb1,xb2⟩:=XB.all
 go_upto_region 3 with (first
  | (go_at_call 50;(with_reducible refine (parts_any Y R (by omega) hk3).mono ?_);rintro e w_u ⟨s_u,A_u,n_u,c_u,s_v,A_v,n_v,c_v,rfl,u,v,hh⟩
     (try replace X:=X.below hh);(try replace Q:=Q.below hh);(try replace Y:=Y.below hh);(try replace R:=R.below hh);(try replace x:=x.below hh);(try replace y:=y.below hh);(try replace m1:=m1.below hh);(try replace m2:=m2.below hh);(try replace m3:=m3.below hh);(try replace XA:=XA.below hh);(try replace XB:=XB.below hh);(try replace Z:=Z.below hh);(try replace Z1:=Z1.below hh);(try replace Z2:=Z2.below hh);(try replace Z3:=Z3.below hh);(try replace XP:=XP.below hh);(try replace XQ:=XQ.below hh);(try replace XU:=XU.below hh);(try replace XV:=XV.below hh);replace hb:=bend hb hh))
 have hu1:=XQ.lt
 generalize hW:World.alloc _ _=W3
 obtain ⟨hh,XU,XV,hzW3⟩:=mkbx11_8 hW;clear hW;(try replace x:=x.below hh);(try replace y:=y.below hh);(try replace u:=u.below hh);(try replace v:=v.below hh);(try replace XP:=XP.below hh);(try replace XQ:=XQ.below hh);(try replace Z1:=Z1.below hh);(try replace Z2:=Z2.below hh);replace hb:=bend hb hh
 replace x:=x.below (Below.refl _ _).drew
 replace y:=y.below (Below.refl _ _).drew
 replace u:=u.below (Below.refl _ _).drew
 replace v:=v.below (Below.refl _ _).drew
 replace Z1:=Z1.below (Below.refl _ _).drew
 replace Z2:=Z2.below (Below.refl _ _).drew
 replace XP:=XP.below (Below.refl _ _).drew
 replace XQ:=XQ.below (Below.refl _ _).drew
 replace XU:=XU.below (Below.refl _ _).drew
 replace XV:=XV.below (Below.refl _ _).drew
 replace hb:=hb.drew
 go_region_held3 (fun w'=>w'.cell? ⟨w_p.heap.size,0,none⟩=some (.bool s_x)∧w'.cell? ⟨w_p.heap.size,1,none⟩=some (.slice A_x n_x c_x)∧w'.cell? ⟨w_p.heap.size+1,0,none⟩=some (.bool s_y)∧w'.cell? ⟨w_p.heap.size+1,1,none⟩=some (.slice A_y n_y c_y)∧w'.cell? ⟨w_u.heap.size,0,none⟩=some (.bool s_u)∧w'.cell? ⟨w_u.heap.size,1,none⟩=some (.slice A_u n_u c_u)∧w'.cell? ⟨w_u.heap.size+1,0,none⟩=some (.bool s_v)∧w'.cell? ⟨w_u.heap.size+1,1,none⟩=some (.slice A_v n_v c_v))
  (first | with_reducible exact ⟨XP.c0,XP.c1,XQ.c0,XQ.c1,XU.c0,XU.c1,XV.c0,XV.c1⟩ | with_reducible exact ⟨(set2_cell _ _ _ _ _ _ (by omega)).trans (XP.c0),(set2_cell _ _ _ _ _ _ (by omega)).trans (XP.c1),(set2_cell _ _ _ _ _ _ (by omega)).trans (XQ.c0),(set2_cell _ _ _ _ _ _ (by omega)).trans (XQ.c1),(set2_cell _ _ _ _ _ _ (by omega)).trans (XU.c0),(set2_cell _ _ _ _ _ _ (by omega)).trans (XU.c1),(set2_cell _ _ _ _ _ _ (by omega)).trans (XV.c0),(set2_cell _ _ _ _ _ _ (by omega)).trans (XV.c1)⟩ | with_reducible exact ⟨(set2_cell _ _ _ _ _ _ (by omega)).trans ((set2_cell _ _ _ _ _ _ (by omega)).trans (XP.c0)),(set2_cell _ _ _ _ _ _ (by omega)).trans ((set2_cell _ _ _ _ _ _ (by omega)).trans (XP.c1)),(set2_cell _ _ _ _ _ _ (by omega)).trans ((set2_cell _ _ _ _ _ _ (by omega)).trans (XQ.c0)),(set2_cell _ _ _ _ _ _ (by omega)).trans ((set2_cell _ _ _ _ _ _ (by omega)).trans (XQ.c1)),(set2_cell _ _ _ _ _ _ (by omega)).trans ((set2_cell _ _ _ _ _ _ (by omega)).trans (XU.c0)),(set2_cell _ _ _ _ _ _ (by omega)).trans ((set2_cell _ _ _ _ _ _ (by omega)).trans (XU.c1)),(set2_cell _ _ _ _ _ _ (by omega)).trans ((set2_cell _ _ _ _ _ _ (by omega)).trans (XV.c0)),(set2_cell _ _ _ _ _ _ (by omega)).trans ((set2_cell _ _ _ _ _ _ (by omega)).trans (XV.c1))⟩)
  (first
  | (go_at_call 52;(with_reducible refine (zmul_zr (k+k2) x u (by omega) (by omega) (by omega)).mono ?_);rintro e w_m1 ⟨s_m1,A_m1,n_m1,c_m1,rfl,m1,hh⟩
     (try replace X:=X.below hh);(try replace Q:=Q.below hh);(try replace Y:=Y.below hh);(try replace R:=R.below hh);(try replace x:=x.below hh);(try replace y:=y.below hh);(try replace u:=u.below hh);(try replace v:=v.below hh);(try replace m2:=m2.below hh);(try replace m3:=m3.below hh);(try replace XA:=XA.below hh);(try replace XB:=XB.below hh);(try replace Z:=Z.below hh);(try replace Z1:=Z1.below hh);(try replace Z2:=Z2.below hh);(try replace Z3:=Z3.below hh);(try replace XP:=XP.below hh);(try replace XQ:=XQ.below hh);(try replace XU:=XU.below hh);(try replace XV:=XV.below hh);replace hb:=bend hb hh)
  | (go_at_call 52;(with_reducible refine (zmul_zr (k+k2) y v (by omega) (by omega) (by omega)).mono ?_);rintro e w_m2 ⟨s_m2,A_m2,n_m2,c_m2,rfl,m2,hh⟩
     (try replace X:=X.below hh);(try replace Q:=Q.below hh);(try replace Y:=Y.below hh);(try replace R:=R.below hh);(try replace x:=x.below hh);(try replace y:=y.below hh);(try replace u:=u.below hh);(try replace v:=v.below hh);(try replace m1:=m1.below hh);(try replace m3:=m3.below hh);(try replace XA:=XA.below hh);(try replace XB:=XB.below hh);(try replace Z:=Z.below hh);(try replace Z1:=Z1.below hh);(try replace Z2:=Z2.below hh);(try replace Z3:=Z3.below hh);(try replace XP:=XP.below hh);(try replace XQ:=XQ.below hh);(try replace XU:=XU.below hh);(try replace XV:=XV.below hh);replace hb:=bend hb hh;obtain ⟨z0,z1⟩:=Z1.all;have z2:=Z1.f0;have z3:=Z1.f1;obtain ⟨y0,y1⟩:=Z2.all;have y2:=Z2.f0;have y3:=Z2.f1
     have Z2o:=Z2.other (k:=w.heap.size+1+1) (by omega) (.bool s_m1) (.slice A_m1 n_m1 c_m1)
     obtain ⟨zo0,zo1⟩:=Z2o.all;have zo2:=Z2o.f0;have zo3:=Z2o.f1))
 go_wp2_with fail
 have G1:=(Z1.set2 (.bool s_m1) (.slice A_m1 n_m1 c_m1)).other (k:=w.heap.size+1+1+1) (by omega) (.bool s_m2) (.slice A_m2 n_m2 c_m2)
 have G2:=(Z2.other (k:=w.heap.size+1+1) (by omega) (.bool s_m1) (.slice A_m1 n_m1 c_m1)).set2 (.bool s_m2) (.slice A_m2 n_m2 c_m2)
 obtain ⟨g0,g1⟩:=G1.all;have g2:=G2.c0;have g3:=G2.c1
 have HT:=two_set hb (by omega) (by omega) (by omega) Z1 Z2 m1 m2 (.bool s_m1) (.slice A_m1 n_m1 c_m1) (.bool s_m2) (.slice A_m2 n_m2 c_m2)
 refine bodyPost_ret (v:=.tuple #[.agg #[.bool s_m1,.slice A_m1 n_m1 c_m1],.agg #[.bool s_m2,.slice A_m2 n_m2 c_m2]]) (by simp [results,Tryz.results60,go_sem,g0,g1,g2,g3]) rfl ?_
 exact ⟨_,_,_,_,_,_,_,_,rfl,HT.1,HT.2.1,HT.2.2⟩
theorem rquot_q {s t:Bool} {A A' B B':Option Addr} {n c n' c' m d m' d' k k2:Nat} {p p2:Int} {q q2:Nat} (X:ZR w s A n c p k) (Q:NR w A' n' c' q k) (Y:ZR w t B m d p2 k2) (R:NR w B' m' d' q2 k2) (hk:k≤40000) (hkb:k2≤40000) (h40:k≤40000 ∨ k2≤40000) (hk1:1≤k) (hk3:1≤k2) :
 Calls Tryz.prog 91 #[.agg #[.bool s,.slice A n c,.slice A' n' c'],.agg #[.bool t,.slice B m d,.slice B' m' d']] w (GivesP w (p*(den1 q2:Int)) ((den1 q:Int)*p2) (k+k2)):=by
 go_enter Tryz.func91,Tryz.ntmps91
 go_wp2_with fail
 generalize hW:World.alloc _ _=W
 obtain ⟨hb,XA,XB,Z1,Z2,hzW⟩:=mkbx12_8 hW;clear hW;replace X:=X.below hb;replace Q:=Q.below hb;replace Y:=Y.below hb;replace R:=R.below hb;obtain ⟨xa0,xa1,xa2⟩:=XA.all;obtain ⟨xb0,xb1,xb2⟩:=XB.all
 go_upto_region 2 with (first
  | (go_at_call 50;(with_reducible refine (parts_any X Q (by omega) hk1).mono ?_);rintro e w_p ⟨s_x,A_x,n_x,c_x,s_y,A_y,n_y,c_y,rfl,x,y,hh⟩
     (try replace X:=X.below hh);(try replace Q:=Q.below hh);(try replace Y:=Y.below hh);(try replace R:=R.below hh);(try replace u:=u.below hh);(try replace v:=v.below hh);(try replace m1:=m1.below hh);(try replace m2:=m2.below hh);(try replace m3:=m3.below hh);(try replace XA:=XA.below hh);(try replace XB:=XB.below hh);(try replace Z:=Z.below hh);(try replace Z1:=Z1.below hh);(try replace Z2:=Z2.below hh);(try replace Z3:=Z3.below hh);(try replace XP:=XP.below hh);(try replace XQ:=XQ.below hh);(try replace XU:=XU.below hh);(try replace XV:=XV.below hh);replace hb:=bend hb hh))
 have hp1:=Z2.lt
 generalize hW:World.alloc _ _=W2
 obtain ⟨hh,XP,XQ,hzW2⟩:=mkbx11_8 hW;clear hW;(try replace X:=X.below hh);(try replace Q:=Q.below hh);(try replace Y:=Y.below hh);(try replace R:=R.below hh);(try replace x:=x.below hh);(try replace y:=y.below hh);(try replace XA:=XA.below hh);(try replace XB:=XB.below hh);(try replace Z1:=Z1.below hh);(try replace Z2:=Z2.below hh);replace hb:=bend hb hh;obtain ⟨xb0,xb1,xb2⟩:=XB.all
 go_upto_region 3 with (first
  | (go_at_call 50;(with_reducible refine (parts_any Y R (by omega) hk3).mono ?_);rintro e w_u ⟨s_u,A_u,n_u,c_u,s_v,A_v,n_v,c_v,rfl,u,v,hh⟩
     (try replace X:=X.below hh);(try replace Q:=Q.below hh);(try replace Y:=Y.below hh);(try replace R:=R.below hh);(try replace x:=x.below hh);(try replace y:=y.below hh);(try replace m1:=m1.below hh);(try replace m2:=m2.below hh);(try replace m3:=m3.below hh);(try replace XA:=XA.below hh);(try replace XB:=XB.below hh);(try replace Z:=Z.below hh);(try replace Z1:=Z1.below hh);(try replace Z2:=Z2.below hh);(try replace Z3:=Z3.below hh);(try replace XP:=XP.below hh);(try replace XQ:=XQ.below hh);(try replace XU:=XU.below hh);(try replace XV:=XV.below hh);replace hb:=bend hb hh))
 have hu1:=XQ.lt
 generalize hW:World.alloc _ _=W3
 obtain ⟨hh,XU,XV,hzW3⟩:=mkbx11_8 hW;clear hW;(try replace x:=x.below hh);(try replace y:=y.below hh);(try replace u:=u.below hh);(try replace v:=v.below hh);(try replace XP:=XP.below hh);(try replace XQ:=XQ.below hh);(try replace Z1:=Z1.below hh);(try replace Z2:=Z2.below hh);replace hb:=bend hb hh
 replace x:=x.below (Below.refl _ _).drew
 replace y:=y.below (Below.refl _ _).drew
 replace u:=u.below (Below.refl _ _).drew
 replace v:=v.below (Below.refl _ _).drew
 replace Z1:=Z1.below (Below.refl _ _).drew
 replace Z2:=Z2.below (Below.refl _ _).drew
 replace XP:=XP.below (Below.refl _ _).drew
 replace XQ:=XQ.below (Below.refl _ _).drew
 replace XU:=XU.below (Below.refl _ _).drew
 replace XV:=XV.below (Below.refl _ _).drew
 replace hb:=hb.drew
 go_region_held3 (fun w'=>w'.cell? ⟨w_p.heap.size,0,none⟩=some (.bool s_x)∧w'.cell? ⟨w_p.heap.size,1,none⟩=some (.slice A_x n_x c_x)∧w'.cell? ⟨w_p.heap.size+1,0,none⟩=some (.bool s_y)∧w'.cell? ⟨w_p.heap.size+1,1,none⟩=some (.slice A_y n_y c_y)∧w'.cell? ⟨w_u.heap.size,0,none⟩=some (.bool s_u)∧w'.cell? ⟨w_u.heap.size,1,none⟩=some (.slice A_u n_u c_u)∧w'.cell? ⟨w_u.heap.size+1,0,none⟩=some (.bool s_v)∧w'.cell? ⟨w_u.heap.size+1,1,none⟩=some (.slice A_v n_v c_v))
  (first | with_reducible exact ⟨XP.c0,XP.c1,XQ.c0,XQ.c1,XU.c0,XU.c1,XV.c0,XV.c1⟩ | with_reducible exact ⟨(set2_cell _ _ _ _ _ _ (by omega)).trans (XP.c0),(set2_cell _ _ _ _ _ _ (by omega)).trans (XP.c1),(set2_cell _ _ _ _ _ _ (by omega)).trans (XQ.c0),(set2_cell _ _ _ _ _ _ (by omega)).trans (XQ.c1),(set2_cell _ _ _ _ _ _ (by omega)).trans (XU.c0),(set2_cell _ _ _ _ _ _ (by omega)).trans (XU.c1),(set2_cell _ _ _ _ _ _ (by omega)).trans (XV.c0),(set2_cell _ _ _ _ _ _ (by omega)).trans (XV.c1)⟩ | with_reducible exact ⟨(set2_cell _ _ _ _ _ _ (by omega)).trans ((set2_cell _ _ _ _ _ _ (by omega)).trans (XP.c0)),(set2_cell _ _ _ _ _ _ (by omega)).trans ((set2_cell _ _ _ _ _ _ (by omega)).trans (XP.c1)),(set2_cell _ _ _ _ _ _ (by omega)).trans ((set2_cell _ _ _ _ _ _ (by omega)).trans (XQ.c0)),(set2_cell _ _ _ _ _ _ (by omega)).trans ((set2_cell _ _ _ _ _ _ (by omega)).trans (XQ.c1)),(set2_cell _ _ _ _ _ _ (by omega)).trans ((set2_cell _ _ _ _ _ _ (by omega)).trans (XU.c0)),(set2_cell _ _ _ _ _ _ (by omega)).trans ((set2_cell _ _ _ _ _ _ (by omega)).trans (XU.c1)),(set2_cell _ _ _ _ _ _ (by omega)).trans ((set2_cell _ _ _ _ _ _ (by omega)).trans (XV.c0)),(set2_cell _ _ _ _ _ _ (by omega)).trans ((set2_cell _ _ _ _ _ _ (by omega)).trans (XV.c1))⟩)
  (first
  | (go_at_call 52;(with_reducible refine (zmul_zr (k+k2) x v (by omega) (by omega) (by omega)).mono ?_);rintro e w_m1 ⟨s_m1,A_m1,n_m1,c_m1,rfl,m1,hh⟩
     (try replace X:=X.below hh);(try replace Q:=Q.below hh);(try replace Y:=Y.below hh);(try replace R:=R.below hh);(try replace x:=x.below hh);(try replace y:=y.below hh);(try replace u:=u.below hh);(try replace v:=v.below hh);(try replace m2:=m2.below hh);(try replace m3:=m3.below hh);(try replace XA:=XA.below hh);(try replace XB:=XB.below hh);(try replace Z:=Z.below hh);(try replace Z1:=Z1.below hh);(try replace Z2:=Z2.below hh);(try replace Z3:=Z3.below hh);(try replace XP:=XP.below hh);(try replace XQ:=XQ.below hh);(try replace XU:=XU.below hh);(try replace XV:=XV.below hh);replace hb:=bend hb hh)
  | (go_at_call 52;(with_reducible refine (zmul_zr (k+k2) y u (by omega) (by omega) (by omega)).mono ?_);rintro e w_m2 ⟨s_m2,A_m2,n_m2,c_m2,rfl,m2,hh⟩
     (try replace X:=X.below hh);(try replace Q:=Q.below hh);(try replace Y:=Y.below hh);(try replace R:=R.below hh);(try replace x:=x.below hh);(try replace y:=y.below hh);(try replace u:=u.below hh);(try replace v:=v.below hh);(try replace m1:=m1.below hh);(try replace m3:=m3.below hh);(try replace XA:=XA.below hh);(try replace XB:=XB.below hh);(try replace Z:=Z.below hh);(try replace Z1:=Z1.below hh);(try replace Z2:=Z2.below hh);(try replace Z3:=Z3.below hh);(try replace XP:=XP.below hh);(try replace XQ:=XQ.below hh);(try replace XU:=XU.below hh);(try replace XV:=XV.below hh);replace hb:=bend hb hh;obtain ⟨z0,z1⟩:=Z1.all;have z2:=Z1.f0;have z3:=Z1.f1;obtain ⟨y0,y1⟩:=Z2.all;have y2:=Z2.f0;have y3:=Z2.f1
     have Z2o:=Z2.other (k:=w.heap.size+1+1) (by omega) (.bool s_m1) (.slice A_m1 n_m1 c_m1)
     obtain ⟨zo0,zo1⟩:=Z2o.all;have zo2:=Z2o.f0;have zo3:=Z2o.f1))
 go_wp2_with fail
 have G1:=(Z1.set2 (.bool s_m1) (.slice A_m1 n_m1 c_m1)).other (k:=w.heap.size+1+1+1) (by omega) (.bool s_m2) (.slice A_m2 n_m2 c_m2)
 have G2:=(Z2.other (k:=w.heap.size+1+1) (by omega) (.bool s_m1) (.slice A_m1 n_m1 c_m1)).set2 (.bool s_m2) (.slice A_m2 n_m2 c_m2)
 obtain ⟨g0,g1⟩:=G1.all;have g2:=G2.c0;have g3:=G2.c1
 have HT:=two_set hb (by omega) (by omega) (by omega) Z1 Z2 m1 m2 (.bool s_m1) (.slice A_m1 n_m1 c_m1) (.bool s_m2) (.slice A_m2 n_m2 c_m2)
 refine bodyPost_ret (v:=.tuple #[.agg #[.bool s_m1,.slice A_m1 n_m1 c_m1],.agg #[.bool s_m2,.slice A_m2 n_m2 c_m2]]) (by simp [results,Tryz.results91,go_sem,g0,g1,g2,g3]) rfl ?_
 exact ⟨_,_,_,_,_,_,_,_,rfl,HT.1,HT.2.1,HT.2.2⟩
theorem three_set {w W:World} {g1 g2 g3 n c m d n3 d3 k n1 c1 n2 c2 n4 c4:Nat} {s t r a b b3:Bool} {A B C A1 A2 A4:Option Addr} {p q l:Int} (hb:Below w.heap.size w W) (h1:w.heap.size≤g1) (h2:w.heap.size≤g2) (h3:w.heap.size≤g3) (hne:g1 ≠ g2) (hne2:g1 ≠ g3) (hne3:g2 ≠ g3)
 (Z1:Bx W g1 (.bool a) (.slice A1 n1 c1)) (Z2:Bx W g2 (.bool b) (.slice A2 n2 c2)) (Z3:Bx W g3 (.bool b3) (.slice A4 n4 c4)) (X:ZR W s A n c p k) (Y:ZR W t B m d q k) (L:ZR W r C n3 d3 l k) (x y z u i j:Value) :
 ZR ((((((W.setCell ⟨g1,0,none⟩ x).setCell ⟨g1,1,none⟩ y).setCell ⟨g2,0,none⟩ z).setCell ⟨g2,1,none⟩ u).setCell ⟨g3,0,none⟩ i).setCell ⟨g3,1,none⟩ j) s A n c p k ∧
 ZR ((((((W.setCell ⟨g1,0,none⟩ x).setCell ⟨g1,1,none⟩ y).setCell ⟨g2,0,none⟩ z).setCell ⟨g2,1,none⟩ u).setCell ⟨g3,0,none⟩ i).setCell ⟨g3,1,none⟩ j) t B m d q k ∧
 ZR ((((((W.setCell ⟨g1,0,none⟩ x).setCell ⟨g1,1,none⟩ y).setCell ⟨g2,0,none⟩ z).setCell ⟨g2,1,none⟩ u).setCell ⟨g3,0,none⟩ i).setCell ⟨g3,1,none⟩ j) r C n3 d3 l k ∧
 Below w.heap.size w ((((((W.setCell ⟨g1,0,none⟩ x).setCell ⟨g1,1,none⟩ y).setCell ⟨g2,0,none⟩ z).setCell ⟨g2,1,none⟩ u).setCell ⟨g3,0,none⟩ i).setCell ⟨g3,1,none⟩ j):=by
 have h:=two_set hb h1 h2 hne Z1 Z2 X Y x y z u
 have h':=two_set hb h1 h2 hne Z1 Z2 L Y x y z u
 have Z4:=(Z3.other (k:=g1) (Ne.symm hne2) x y).other (k:=g2) (Ne.symm hne3) z u
 exact ⟨h.1.set2x Z4 i j,h.2.1.set2x Z4 i j,h'.1.set2x Z4 i j,(h.2.2.setCell h3 _).setCell h3 _⟩
def GivesA (w:World) (v u:Rat) (k:Nat) (e:Ending) (w':World):Prop :=
 ∃ (f g:Int) (L:Nat),L ≠ 0∧v=mkRat f L∧u=mkRat g L∧∃ s A n c t B m d r C n3 d3,e=.returned (.tuple #[.agg #[.bool s,.slice A n c],.agg #[.bool t,.slice B m d],.agg #[.bool r,.slice C n3 d3]]) ∧
  ZR w' s A n c f k∧ZR w' t B m d g k∧ZR w' r C n3 d3 (L:Int) k∧Below w.heap.size w w'
theorem mkbx13_8 {w W:World} {x0 x1 x2 x3 x4 x5 x6 x7 x8 x9 x10 x11:Value} (h:(((((w.alloc (Obj.cells #[x0,x1,x2] 27)).alloc (Obj.cells #[x3,x4,x5] 27)).alloc (Obj.cells #[x6,x7] 25)).alloc (Obj.cells #[x8,x9] 25)).alloc (Obj.cells #[x10,x11] 25))=W):Below w.heap.size w W∧B3 W (w.heap.size) x0 x1 x2∧B3 W (w.heap.size+1) x3 x4 x5∧Bx W (w.heap.size+1+1) x6 x7∧Bx W (w.heap.size+1+1+1) x8 x9∧Bx W (w.heap.size+1+1+1+1) x10 x11∧W.heap.size=w.heap.size+5:=by subst h;exact ⟨by exact ((((((Below.refl _ _).alloc (Nat.le_refl _) _).alloc (by simp) _).alloc (by simp;omega) _).alloc (by simp;omega) _).alloc (by simp;omega) _),by exact ((((B3.new' _ _ _ _ _ rfl).alloc _).alloc _).alloc _).alloc _,by exact (((B3.new' _ _ _ _ _ (by simp)).alloc _).alloc _).alloc _,by exact ((Bx.new' _ _ _ _ (by simp)).alloc _).alloc _,by exact (Bx.new' _ _ _ _ (by simp)).alloc _,by exact Bx.new' _ _ _ _ (by simp),by simp⟩
theorem ralike_q {s t:Bool} {A A' B B':Option Addr} {n c n' c' m d m' d' k k2:Nat} {p p2:Int} {q q2:Nat} (X:ZR w s A n c p k) (Q:NR w A' n' c' q k) (Y:ZR w t B m d p2 k2) (R:NR w B' m' d' q2 k2) (hk:k≤40000) (hkb:k2≤40000) (h40:k≤40000 ∨ k2≤40000) (hk1:1≤k) (hk3:1≤k2) :
 Calls Tryz.prog 100 #[.agg #[.bool s,.slice A n c,.slice A' n' c'],.agg #[.bool t,.slice B m d,.slice B' m' d']] w (GivesA w (mkRat p (den1 q)) (mkRat p2 (den1 q2)) (k+k2)):=by
 go_enter Tryz.func100,Tryz.ntmps100
 go_wp2_with fail
 generalize hW:World.alloc _ _=W
 obtain ⟨hb,XA,XB,Z1,Z2,Z3,hzW⟩:=mkbx13_8 hW;clear hW;replace X:=X.below hb;replace Q:=Q.below hb;replace Y:=Y.below hb;replace R:=R.below hb;obtain ⟨xa0,xa1,xa2⟩:=XA.all;obtain ⟨xb0,xb1,xb2⟩:=XB.all
 go_upto_region 2 with (first
  | (go_at_call 50;(with_reducible refine (parts_any X Q (by omega) hk1).mono ?_);rintro e w_p ⟨s_x,A_x,n_x,c_x,s_y,A_y,n_y,c_y,rfl,x,y,hh⟩
     (try replace X:=X.below hh);(try replace Q:=Q.below hh);(try replace Y:=Y.below hh);(try replace R:=R.below hh);(try replace u:=u.below hh);(try replace v:=v.below hh);(try replace m1:=m1.below hh);(try replace m2:=m2.below hh);(try replace m3:=m3.below hh);(try replace XA:=XA.below hh);(try replace XB:=XB.below hh);(try replace Z:=Z.below hh);(try replace Z1:=Z1.below hh);(try replace Z2:=Z2.below hh);(try replace Z3:=Z3.below hh);(try replace XP:=XP.below hh);(try replace XQ:=XQ.below hh);(try replace XU:=XU.below hh);(try replace XV:=XV.below hh);replace hb:=bend hb hh))
 have hp1:=Z3.lt
 generalize hW:World.alloc _ _=W2
 obtain ⟨hh,XP,XQ,hzW2⟩:=mkbx11_8 hW;clear hW;(try replace X:=X.below hh);(try replace Q:=Q.below hh);(try replace Y:=Y.below hh);(try replace R:=R.below hh);(try replace x:=x.below hh);(try replace y:=y.below hh);(try replace XA:=XA.below hh);(try replace XB:=XB.below hh);(try replace Z1:=Z1.below hh);(try replace Z2:=Z2.below hh);(try replace Z3:=Z3.below hh);replace hb:=bend hb hh;obtain ⟨xb0,xb1,xb2⟩:=XB.all
 go_upto_region 3 with (first
  | (go_at_call 50;(with_reducible refine (parts_any Y R (by omega) hk3).mono ?_);rintro e w_u ⟨s_u,A_u,n_u,c_u,s_v,A_v,n_v,c_v,rfl,u,v,hh⟩
     (try replace X:=X.below hh);(try replace Q:=Q.below hh);(try replace Y:=Y.below hh);(try replace R:=R.below hh);(try replace x:=x.below hh);(try replace y:=y.below hh);(try replace m1:=m1.below hh);(try replace m2:=m2.below hh);(try replace m3:=m3.below hh);(try replace XA:=XA.below hh);(try replace XB:=XB.below hh);(try replace Z:=Z.below hh);(try replace Z1:=Z1.below hh);(try replace Z2:=Z2.below hh);(try replace Z3:=Z3.below hh);(try replace XP:=XP.below hh);(try replace XQ:=XQ.below hh);(try replace XU:=XU.below hh);(try replace XV:=XV.below hh);replace hb:=bend hb hh))
 have hu1:=XQ.lt
 generalize hW:World.alloc _ _=W3
 obtain ⟨hh,XU,XV,hzW3⟩:=mkbx11_8 hW;clear hW;(try replace x:=x.below hh);(try replace y:=y.below hh);(try replace u:=u.below hh);(try replace v:=v.below hh);(try replace XP:=XP.below hh);(try replace XQ:=XQ.below hh);(try replace Z1:=Z1.below hh);(try replace Z2:=Z2.below hh);(try replace Z3:=Z3.below hh);replace hb:=bend hb hh;obtain ⟨xp0,xp1⟩:=XP.all;obtain ⟨xq0,xq1⟩:=XQ.all;obtain ⟨xu0,xu1⟩:=XU.all;obtain ⟨xv0,xv1⟩:=XV.all
 by_cases heq:den1 q=den1 q2
 · have HL:Hid (den1 q ≠ 0∧mkRat p2 (den1 q2)=mkRat p2 (den1 q)):=⟨den1_ne q,by rw [heq]⟩
   have HC:Hid (cmpZ (den1 q:Int) (den1 q2:Int)=0):=by show _=_;rw [heq];exact cmpZ_self _
   clear heq
   go_upto_region 4 with (first
    | (go_at_call 51;(with_reducible refine (zcmp_zr y v (by omega)).mono ?_);rintro e w_z ⟨rfl,hh⟩
       rw [HC.out];(try replace X:=X.below hh);(try replace Q:=Q.below hh);(try replace Y:=Y.below hh);(try replace R:=R.below hh);(try replace x:=x.below hh);(try replace y:=y.below hh);(try replace u:=u.below hh);(try replace v:=v.below hh);(try replace m1:=m1.below hh);(try replace m2:=m2.below hh);(try replace m3:=m3.below hh);(try replace XA:=XA.below hh);(try replace XB:=XB.below hh);(try replace Z:=Z.below hh);(try replace Z1:=Z1.below hh);(try replace Z2:=Z2.below hh);(try replace Z3:=Z3.below hh);(try replace XP:=XP.below hh);(try replace XQ:=XQ.below hh);(try replace XU:=XU.below hh);(try replace XV:=XV.below hh);replace hb:=bend hb hh;obtain ⟨xp0,xp1⟩:=XP.all;obtain ⟨xq0,xq1⟩:=XQ.all;obtain ⟨xu0,xu1⟩:=XU.all;obtain ⟨xv0,xv1⟩:=XV.all))
   obtain ⟨z0,z1⟩:=Z1.all;have z2:=Z1.f0;have z3:=Z1.f1;obtain ⟨y0,y1⟩:=Z2.all;have y2:=Z2.f0;have y3:=Z2.f1;obtain ⟨t0,t1⟩:=Z3.all;have t2:=Z3.f0;have t3:=Z3.f1
   have Z2o:=Z2.other (k:=w.heap.size+1+1) (by omega) (.bool s_x) (.slice A_x n_x c_x)
   obtain ⟨zo0,zo1⟩:=Z2o.all;have zo2:=Z2o.f0;have zo3:=Z2o.f1
   have Z3o:=Z3.other (k:=w.heap.size+1+1) (by omega) (.bool s_x) (.slice A_x n_x c_x)
   have Z3p:=Z3o.other (k:=w.heap.size+1+1+1) (by omega) (.bool s_u) (.slice A_u n_u c_u)
   obtain ⟨zp0,zp1⟩:=Z3p.all;have zp2:=Z3p.f0;have zp3:=Z3p.f1
   go_region
   go_wp2_with fail
   have G1:=((Z1.set2 (.bool s_x) (.slice A_x n_x c_x)).other (k:=w.heap.size+1+1+1) (by omega) (.bool s_u) (.slice A_u n_u c_u)).other (k:=w.heap.size+1+1+1+1) (by omega) (.bool s_y) (.slice A_y n_y c_y)
   have G2:=((Z2.other (k:=w.heap.size+1+1) (by omega) (.bool s_x) (.slice A_x n_x c_x)).set2 (.bool s_u) (.slice A_u n_u c_u)).other (k:=w.heap.size+1+1+1+1) (by omega) (.bool s_y) (.slice A_y n_y c_y)
   have G3:=((Z3.other (k:=w.heap.size+1+1) (by omega) (.bool s_x) (.slice A_x n_x c_x)).other (k:=w.heap.size+1+1+1) (by omega) (.bool s_u) (.slice A_u n_u c_u)).set2 (.bool s_y) (.slice A_y n_y c_y)
   obtain ⟨g0,g1⟩:=G1.all;have g2:=G2.c0;have g3:=G2.c1;have g4:=G3.c0;have g5:=G3.c1
   have HT:=three_set hb (by omega) (by omega) (by omega) (by omega) (by omega) (by omega) Z1 Z2 Z3 (x.more (show k≤k+k2 by omega)) (u.more (show k2≤k+k2 by omega)) (y.more (show k≤k+k2 by omega)) (.bool s_x) (.slice A_x n_x c_x) (.bool s_u) (.slice A_u n_u c_u) (.bool s_y) (.slice A_y n_y c_y)
   refine bodyPost_ret (v:=.tuple #[.agg #[.bool s_x,.slice A_x n_x c_x],.agg #[.bool s_u,.slice A_u n_u c_u],.agg #[.bool s_y,.slice A_y n_y c_y]]) (by simp [results,Tryz.results100,go_sem,g0,g1,g2,g3,g4,g5]) rfl ?_
   exact ⟨_,_,_,HL.out.1,rfl,HL.out.2,_,_,_,_,_,_,_,_,_,_,_,_,rfl,HT.1.drew,HT.2.1.drew,HT.2.2.1.drew,HT.2.2.2.drew⟩
 · have HL : Hid (den1 q * den1 q2 ≠ 0 ∧ mkRat p (den1 q) = mkRat (p * (den1 q2 : Int)) (den1 q * den1 q2) ∧ mkRat p2 (den1 q2) = mkRat (p2 * (den1 q : Int)) (den1 q * den1 q2)) :=
     ⟨Nat.mul_ne_zero (den1_ne q) (den1_ne q2),(Rat.mkRat_mul_right (den1_ne q2)).symm,by rw [Nat.mul_comm];exact (Rat.mkRat_mul_right (den1_ne q)).symm⟩
   obtain ⟨K,hK,hK0⟩:∃ K,cmpZ (den1 q:Int) (den1 q2:Int)=K∧((K:Int) == 0)=false:=⟨_,rfl,by
    rw [beq_eq_false_iff_ne];intro h;exact heq (by have:=cmpZ_zero h;omega)⟩
   have HC:=Lib.hid hK;clear heq hK
   go_upto_region 5 with (first
    | (go_at_call 51;(with_reducible refine (zcmp_zr y v (by omega)).mono ?_);rintro e w_z ⟨rfl,hh⟩
       rw [HC.out];(try replace X:=X.below hh);(try replace Q:=Q.below hh);(try replace Y:=Y.below hh);(try replace R:=R.below hh);(try replace x:=x.below hh);(try replace y:=y.below hh);(try replace u:=u.below hh);(try replace v:=v.below hh);(try replace m1:=m1.below hh);(try replace m2:=m2.below hh);(try replace m3:=m3.below hh);(try replace XA:=XA.below hh);(try replace XB:=XB.below hh);(try replace Z:=Z.below hh);(try replace Z1:=Z1.below hh);(try replace Z2:=Z2.below hh);(try replace Z3:=Z3.below hh);(try replace XP:=XP.below hh);(try replace XQ:=XQ.below hh);(try replace XU:=XU.below hh);(try replace XV:=XV.below hh);replace hb:=bend hb hh;obtain ⟨xp0,xp1⟩:=XP.all;obtain ⟨xq0,xq1⟩:=XQ.all;obtain ⟨xu0,xu1⟩:=XU.all;obtain ⟨xv0,xv1⟩:=XV.all))
   replace x:=x.below (Below.refl _ _).drew
   replace y:=y.below (Below.refl _ _).drew
   replace u:=u.below (Below.refl _ _).drew
   replace v:=v.below (Below.refl _ _).drew
   replace Z1:=Z1.below (Below.refl _ _).drew
   replace Z2:=Z2.below (Below.refl _ _).drew
   replace Z3:=Z3.below (Below.refl _ _).drew
   replace XP:=XP.below (Below.refl _ _).drew
   replace XQ:=XQ.below (Below.refl _ _).drew
   replace XU:=XU.below (Below.refl _ _).drew
   replace XV:=XV.below (Below.refl _ _).drew
   replace hb:=hb.drew
   go_region_held3 (fun w'=>w'.cell? ⟨w_p.heap.size,0,none⟩=some (.bool s_x)∧w'.cell? ⟨w_p.heap.size,1,none⟩=some (.slice A_x n_x c_x)∧w'.cell? ⟨w_p.heap.size+1,0,none⟩=some (.bool s_y)∧w'.cell? ⟨w_p.heap.size+1,1,none⟩=some (.slice A_y n_y c_y)∧w'.cell? ⟨w_u.heap.size,0,none⟩=some (.bool s_u)∧w'.cell? ⟨w_u.heap.size,1,none⟩=some (.slice A_u n_u c_u)∧w'.cell? ⟨w_u.heap.size+1,0,none⟩=some (.bool s_v)∧w'.cell? ⟨w_u.heap.size+1,1,none⟩=some (.slice A_v n_v c_v))
    (first | with_reducible exact ⟨XP.c0,XP.c1,XQ.c0,XQ.c1,XU.c0,XU.c1,XV.c0,XV.c1⟩ | with_reducible exact ⟨(set2_cell _ _ _ _ _ _ (by omega)).trans (XP.c0),(set2_cell _ _ _ _ _ _ (by omega)).trans (XP.c1),(set2_cell _ _ _ _ _ _ (by omega)).trans (XQ.c0),(set2_cell _ _ _ _ _ _ (by omega)).trans (XQ.c1),(set2_cell _ _ _ _ _ _ (by omega)).trans (XU.c0),(set2_cell _ _ _ _ _ _ (by omega)).trans (XU.c1),(set2_cell _ _ _ _ _ _ (by omega)).trans (XV.c0),(set2_cell _ _ _ _ _ _ (by omega)).trans (XV.c1)⟩ | with_reducible exact ⟨(set2_cell _ _ _ _ _ _ (by omega)).trans ((set2_cell _ _ _ _ _ _ (by omega)).trans (XP.c0)),(set2_cell _ _ _ _ _ _ (by omega)).trans ((set2_cell _ _ _ _ _ _ (by omega)).trans (XP.c1)),(set2_cell _ _ _ _ _ _ (by omega)).trans ((set2_cell _ _ _ _ _ _ (by omega)).trans (XQ.c0)),(set2_cell _ _ _ _ _ _ (by omega)).trans ((set2_cell _ _ _ _ _ _ (by omega)).trans (XQ.c1)),(set2_cell _ _ _ _ _ _ (by omega)).trans ((set2_cell _ _ _ _ _ _ (by omega)).trans (XU.c0)),(set2_cell _ _ _ _ _ _ (by omega)).trans ((set2_cell _ _ _ _ _ _ (by omega)).trans (XU.c1)),(set2_cell _ _ _ _ _ _ (by omega)).trans ((set2_cell _ _ _ _ _ _ (by omega)).trans (XV.c0)),(set2_cell _ _ _ _ _ _ (by omega)).trans ((set2_cell _ _ _ _ _ _ (by omega)).trans (XV.c1))⟩ | with_reducible exact ⟨(set2_cell _ _ _ _ _ _ (by omega)).trans ((set2_cell _ _ _ _ _ _ (by omega)).trans ((set2_cell _ _ _ _ _ _ (by omega)).trans (XP.c0))),(set2_cell _ _ _ _ _ _ (by omega)).trans ((set2_cell _ _ _ _ _ _ (by omega)).trans ((set2_cell _ _ _ _ _ _ (by omega)).trans (XP.c1))),(set2_cell _ _ _ _ _ _ (by omega)).trans ((set2_cell _ _ _ _ _ _ (by omega)).trans ((set2_cell _ _ _ _ _ _ (by omega)).trans (XQ.c0))),(set2_cell _ _ _ _ _ _ (by omega)).trans ((set2_cell _ _ _ _ _ _ (by omega)).trans ((set2_cell _ _ _ _ _ _ (by omega)).trans (XQ.c1))),(set2_cell _ _ _ _ _ _ (by omega)).trans ((set2_cell _ _ _ _ _ _ (by omega)).trans ((set2_cell _ _ _ _ _ _ (by omega)).trans (XU.c0))),(set2_cell _ _ _ _ _ _ (by omega)).trans ((set2_cell _ _ _ _ _ _ (by omega)).trans ((set2_cell _ _ _ _ _ _ (by omega)).trans (XU.c1))),(set2_cell _ _ _ _ _ _ (by omega)).trans ((set2_cell _ _ _ _ _ _ (by omega)).trans ((set2_cell _ _ _ _ _ _ (by omega)).trans (XV.c0))),(set2_cell _ _ _ _ _ _ (by omega)).trans ((set2_cell _ _ _ _ _ _ (by omega)).trans ((set2_cell _ _ _ _ _ _ (by omega)).trans (XV.c1)))⟩)
    (first
    | (go_at_call 52;(with_reducible refine (zmul_zr (k+k2) x v (by omega) (by omega) (by omega)).mono ?_);rintro e w_m1 ⟨s_m1,A_m1,n_m1,c_m1,rfl,m1,hh⟩
       (try replace X:=X.below hh);(try replace Q:=Q.below hh);(try replace Y:=Y.below hh);(try replace R:=R.below hh);(try replace x:=x.below hh);(try replace y:=y.below hh);(try replace u:=u.below hh);(try replace v:=v.below hh);(try replace m2:=m2.below hh);(try replace m3:=m3.below hh);(try replace XA:=XA.below hh);(try replace XB:=XB.below hh);(try replace Z:=Z.below hh);(try replace Z1:=Z1.below hh);(try replace Z2:=Z2.below hh);(try replace Z3:=Z3.below hh);(try replace XP:=XP.below hh);(try replace XQ:=XQ.below hh);(try replace XU:=XU.below hh);(try replace XV:=XV.below hh);replace hb:=bend hb hh)
    | (go_at_call 52;(with_reducible refine (zmul_zr (k+k2) u y (by omega) (by omega) (by omega)).mono ?_);rintro e w_m2 ⟨s_m2,A_m2,n_m2,c_m2,rfl,m2,hh⟩
       (try replace X:=X.below hh);(try replace Q:=Q.below hh);(try replace Y:=Y.below hh);(try replace R:=R.below hh);(try replace x:=x.below hh);(try replace y:=y.below hh);(try replace u:=u.below hh);(try replace v:=v.below hh);(try replace m1:=m1.below hh);(try replace m3:=m3.below hh);(try replace XA:=XA.below hh);(try replace XB:=XB.below hh);(try replace Z:=Z.below hh);(try replace Z1:=Z1.below hh);(try replace Z2:=Z2.below hh);(try replace Z3:=Z3.below hh);(try replace XP:=XP.below hh);(try replace XQ:=XQ.below hh);(try replace XU:=XU.below hh);(try replace XV:=XV.below hh);replace hb:=bend hb hh)
    | (go_at_call 52;(with_reducible refine (zmul_zr (k+k2) y v (by omega) (by omega) (by omega)).mono ?_);rintro e w_m3 ⟨s_m3,A_m3,n_m3,c_m3,rfl,m3,hh⟩
       (try replace X:=X.below hh);(try replace Q:=Q.below hh);(try replace Y:=Y.below hh);(try replace R:=R.below hh);(try replace x:=x.below hh);(try replace y:=y.below hh);(try replace u:=u.below hh);(try replace v:=v.below hh);(try replace m1:=m1.below hh);(try replace m2:=m2.below hh);(try replace XA:=XA.below hh);(try replace XB:=XB.below hh);(try replace Z:=Z.below hh);(try replace Z1:=Z1.below hh);(try replace Z2:=Z2.below hh);(try replace Z3:=Z3.below hh);(try replace XP:=XP.below hh);(try replace XQ:=XQ.below hh);(try replace XU:=XU.below hh);(try replace XV:=XV.below hh);replace hb:=bend hb hh;obtain ⟨z0,z1⟩:=Z1.all;have z2:=Z1.f0;have z3:=Z1.f1;obtain ⟨y0,y1⟩:=Z2.all;have y2:=Z2.f0;have y3:=Z2.f1;obtain ⟨t0,t1⟩:=Z3.all;have t2:=Z3.f0;have t3:=Z3.f1
       have Z2o:=Z2.other (k:=w.heap.size+1+1) (by omega) (.bool s_m1) (.slice A_m1 n_m1 c_m1)
       obtain ⟨zo0,zo1⟩:=Z2o.all;have zo2:=Z2o.f0;have zo3:=Z2o.f1
       have Z3o:=Z3.other (k:=w.heap.size+1+1) (by omega) (.bool s_m1) (.slice A_m1 n_m1 c_m1)
       have Z3p:=Z3o.other (k:=w.heap.size+1+1+1) (by omega) (.bool s_m2) (.slice A_m2 n_m2 c_m2)
       obtain ⟨zp0,zp1⟩:=Z3p.all;have zp2:=Z3p.f0;have zp3:=Z3p.f1))
   go_wp2_with fail
   rw [← Int.natCast_mul] at m3
   have G1:=((Z1.set2 (.bool s_m1) (.slice A_m1 n_m1 c_m1)).other (k:=w.heap.size+1+1+1) (by omega) (.bool s_m2) (.slice A_m2 n_m2 c_m2)).other (k:=w.heap.size+1+1+1+1) (by omega) (.bool s_m3) (.slice A_m3 n_m3 c_m3)
   have G2:=((Z2.other (k:=w.heap.size+1+1) (by omega) (.bool s_m1) (.slice A_m1 n_m1 c_m1)).set2 (.bool s_m2) (.slice A_m2 n_m2 c_m2)).other (k:=w.heap.size+1+1+1+1) (by omega) (.bool s_m3) (.slice A_m3 n_m3 c_m3)
   have G3:=((Z3.other (k:=w.heap.size+1+1) (by omega) (.bool s_m1) (.slice A_m1 n_m1 c_m1)).other (k:=w.heap.size+1+1+1) (by omega) (.bool s_m2) (.slice A_m2 n_m2 c_m2)).set2 (.bool s_m3) (.slice A_m3 n_m3 c_m3)
   obtain ⟨g0,g1⟩:=G1.all;have g2:=G2.c0;have g3:=G2.c1;have g4:=G3.c0;have g5:=G3.c1
   have HT:=three_set hb (by omega) (by omega) (by omega) (by omega) (by omega) (by omega) Z1 Z2 Z3 m1 m2 m3 (.bool s_m1) (.slice A_m1 n_m1 c_m1) (.bool s_m2) (.slice A_m2 n_m2 c_m2) (.bool s_m3) (.slice A_m3 n_m3 c_m3)
   refine bodyPost_ret (v:=.tuple #[.agg #[.bool s_m1,.slice A_m1 n_m1 c_m1],.agg #[.bool s_m2,.slice A_m2 n_m2 c_m2],.agg #[.bool s_m3,.slice A_m3 n_m3 c_m3]]) (by simp [results,Tryz.results100,go_sem,g0,g1,g2,g3,g4,g5]) rfl ?_
   exact ⟨_,_,_,HL.out.1,HL.out.2.1,HL.out.2.2,_,_,_,_,_,_,_,_,_,_,_,_,rfl,HT.1,HT.2.1,HT.2.2.1,HT.2.2.2⟩
end
section
open Go Go.RowKit
def GivesF (w:World) (v:Rat) (k:Nat) (e:Ending) (w':World):Prop :=
 ∃ (f:Int) (L:Nat),L ≠ 0∧v=mkRat f L∧∃ s A n c t B m d,e=.returned (.tuple #[.agg #[.bool s,.slice A n c],.agg #[.bool t,.slice B m d]])∧ZR w' s A n c f k∧ZR w' t B m d (L:Int) k∧Below w.heap.size w w'
theorem rsum_q {s t:Bool} {A A' B B':Option Addr} {n c n' c' m d m' d' k k2:Nat} {v0 u0:Rat} (X0:QR w s A n c A' n' c' v0 k) (Y0:QR w t B m d B' m' d' u0 k2) (hk:k≤40000) (hkb:k2≤40000) (h40:k≤40000 ∨ k2≤40000) (hk1:1≤k) (hk3:1≤k2) :
 Calls Tryz.prog 59 #[.agg #[.bool s,.slice A n c,.slice A' n' c'],.agg #[.bool t,.slice B m d,.slice B' m' d']] w (GivesF w (v0+u0) (k+k2+1)):=by
 obtain ⟨p,q,X,Q,rfl⟩:=X0
 obtain ⟨p2,q2,Y,R,rfl⟩:=Y0
 go_enter Tryz.func59,Tryz.ntmps59
 go_wp2_with fail
 generalize hW:World.alloc _ _=W
 obtain ⟨hb,XA,XB,Z1,Z2,hzW⟩:=mkbx12_8 hW;clear hW;replace X:=X.below hb;replace Q:=Q.below hb;replace Y:=Y.below hb;replace R:=R.below hb;obtain ⟨xa0,xa1,xa2⟩:=XA.all;obtain ⟨xb0,xb1,xb2⟩:=XB.all;have zf0:=Z2.c0
 go_upto_region 2 with (first
  | (go_at_call 100;(with_reducible refine (ralike_q X Q Y R hk hkb h40 hk1 hk3).mono ?_);rintro e w_a ⟨f,g,L,hL0,hL1,hL2,s_x,A_x,n_x,c_x,s_y,A_y,n_y,c_y,s_l,A_l,n_l,c_l,rfl,x,y,l,hh⟩
     (try replace X:=X.below hh);(try replace Q:=Q.below hh);(try replace Y:=Y.below hh);(try replace R:=R.below hh);(try replace m1:=m1.below hh);(try replace XA:=XA.below hh);(try replace XB:=XB.below hh);(try replace Z1:=Z1.below hh);(try replace Z2:=Z2.below hh);(try replace XP:=XP.below hh);(try replace XQ:=XQ.below hh);replace hb:=bend hb hh;have HL0:=Lib.hid hL0;have HL1:=Lib.hid hL1;have HL2:=Lib.hid hL2;clear hL0 hL1 hL2
     have Z2b:=(Z2.alloc (Obj.cells #[Value.bool s_x,Value.slice A_x n_x c_x] 25)).alloc (Obj.cells #[Value.bool s_y,Value.slice A_y n_y c_y] 25)
     obtain ⟨zz0,zz1⟩:=Z2b.all;have zz2:=Z2b.f0;have zz3:=Z2b.f1))
 have hp1:=Z2.lt
 generalize hW:World.alloc _ _=W0
 obtain ⟨hh,XP0,XQ0⟩:=mkbx4_6 hW;clear hW;replace x:=x.below hh;replace y:=y.below hh;replace l:=l.below hh;replace Z1:=Z1.below hh;replace Z2:=Z2.below hh;replace hb:=bend hb hh
 generalize hW:(W0.setCell ⟨w.heap.size+1+1+1,0,none⟩ (.bool s_l)).setCell ⟨w.heap.size+1+1+1,1,none⟩ (.slice A_l n_l c_l)=W1
 replace x:ZR W1 s_x A_x n_x c_x f (k+k2):=by subst hW;exact x.set2x Z2 _ _
 replace y:ZR W1 s_y A_y n_y c_y g (k+k2):=by subst hW;exact y.set2x Z2 _ _
 replace l:ZR W1 s_l A_l n_l c_l (L:Int) (k+k2):=by subst hW;exact l.set2x Z2 _ _
 have XP:Bx W1 (w_a.heap.size) (Value.bool s_x) (Value.slice A_x n_x c_x):=by subst hW;exact XP0.other (by omega) _ _
 have XQ:Bx W1 (w_a.heap.size+1) (Value.bool s_y) (Value.slice A_y n_y c_y):=by subst hW;exact XQ0.other (by omega) _ _
 replace Z1:Bx W1 (w.heap.size+1+1) (Value.bool false) (Value.slice none 0 0):=by subst hW;exact Z1.other (by omega) _ _
 replace hb:Below w.heap.size w W1:=by subst hW;exact below_set2 hb (by omega) _ _
 have Z2':Bx W1 (w.heap.size+1+1+1) (Value.bool s_l) (Value.slice A_l n_l c_l):=by subst hW;exact Z2.set2 _ _
 clear hW XP0 XQ0 Z2
 have Z2:=Z2'
 clear Z2'
 replace x:=x.below (Below.refl _ _).drew
 replace y:=y.below (Below.refl _ _).drew
 replace l:=l.below (Below.refl _ _).drew
 replace Z1:=Z1.below (Below.refl _ _).drew
 replace Z2:=Z2.below (Below.refl _ _).drew
 replace XP:=XP.below (Below.refl _ _).drew
 replace XQ:=XQ.below (Below.refl _ _).drew
 replace hb:=hb.drew
 go_region_held3 (fun w'=>w'.cell? ⟨w_a.heap.size,0,none⟩=some (.bool s_x)∧w'.cell? ⟨w_a.heap.size,1,none⟩=some (.slice A_x n_x c_x)∧w'.cell? ⟨w_a.heap.size+1,0,none⟩=some (.bool s_y)∧w'.cell? ⟨w_a.heap.size+1,1,none⟩=some (.slice A_y n_y c_y)∧w'.cell? ⟨w.heap.size+1+1+1,0,none⟩=some (.bool s_l)∧w'.cell? ⟨w.heap.size+1+1+1,1,none⟩=some (.slice A_l n_l c_l))
  (first | with_reducible exact ⟨XP.c0,XP.c1,XQ.c0,XQ.c1,Z2.c0,Z2.c1⟩ | with_reducible exact ⟨(set2_cell _ _ _ _ _ _ (by omega)).trans (XP.c0),(set2_cell _ _ _ _ _ _ (by omega)).trans (XP.c1),(set2_cell _ _ _ _ _ _ (by omega)).trans (XQ.c0),(set2_cell _ _ _ _ _ _ (by omega)).trans (XQ.c1),(set2_cell _ _ _ _ _ _ (by omega)).trans (Z2.c0),(set2_cell _ _ _ _ _ _ (by omega)).trans (Z2.c1)⟩ | with_reducible exact ⟨(set2_cell _ _ _ _ _ _ (by omega)).trans ((set2_cell _ _ _ _ _ _ (by omega)).trans (XP.c0)),(set2_cell _ _ _ _ _ _ (by omega)).trans ((set2_cell _ _ _ _ _ _ (by omega)).trans (XP.c1)),(set2_cell _ _ _ _ _ _ (by omega)).trans ((set2_cell _ _ _ _ _ _ (by omega)).trans (XQ.c0)),(set2_cell _ _ _ _ _ _ (by omega)).trans ((set2_cell _ _ _ _ _ _ (by omega)).trans (XQ.c1)),Z2q.c0,Z2q.c1⟩)
  (first
  | (go_at_call 101;(with_reducible refine (zadd_zr (k+k2+1) x y (by omega) (by omega) (by omega)).mono ?_);rintro e w_m1 ⟨s_m1,A_m1,n_m1,c_m1,rfl,m1,hh⟩
     (try replace X:=X.below hh);(try replace Q:=Q.below hh);(try replace Y:=Y.below hh);(try replace R:=R.below hh);(try replace x:=x.below hh);(try replace y:=y.below hh);(try replace l:=l.below hh);(try replace XA:=XA.below hh);(try replace XB:=XB.below hh);(try replace Z1:=Z1.below hh);(try replace Z2:=Z2.below hh);(try replace XP:=XP.below hh);(try replace XQ:=XQ.below hh);replace hb:=bend hb hh;obtain ⟨z0,z1⟩:=Z1.all;have z2:=Z1.f0;have z3:=Z1.f1;obtain ⟨y0,y1⟩:=Z2.all;have y2:=Z2.f0;have y3:=Z2.f1
     have Z2o:=Z2.other (k:=w.heap.size+1+1) (by omega) (.bool s_m1) (.slice A_m1 n_m1 c_m1)
     obtain ⟨zo0,zo1⟩:=Z2o.all;have zo2:=Z2o.f0;have zo3:=Z2o.f1
     have Z2q:=Z2o.set2 (.bool s_l) (.slice A_l n_l c_l)))
 go_wp2_with fail
 have G1:=(Z1.set2 (.bool s_m1) (.slice A_m1 n_m1 c_m1)).other (k:=w.heap.size+1+1+1) (by omega) (.bool s_l) (.slice A_l n_l c_l)
 have G2:=(Z2.other (k:=w.heap.size+1+1) (by omega) (.bool s_m1) (.slice A_m1 n_m1 c_m1)).set2 (.bool s_l) (.slice A_l n_l c_l)
 obtain ⟨g0,g1⟩:=G1.all;have g2:=G2.c0;have g3:=G2.c1
 have HT:=two_set hb (by omega) (by omega) (by omega) Z1 Z2 m1 (l.more (show k+k2≤k+k2+1 by omega)) (.bool s_m1) (.slice A_m1 n_m1 c_m1) (.bool s_l) (.slice A_l n_l c_l)
 refine bodyPost_ret (v:=.tuple #[.agg #[.bool s_m1,.slice A_m1 n_m1 c_m1],.agg #[.bool s_l,.slice A_l n_l c_l]]) (by simp [results,Tryz.results59,go_sem,g0,g1,g2,g3]) rfl ?_
 exact ⟨_,L,HL0.out,by rw [HL1.out,HL2.out];exact mk_add_same HL0.out,_,_,_,_,_,_,_,_,rfl,HT.1,HT.2.1,HT.2.2⟩
theorem rdiff_q {s t:Bool} {A A' B B':Option Addr} {n c n' c' m d m' d' k k2:Nat} {v0 u0:Rat} (X0:QR w s A n c A' n' c' v0 k) (Y0:QR w t B m d B' m' d' u0 k2) (hk:k≤40000) (hkb:k2≤40000) (h40:k≤40000 ∨ k2≤40000) (hk1:1≤k) (hk3:1≤k2) :
 Calls Tryz.prog 125 #[.agg #[.bool s,.slice A n c,.slice A' n' c'],.agg #[.bool t,.slice B m d,.slice B' m' d']] w (GivesF w (v0 - u0) (k+k2+1)):=by
 obtain ⟨p,q,X,Q,rfl⟩:=X0
 obtain ⟨p2,q2,Y,R,rfl⟩:=Y0
 go_enter Tryz.func125,Tryz.ntmps125
 go_wp2_with fail
 generalize hW:World.alloc _ _=W
 obtain ⟨hb,XA,XB,Z1,Z2,hzW⟩:=mkbx12_8 hW;clear hW;replace X:=X.below hb;replace Q:=Q.below hb;replace Y:=Y.below hb;replace R:=R.below hb;obtain ⟨xa0,xa1,xa2⟩:=XA.all;obtain ⟨xb0,xb1,xb2⟩:=XB.all;have zf0:=Z2.c0
 go_upto_region 2 with (first
  | (go_at_call 100;(with_reducible refine (ralike_q X Q Y R hk hkb h40 hk1 hk3).mono ?_);rintro e w_a ⟨f,g,L,hL0,hL1,hL2,s_x,A_x,n_x,c_x,s_y,A_y,n_y,c_y,s_l,A_l,n_l,c_l,rfl,x,y,l,hh⟩
     (try replace X:=X.below hh);(try replace Q:=Q.below hh);(try replace Y:=Y.below hh);(try replace R:=R.below hh);(try replace m1:=m1.below hh);(try replace XA:=XA.below hh);(try replace XB:=XB.below hh);(try replace Z1:=Z1.below hh);(try replace Z2:=Z2.below hh);(try replace XP:=XP.below hh);(try replace XQ:=XQ.below hh);replace hb:=bend hb hh;have HL0:=Lib.hid hL0;have HL1:=Lib.hid hL1;have HL2:=Lib.hid hL2;clear hL0 hL1 hL2
     have Z2b:=(Z2.alloc (Obj.cells #[Value.bool s_x,Value.slice A_x n_x c_x] 25)).alloc (Obj.cells #[Value.bool s_y,Value.slice A_y n_y c_y] 25)
     obtain ⟨zz0,zz1⟩:=Z2b.all;have zz2:=Z2b.f0;have zz3:=Z2b.f1))
 have hp1:=Z2.lt
 generalize hW:World.alloc _ _=W0
 obtain ⟨hh,XP0,XQ0⟩:=mkbx4_6 hW;clear hW;replace x:=x.below hh;replace y:=y.below hh;replace l:=l.below hh;replace Z1:=Z1.below hh;replace Z2:=Z2.below hh;replace hb:=bend hb hh
 generalize hW:(W0.setCell ⟨w.heap.size+1+1+1,0,none⟩ (.bool s_l)).setCell ⟨w.heap.size+1+1+1,1,none⟩ (.slice A_l n_l c_l)=W1
 replace x:ZR W1 s_x A_x n_x c_x f (k+k2):=by subst hW;exact x.set2x Z2 _ _
 replace y:ZR W1 s_y A_y n_y c_y g (k+k2):=by subst hW;exact y.set2x Z2 _ _
 replace l:ZR W1 s_l A_l n_l c_l (L:Int) (k+k2):=by subst hW;exact l.set2x Z2 _ _
 have XP:Bx W1 (w_a.heap.size) (Value.bool s_x) (Value.slice A_x n_x c_x):=by subst hW;exact XP0.other (by omega) _ _
 have XQ:Bx W1 (w_a.heap.size+1) (Value.bool s_y) (Value.slice A_y n_y c_y):=by subst hW;exact XQ0.other (by omega) _ _
 replace Z1:Bx W1 (w.heap.size+1+1) (Value.bool false) (Value.slice none 0 0):=by subst hW;exact Z1.other (by omega) _ _
 replace hb:Below w.heap.size w W1:=by subst hW;exact below_set2 hb (by omega) _ _
 have Z2':Bx W1 (w.heap.size+1+1+1) (Value.bool s_l) (Value.slice A_l n_l c_l):=by subst hW;exact Z2.set2 _ _
 clear hW XP0 XQ0 Z2
 have Z2:=Z2'
 clear Z2'
 replace x:=x.below (Below.refl _ _).drew
 replace y:=y.below (Below.refl _ _).drew
 replace l:=l.below (Below.refl _ _).drew
 replace Z1:=Z1.below (Below.refl _ _).drew
 replace Z2:=Z2.below (Below.refl _ _).drew
 replace XP:=XP.below (Below.refl _ _).drew
 replace XQ:=XQ.below (Below.refl _ _).drew
 replace hb:=hb.drew
 go_region_held3 (fun w'=>w'.cell? ⟨w_a.heap.size,0,none⟩=some (.bool s_x)∧w'.cell? ⟨w_a.heap.size,1,none⟩=some (.slice A_x n_x c_x)∧w'.cell? ⟨w_a.heap.size+1,0,none⟩=some (.bool s_y)∧w'.cell? ⟨w_a.heap.size+1,1,none⟩=some (.slice A_y n_y c_y)∧w'.cell? ⟨w.heap.size+1+1+1,0,none⟩=some (.bool s_l)∧w'.cell? ⟨w.heap.size+1+1+1,1,none⟩=some (.slice A_l n_l c_l))
  (first | with_reducible exact ⟨XP.c0,XP.c1,XQ.c0,XQ.c1,Z2.c0,Z2.c1⟩ | with_reducible exact ⟨(set2_cell _ _ _ _ _ _ (by omega)).trans (XP.c0),(set2_cell _ _ _ _ _ _ (by omega)).trans (XP.c1),(set2_cell _ _ _ _ _ _ (by omega)).trans (XQ.c0),(set2_cell _ _ _ _ _ _ (by omega)).trans (XQ.c1),(set2_cell _ _ _ _ _ _ (by omega)).trans (Z2.c0),(set2_cell _ _ _ _ _ _ (by omega)).trans (Z2.c1)⟩ | with_reducible exact ⟨(set2_cell _ _ _ _ _ _ (by omega)).trans ((set2_cell _ _ _ _ _ _ (by omega)).trans (XP.c0)),(set2_cell _ _ _ _ _ _ (by omega)).trans ((set2_cell _ _ _ _ _ _ (by omega)).trans (XP.c1)),(set2_cell _ _ _ _ _ _ (by omega)).trans ((set2_cell _ _ _ _ _ _ (by omega)).trans (XQ.c0)),(set2_cell _ _ _ _ _ _ (by omega)).trans ((set2_cell _ _ _ _ _ _ (by omega)).trans (XQ.c1)),Z2q.c0,Z2q.c1⟩)
  (first
  | (go_at_call 148;(with_reducible refine (zsub_zr (k+k2+1) x y (by omega) (by omega) (by omega)).mono ?_);rintro e w_m1 ⟨s_m1,A_m1,n_m1,c_m1,rfl,m1,hh⟩
     (try replace X:=X.below hh);(try replace Q:=Q.below hh);(try replace Y:=Y.below hh);(try replace R:=R.below hh);(try replace x:=x.below hh);(try replace y:=y.below hh);(try replace l:=l.below hh);(try replace XA:=XA.below hh);(try replace XB:=XB.below hh);(try replace Z1:=Z1.below hh);(try replace Z2:=Z2.below hh);(try replace XP:=XP.below hh);(try replace XQ:=XQ.below hh);replace hb:=bend hb hh;obtain ⟨z0,z1⟩:=Z1.all;have z2:=Z1.f0;have z3:=Z1.f1;obtain ⟨y0,y1⟩:=Z2.all;have y2:=Z2.f0;have y3:=Z2.f1
     have Z2o:=Z2.other (k:=w.heap.size+1+1) (by omega) (.bool s_m1) (.slice A_m1 n_m1 c_m1)
     obtain ⟨zo0,zo1⟩:=Z2o.all;have zo2:=Z2o.f0;have zo3:=Z2o.f1
     have Z2q:=Z2o.set2 (.bool s_l) (.slice A_l n_l c_l)))
 go_wp2_with fail
 have G1:=(Z1.set2 (.bool s_m1) (.slice A_m1 n_m1 c_m1)).other (k:=w.heap.size+1+1+1) (by omega) (.bool s_l) (.slice A_l n_l c_l)
 have G2:=(Z2.other (k:=w.heap.size+1+1) (by omega) (.bool s_m1) (.slice A_m1 n_m1 c_m1)).set2 (.bool s_l) (.slice A_l n_l c_l)
 obtain ⟨g0,g1⟩:=G1.all;have g2:=G2.c0;have g3:=G2.c1
 have HT:=two_set hb (by omega) (by omega) (by omega) Z1 Z2 m1 (l.more (show k+k2≤k+k2+1 by omega)) (.bool s_m1) (.slice A_m1 n_m1 c_m1) (.bool s_l) (.slice A_l n_l c_l)
 refine bodyPost_ret (v:=.tuple #[.agg #[.bool s_m1,.slice A_m1 n_m1 c_m1],.agg #[.bool s_l,.slice A_l n_l c_l]]) (by simp [results,Tryz.results125,go_sem,g0,g1,g2,g3]) rfl ?_
 exact ⟨_,L,HL0.out,by rw [HL1.out,HL2.out];exact mk_sub_same HL0.out,_,_,_,_,_,_,_,_,rfl,HT.1,HT.2.1,HT.2.2⟩
theorem mkbx14_8 {w W:World} {x0 x1 x2 x3 x4 x5 x6 x7 x8:Value} (h:(((w.alloc (Obj.cells #[x0,x1,x2] 27)).alloc (Obj.cells #[x3,x4,x5] 27)).alloc (Obj.cells #[x6,x7,x8] 27))=W):Below w.heap.size w W∧B3 W (w.heap.size) x0 x1 x2∧B3 W (w.heap.size+1) x3 x4 x5∧B3 W (w.heap.size+1+1) x6 x7 x8∧W.heap.size=w.heap.size+3:=by subst h;exact ⟨by exact ((((Below.refl _ _).alloc (Nat.le_refl _) _).alloc (by simp) _).alloc (by simp;omega) _),by exact ((B3.new' _ _ _ _ _ rfl).alloc _).alloc _,by exact (B3.new' _ _ _ _ _ (by simp)).alloc _,by exact B3.new' _ _ _ _ _ (by simp),by simp⟩
theorem radd_q {s t:Bool} {A A' B B':Option Addr} {n c n' c' m d m' d' k k2:Nat} {v0 u0:Rat} (X0:QR w s A n c A' n' c' v0 k) (Y0:QR w t B m d B' m' d' u0 k2) (hk:k≤40000) (hkb:k2≤40000) (h40:k≤40000 ∨ k2≤40000) (hk1:1≤k) (hk3:1≤k2) :
 Calls Tryz.prog 22 #[.agg #[.bool s,.slice A n c,.slice A' n' c'],.agg #[.bool t,.slice B m d,.slice B' m' d']] w (GivesQ w (v0+u0) (k+k2+1)):=by
 go_enter Tryz.func22,Tryz.ntmps22
 go_wp2_with fail
 generalize hW:World.alloc _ _=W
 obtain ⟨hb,XA,XB,Z,hzW⟩:=mkbx14_8 hW;clear hW;replace X0:=X0.below hb;replace Y0:=Y0.below hb;obtain ⟨xa0,xa1,xa2⟩:=XA.all;obtain ⟨xb0,xb1,xb2⟩:=XB.all
 go_wp2_with (first
  | (go_at_call 59;(with_reducible refine (rsum_q X0 Y0 hk hkb h40 hk1 hk3).mono ?_);rintro e w_a ⟨f,L,hL0,hL1,s_x,A_x,n_x,c_x,s_y,A_y,n_y,c_y,rfl,x,y,hh⟩
     (try replace X0:=X0.below hh);(try replace Y0:=Y0.below hh);(try replace r:=r.below hh);(try replace XA:=XA.below hh);(try replace XB:=XB.below hh);(try replace Z:=Z.below hh);replace hb:=bend hb hh
     have hL:(L:Int) ≠ 0:=by omega
     have HL0:=Lib.hid hL
     have HL1:Hid (Rat.divInt f (L:Int)=v0+u0):=by show _=_;rw [hL1,Rat.divInt_ofNat]
     clear hL0 hL1 hL)
  | (go_at_call 58;(with_reducible refine (by_zr (k+k2+1) x y (by omega) (by omega) HL0.out (Nat.le_refl _) (Nat.le_refl _)).mono ?_);rintro e w_r ⟨s_r,A_r,n_r,c_r,B_r,m_r,d_r,rfl,r,hh⟩
     rw [HL1.out] at r;(try replace X0:=X0.below hh);(try replace Y0:=Y0.below hh);(try replace x:=x.below hh);(try replace y:=y.below hh);(try replace XA:=XA.below hh);(try replace XB:=XB.below hh);(try replace Z:=Z.below hh);replace hb:=bend hb hh;have zf0:=Z.f0;have zf1:=Z.f1;have zf2:=Z.f2;obtain ⟨z0,z1,z2⟩:=Z.all))
 have Z2:=Z.set3 (.bool s_r) (.slice A_r n_r c_r) (.slice B_r m_r d_r)
 obtain ⟨g0,g1,g2⟩:=Z2.all
 refine bodyPost_ret (v:=.agg #[.bool s_r,.slice A_r n_r c_r,.slice B_r m_r d_r]) (by simp [results,Tryz.results22,go_sem,g0,g1,g2]) rfl ?_
 exact ⟨s_r,A_r,n_r,c_r,B_r,m_r,d_r,rfl,r.set3 Z _ _ _,below_set3 hb (by omega) _ _ _⟩
theorem rsub_q {s t:Bool} {A A' B B':Option Addr} {n c n' c' m d m' d' k k2:Nat} {v0 u0:Rat} (X0:QR w s A n c A' n' c' v0 k) (Y0:QR w t B m d B' m' d' u0 k2) (hk:k≤40000) (hkb:k2≤40000) (h40:k≤40000 ∨ k2≤40000) (hk1:1≤k) (hk3:1≤k2) :
 Calls Tryz.prog 98 #[.agg #[.bool s,.slice A n c,.slice A' n' c'],.agg #[.bool t,.slice B m d,.slice B' m' d']] w (GivesQ w (v0 - u0) (k+k2+1)):=by
 go_enter Tryz.func98,Tryz.ntmps98
 go_wp2_with fail
 generalize hW:World.alloc _ _=W
 obtain ⟨hb,XA,XB,Z,hzW⟩:=mkbx14_8 hW;clear hW;replace X0:=X0.below hb;replace Y0:=Y0.below hb;obtain ⟨xa0,xa1,xa2⟩:=XA.all;obtain ⟨xb0,xb1,xb2⟩:=XB.all
 go_wp2_with (first
  | (go_at_call 125;(with_reducible refine (rdiff_q X0 Y0 hk hkb h40 hk1 hk3).mono ?_);rintro e w_a ⟨f,L,hL0,hL1,s_x,A_x,n_x,c_x,s_y,A_y,n_y,c_y,rfl,x,y,hh⟩
     (try replace X0:=X0.below hh);(try replace Y0:=Y0.below hh);(try replace r:=r.below hh);(try replace XA:=XA.below hh);(try replace XB:=XB.below hh);(try replace Z:=Z.below hh);replace hb:=bend hb hh
     have hL:(L:Int) ≠ 0:=by omega
     have HL0:=Lib.hid hL
     have HL1:Hid (Rat.divInt f (L:Int)=v0 - u0):=by show _=_;rw [hL1,Rat.divInt_ofNat]
     clear hL0 hL1 hL)
  | (go_at_call 58;(with_reducible refine (by_zr (k+k2+1) x y (by omega) (by omega) HL0.out (Nat.le_refl _) (Nat.le_refl _)).mono ?_);rintro e w_r ⟨s_r,A_r,n_r,c_r,B_r,m_r,d_r,rfl,r,hh⟩
     rw [HL1.out] at r;(try replace X0:=X0.below hh);(try replace Y0:=Y0.below hh);(try replace x:=x.below hh);(try replace y:=y.below hh);(try replace XA:=XA.below hh);(try replace XB:=XB.below hh);(try replace Z:=Z.below hh);replace hb:=bend hb hh;have zf0:=Z.f0;have zf1:=Z.f1;have zf2:=Z.f2;obtain ⟨z0,z1,z2⟩:=Z.all))
 have Z2:=Z.set3 (.bool s_r) (.slice A_r n_r c_r) (.slice B_r m_r d_r)
 obtain ⟨g0,g1,g2⟩:=Z2.all
 refine bodyPost_ret (v:=.agg #[.bool s_r,.slice A_r n_r c_r,.slice B_r m_r d_r]) (by simp [results,Tryz.results98,go_sem,g0,g1,g2]) rfl ?_
 exact ⟨s_r,A_r,n_r,c_r,B_r,m_r,d_r,rfl,r.set3 Z _ _ _,below_set3 hb (by omega) _ _ _⟩
theorem rmul_q {s t:Bool} {A A' B B':Option Addr} {n c n' c' m d m' d' k k2:Nat} {v0 u0:Rat} (X0:QR w s A n c A' n' c' v0 k) (Y0:QR w t B m d B' m' d' u0 k2) (hk:k≤40000) (hkb:k2≤40000) (h40:k≤40000 ∨ k2≤40000) (hk1:1≤k) (hk3:1≤k2) :
 Calls Tryz.prog 23 #[.agg #[.bool s,.slice A n c,.slice A' n' c'],.agg #[.bool t,.slice B m d,.slice B' m' d']] w (GivesQ w (v0*u0) (k+k2)):=by
 obtain ⟨p,q,X,Q,rfl⟩:=X0
 obtain ⟨p2,q2,Y,R,rfl⟩:=Y0
 have HE:Hid (Rat.divInt (p*p2) ((den1 q:Int)*(den1 q2:Int))=mkRat p (den1 q)*mkRat p2 (den1 q2)):=by show _=_;rw [mk_mul,← Int.natCast_mul,Rat.divInt_ofNat]
 have HL0:Hid ((den1 q:Int)*(den1 q2:Int) ≠ 0):=Int.mul_ne_zero (den1_i q) (den1_i q2)
 go_enter Tryz.func23,Tryz.ntmps23
 go_wp2_with fail
 generalize hW:World.alloc _ _=W
 obtain ⟨hb,XA,XB,Z,hzW⟩:=mkbx14_8 hW;clear hW;replace X:=X.below hb;replace Q:=Q.below hb;replace Y:=Y.below hb;replace R:=R.below hb;obtain ⟨xa0,xa1,xa2⟩:=XA.all;obtain ⟨xb0,xb1,xb2⟩:=XB.all
 go_wp2_with (first
  | (go_at_call 60;(with_reducible refine (rprod_q X Q Y R hk hkb h40 hk1 hk3).mono ?_);rintro e w_a ⟨s_x,A_x,n_x,c_x,s_y,A_y,n_y,c_y,rfl,x,y,hh⟩
     (try replace X:=X.below hh);(try replace Q:=Q.below hh);(try replace Y:=Y.below hh);(try replace R:=R.below hh);(try replace r:=r.below hh);(try replace XA:=XA.below hh);(try replace XB:=XB.below hh);(try replace Z:=Z.below hh);replace hb:=bend hb hh)
  | (go_at_call 58;(with_reducible refine (by_zr (k+k2) x y (by omega) (by omega) HL0.out (Nat.le_refl _) (Nat.le_refl _)).mono ?_);rintro e w_r ⟨s_r,A_r,n_r,c_r,B_r,m_r,d_r,rfl,r,hh⟩
     rw [HE.out] at r;(try replace X:=X.below hh);(try replace Q:=Q.below hh);(try replace Y:=Y.below hh);(try replace R:=R.below hh);(try replace x:=x.below hh);(try replace y:=y.below hh);(try replace XA:=XA.below hh);(try replace XB:=XB.below hh);(try replace Z:=Z.below hh);replace hb:=bend hb hh;have zf0:=Z.f0;have zf1:=Z.f1;have zf2:=Z.f2;obtain ⟨z0,z1,z2⟩:=Z.all))
 have Z2:=Z.set3 (.bool s_r) (.slice A_r n_r c_r) (.slice B_r m_r d_r)
 obtain ⟨g0,g1,g2⟩:=Z2.all
 refine bodyPost_ret (v:=.agg #[.bool s_r,.slice A_r n_r c_r,.slice B_r m_r d_r]) (by simp [results,Tryz.results23,go_sem,g0,g1,g2]) rfl ?_
 exact ⟨s_r,A_r,n_r,c_r,B_r,m_r,d_r,rfl,r.set3 Z _ _ _,below_set3 hb (by omega) _ _ _⟩
theorem rdiv_q {s t:Bool} {A A' B B':Option Addr} {n c n' c' m d m' d' k k2:Nat} {v0 u0:Rat} (X0:QR w s A n c A' n' c' v0 k) (Y0:QR w t B m d B' m' d' u0 k2) (hk:k≤40000) (hkb:k2≤40000) (h40:k≤40000 ∨ k2≤40000) (hk1:1≤k) (hk3:1≤k2) (hu:u0 ≠ 0) :
 Calls Tryz.prog 48 #[.agg #[.bool s,.slice A n c,.slice A' n' c'],.agg #[.bool t,.slice B m d,.slice B' m' d']] w (GivesQE w (v0 / u0) (k+k2)):=by
 obtain ⟨p,q,X,Q,rfl⟩:=X0
 obtain ⟨p2,q2,Y,R,rfl⟩:=Y0
 have HE:Hid (Rat.divInt (p*(den1 q2:Int)) ((den1 q:Int)*p2)=mkRat p (den1 q) / mkRat p2 (den1 q2)):=(mk_div _ _ _ _).symm
 have HL0:Hid ((den1 q:Int)*p2 ≠ 0):=Int.mul_ne_zero (den1_i q) (fun h=>hu ((mk_zero (den1_ne q2)).2 h))
 clear hu
 go_enter Tryz.func48,Tryz.ntmps48
 go_wp2_with fail
 generalize hW:World.alloc _ _=W
 obtain ⟨hb,XA,XB,Z,hzW⟩:=mkbx14_8 hW;clear hW;replace X:=X.below hb;replace Q:=Q.below hb;replace Y:=Y.below hb;replace R:=R.below hb;obtain ⟨xa0,xa1,xa2⟩:=XA.all;obtain ⟨xb0,xb1,xb2⟩:=XB.all
 go_wp2_with (first
  | (go_at_call 91;(with_reducible refine (rquot_q X Q Y R hk hkb h40 hk1 hk3).mono ?_);rintro e w_a ⟨s_x,A_x,n_x,c_x,s_y,A_y,n_y,c_y,rfl,x,y,hh⟩
     (try replace X:=X.below hh);(try replace Q:=Q.below hh);(try replace Y:=Y.below hh);(try replace R:=R.below hh);(try replace r:=r.below hh);(try replace XA:=XA.below hh);(try replace XB:=XB.below hh);(try replace Z:=Z.below hh);replace hb:=bend hb hh)
  | (go_at_call 46;(with_reducible refine (make_zr (k+k2) x y (by omega) (by omega) HL0.out (Nat.le_refl _) (Nat.le_refl _)).mono ?_);rintro e w_r ⟨s_r,A_r,n_r,c_r,B_r,m_r,d_r,rfl,r,hh⟩
     rw [HE.out] at r;(try replace X:=X.below hh);(try replace Q:=Q.below hh);(try replace Y:=Y.below hh);(try replace R:=R.below hh);(try replace x:=x.below hh);(try replace y:=y.below hh);(try replace XA:=XA.below hh);(try replace XB:=XB.below hh);(try replace Z:=Z.below hh);replace hb:=bend hb hh;have zf0:=Z.f0;have zf1:=Z.f1;have zf2:=Z.f2;obtain ⟨z0,z1,z2⟩:=Z.all))
 have Z2:=Z.set3 (.bool s_r) (.slice A_r n_r c_r) (.slice B_r m_r d_r)
 obtain ⟨g0,g1,g2⟩:=Z2.all
 refine bodyPost_ret (v:=.tuple #[.agg #[.bool s_r,.slice A_r n_r c_r,.slice B_r m_r d_r],.int .i64 0]) (by simp [results,Tryz.results48,go_sem,g0,g1,g2]) rfl ?_
 exact ⟨s_r,A_r,n_r,c_r,B_r,m_r,d_r,rfl,r.set3 Z _ _ _,below_set3 hb (by omega) _ _ _⟩
end
end Go.Proofs.YtlpogecpdfdggaaGreat
