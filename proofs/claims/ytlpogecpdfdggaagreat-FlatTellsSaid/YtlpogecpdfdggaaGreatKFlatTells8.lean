/- FlatTells: part 8. -/
import Derived.BigRegion
import Derived.Deep.Cut
import Derived.Deep.CutRange
import Derived.Deep.RegionHeld3
import Derived.Test.YtlpogecpdfdggaaGreatKFlatTells0
import Derived.Test.YtlpogecpdfdggaaGreatKFlatTells6
import Derived.Test.YtlpogecpdfdggaaGreatKFlatTells7
set_option linter.unusedVariables false
set_option maxRecDepth 100000
set_option maxHeartbeats 16000000
variable {w:Go.World}
namespace Go.Proofs.YtlpogecpdfdggaaGreat
section
open Go.RowKit
def By (W:World) (g:Nat) (x y:Value):Prop:=W.heap[g]?=some (.cells #[x,y] 41 (0,0))
section
variable {W W':World} {g:Nat} {x y:Value}
theorem By.c0 (h:By W g x y):W.cell? ⟨g,0,none⟩=some x:=by rw [cell_of_row W g 0 _ _ (0,0) h];rfl
theorem By.c1 (h:By W g x y):W.cell? ⟨g,1,none⟩=some y:=by rw [cell_of_row W g 1 _ _ (0,0) h];rfl
theorem By.all (h:By W g x y):W.cell? ⟨g,0,none⟩=some x∧W.cell? ⟨g,1,none⟩=some y:=⟨h.c0,h.c1⟩
theorem By.f0 (h:By W g x y):W.frozen? ⟨g,0,none⟩=false:=frozen_of_row W g 0 _ _ h
theorem By.f1 (h:By W g x y):W.frozen? ⟨g,1,none⟩=false:=frozen_of_row W g 1 _ _ h
theorem By.lt (h:By W g x y):g < W.heap.size:=World.block_lt_of_cell? W _ h.c0
theorem By.below (h:By W g x y) (hb:Below W.heap.size W W'):By W' g x y:=(hb.block g h.lt).trans h
theorem By.drew (h:By W g x y):By W.drew g x y:=h
theorem By.alloc (h:By W g x y) (o:Obj):By (W.alloc o) g x y:=(Below.heap_alloc W o g h.lt).trans h
theorem By.new (W:World) (x y:Value):By (W.alloc (.cells #[x,y] 41)) W.heap.size x y:=heap_alloc_new W _
theorem By.new' (W:World) (x y:Value) (g:Nat) (hg:g=W.heap.size):By (W.alloc (.cells #[x,y] 41)) g x y:=by subst hg;exact By.new W x y
theorem By.set2 (h:By W g x y) (u v:Value):By ((W.setCell ⟨g,0,none⟩ u).setCell ⟨g,1,none⟩ v) g u v:=by
 unfold By at h ⊢
 simp [World.setCell,Array.getElem?_modify,h]
theorem By.off {s:Bool} {A' A:Option Addr} {n' c' n:Nat} {K:IntKind} {l:List Nat} (h:By W g (.bool s) (.slice A' n' c')) (hr:Rd K W A n l):Off A n g:=by
 intro hn ad e hg
 obtain ⟨b,o,eA,hc⟩:=hr.at_ hn
 obtain ⟨x,_,hx⟩:=hc 0 hn
 rw [eA] at e
 cases e
 have hg2:b=g:=hg
 subst hg2
 rw [cell_of_row W b (o+0) _ _ (0,0) h] at hx
 match o,hx with
 | 0,hx=>cases hx
 | 1,hx=>cases hx
 | o+2,hx=>cases hx
end
def RZ (w:World) (s:Bool) (A:Option Addr) (n c:Nat) (v:Int) (k:Nat):Prop:=∃ U,RN w A n c U k∧iv s U=v
def RG (w:World) (s:Bool) (A:Option Addr) (n c:Nat) (v:Int) (k:Nat):Prop:=s=decide (v < 0)∧RN w A n c v.natAbs k
def GivesRZ (w:World) (v:Int) (k:Nat) (e:Ending) (w':World):Prop :=
 ∃ s A n c,e=.returned (.agg #[.bool s,.slice A n c])∧RG w' s A n c v k∧Below w.heap.size w w'
theorem iv_canon (v:Int):iv (decide (v < 0)) v.natAbs=v:=by
 unfold iv
 by_cases h:v < 0
 · simp [h];omega
 · simp [h];omega
theorem RG.rz {s:Bool} {A:Option Addr} {n c k:Nat} {v:Int} (h:RG w s A n c v k):RZ w s A n c v k:=⟨_,h.2,by rw [h.1];exact iv_canon v⟩
theorem RG.below {w w':World} {s:Bool} {A:Option Addr} {n c k:Nat} {v:Int} (h:RG w s A n c v k) (hb:Below w.heap.size w w'):RG w' s A n c v k:=⟨h.1,h.2.below hb⟩
theorem RZ.below {w w':World} {s:Bool} {A:Option Addr} {n c k:Nat} {v:Int} (h:RZ w s A n c v k) (hb:Below w.heap.size w w'):RZ w' s A n c v k:=by
 obtain ⟨U,h1,h2⟩:=h
 exact ⟨U,h1.below hb,h2⟩
theorem rn_pos {A:Option Addr} {n c V k:Nat} (h:RN w A n c V k):decide (0 < n)=decide (0 < V):=by
 have hl:=h.1.1
 by_cases h0:V=0
 · rw [h0,limbs_zero] at hl
   rw [h0,← hl];rfl
 · rw [limbs_pos B32_two h0] at hl
   simp at hl
   rw [decide_eq_true (by omega:0 < n),decide_eq_true (by omega:0 < V)]
theorem close_rz {w W:World} {g k:Nat} {s z:Bool} {A A':Option Addr} {n c n' c' V:Nat} {v:Int} (hb:Below w.heap.size w W) (hg:w.heap.size≤g) (Z:By W g (.bool z) (.slice A' n' c')) (X:RN W A n c V k) (hv:v=iv s V) (u x:Value) :
 GivesRZ w v k (.returned (.agg #[.bool (s && decide (0 < n)),.slice A n c])) ((W.setCell ⟨g,0,none⟩ u).setCell ⟨g,1,none⟩ x):=by
 subst hv
 refine ⟨_,A,n,c,rfl,⟨?_,?_⟩,(hb.setCell hg _).setCell hg _⟩
 · rw [iv_neg,rn_pos X]
 · rw [iv_natAbs]
   exact ⟨X.1.only (Z.off X.1) (((Only.refl g W).setCell 0 u).setCell 1 x),X.2⟩
theorem close_rz2 {w W:World} {g k:Nat} {z s:Bool} {A A':Option Addr} {n c n' c':Nat} {v:Int} (hb:Below w.heap.size w W) (hg:w.heap.size≤g) (Z:By W g (.bool z) (.slice A' n' c')) (X:RG W s A n c v k) (u x:Value) :
 GivesRZ w v k (.returned (.agg #[.bool s,.slice A n c])) ((W.setCell ⟨g,0,none⟩ u).setCell ⟨g,1,none⟩ x) :=
 ⟨s,A,n,c,rfl,⟨X.1,X.2.1.only (Z.off X.2.1) (((Only.refl g W).setCell 0 u).setCell 1 x),X.2.2⟩,(hb.setCell hg _).setCell hg _⟩
theorem rsub_rn {A B:Option Addr} {n c m d U V k1 k2:Nat} (X:RN w A n c U k1) (Y:RN w B m d V k2) (h1:k1≤1000000) (hle:V≤U) :
 Calls Tryz.prog 110 #[.slice A n c,.slice B m d] w (GivesR w (U - V) k1):=by
 have hU:=X.lt
 refine (rsub_any _ _ A B n c m d w X.1 Y.1 (lim_limbs B32_two _) (lim_limbs B32_two _) (Nat.le_trans X.2.2 h1) (by rw [← X.1.1,← Y.1.1];exact length_limbs_mono B32_two hle) (by rw [val_limbs B32_two,val_limbs B32_two];exact hle)).mono fun _ _ g=>?_
 rw [val_limbs B32_two,val_limbs B32_two] at g
 exact g.r (by omega)
theorem made_any (neg:Bool) (A:Option Addr) (n c:Nat) (w:World) :
 Calls Tryz.prog 76 #[.bool neg,.slice A n c] w fun e w'=>e=.returned (.agg #[.bool (neg && decide (0 < n)),.slice A n c])∧Below w.heap.size w w':=by
 cases neg
 · go_enter Tryz.func76,Tryz.ntmps76
   go_wp2
   go_returns
   exact ⟨rfl,(Below.refl _ _).alloc (Nat.le_refl _) _⟩
 · go_enter Tryz.func76,Tryz.ntmps76
   go_wp2
   go_returns
   exact ⟨by simp,(Below.refl _ _).alloc (Nat.le_refl _) _⟩
theorem mkbx5_8 {w W:World} {x0 x1 x2 x3:Value} (h:((w.alloc (Obj.cells #[x0,x1] 25)).alloc (Obj.cells #[x2,x3] 41))=W):Below w.heap.size w W∧Bx W (w.heap.size) x0 x1∧By W (w.heap.size+1) x2 x3∧W.heap.size=w.heap.size+2:=by subst h;exact ⟨by exact (((Below.refl _ _).alloc (Nat.le_refl _) _).alloc (by simp) _),by exact (Bx.new w _ _).alloc _,by exact By.new' _ _ _ _ (by simp),by simp⟩
theorem rin2 {s:Bool} {A:Option Addr} {n c k:Nat} {v:Int} (X0:ZR w s A n c v k) (hk:k≤1000) :
 Calls Tryz.prog 37 #[.agg #[.bool s,.slice A n c]] w (GivesRZ w (v) (2*k)):=by
 obtain ⟨V,X,hv⟩:∃ V,NR w A n c V k∧iv s V=v:=by
  obtain ⟨l,h1,h2,h3,h4,h5,h6⟩:=X0
  exact ⟨_,⟨l,h1,h2,rfl,h4,h5⟩,h3⟩
 subst hv
 clear X0
 go_enter Tryz.func37,Tryz.ntmps37
 go_wp2_with fail
 generalize hW:World.alloc _ _=W
 obtain ⟨hb,XA,Z,hz⟩:=mkbx5_8 hW;clear hW;replace X:=X.below hb
 replace X:=X.below (Below.refl _ _).drew
 replace XA:=XA.below (Below.refl _ _).drew
 replace Z:=Z.below (Below.refl _ _).drew
 replace hb:=hb.drew
 go_region_held3 (fun w'=>w'.cell? ⟨w.heap.size,0,none⟩=some (Value.bool s)∧w'.cell? ⟨w.heap.size,1,none⟩=some (Value.slice A n c))
  (first | with_reducible exact ⟨XA.c0,XA.c1⟩ | with_reducible exact ⟨(set2_cell _ _ _ _ _ _ (by omega)).trans XA.c0,(set2_cell _ _ _ _ _ _ (by omega)).trans XA.c1⟩)
  (first
  | (go_at_call 34;(with_reducible refine (rin_nr (2*k) X (by omega) rfl).mono ?_);rintro e w_x ⟨A_x,n_x,c_x,rfl,x,hh⟩
     (try replace X:=X.below hh);(try replace Y:=Y.below hh);(try replace XA:=XA.below hh);(try replace XB:=XB.below hh);(try replace Z:=Z.below hh);(try replace T:=T.below hh);replace hb:=bend hb hh)
  | (go_at_call 76;(with_reducible refine (made_any _ _ _ _ _).mono ?_);rintro e w_m ⟨rfl,hh⟩
     (try replace X:=X.below hh);(try replace Y:=Y.below hh);(try replace x:=x.below hh);(try replace XA:=XA.below hh);(try replace XB:=XB.below hh);(try replace Z:=Z.below hh);(try replace T:=T.below hh);replace hb:=bend hb hh;obtain ⟨r0,r1⟩:=Z.all;have r2:=Z.f0;have r3:=Z.f1))
 go_wp2
 have hf0:=(Z.set2 (.bool (s && decide (0 < n_x))) (.slice A_x n_x c_x)).c0
 have hf1:=(Z.set2 (.bool (s && decide (0 < n_x))) (.slice A_x n_x c_x)).c1
 refine bodyPost_ret (v:=.agg #[.bool (s && decide (0 < n_x)),.slice A_x n_x c_x]) (by simp [results,Tryz.results37,go_sem,hf0,hf1]) rfl ?_
 exact close_rz (s:=s) (g:=w.heap.size+1) hb (by omega) Z x rfl _ _
theorem mkbx6_8 {w W:World} {x0 x1 x2 x3:Value} (h:((w.alloc (Obj.cells #[x0,x1] 41)).alloc (Obj.cells #[x2,x3] 41))=W):Below w.heap.size w W∧By W (w.heap.size) x0 x1∧By W (w.heap.size+1) x2 x3∧W.heap.size=w.heap.size+2:=by subst h;exact ⟨by exact (((Below.refl _ _).alloc (Nat.le_refl _) _).alloc (by simp) _),by exact (By.new w _ _).alloc _,by exact By.new' _ _ _ _ (by simp),by simp⟩
theorem rminus2 {s:Bool} {A:Option Addr} {n c k:Nat} {v:Int} (X0:RZ w s A n c v k) :
 Calls Tryz.prog 111 #[.agg #[.bool s,.slice A n c]] w (GivesRZ w (-v) k):=by
 obtain ⟨U,x,hv⟩:=X0
 subst hv
 go_enter Tryz.func111,Tryz.ntmps111
 go_wp2_with fail
 generalize hW:World.alloc _ _=W
 obtain ⟨hb,XA,Z,hz⟩:=mkbx6_8 hW;clear hW;replace x:=x.below hb
 go_wp2_with (first
  | (go_at_call 76;(with_reducible refine (made_any _ _ _ _ _).mono ?_);rintro e w_m ⟨rfl,hh⟩
     (try replace X:=X.below hh);(try replace Y:=Y.below hh);(try replace x:=x.below hh);(try replace XA:=XA.below hh);(try replace XB:=XB.below hh);(try replace Z:=Z.below hh);(try replace T:=T.below hh);replace hb:=bend hb hh;obtain ⟨r0,r1⟩:=Z.all;have r2:=Z.f0;have r3:=Z.f1))
 have hf0:=(Z.set2 (.bool ((!s) && decide (0 < n))) (.slice A n c)).c0
 have hf1:=(Z.set2 (.bool ((!s) && decide (0 < n))) (.slice A n c)).c1
 refine bodyPost_ret (v:=.agg #[.bool ((!s) && decide (0 < n)),.slice A n c]) (by simp [results,Tryz.results111,go_sem,hf0,hf1]) rfl ?_
 exact close_rz (s:=(!s)) (g:=w.heap.size+1) hb (by omega) Z x (by rw [iv_not]) _ _
theorem mkbx7_8 {w W:World} {x0 x1 x2 x3 x4 x5:Value} (h:(((w.alloc (Obj.cells #[x0,x1] 41)).alloc (Obj.cells #[x2,x3] 41)).alloc (Obj.cells #[x4,x5] 41))=W):Below w.heap.size w W∧By W (w.heap.size) x0 x1∧By W (w.heap.size+1) x2 x3∧By W (w.heap.size+1+1) x4 x5∧W.heap.size=w.heap.size+3:=by subst h;exact ⟨by exact ((((Below.refl _ _).alloc (Nat.le_refl _) _).alloc (by simp) _).alloc (by simp;omega) _),by exact ((By.new w _ _).alloc _).alloc _,by exact (By.new' _ _ _ _ (by simp)).alloc _,by exact By.new' _ _ _ _ (by simp),by simp⟩
theorem rmul2 {s t:Bool} {A B:Option Addr} {n c m d k1 k2:Nat} {v u:Int} (X0:RZ w s A n c v k1) (Y0:RZ w t B m d u k2) (h1:k1≤1000000) (h2:k2≤1000000) :
 Calls Tryz.prog 70 #[.agg #[.bool s,.slice A n c],.agg #[.bool t,.slice B m d]] w (GivesRZ w (v*u) (k1+k2)):=by
 obtain ⟨U,X,hv⟩:=X0
 obtain ⟨V,Y,hu⟩:=Y0
 subst hv
 subst hu
 have hf:U*V < B32 ^ (k1+k2):=by rw [Nat.pow_add];exact Nat.mul_lt_mul'' X.lt Y.lt
 go_enter Tryz.func70,Tryz.ntmps70
 go_wp2_with fail
 generalize hW:World.alloc _ _=W
 obtain ⟨hb,XA,XB,Z,hz⟩:=mkbx7_8 hW;clear hW;replace X:=X.below hb;replace Y:=Y.below hb
 replace X:=X.below (Below.refl _ _).drew
 replace Y:=Y.below (Below.refl _ _).drew
 replace XA:=XA.below (Below.refl _ _).drew
 replace XB:=XB.below (Below.refl _ _).drew
 replace Z:=Z.below (Below.refl _ _).drew
 replace hb:=hb.drew
 go_region_held3 (fun w'=>w'.cell? ⟨w.heap.size,0,none⟩=some (Value.bool s)∧w'.cell? ⟨w.heap.size,1,none⟩=some (Value.slice A n c)∧w'.cell? ⟨w.heap.size+1,0,none⟩=some (Value.bool t)∧w'.cell? ⟨w.heap.size+1,1,none⟩=some (Value.slice B m d))
  (first | with_reducible exact ⟨XA.c0,XA.c1,XB.c0,XB.c1⟩ | with_reducible exact ⟨(set2_cell _ _ _ _ _ _ (by omega)).trans XA.c0,(set2_cell _ _ _ _ _ _ (by omega)).trans XA.c1,(set2_cell _ _ _ _ _ _ (by omega)).trans XB.c0,(set2_cell _ _ _ _ _ _ (by omega)).trans XB.c1⟩)
  (first
  | (go_at_call 72;(with_reducible refine (rmul_rn (k1+k2) X Y h1 h2 hf).mono ?_);rintro e w_x ⟨A_x,n_x,c_x,rfl,x,hh⟩
     (try replace X:=X.below hh);(try replace Y:=Y.below hh);(try replace XA:=XA.below hh);(try replace XB:=XB.below hh);(try replace Z:=Z.below hh);(try replace T:=T.below hh);replace hb:=bend hb hh)
  | (go_at_call 76;(with_reducible refine (made_any _ _ _ _ _).mono ?_);rintro e w_m ⟨rfl,hh⟩
     (try replace X:=X.below hh);(try replace Y:=Y.below hh);(try replace x:=x.below hh);(try replace XA:=XA.below hh);(try replace XB:=XB.below hh);(try replace Z:=Z.below hh);(try replace T:=T.below hh);replace hb:=bend hb hh;obtain ⟨r0,r1⟩:=Z.all;have r2:=Z.f0;have r3:=Z.f1))
 go_wp2
 have hf0:=(Z.set2 (.bool ((!(s == t)) && decide (0 < n_x))) (.slice A_x n_x c_x)).c0
 have hf1:=(Z.set2 (.bool ((!(s == t)) && decide (0 < n_x))) (.slice A_x n_x c_x)).c1
 refine bodyPost_ret (v:=.agg #[.bool ((!(s == t)) && decide (0 < n_x)),.slice A_x n_x c_x]) (by simp [results,Tryz.results70,go_sem,hf0,hf1]) rfl ?_
 exact close_rz (s:=(!(s == t))) (g:=w.heap.size+1+1) hb (by omega) Z x (by rw [iv_mul]) _ _
theorem RN.more {A:Option Addr} {n c V k k1:Nat} (h:RN w A n c V k) (hk:k≤k1):RN w A n c V k1:=⟨h.1,h.2.1,Nat.le_trans h.2.2 hk⟩
theorem pow_sum32 {k1 k2 k a b:Nat} (ha:a < B32 ^ k1) (hb:b < B32 ^ k2) (h1:k1+1≤k) (h2:k2+1≤k):a+b < B32 ^ k:=by
 obtain ⟨j,rfl⟩:∃ j,k=j+1:=⟨k - 1,by omega⟩
 have e1:B32 ^ k1≤B32 ^ j:=Nat.pow_le_pow_right (by decide) (by omega)
 have e2:B32 ^ k2≤B32 ^ j:=Nat.pow_le_pow_right (by decide) (by omega)
 have h3:B32 ^ j*2≤B32 ^ (j+1):=by rw [Nat.pow_succ];exact Nat.mul_le_mul_left _ (by decide)
 omega
theorem radd2_same {s:Bool} {A B:Option Addr} {n c m d k1 k2 U V:Nat} (k:Nat) (X:RN w A n c U k1) (Y:RN w B m d V k2) (h1:k1+1≤k) (h2:k2+1≤k) (hk:k≤1000000) :
 Calls Tryz.prog 133 #[.agg #[.bool s,.slice A n c],.agg #[.bool s,.slice B m d]] w (GivesRZ w (iv s U+iv (s) V) k):=by
 have hne2:(s == s)=true:=by cases s <;> rfl
 have hf:=pow_sum32 X.lt Y.lt h1 h2
 go_enter Tryz.func133,Tryz.ntmps133
 go_wp2_with fail
 generalize hW:World.alloc _ _=W
 obtain ⟨hb,XA,XB,Z,hz⟩:=mkbx7_8 hW;clear hW;replace X:=X.below hb;replace Y:=Y.below hb;obtain ⟨xa0,xa1⟩:=XA.all;obtain ⟨xb0,xb1⟩:=XB.all
 go_wp2_with fail
 replace X:=X.below (Below.refl _ _).drew
 replace Y:=Y.below (Below.refl _ _).drew
 replace XA:=XA.below (Below.refl _ _).drew
 replace XB:=XB.below (Below.refl _ _).drew
 replace Z:=Z.below (Below.refl _ _).drew
 replace hb:=hb.drew
 go_region_held3 (fun w'=>w'.cell? ⟨w.heap.size,0,none⟩=some (Value.bool s)∧w'.cell? ⟨w.heap.size,1,none⟩=some (Value.slice A n c)∧w'.cell? ⟨w.heap.size+1,0,none⟩=some (Value.bool s)∧w'.cell? ⟨w.heap.size+1,1,none⟩=some (Value.slice B m d))
  (first | with_reducible exact ⟨XA.c0,XA.c1,XB.c0,XB.c1⟩ | with_reducible exact ⟨(set2_cell _ _ _ _ _ _ (by omega)).trans XA.c0,(set2_cell _ _ _ _ _ _ (by omega)).trans XA.c1,(set2_cell _ _ _ _ _ _ (by omega)).trans XB.c0,(set2_cell _ _ _ _ _ _ (by omega)).trans XB.c1⟩)
  (first
  | (go_at_call 151;(with_reducible refine (radd_rn k X Y (by omega) (by omega) hf).mono ?_);rintro e w_x ⟨A_x,n_x,c_x,rfl,x,hh⟩
     (try replace X:=X.below hh);(try replace Y:=Y.below hh);(try replace XA:=XA.below hh);(try replace XB:=XB.below hh);(try replace Z:=Z.below hh);(try replace T:=T.below hh);replace hb:=bend hb hh)
  | (go_at_call 76;(with_reducible refine (made_any _ _ _ _ _).mono ?_);rintro e w_m ⟨rfl,hh⟩
     (try replace X:=X.below hh);(try replace Y:=Y.below hh);(try replace x:=x.below hh);(try replace XA:=XA.below hh);(try replace XB:=XB.below hh);(try replace Z:=Z.below hh);(try replace T:=T.below hh);replace hb:=bend hb hh;obtain ⟨r0,r1⟩:=Z.all;have r2:=Z.f0;have r3:=Z.f1))
 go_wp2
 have hf0:=(Z.set2 (.bool (s && decide (0 < n_x))) (.slice A_x n_x c_x)).c0
 have hf1:=(Z.set2 (.bool (s && decide (0 < n_x))) (.slice A_x n_x c_x)).c1
 refine bodyPost_ret (v:=.agg #[.bool (s && decide (0 < n_x)),.slice A_x n_x c_x]) (by simp [results,Tryz.results133,go_sem,hf0,hf1]) rfl ?_
 exact close_rz (s:=s) (g:=w.heap.size+1+1) hb (by omega) Z x (by rw [iv_add_same]) _ _
theorem radd2_ge {s:Bool} {A B:Option Addr} {n c m d k1 k2 U V:Nat} (k:Nat) (X:RN w A n c U k1) (Y:RN w B m d V k2) (h1:k1+1≤k) (_h2:k2+1≤k) (hk:k≤1000000) (hle:V≤U) :
 Calls Tryz.prog 133 #[.agg #[.bool s,.slice A n c],.agg #[.bool !s,.slice B m d]] w (GivesRZ w (iv s U+iv (!s) V) k):=by
 have hne2:(s == !s)=false:=by cases s <;> rfl
 obtain ⟨K,hK,hK0⟩:∃ K,cmpN U V=K∧0≤K:=⟨_,rfl,by unfold cmpN;rw [if_neg (by omega)];split <;> decide⟩
 have HK:=Lib.hid hK;clear hK
 go_enter Tryz.func133,Tryz.ntmps133
 go_wp2_with fail
 generalize hW:World.alloc _ _=W
 obtain ⟨hb,XA,XB,Z,hz⟩:=mkbx7_8 hW;clear hW;replace X:=X.below hb;replace Y:=Y.below hb;obtain ⟨xa0,xa1⟩:=XA.all;obtain ⟨xb0,xb1⟩:=XB.all
 go_wp2_with (first
  | (go_at_call 107;(with_reducible refine (rcmp_rn X Y (by omega)).mono ?_);rintro e w_c ⟨rfl,hh⟩
     rw [HK.out];(try replace X:=X.below hh);(try replace Y:=Y.below hh);(try replace XA:=XA.below hh);(try replace XB:=XB.below hh);(try replace Z:=Z.below hh);replace hb:=bend hb hh))
 replace X:=X.below (Below.refl _ _).drew
 replace Y:=Y.below (Below.refl _ _).drew
 replace XA:=XA.below (Below.refl _ _).drew
 replace XB:=XB.below (Below.refl _ _).drew
 replace Z:=Z.below (Below.refl _ _).drew
 replace hb:=hb.drew
 go_region_held3 (fun w'=>w'.cell? ⟨w.heap.size,0,none⟩=some (Value.bool s)∧w'.cell? ⟨w.heap.size,1,none⟩=some (Value.slice A n c)∧w'.cell? ⟨w.heap.size+1,0,none⟩=some (Value.bool !s)∧w'.cell? ⟨w.heap.size+1,1,none⟩=some (Value.slice B m d))
  (first | with_reducible exact ⟨XA.c0,XA.c1,XB.c0,XB.c1⟩ | with_reducible exact ⟨(set2_cell _ _ _ _ _ _ (by omega)).trans XA.c0,(set2_cell _ _ _ _ _ _ (by omega)).trans XA.c1,(set2_cell _ _ _ _ _ _ (by omega)).trans XB.c0,(set2_cell _ _ _ _ _ _ (by omega)).trans XB.c1⟩)
  (first
  | (go_at_call 110;(with_reducible refine (rsub_rn X Y (by omega) hle).mono ?_);rintro e w_x ⟨A_x,n_x,c_x,rfl,x,hh⟩
     (try replace X:=X.below hh);(try replace Y:=Y.below hh);(try replace XA:=XA.below hh);(try replace XB:=XB.below hh);(try replace Z:=Z.below hh);(try replace T:=T.below hh);replace hb:=bend hb hh)
  | (go_at_call 76;(with_reducible refine (made_any _ _ _ _ _).mono ?_);rintro e w_m ⟨rfl,hh⟩
     (try replace X:=X.below hh);(try replace Y:=Y.below hh);(try replace x:=x.below hh);(try replace XA:=XA.below hh);(try replace XB:=XB.below hh);(try replace Z:=Z.below hh);(try replace T:=T.below hh);replace hb:=bend hb hh;obtain ⟨r0,r1⟩:=Z.all;have r2:=Z.f0;have r3:=Z.f1))
 go_wp2
 have hf0:=(Z.set2 (.bool (s && decide (0 < n_x))) (.slice A_x n_x c_x)).c0
 have hf1:=(Z.set2 (.bool (s && decide (0 < n_x))) (.slice A_x n_x c_x)).c1
 refine bodyPost_ret (v:=.agg #[.bool (s && decide (0 < n_x)),.slice A_x n_x c_x]) (by simp [results,Tryz.results133,go_sem,hf0,hf1]) rfl ?_
 exact close_rz (s:=s) (g:=w.heap.size+1+1) hb (by omega) Z (x.more (by omega)) (iv_add_ge hle).symm _ _
theorem radd2_lt {s:Bool} {A B:Option Addr} {n c m d k1 k2 U V:Nat} (k:Nat) (X:RN w A n c U k1) (Y:RN w B m d V k2) (h1:k1+1≤k) (h2:k2+1≤k) (hk:k≤1000000) (hlt:U < V) :
 Calls Tryz.prog 133 #[.agg #[.bool s,.slice A n c],.agg #[.bool !s,.slice B m d]] w (GivesRZ w (iv s U+iv (!s) V) k):=by
 have hne2:(s == !s)=false:=by cases s <;> rfl
 obtain ⟨K,hK,hK0⟩:∃ K,cmpN U V=K∧¬ 0≤K:=⟨_,rfl,by unfold cmpN;rw [if_pos hlt];decide⟩
 have HK:=Lib.hid hK;clear hK
 go_enter Tryz.func133,Tryz.ntmps133
 go_wp2_with fail
 generalize hW:World.alloc _ _=W
 obtain ⟨hb,XA,XB,Z,hz⟩:=mkbx7_8 hW;clear hW;replace X:=X.below hb;replace Y:=Y.below hb;obtain ⟨xa0,xa1⟩:=XA.all;obtain ⟨xb0,xb1⟩:=XB.all
 go_wp2_with (first
  | (go_at_call 107;(with_reducible refine (rcmp_rn X Y (by omega)).mono ?_);rintro e w_c ⟨rfl,hh⟩
     rw [HK.out];(try replace X:=X.below hh);(try replace Y:=Y.below hh);(try replace XA:=XA.below hh);(try replace XB:=XB.below hh);(try replace Z:=Z.below hh);replace hb:=bend hb hh))
 replace X:=X.below (Below.refl _ _).drew
 replace Y:=Y.below (Below.refl _ _).drew
 replace XA:=XA.below (Below.refl _ _).drew
 replace XB:=XB.below (Below.refl _ _).drew
 replace Z:=Z.below (Below.refl _ _).drew
 replace hb:=hb.drew
 go_region_held3 (fun w'=>w'.cell? ⟨w.heap.size,0,none⟩=some (Value.bool s)∧w'.cell? ⟨w.heap.size,1,none⟩=some (Value.slice A n c)∧w'.cell? ⟨w.heap.size+1,0,none⟩=some (Value.bool !s)∧w'.cell? ⟨w.heap.size+1,1,none⟩=some (Value.slice B m d))
  (first | with_reducible exact ⟨XA.c0,XA.c1,XB.c0,XB.c1⟩ | with_reducible exact ⟨(set2_cell _ _ _ _ _ _ (by omega)).trans XA.c0,(set2_cell _ _ _ _ _ _ (by omega)).trans XA.c1,(set2_cell _ _ _ _ _ _ (by omega)).trans XB.c0,(set2_cell _ _ _ _ _ _ (by omega)).trans XB.c1⟩)
  (first
  | (go_at_call 110;(with_reducible refine (rsub_rn Y X (by omega) (Nat.le_of_lt hlt)).mono ?_);rintro e w_x ⟨A_x,n_x,c_x,rfl,x,hh⟩
     (try replace X:=X.below hh);(try replace Y:=Y.below hh);(try replace XA:=XA.below hh);(try replace XB:=XB.below hh);(try replace Z:=Z.below hh);(try replace T:=T.below hh);replace hb:=bend hb hh)
  | (go_at_call 76;(with_reducible refine (made_any _ _ _ _ _).mono ?_);rintro e w_m ⟨rfl,hh⟩
     (try replace X:=X.below hh);(try replace Y:=Y.below hh);(try replace x:=x.below hh);(try replace XA:=XA.below hh);(try replace XB:=XB.below hh);(try replace Z:=Z.below hh);(try replace T:=T.below hh);replace hb:=bend hb hh;obtain ⟨r0,r1⟩:=Z.all;have r2:=Z.f0;have r3:=Z.f1))
 go_wp2
 have hf0:=(Z.set2 (.bool ((!s) && decide (0 < n_x))) (.slice A_x n_x c_x)).c0
 have hf1:=(Z.set2 (.bool ((!s) && decide (0 < n_x))) (.slice A_x n_x c_x)).c1
 refine bodyPost_ret (v:=.agg #[.bool ((!s) && decide (0 < n_x)),.slice A_x n_x c_x]) (by simp [results,Tryz.results133,go_sem,hf0,hf1]) rfl ?_
 exact close_rz (s:=(!s)) (g:=w.heap.size+1+1) hb (by omega) Z (x.more (by omega)) (iv_add_lt hlt).symm _ _
theorem radd2 {s t:Bool} {A B:Option Addr} {n c m d k1 k2:Nat} {v u:Int} (k:Nat) (X:RZ w s A n c v k1) (Y:RZ w t B m d u k2) (h1:k1+1≤k) (h2:k2+1≤k) (hk:k≤1000000) :
 Calls Tryz.prog 133 #[.agg #[.bool s,.slice A n c],.agg #[.bool t,.slice B m d]] w (GivesRZ w (v+u) k):=by
 obtain ⟨U,X,rfl⟩:=X
 obtain ⟨V,Y,rfl⟩:=Y
 by_cases h:t=s
 · subst h;exact radd2_same k X Y h1 h2 hk
 · have ht:t=!s:=by cases s <;> cases t <;> simp_all
   subst ht
   rcases Nat.lt_or_ge U V with hlt | hle
   · exact radd2_lt k X Y h1 h2 hk hlt
   · exact radd2_ge k X Y h1 h2 hk hle
theorem rsub2 {s t:Bool} {A B:Option Addr} {n c m d k1 k2:Nat} {v u:Int} (k:Nat) (X:RZ w s A n c v k1) (Y:RZ w t B m d u k2) (h1:k1+1≤k) (h2:k2+1≤k) (hk:k≤1000000) :
 Calls Tryz.prog 106 #[.agg #[.bool s,.slice A n c],.agg #[.bool t,.slice B m d]] w (GivesRZ w (v - u) k):=by
 have hvu:=Lib.hid (show v+-u=v - u by omega)
 go_enter Tryz.func106,Tryz.ntmps106
 go_wp2_with fail
 generalize hW:World.alloc _ _=W
 obtain ⟨hb,XA,XB,Z,hz⟩:=mkbx7_8 hW;clear hW;replace X:=X.below hb;replace Y:=Y.below hb
 replace X:=X.below (Below.refl _ _).drew
 replace Y:=Y.below (Below.refl _ _).drew
 replace XA:=XA.below (Below.refl _ _).drew
 replace XB:=XB.below (Below.refl _ _).drew
 replace Z:=Z.below (Below.refl _ _).drew
 replace hb:=hb.drew
 go_region_held3 (fun w'=>w'.cell? ⟨w.heap.size,0,none⟩=some (Value.bool s)∧w'.cell? ⟨w.heap.size,1,none⟩=some (Value.slice A n c)∧w'.cell? ⟨w.heap.size+1,0,none⟩=some (Value.bool t)∧w'.cell? ⟨w.heap.size+1,1,none⟩=some (Value.slice B m d))
  (first | with_reducible exact ⟨XA.c0,XA.c1,XB.c0,XB.c1⟩ | with_reducible exact ⟨(set2_cell _ _ _ _ _ _ (by omega)).trans XA.c0,(set2_cell _ _ _ _ _ _ (by omega)).trans XA.c1,(set2_cell _ _ _ _ _ _ (by omega)).trans XB.c0,(set2_cell _ _ _ _ _ _ (by omega)).trans XB.c1⟩)
  (first
  | (go_at_call 111;(with_reducible refine (rminus2 Y).mono ?_);rintro e w_x ⟨s_y,A_y,n_y,c_y,rfl,y,hh⟩
     (try replace X:=X.below hh);(try replace Y:=Y.below hh);(try replace x:=x.below hh);(try replace XA:=XA.below hh);(try replace XB:=XB.below hh);(try replace Z:=Z.below hh);(try replace T:=T.below hh);replace hb:=bend hb hh;have yz:=y.rz)
  | (go_at_call 133;(with_reducible refine (radd2 k X yz (by omega) (by omega) hk).mono ?_);rintro e w_x ⟨s_x,A_x,n_x,c_x,rfl,x,hh⟩
     (try replace X:=X.below hh);(try replace Y:=Y.below hh);(try replace XA:=XA.below hh);(try replace XB:=XB.below hh);(try replace Z:=Z.below hh);(try replace T:=T.below hh);replace hb:=bend hb hh;rw [hvu.out] at x;obtain ⟨r0,r1⟩:=Z.all;have r2:=Z.f0;have r3:=Z.f1))
 go_wp2
 have hf0:=(Z.set2 (.bool s_x) (.slice A_x n_x c_x)).c0
 have hf1:=(Z.set2 (.bool s_x) (.slice A_x n_x c_x)).c1
 refine bodyPost_ret (v:=.agg #[.bool s_x,.slice A_x n_x c_x]) (by simp [results,Tryz.results106,go_sem,hf0,hf1]) rfl ?_
 exact close_rz2 (g:=w.heap.size+1+1) hb (by omega) Z x _ _
theorem sgn_iv_t {U:Nat} (h:U ≠ 0):sgn (iv true U)=-1:=by unfold sgn iv;rw [if_pos (by simp;omega)]
theorem sgn_iv_f {U:Nat} (h:U ≠ 0):sgn (iv false U)=1:=by unfold sgn iv;rw [if_neg (by simp),if_neg (by simp;omega)]
theorem rsign2 {s:Bool} {A:Option Addr} {n c k:Nat} {v:Int} (X:RZ w s A n c v k) :
 Calls Tryz.prog 68 #[.agg #[.bool s,.slice A n c]] w fun e w'=>e=.returned (.int .i64 (sgn v))∧Below w.heap.size w w':=by
 obtain ⟨U,X,rfl⟩:=X
 by_cases h0:U=0
 · subst h0
   have hn:n=0:=by have:=X.1.1;rw [limbs_zero] at this;exact this.symm
   subst hn
   have HS:Hid (sgn (iv s 0)=0):=by show _=_;cases s <;> rfl
   go_enter Tryz.func68,Tryz.ntmps68
   go_wp2_with fail
   go_ret
   exact ⟨ret_int (by rw [HS.out]),(Below.refl _ _).alloc (Nat.le_refl _) _⟩
 · have hn : 0 < n := by
     have:=X.1.1
     rw [limbs_pos B32_two h0] at this
     simp at this;omega
   have hnz:((n:Int) == 0)=false:=by simp;omega
   cases s
   · have HS:=Lib.hid (sgn_iv_f h0)
     clear h0 hn
     go_enter Tryz.func68,Tryz.ntmps68
     go_wp2_with fail
     go_ret
     exact ⟨ret_int (by rw [HS.out]),(Below.refl _ _).alloc (Nat.le_refl _) _⟩
   · have HS:=Lib.hid (sgn_iv_t h0)
     clear h0 hn
     go_enter Tryz.func68,Tryz.ntmps68
     go_wp2_with fail
     go_ret
     exact ⟨ret_int (by rw [HS.out]),(Below.refl _ _).alloc (Nat.le_refl _) _⟩
theorem sgn_sub (v u:Int):sgn (v - u)=cmpZ v u:=by unfold sgn cmpZ;(repeat' split) <;> omega
theorem rcmp2 {s t:Bool} {A B:Option Addr} {n c m d k1 k2:Nat} {v u:Int} (X:RZ w s A n c v k1) (Y:RZ w t B m d u k2) (h1:k1≤100000) (h2:k2≤100000) :
 Calls Tryz.prog 69 #[.agg #[.bool s,.slice A n c],.agg #[.bool t,.slice B m d]] w fun e w'=>e=.returned (.int .i64 (cmpZ v u))∧Below w.heap.size w w':=by
 go_enter Tryz.func69,Tryz.ntmps69
 go_wp2_with fail
 generalize hW:World.alloc _ _=W
 obtain ⟨hb,XA,XB,hz⟩:=mkbx6_8 hW;clear hW;replace X:=X.below hb;replace Y:=Y.below hb;obtain ⟨xa0,xa1⟩:=XA.all;obtain ⟨xb0,xb1⟩:=XB.all
 go_wp2_with (first
  | (go_at_call 106;(with_reducible refine (rsub2 (k1+k2+1) X Y (by omega) (by omega) (by omega)).mono ?_);rintro e w_x ⟨s_x,A_x,n_x,c_x,rfl,x,hh⟩
     replace hb:=bend hb hh;have xz:=x.rz)
  | (go_at_call 68;(with_reducible refine (rsign2 xz).mono ?_);rintro e w_y ⟨rfl,hh⟩
     replace hb:=bend hb hh;rw [sgn_sub]))
 go_ret;exact ⟨rfl,hb⟩
end
section
open Go.RowKit
def ZG (w:World) (s:Bool) (A:Option Addr) (n c:Nat) (v:Int) (k:Nat):Prop:=s=decide (v < 0)∧Rd .u64 w A n (limbs B64 v.natAbs)∧n≤c∧n≤k
theorem ZG.below {w w':World} {s:Bool} {A:Option Addr} {n c k:Nat} {v:Int} (h:ZG w s A n c v k) (hb:Below w.heap.size w w'):ZG w' s A n c v k:=⟨h.1,h.2.1.below hb,h.2.2⟩
theorem ZG.zr {s:Bool} {A:Option Addr} {n c k:Nat} {v:Int} (h:ZG w s A n c v k):ZR w s A n c v k:=by
 obtain ⟨h1,h2,h3,h4⟩:=h
 have hl:=val_lt (lim_limbs B64_two v.natAbs)
 rw [val_limbs B64_two,h2.1] at hl
 exact ⟨_,h2,lim_limbs B64_two _,by rw [val_limbs B64_two,h1,iv_canon],h3,h4,Nat.lt_of_lt_of_le hl (Nat.pow_le_pow_right (by decide) h4)⟩
theorem Bx.offx {W:World} {g:Nat} {s:Bool} {A' A:Option Addr} {n' c' n:Nat} {K:IntKind} {l:List Nat} (h:Bx W g (.bool s) (.slice A' n' c')) (hr:Rd K W A n l):Off A n g:=by
 intro hn ad e hg
 obtain ⟨b,o,eA,hc⟩:=hr.at_ hn
 obtain ⟨x,_,hx⟩:=hc 0 hn
 rw [eA] at e
 cases e
 have hg2:b=g:=hg
 subst hg2
 rw [cell_of_row W b (o+0) _ _ (0,0) h] at hx
 match o,hx with
 | 0,hx=>cases hx
 | 1,hx=>cases hx
 | o+2,hx=>cases hx
theorem mkbx8_8 {w W:World} {x0 x1 x2 x3:Value} (h:((w.alloc (Obj.cells #[x0,x1] 25)).alloc (Obj.cells #[x2,x3] 25))=W):Below w.heap.size w W∧Bx W (w.heap.size) x0 x1∧Bx W (w.heap.size+1) x2 x3∧W.heap.size=w.heap.size+2:=by subst h;exact ⟨by exact (((Below.refl _ _).alloc (Nat.le_refl _) _).alloc (by simp) _),by exact (Bx.new w _ _).alloc _,by exact Bx.new' _ _ _ _ (by simp),by simp⟩
theorem ints_any (s t:Bool) (la lb:List Nat) (A B:Option Addr) (n c m d:Nat) (w:World) (ha:Rd .u64 w A n la) (hbb:Rd .u64 w B m lb) (hn:n≤maxLen) :
 Calls Tryz.prog 77 #[.agg #[.bool s,.slice A n c],.agg #[.bool t,.slice B m d]] w fun e w'=>e=.returned (.bool (s == t && decide (la=lb)))∧Below w.heap.size w w':=by
 by_cases h:s=t
 · subst h
   have h1:(s == s)=true:=by cases s <;> rfl
   rw [h1,Bool.true_and]
   go_enter Tryz.func77,Tryz.ntmps77
   go_wp2_with fail
   generalize hW:World.alloc _ _=W
   obtain ⟨hb,XA,XB,hz⟩:=mkbx8_8 hW;clear hW;have ha:=ha.below hb;have hbb:=hbb.below hb;obtain ⟨xa0,xa1⟩:=XA.all;obtain ⟨xb0,xb1⟩:=XB.all
   go_wp2_with (first
    | (go_at_call 78;(with_reducible refine (nats_any la lb A B n c m d _ ha hbb hn).mono ?_);rintro e' w' ⟨rfl,q,rfl⟩))
   go_ret
   exact ⟨rfl,below_drawn hb q⟩
 · have h1:(s == t)=false:=by cases s <;> cases t <;> simp_all
   rw [h1,Bool.false_and]
   go_enter Tryz.func77,Tryz.ntmps77
   go_wp2_with fail
   generalize hW:World.alloc _ _=W
   obtain ⟨hb,XA,XB,hz⟩:=mkbx8_8 hW;clear hW;have ha:=ha.below hb;have hbb:=hbb.below hb;obtain ⟨xa0,xa1⟩:=XA.all;obtain ⟨xb0,xb1⟩:=XB.all
   go_wp2_with fail
   go_ret;exact ⟨rfl,hb⟩
theorem mkbx9_8 {w W:World} {x0 x1 x2 x3:Value} (h:((w.alloc (Obj.cells #[x0,x1] 41)).alloc (Obj.cells #[x2,x3] 25))=W):Below w.heap.size w W∧By W (w.heap.size) x0 x1∧Bx W (w.heap.size+1) x2 x3∧W.heap.size=w.heap.size+2:=by subst h;exact ⟨by exact (((Below.refl _ _).alloc (Nat.le_refl _) _).alloc (by simp) _),by exact (By.new w _ _).alloc _,by exact Bx.new' _ _ _ _ (by simp),by simp⟩
theorem out2 {t:Bool} {B:Option Addr} {m d k:Nat} {v:Int} (Y:RG w t B m d v k) (hk:k≤200000) :
 Calls Tryz.prog 80 #[.agg #[.bool t,.slice B m d]] w fun e w'=>∃ A n c,e=.returned (.agg #[.bool t,.slice A n c])∧Rd .u64 w' A n (limbs B64 v.natAbs)∧Below w.heap.size w w':=by
 have hJ:=join32_limbs v.natAbs;have HJ:=Lib.hid hJ
 have hm:m≤2000000:=Nat.le_trans Y.2.2.2 (by omega)
 have hY:=Y.2.1;clear hJ
 go_enter Tryz.func80,Tryz.ntmps80
 go_wp2_with fail
 generalize hW:World.alloc _ _=W
 obtain ⟨hb,XB,Z,hz⟩:=mkbx9_8 hW;clear hW;replace hY:=hY.below hb
 replace hY:=hY.below (Below.refl _ _).drew
 replace XB:=XB.drew;replace Z:=Z.drew;replace hb:=hb.drew
 go_region_held3 (fun w'=>w'.cell? ⟨w.heap.size,0,none⟩=some (Value.bool t)∧w'.cell? ⟨w.heap.size,1,none⟩=some (Value.slice B m d))
  (first | with_reducible exact ⟨XB.c0,XB.c1⟩ | with_reducible exact ⟨(set2_cell _ _ _ _ _ _ (by omega)).trans XB.c0,(set2_cell _ _ _ _ _ _ (by omega)).trans XB.c1⟩)
  (first
  | (go_at_call 79;(with_reducible refine (rout_any (limbs B32 v.natAbs) B m d _ hY (lim_limbs B32_two _) hm).mono ?_);rintro e w1 ⟨A1,n1,c1,rfl,p1,p2,p3,hh⟩
     rw [HJ.out] at p3;replace XB:=XB.below hh;replace Z:=Z.below hh;replace hb:=bend hb hh;obtain ⟨r0,r1⟩:=Z.all;have r2:=Z.f0;have r3:=Z.f1))
 go_wp2
 have hf0:=(Z.set2 (.bool t) (.slice A1 n1 c1)).c0
 have hf1:=(Z.set2 (.bool t) (.slice A1 n1 c1)).c1
 refine bodyPost_ret (v:=.agg #[.bool t,.slice A1 n1 c1]) (by simp [results,Tryz.results80,go_sem,hf0,hf1]) rfl ?_
 refine ⟨A1,n1,c1,rfl,?_,(hb.setCell (by show w.heap.size≤_;simp) _).setCell (by show w.heap.size≤_;simp) _⟩
 exact p3.rd.only (Z.offx p3.rd) (((Only.refl (w.heap.size+1) w1).setCell 0 _).setCell 1 _)
end
section
open Go.RowKit
section
variable {W W':World} {g:Nat} {x y z u:Value}
end
theorem mkbx10_8 {w W:World} {x0 x1:Value} (h:(w.alloc (Obj.cells #[x0,x1] 41))=W):Below w.heap.size w W∧By W (w.heap.size) x0 x1∧W.heap.size=w.heap.size+1:=by subst h;exact ⟨by exact ((Below.refl _ _).alloc (Nat.le_refl _) _),by exact By.new w _ _,by simp⟩
theorem rof2_pos (V:Nat) (hV:V < 9223372036854775808) (w:World) :
 Calls Tryz.prog 82 #[.int .i64 ((V:Int))] w (GivesRZ w ((V:Int)) 2):=by
 have hV64:V < B64:=by unfold B64;omega
 go_enter Tryz.func82,Tryz.ntmps82
 go_wp2_with fail
 generalize hW:World.alloc _ _=W
 obtain ⟨hb,Z,hz⟩:=mkbx10_8 hW;clear hW
 go_wp2_with (first
  | (go_at_call 35;(with_reducible refine (rofv_rn V hV64 _).mono ?_);rintro e w_x ⟨A_x,n_x,c_x,rfl,x,hh⟩
     (try replace X:=X.below hh);(try replace Y:=Y.below hh);(try replace XA:=XA.below hh);(try replace XB:=XB.below hh);(try replace Z:=Z.below hh);(try replace T:=T.below hh);replace hb:=bend hb hh)
  | (go_at_call 76;(with_reducible refine (made_any _ _ _ _ _).mono ?_);rintro e w_m ⟨rfl,hh⟩
     (try replace X:=X.below hh);(try replace Y:=Y.below hh);(try replace x:=x.below hh);(try replace XA:=XA.below hh);(try replace XB:=XB.below hh);(try replace Z:=Z.below hh);(try replace T:=T.below hh);replace hb:=bend hb hh;obtain ⟨r0,r1⟩:=Z.all;have r2:=Z.f0;have r3:=Z.f1))
 have hf0:=(Z.set2 (.bool (false && decide (0 < n_x))) (.slice A_x n_x c_x)).c0
 have hf1:=(Z.set2 (.bool (false && decide (0 < n_x))) (.slice A_x n_x c_x)).c1
 simp only [Bool.false_and] at hf0 hf1
 refine bodyPost_ret (v:=.agg #[.bool (false && decide (0 < n_x)),.slice A_x n_x c_x]) (by simp [results,Tryz.results82,go_sem,hf0,hf1]) rfl ?_
 exact close_rz (s:=false) (g:=w.heap.size) hb (Nat.le_refl _) Z x (by simp [iv]) _ _
theorem rof2_neg (V:Nat) (hV0:0 < V) (hV:V≤9223372036854775808) (w:World) :
 Calls Tryz.prog 82 #[.int .i64 (-(V:Int))] w (GivesRZ w (-(V:Int)) 2):=by
 have hV64:V < B64:=by unfold B64;omega
 obtain ⟨V',hV'⟩:∃ V',V=V'+1:=⟨V - 1,by omega⟩
 have e1:-(-(V:Int)+1)=(V':Int):=by omega
 have e2:(V':Int)+1=(V:Int):=by omega
 have hV2:V' < 9223372036854775808:=by omega
 clear hV'
 go_enter Tryz.func82,Tryz.ntmps82
 go_wp2_with fail
 generalize hW:World.alloc _ _=W
 obtain ⟨hb,Z,hz⟩:=mkbx10_8 hW;clear hW
 go_wp2_with (first
  | (go_at_call 35;(with_reducible refine (rofv_rn V hV64 _).mono ?_);rintro e w_x ⟨A_x,n_x,c_x,rfl,x,hh⟩
     (try replace X:=X.below hh);(try replace Y:=Y.below hh);(try replace XA:=XA.below hh);(try replace XB:=XB.below hh);(try replace Z:=Z.below hh);(try replace T:=T.below hh);replace hb:=bend hb hh)
  | (go_at_call 76;(with_reducible refine (made_any _ _ _ _ _).mono ?_);rintro e w_m ⟨rfl,hh⟩
     (try replace X:=X.below hh);(try replace Y:=Y.below hh);(try replace x:=x.below hh);(try replace XA:=XA.below hh);(try replace XB:=XB.below hh);(try replace Z:=Z.below hh);(try replace T:=T.below hh);replace hb:=bend hb hh;obtain ⟨r0,r1⟩:=Z.all;have r2:=Z.f0;have r3:=Z.f1))
 have hf0:=(Z.set2 (.bool (true && decide (0 < n_x))) (.slice A_x n_x c_x)).c0
 have hf1:=(Z.set2 (.bool (true && decide (0 < n_x))) (.slice A_x n_x c_x)).c1
 simp only [Bool.true_and] at hf0 hf1
 refine bodyPost_ret (v:=.agg #[.bool (true && decide (0 < n_x)),.slice A_x n_x c_x]) (by simp [results,Tryz.results82,go_sem,hf0,hf1]) rfl ?_
 exact close_rz (s:=true) (g:=w.heap.size) hb (Nat.le_refl _) Z x (by simp [iv]) _ _
theorem RG.of_made {s neg:Bool} {A:Option Addr} {n c V k:Nat} (h:RN w A n c V k) (hs:s=(neg && decide (0 < n))):RG w s A n c (iv neg V) k :=
 ⟨by rw [hs,iv_neg,rn_pos h],by rw [iv_natAbs];exact h⟩
theorem below_set2 {B g:Nat} {w W:World} (h:Below B w W) (hg:B≤g) (x y:Value):Below B w ((W.setCell ⟨g,0,none⟩ x).setCell ⟨g,1,none⟩ y):=(h.setCell hg _).setCell hg _
theorem RG.set2 {W:World} {g:Nat} {s0 s:Bool} {A1 A:Option Addr} {n1 c1 n c k:Nat} {v:Int} (X:RG W s A n c v k) (Z:By W g (.bool s0) (.slice A1 n1 c1)) (x y:Value):RG ((W.setCell ⟨g,0,none⟩ x).setCell ⟨g,1,none⟩ y) s A n c v k :=
 ⟨X.1,X.2.1.only (Z.off X.2.1) (((Only.refl g W).setCell 0 x).setCell 1 y),X.2.2⟩
theorem RN.set2 {W:World} {g:Nat} {s0:Bool} {A1 A:Option Addr} {n1 c1 n c V k:Nat} (X:RN W A n c V k) (Z:By W g (.bool s0) (.slice A1 n1 c1)) (x y:Value):RN ((W.setCell ⟨g,0,none⟩ x).setCell ⟨g,1,none⟩ y) A n c V k :=
 ⟨X.1.only (Z.off X.1) (((Only.refl g W).setCell 0 x).setCell 1 y),X.2⟩
theorem By.other {W:World} {g k:Nat} {x y:Value} (h:By W g x y) (hne:g ≠ k) (u v:Value):By ((W.setCell ⟨k,0,none⟩ u).setCell ⟨k,1,none⟩ v) g x y:=by
 unfold By at h ⊢
 rw [Below.heap_setCell _ _ _ _ hne,Below.heap_setCell _ _ _ _ hne];exact h
end
section
open Go Go.RowKit
def B3 (W:World) (g:Nat) (x y z:Value):Prop:=W.heap[g]?=some (.cells #[x,y,z] 27 (0,0))
section
variable {W W':World} {g:Nat} {x y z:Value}
theorem B3.c0 (h:B3 W g x y z):W.cell? ⟨g,0,none⟩=some x:=by rw [cell_of_row W g 0 _ _ (0,0) h];rfl
theorem B3.c1 (h:B3 W g x y z):W.cell? ⟨g,1,none⟩=some y:=by rw [cell_of_row W g 1 _ _ (0,0) h];rfl
theorem B3.c2 (h:B3 W g x y z):W.cell? ⟨g,2,none⟩=some z:=by rw [cell_of_row W g 2 _ _ (0,0) h];rfl
theorem B3.all (h:B3 W g x y z):W.cell? ⟨g,0,none⟩=some x∧W.cell? ⟨g,1,none⟩=some y∧W.cell? ⟨g,2,none⟩=some z:=⟨h.c0,h.c1,h.c2⟩
theorem B3.f0 (h:B3 W g x y z):W.frozen? ⟨g,0,none⟩=false:=frozen_of_row W g 0 _ _ h
theorem B3.f1 (h:B3 W g x y z):W.frozen? ⟨g,1,none⟩=false:=frozen_of_row W g 1 _ _ h
theorem B3.f2 (h:B3 W g x y z):W.frozen? ⟨g,2,none⟩=false:=frozen_of_row W g 2 _ _ h
theorem B3.lt (h:B3 W g x y z):g < W.heap.size:=World.block_lt_of_cell? W _ h.c0
theorem B3.below (h:B3 W g x y z) (hb:Below W.heap.size W W'):B3 W' g x y z:=(hb.block g h.lt).trans h
theorem B3.drew (h:B3 W g x y z):B3 W.drew g x y z:=h
theorem B3.alloc (h:B3 W g x y z) (o:Obj):B3 (W.alloc o) g x y z:=(Below.heap_alloc W o g h.lt).trans h
theorem B3.new' (W:World) (x y z:Value) (g:Nat) (hg:g=W.heap.size):B3 (W.alloc (.cells #[x,y,z] 27)) g x y z:=by subst hg;exact heap_alloc_new W _
theorem B3.set3 (h:B3 W g x y z) (a b c:Value):B3 (((W.setCell ⟨g,0,none⟩ a).setCell ⟨g,1,none⟩ b).setCell ⟨g,2,none⟩ c) g a b c:=by
 unfold B3 at h ⊢
 simp [World.setCell,Array.getElem?_modify,h]
theorem B3.offx {s:Bool} {A A1 A2:Option Addr} {n n1 n2 c1 c2:Nat} {K:IntKind} {l:List Nat} (h:B3 W g (.bool s) (.slice A1 n1 c1) (.slice A2 n2 c2)) (hr:Rd K W A n l):Off A n g:=by
 intro hn ad e hg
 obtain ⟨b,o,eA,hc⟩:=hr.at_ hn
 obtain ⟨x,_,hx⟩:=hc 0 hn
 rw [eA] at e
 cases e
 have hg2:b=g:=hg
 subst hg2
 rw [cell_of_row W b (o+0) _ _ (0,0) h] at hx
 match o,hx with
 | 0,hx=>cases hx
 | 1,hx=>cases hx
 | 2,hx=>cases hx
 | o+3,hx=>cases hx
end
theorem set3_cell (W:World) (g k o:Nat) (x y z:Value) (h:k ≠ g):(((W.setCell ⟨g,0,none⟩ x).setCell ⟨g,1,none⟩ y).setCell ⟨g,2,none⟩ z).cell? ⟨k,o,none⟩=W.cell? ⟨k,o,none⟩:=by
 rw [World.cell?_of_block (Below.heap_setCell _ _ _ _ h),World.cell?_of_block (Below.heap_setCell _ _ _ _ h),World.cell?_of_block (Below.heap_setCell _ _ _ _ h)]
theorem below_set3 {B g:Nat} {w W:World} (h:Below B w W) (hg:B≤g) (x y z:Value):Below B w (((W.setCell ⟨g,0,none⟩ x).setCell ⟨g,1,none⟩ y).setCell ⟨g,2,none⟩ z):=((h.setCell hg _).setCell hg _).setCell hg _
def QR (w:World) (s:Bool) (A:Option Addr) (n c:Nat) (A':Option Addr) (n' c':Nat) (v:Rat) (k:Nat):Prop :=
 ∃ p q,ZR w s A n c p k∧NR w A' n' c' q k∧v=mkRat p (den1 q)
def QG (w:World) (s:Bool) (A:Option Addr) (n c:Nat) (A':Option Addr) (n' c':Nat) (v:Rat) (k:Nat):Prop :=
 ZG w s A n c v.num k∧NG w A' n' c' v.den k
section
variable {w w':World} {s:Bool} {A A':Option Addr} {n c n' c' k k1:Nat} {v:Rat}
theorem QR.below (h:QR w s A n c A' n' c' v k) (hb:Below w.heap.size w w'):QR w' s A n c A' n' c' v k:=by
 obtain ⟨p,q,h1,h2,h3⟩:=h;exact ⟨p,q,h1.below hb,h2.below hb,h3⟩
theorem QG.below (h:QG w s A n c A' n' c' v k) (hb:Below w.heap.size w w'):QG w' s A n c A' n' c' v k:=⟨h.1.below hb,h.2.below hb⟩
theorem QG.qr (h:QG w s A n c A' n' c' v k):QR w s A n c A' n' c' v k :=
 ⟨v.num,v.den,h.1.zr,h.2.nr,by rw [den1_of v.den_nz,Rat.mkRat_self]⟩
theorem QG.set3 {g:Nat} {t:Bool} {A1 A2:Option Addr} {n1 c1 n2 c2:Nat} (h:QG w s A n c A' n' c' v k) (Z:B3 w g (.bool t) (.slice A1 n1 c1) (.slice A2 n2 c2)) (x y z:Value) :
 QG (((w.setCell ⟨g,0,none⟩ x).setCell ⟨g,1,none⟩ y).setCell ⟨g,2,none⟩ z) s A n c A' n' c' v k:=by
 have ho:Only g w (((w.setCell ⟨g,0,none⟩ x).setCell ⟨g,1,none⟩ y).setCell ⟨g,2,none⟩ z):=(((Only.refl g w).setCell 0 _).setCell 1 _).setCell 2 _
 exact ⟨⟨h.1.1,h.1.2.1.only (Z.offx h.1.2.1) ho,h.1.2.2⟩,⟨h.2.1.only (Z.offx h.2.1) ho,h.2.2⟩⟩
theorem ZR.set2x {g:Nat} {t:Bool} {A1:Option Addr} {n1 c1:Nat} {p:Int} (h:ZR w s A n c p k) (Z:Bx w g (.bool t) (.slice A1 n1 c1)) (x y:Value) :
 ZR ((w.setCell ⟨g,0,none⟩ x).setCell ⟨g,1,none⟩ y) s A n c p k:=by
 obtain ⟨l,h1,h2⟩:=h
 exact ⟨l,h1.only (Z.offx h1) (((Only.refl g w).setCell 0 _).setCell 1 _),h2⟩
theorem ZG.set2x {g:Nat} {t:Bool} {A1:Option Addr} {n1 c1:Nat} {p:Int} (h:ZG w s A n c p k) (Z:Bx w g (.bool t) (.slice A1 n1 c1)) (x y:Value) :
 ZG ((w.setCell ⟨g,0,none⟩ x).setCell ⟨g,1,none⟩ y) s A n c p k :=
 ⟨h.1,h.2.1.only (Z.offx h.2.1) (((Only.refl g w).setCell 0 _).setCell 1 _),h.2.2⟩
end
def GivesQ (w:World) (v:Rat) (k:Nat) (e:Ending) (w':World):Prop :=
 ∃ s A n c A' n' c',e=.returned (.agg #[.bool s,.slice A n c,.slice A' n' c'])∧QG w' s A n c A' n' c' v k∧Below w.heap.size w w'
theorem isone_nr {A:Option Addr} {n c V k:Nat} (X:NR w A n c V k) (hk:k≤900000) :
 Calls Tryz.prog 64 #[.slice A n c] w fun e w'=>e=.returned (.bool (decide (V=1)))∧w=w':=by
 have HB:=Lib.hid (bl_is1 V)
 go_enter Tryz.func64,Tryz.ntmps64
 go_wp2_with (go_at_call 87;((with_reducible refine (bits_nr X (by omega)).mono ?_);rintro e w' ⟨rfl,rfl⟩))
 go_ret;rw [HB.out]
 exact ⟨rfl,rfl⟩
def GivesL (w:World) (U V k1 k2:Nat) (e:Ending) (w':World):Prop :=
 ∃ A n c A' n' c',e=.returned (.tuple #[.slice A n c,.slice A' n' c'])∧NG w' A n c U k1∧NG w' A' n' c' V k2∧Below w.heap.size w w'
theorem lowest_nr {A B:Option Addr} {n c m d U V k1 k2:Nat} (X:NR w A n c U k1) (Y:NR w B m d V k2) (h1:k1≤100000) (h2:k2≤100000) (hV:V ≠ 0) :
 Calls Tryz.prog 88 #[.slice A n c,.slice B m d] w (GivesL w (U / Nat.gcd U V) (V / Nat.gcd U V) k1 k2):=by
 have hb:Below w.heap.size w w:=Below.refl _ _
 have hg:Nat.gcd U V ≠ 0:=by have:=Nat.gcd_pos_of_pos_right U (show 0 < V by omega);omega
 have HG:=Lib.hid hg;clear hg hV
 go_enter Tryz.func88,Tryz.ntmps88
 go_wp2_with (first
  | (go_at_call 118;(with_reducible refine (gcd_nr (k:=k1+k2) (X.more (by omega)) (Y.more (by omega)) (by omega)).mono ?_);rintro e w_g ⟨A_g,n_g,c_g,rfl,g,hh⟩
     (try replace X:=X.below hh);(try replace Y:=Y.below hh);replace hb:=bend hb hh)
  | (go_at_call 119;(with_reducible refine (dm_nr X g.nr (by omega) (by omega) HG.out).mono ?_);rintro e w_x ⟨A_x,n_x,c_x,A_r,n_r,c_r,rfl,x,r,hh⟩
     (try replace X:=X.below hh);(try replace Y:=Y.below hh);(try replace g:=g.below hh);replace hb:=bend hb hh)
  | (go_at_call 119;(with_reducible refine (dm_nr Y g.nr (by omega) (by omega) HG.out).mono ?_);rintro e w_y ⟨A_y,n_y,c_y,A_t,n_t,c_t,rfl,y,t,hh⟩
     (try replace X:=X.below hh);(try replace Y:=Y.below hh);(try replace g:=g.below hh);(try replace x:=x.below hh);(try replace r:=r.below hh);replace hb:=bend hb hh))
 go_ret2
 exact ⟨A_x,n_x,c_x,A_y,n_y,c_y,rfl,x,y,hb⟩
theorem ZR.nr {s:Bool} {A:Option Addr} {n c k:Nat} {v:Int} (h:ZR w s A n c v k):NR w A n c v.natAbs k:=by
 obtain ⟨l,h1,h2,rfl,h4,h5,h6⟩:=h
 exact ⟨l,h1,h2,(iv_natAbs _ _).symm,h4,h5⟩
theorem ZR.uv {s:Bool} {A:Option Addr} {n c k:Nat} {v:Int} (h:ZR w s A n c v k):v=iv s v.natAbs:=by
 obtain ⟨l,h1,h2,rfl,h4,h5,h6⟩:=h
 rw [iv_natAbs]
theorem ZR.ofn {s:Bool} {A:Option Addr} {n c k V:Nat} (h:NR w A n c V k):ZR w s A n c (iv s V) k:=by
 have:=h.lt
 obtain ⟨l,h1,h2,rfl,h4,h5⟩:=h
 exact ⟨l,h1,h2,rfl,h4,h5,by rw [iv_natAbs];exact this⟩
def GivesQE (w:World) (v:Rat) (k:Nat) (e:Ending) (w':World):Prop :=
 ∃ s A n c A' n' c',e=.returned (.tuple #[.agg #[.bool s,.slice A n c,.slice A' n' c'],.int .i64 0])∧QG w' s A n c A' n' c' v k∧Below w.heap.size w w'
theorem close_q {s t:Bool} {A B:Option Addr} {n c m d U V k1 k2 k:Nat} (hV:V ≠ 0) (x:NG w A n c (U / Nat.gcd U V) k1) (y:NG w B m d (V / Nat.gcd U V) k2) (h1:k1≤k) (h2:k2≤k) :
 QG w ((s != t) && decide (0 < n)) A n c B m d (Rat.divInt (iv s U) (iv t V)) k:=by
 have hq:iv t V ≠ 0:=by cases t <;> simp [iv] <;> omega
 have e1:=div_num (p:=iv s U) hq
 have e2:=div_den (p:=iv s U) hq
 rw [iv_natAbs,iv_natAbs] at e1 e2
 have h3:decide (0 < n)=decide (0 < U / Nat.gcd U V):=by
  have h5:=limbs_len_pos (V:=U / Nat.gcd U V) (n:=n) (x.rd.1)
  exact h5
 have hxn:=x.more h1;have hyn:=y.more h2;rw [← e1] at hxn;rw [← e2] at hyn
 exact ⟨⟨by rw [div_neg hV,h3],hxn.1,hxn.2⟩,hyn⟩
theorem mkbx11_8 {w W:World} {x0 x1 x2 x3 x4 x5 x6:Value} (h:(((w.alloc (Obj.cells #[x0,x1] 25)).alloc (Obj.cells #[x2,x3] 25)).alloc (Obj.cells #[x4,x5,x6] 27))=W):Below w.heap.size w W∧Bx W (w.heap.size) x0 x1∧Bx W (w.heap.size+1) x2 x3∧B3 W (w.heap.size+1+1) x4 x5 x6∧W.heap.size=w.heap.size+3:=by subst h;exact ⟨by exact ((((Below.refl _ _).alloc (Nat.le_refl _) _).alloc (by simp) _).alloc (by simp;omega) _),by exact ((Bx.new' _ _ _ _ rfl).alloc _).alloc _,by exact (Bx.new' _ _ _ _ (by simp)).alloc _,by exact B3.new' _ _ _ _ _ (by simp),by simp⟩
theorem make_same {s:Bool} {A B:Option Addr} {n c m d U V k1 k2:Nat} (X:NR w A n c U k1) (Y:NR w B m d V k2) (h1:k1≤100000) (h2:k2≤100000) (hV:V ≠ 0) (k:Nat) (hk1:k1≤k) (hk2:k2≤k) :
 Calls Tryz.prog 46 #[.agg #[.bool s,.slice A n c],.agg #[.bool s,.slice B m d]] w (GivesQE w (Rat.divInt (iv s U) (iv s V)) k):=by
 have hne:(s != s)=false:=by cases s <;> rfl
 have HB:Hid ((((bl V:Nat):Int) == 0)=false):=by show _=false;rw [bl_is0];exact decide_eq_false hV
 have HV:=Lib.hid hV;clear hV
 go_enter Tryz.func46,Tryz.ntmps46
 go_wp2_with fail
 generalize hW:World.alloc _ _=W
 obtain ⟨hb,XA,XB,Z,hzW⟩:=mkbx11_8 hW;clear hW;replace X:=X.below hb;replace Y:=Y.below hb;obtain ⟨xa0,xa1⟩:=XA.all;obtain ⟨xb0,xb1⟩:=XB.all;have hbl:=HB.out
 go_upto_region 4 with (first
  | (go_at_call 87;(with_reducible refine (bits_nr Y (by omega)).mono ?_);rintro e w_b ⟨rfl,rfl⟩)
  | (go_at_call 88;(with_reducible refine (lowest_nr X Y h1 h2 HV.out).mono ?_);rintro e w_l ⟨A_x,n_x,c_x,A_y,n_y,c_y,rfl,x,y,hh⟩
     clear hbl;(try replace X:=X.below hh);(try replace Y:=Y.below hh);(try replace XA:=XA.below hh);(try replace XB:=XB.below hh);(try replace Z:=Z.below hh);replace hb:=bend hb hh;obtain ⟨xa0,xa1⟩:=XA.all;obtain ⟨xb0,xb1⟩:=XB.all;obtain ⟨z0,z1,z2⟩:=Z.all))
 have zf0:=Z.f0;have zf1:=Z.f1;have zf2:=Z.f2
 go_wp2_with fail
 have Z2:=Z.set3 (.bool (false)) (.slice A_x n_x c_x) (.slice A_y n_y c_y)
 obtain ⟨g0,g1,g2⟩:=Z2.all
 refine bodyPost_ret (v:=.tuple #[.agg #[.bool (false),.slice A_x n_x c_x,.slice A_y n_y c_y],.int .i64 0]) (by simp [results,Tryz.results46,go_sem,g0,g1,g2]) rfl ?_
 have hc:=close_q (s:=s) (t:=s) HV.out x y hk1 hk2
 rw [hne] at hc
 refine ⟨_,A_x,n_x,c_x,A_y,n_y,c_y,rfl,?_,below_set3 hb (by omega) _ _ _⟩
 have:=hc.set3 Z (.bool (false)) (.slice A_x n_x c_x) (.slice A_y n_y c_y)
 simpa using this
theorem make_diff {s:Bool} {A B:Option Addr} {n c m d U V k1 k2:Nat} (X:NR w A n c U k1) (Y:NR w B m d V k2) (h1:k1≤100000) (h2:k2≤100000) (hV:V ≠ 0) (k:Nat) (hk1:k1≤k) (hk2:k2≤k) :
 Calls Tryz.prog 46 #[.agg #[.bool s,.slice A n c],.agg #[.bool (!s),.slice B m d]] w (GivesQE w (Rat.divInt (iv s U) (iv (!s) V)) k):=by
 have hne:(s != (!s))=true:=by cases s <;> rfl
 have HB:Hid ((((bl V:Nat):Int) == 0)=false):=by show _=false;rw [bl_is0];exact decide_eq_false hV
 have HV:=Lib.hid hV;clear hV
 go_enter Tryz.func46,Tryz.ntmps46
 go_wp2_with fail
 generalize hW:World.alloc _ _=W
 obtain ⟨hb,XA,XB,Z,hzW⟩:=mkbx11_8 hW;clear hW;replace X:=X.below hb;replace Y:=Y.below hb;obtain ⟨xa0,xa1⟩:=XA.all;obtain ⟨xb0,xb1⟩:=XB.all;have hbl:=HB.out
 go_upto_region 4 with (first
  | (go_at_call 87;(with_reducible refine (bits_nr Y (by omega)).mono ?_);rintro e w_b ⟨rfl,rfl⟩)
  | (go_at_call 88;(with_reducible refine (lowest_nr X Y h1 h2 HV.out).mono ?_);rintro e w_l ⟨A_x,n_x,c_x,A_y,n_y,c_y,rfl,x,y,hh⟩
     clear hbl;(try replace X:=X.below hh);(try replace Y:=Y.below hh);(try replace XA:=XA.below hh);(try replace XB:=XB.below hh);(try replace Z:=Z.below hh);replace hb:=bend hb hh;obtain ⟨xa0,xa1⟩:=XA.all;obtain ⟨xb0,xb1⟩:=XB.all;obtain ⟨z0,z1,z2⟩:=Z.all))
 have zf0:=Z.f0;have zf1:=Z.f1;have zf2:=Z.f2
 go_wp2_with fail
 have Z2:=Z.set3 (.bool (decide (0 < n_x))) (.slice A_x n_x c_x) (.slice A_y n_y c_y)
 obtain ⟨g0,g1,g2⟩:=Z2.all
 refine bodyPost_ret (v:=.tuple #[.agg #[.bool (decide (0 < n_x)),.slice A_x n_x c_x,.slice A_y n_y c_y],.int .i64 0]) (by simp [results,Tryz.results46,go_sem,g0,g1,g2]) rfl ?_
 have hc:=close_q (s:=s) (t:=(!s)) HV.out x y hk1 hk2
 rw [hne] at hc
 refine ⟨_,A_x,n_x,c_x,A_y,n_y,c_y,rfl,?_,below_set3 hb (by omega) _ _ _⟩
 have:=hc.set3 Z (.bool (decide (0 < n_x))) (.slice A_x n_x c_x) (.slice A_y n_y c_y)
 simpa using this
theorem bool_not {s t:Bool} (h:¬ t=s):t=!s:=by cases s <;> cases t <;> simp_all
theorem ZR.more {s:Bool} {A:Option Addr} {n c k k1:Nat} {v:Int} (h:ZR w s A n c v k) (hk:k≤k1):ZR w s A n c v k1:=by
 obtain ⟨l,a1,a2,a3,a4,a5,a6⟩:=h
 exact ⟨l,a1,a2,a3,a4,by omega,Nat.lt_of_lt_of_le a6 (Nat.pow_le_pow_right (by decide) hk)⟩
theorem make_zr {s t:Bool} {A B:Option Addr} {n c m d k1 k2:Nat} {p q:Int} (k:Nat) (X:ZR w s A n c p k1) (Y:ZR w t B m d q k2) (h1:k1≤100000) (h2:k2≤100000) (hq:q ≠ 0) (hk1:k1≤k) (hk2:k2≤k) :
 Calls Tryz.prog 46 #[.agg #[.bool s,.slice A n c],.agg #[.bool t,.slice B m d]] w (GivesQE w (Rat.divInt p q) k):=by
 have hp:=X.uv;have hqq:=Y.uv
 by_cases ht:t=s
 · subst ht
   have:=make_same (s:=t) X.nr Y.nr h1 h2 (by omega) k hk1 hk2
   rwa [← hp,← hqq] at this
 · have ht':t=!s:=bool_not ht
   subst ht'
   have:=make_diff (s:=s) X.nr Y.nr h1 h2 (by omega) k hk1 hk2
   rwa [← hp,← hqq] at this
end
section
open Go Go.RowKit
def GivesP (w:World) (p q:Int) (k:Nat) (e:Ending) (w':World):Prop :=
 ∃ s A n c t B m d,e=.returned (.tuple #[.agg #[.bool s,.slice A n c],.agg #[.bool t,.slice B m d]])∧ZR w' s A n c p k∧ZR w' t B m d q k∧Below w.heap.size w w'
theorem two_set {w W:World} {g1 g2 n c m d k n1 c1 n2 c2:Nat} {s t a b:Bool} {A B A1 A2:Option Addr} {p q:Int} (hb:Below w.heap.size w W) (h1:w.heap.size≤g1) (h2:w.heap.size≤g2) (hne:g1 ≠ g2)
 (Z1:Bx W g1 (.bool a) (.slice A1 n1 c1)) (Z2:Bx W g2 (.bool b) (.slice A2 n2 c2)) (X:ZR W s A n c p k) (Y:ZR W t B m d q k) (x y z u:Value) :
 ZR ((((W.setCell ⟨g1,0,none⟩ x).setCell ⟨g1,1,none⟩ y).setCell ⟨g2,0,none⟩ z).setCell ⟨g2,1,none⟩ u) s A n c p k ∧
 ZR ((((W.setCell ⟨g1,0,none⟩ x).setCell ⟨g1,1,none⟩ y).setCell ⟨g2,0,none⟩ z).setCell ⟨g2,1,none⟩ u) t B m d q k ∧
 Below w.heap.size w ((((W.setCell ⟨g1,0,none⟩ x).setCell ⟨g1,1,none⟩ y).setCell ⟨g2,0,none⟩ z).setCell ⟨g2,1,none⟩ u):=by
 have Z3:=Z2.other (k:=g1) (Ne.symm hne) x y
 exact ⟨(X.set2x Z1 x y).set2x Z3 z u,(Y.set2x Z1 x y).set2x Z3 z u,(((hb.setCell h1 _).setCell h1 _).setCell h2 _).setCell h2 _⟩
theorem mkbx12_8 {w W:World} {x0 x1 x2 x3 x4 x5 x6:Value} (h:(((w.alloc (Obj.cells #[x0,x1,x2] 27)).alloc (Obj.cells #[x3,x4] 25)).alloc (Obj.cells #[x5,x6] 25))=W):Below w.heap.size w W∧B3 W (w.heap.size) x0 x1 x2∧Bx W (w.heap.size+1) x3 x4∧Bx W (w.heap.size+1+1) x5 x6∧W.heap.size=w.heap.size+3:=by subst h;exact ⟨by exact ((((Below.refl _ _).alloc (Nat.le_refl _) _).alloc (by simp) _).alloc (by simp;omega) _),by exact ((B3.new' _ _ _ _ _ rfl).alloc _).alloc _,by exact (Bx.new' _ _ _ _ (by simp)).alloc _,by exact Bx.new' _ _ _ _ (by simp),by simp⟩
theorem parts_zero {s:Bool} {A A':Option Addr} {n c n' c' k q:Nat} {p:Int} (X:ZR w s A n c p k) (Q:NR w A' n' c' q k) (hk:k≤100000) (hk1:1≤k) (hq:q=0) :
 Calls Tryz.prog 50 #[.agg #[.bool s,.slice A n c,.slice A' n' c']] w (GivesP w p 1 k):=by
 have HB:Hid ((((bl q:Nat):Int) == 0)=true):=by show _=true;rw [bl_is0,hq];rfl
 clear hq
 go_enter Tryz.func50,Tryz.ntmps50
 go_wp2_with fail
 generalize hW:World.alloc _ _=W
 obtain ⟨hb,XA,Z1,Z2,hzW⟩:=mkbx12_8 hW;clear hW;replace X:=X.below hb;replace Q:=Q.below hb;obtain ⟨xa0,xa1,xa2⟩:=XA.all;have hbl:=HB.out
 go_upto_region 2 with ((go_at_call 87;((with_reducible refine (bits_nr Q (by omega)).mono ?_);rintro e w' ⟨rfl,rfl⟩)))
 clear hbl
 replace X:=X.below (Below.refl _ _).drew
 replace XA:=XA.below (Below.refl _ _).drew
 replace Z1:=Z1.below (Below.refl _ _).drew
 replace Z2:=Z2.below (Below.refl _ _).drew
 replace hb:=hb.drew
 go_region_held3 (fun w'=>w'.cell? ⟨w.heap.size,0,none⟩=some (Value.bool s)∧w'.cell? ⟨w.heap.size,1,none⟩=some (Value.slice A n c)∧w'.cell? ⟨w.heap.size,2,none⟩=some (Value.slice A' n' c'))
  (first | with_reducible exact ⟨XA.c0,XA.c1,XA.c2⟩ | with_reducible exact ⟨(set2_cell _ _ _ _ _ _ (by omega)).trans (XA.c0),(set2_cell _ _ _ _ _ _ (by omega)).trans (XA.c1),(set2_cell _ _ _ _ _ _ (by omega)).trans (XA.c2)⟩ | with_reducible exact ⟨(set2_cell _ _ _ _ _ _ (by omega)).trans ((set2_cell _ _ _ _ _ _ (by omega)).trans (XA.c0)),(set2_cell _ _ _ _ _ _ (by omega)).trans ((set2_cell _ _ _ _ _ _ (by omega)).trans (XA.c1)),(set2_cell _ _ _ _ _ _ (by omega)).trans ((set2_cell _ _ _ _ _ _ (by omega)).trans (XA.c2))⟩)
  (first
  | (go_at_call 47;(with_reducible refine (zof_zr 1 (by decide) (by decide) _).mono ?_);rintro e w_o ⟨s_o,A_o,n_o,c_o,rfl,o,hh⟩
     (try replace X:=X.below hh);(try replace XA:=XA.below hh);(try replace Z1:=Z1.below hh);(try replace Z2:=Z2.below hh);replace hb:=bend hb hh;obtain ⟨z0,z1⟩:=Z1.all;have z2:=Z1.f0;have z3:=Z1.f1;obtain ⟨y0,y1⟩:=Z2.all;have y2:=Z2.f0;have y3:=Z2.f1
     have Z2o:=Z2.other (k:=w.heap.size+1) (by omega) (.bool s) (.slice A n c)
     obtain ⟨zo0,zo1⟩:=Z2o.all;have zo2:=Z2o.f0;have zo3:=Z2o.f1))
 replace o:=o.more (show 1≤k from hk1)
 have Y:=o
 go_wp2_with fail
 have G1:=(Z1.set2 (.bool s) (.slice A n c)).other (k:=w.heap.size+1+1) (by omega) (.bool s_o) (.slice A_o n_o c_o)
 have G2:=(Z2.other (k:=w.heap.size+1) (by omega) (.bool s) (.slice A n c)).set2 (.bool s_o) (.slice A_o n_o c_o)
 obtain ⟨g0,g1⟩:=G1.all;have g2:=G2.c0;have g3:=G2.c1
 have HT:=two_set hb (by omega) (by omega) (by omega) Z1 Z2 X Y (.bool s) (.slice A n c) (.bool s_o) (.slice A_o n_o c_o)
 refine bodyPost_ret (v:=.tuple #[.agg #[.bool s,.slice A n c],.agg #[.bool s_o,.slice A_o n_o c_o]]) (by simp [results,Tryz.results50,go_sem,g0,g1,g2,g3]) rfl ?_
 exact ⟨s,A,n,c,_,_,_,_,rfl,HT.1,HT.2.1,HT.2.2⟩
theorem parts_pos {s:Bool} {A A':Option Addr} {n c n' c' k q:Nat} {p:Int} (X:ZR w s A n c p k) (Q:NR w A' n' c' q k) (hk:k≤100000) (hq:q ≠ 0) :
 Calls Tryz.prog 50 #[.agg #[.bool s,.slice A n c,.slice A' n' c']] w (GivesP w p (q:Int) k):=by
 have HB:Hid ((((bl q:Nat):Int) == 0)=false):=by show _=false;rw [bl_is0];exact decide_eq_false hq
 clear hq
 go_enter Tryz.func50,Tryz.ntmps50
 go_wp2_with fail
 generalize hW:World.alloc _ _=W
 obtain ⟨hb,XA,Z1,Z2,hzW⟩:=mkbx12_8 hW;clear hW;replace X:=X.below hb;replace Q:=Q.below hb;obtain ⟨xa0,xa1,xa2⟩:=XA.all;have hbl:=HB.out
 go_upto_region 3 with ((go_at_call 87;((with_reducible refine (bits_nr Q (by omega)).mono ?_);rintro e w' ⟨rfl,rfl⟩)))
 clear hbl;obtain ⟨z0,z1⟩:=Z1.all;have z2:=Z1.f0;have z3:=Z1.f1;obtain ⟨y0,y1⟩:=Z2.all;have y2:=Z2.f0;have y3:=Z2.f1
 have Z2o:=Z2.other (k:=w.heap.size+1) (by omega) (.bool s) (.slice A n c)
 obtain ⟨zo0,zo1⟩:=Z2o.all;have zo2:=Z2o.f0;have zo3:=Z2o.f1
 go_region
 have Y:=ZR.ofn (s:=false) Q
 rw [show iv false q=(q:Int) from rfl] at Y
 go_wp2_with fail
 have G1:=(Z1.set2 (.bool s) (.slice A n c)).other (k:=w.heap.size+1+1) (by omega) (.bool false) (.slice A' n' c')
 have G2:=(Z2.other (k:=w.heap.size+1) (by omega) (.bool s) (.slice A n c)).set2 (.bool false) (.slice A' n' c')
 obtain ⟨g0,g1⟩:=G1.all;have g2:=G2.c0;have g3:=G2.c1
 have HT:=two_set hb (by omega) (by omega) (by omega) Z1 Z2 X Y (.bool s) (.slice A n c) (.bool false) (.slice A' n' c')
 refine bodyPost_ret (v:=.tuple #[.agg #[.bool s,.slice A n c],Value.agg #[.bool false,.slice A' n' c']]) (by simp [results,Tryz.results50,go_sem,g0,g1,g2,g3]) rfl ?_
 exact ⟨s,A,n,c,_,_,_,_,rfl,HT.1.drew,HT.2.1.drew,HT.2.2.drew⟩
theorem parts_any {s:Bool} {A A':Option Addr} {n c n' c' k q:Nat} {p:Int} (X:ZR w s A n c p k) (Q:NR w A' n' c' q k) (hk:k≤100000) (hk1:1≤k) :
 Calls Tryz.prog 50 #[.agg #[.bool s,.slice A n c,.slice A' n' c']] w (GivesP w p (den1 q:Int) k):=by
 by_cases hq:q=0
 · have h:=parts_zero X Q hk hk1 hq
   rw [hq];exact h
 · rw [den1_of hq];exact parts_pos X Q hk hq
theorem mkbx13_8 {w W:World} {x0 x1 x2:Value} (h:(w.alloc (Obj.cells #[x0,x1,x2] 27))=W):Below w.heap.size w W∧B3 W (w.heap.size) x0 x1 x2∧W.heap.size=w.heap.size+1:=by subst h;exact ⟨by exact ((Below.refl _ _).alloc (Nat.le_refl _) _),by exact B3.new' _ _ _ _ _ rfl,by simp⟩
theorem by_zr {s t:Bool} {A B:Option Addr} {n c m d k1 k2:Nat} {p q:Int} (k:Nat) (X:ZR w s A n c p k1) (Y:ZR w t B m d q k2) (h1:k1≤100000) (h2:k2≤100000) (hq:q ≠ 0) (hk1:k1≤k) (hk2:k2≤k) :
 Calls Tryz.prog 58 #[.agg #[.bool s,.slice A n c],.agg #[.bool t,.slice B m d]] w (GivesQ w (Rat.divInt p q) k):=by
 have HQ:=Lib.hid hq;clear hq
 go_enter Tryz.func58,Tryz.ntmps58
 go_wp2_with fail
 generalize hW:World.alloc _ _=W
 obtain ⟨hb,XA,XB,Z,hzW⟩:=mkbx11_8 hW;clear hW;replace X:=X.below hb;replace Y:=Y.below hb;obtain ⟨xa0,xa1⟩:=XA.all;obtain ⟨xb0,xb1⟩:=XB.all
 go_upto_region 2 with (first
  | (go_at_call 46;(with_reducible refine (make_zr k X Y h1 h2 HQ.out hk1 hk2).mono ?_);rintro e w_r ⟨s_r,A_r,n_r,c_r,B_r,m_r,d_r,rfl,r,hh⟩
     (try replace XA:=XA.below hh);(try replace XB:=XB.below hh);(try replace Z:=Z.below hh);replace hb:=bend hb hh))
 generalize hW:World.alloc _ _=W2
 obtain ⟨hh,R,hzW2⟩:=mkbx13_8 hW;clear hW;(try replace r:=r.below hh);(try replace Z:=Z.below hh);replace hb:=bend hb hh;obtain ⟨r0,r1,r2⟩:=R.all;have zf0:=Z.f0;have zf1:=Z.f1;have zf2:=Z.f2;obtain ⟨z0,z1,z2⟩:=Z.all
 go_wp2_with fail
 have Z2:=Z.set3 (.bool s_r) (.slice A_r n_r c_r) (.slice B_r m_r d_r)
 obtain ⟨g0,g1,g2⟩:=Z2.all
 refine bodyPost_ret (v:=.agg #[.bool s_r,.slice A_r n_r c_r,.slice B_r m_r d_r]) (by simp [results,Tryz.results58,go_sem,g0,g1,g2]) rfl ?_
 exact ⟨s_r,A_r,n_r,c_r,B_r,m_r,d_r,rfl,r.set3 Z _ _ _,below_set3 hb (by omega) _ _ _⟩
end
section
open Go Go.RowKit
theorem den1_i (q:Nat):(den1 q:Int) ≠ 0:=by have:=den1_ne q;omega
theorem rsign_q {s:Bool} {A A':Option Addr} {n c n' c' k:Nat} {v:Rat} (X0:QR w s A n c A' n' c' v k) (hk:k≤90000) (hk1:1≤k) :
 Calls Tryz.prog 24 #[.agg #[.bool s,.slice A n c,.slice A' n' c']] w fun e w'=>e=.returned (.int .i64 (sgnQ v))∧Below w.heap.size w w':=by
 obtain ⟨p,q,X,Q,rfl⟩:=X0
 have HE:Hid (sgn p=sgnQ (mkRat p (den1 q))):=(sgnQ_mk (den1_ne q)).symm
 go_enter Tryz.func24,Tryz.ntmps24
 go_wp2_with fail
 generalize hW:World.alloc _ _=W
 obtain ⟨hb,XA,hzW⟩:=mkbx13_8 hW;clear hW;replace X:=X.below hb;replace Q:=Q.below hb;obtain ⟨xa0,xa1,xa2⟩:=XA.all
 go_wp2_with (first
  | (go_at_call 61;(with_reducible refine (sign_zr X (by omega)).mono ?_);rintro e w_z ⟨rfl,hh⟩
     rw [HE.out];(try replace X:=X.below hh);(try replace Q:=Q.below hh);(try replace XA:=XA.below hh);replace hb:=bend hb hh))
 go_ret;exact ⟨rfl,hb⟩
theorem cmpQ_signs {s t:Bool} {a b:Nat} {q q2:Nat} (hq:q ≠ 0) (hq2:q2 ≠ 0) (h:¬ s=t):cmpZ (iv s a) (iv t b)=cmpQ (mkRat (iv s a) q) (mkRat (iv t b) q2):=by
 rw [cmpQ_mk hq hq2]
 have h1:(0:Int) < q:=by omega
 have h2:(0:Int) < q2:=by omega
 cases s <;> cases t <;> simp at h
 · have e1:iv false a=(a:Int):=rfl
   have e2:iv true b=-(b:Int):=rfl
   rw [e1,e2]
   have e3:(0:Int)≤a*q2:=Int.mul_nonneg (by omega) (by omega)
   have e4:(0:Int)≤b*q:=Int.mul_nonneg (by omega) (by omega)
   have e5:(a:Int)*q2=0 ↔ (a:Int)=0:=by rw [Int.mul_eq_zero];omega
   have e6:(b:Int)*q=0 ↔ (b:Int)=0:=by rw [Int.mul_eq_zero];omega
   rw [Int.neg_mul]
   unfold cmpZ
   by_cases ha:(a:Int)=0 <;> by_cases hb:(b:Int)=0 <;> (repeat' split) <;> omega
 · have e1:iv true a=-(a:Int):=rfl
   have e2:iv false b=(b:Int):=rfl
   rw [e1,e2]
   have e3:(0:Int)≤a*q2:=Int.mul_nonneg (by omega) (by omega)
   have e4:(0:Int)≤b*q:=Int.mul_nonneg (by omega) (by omega)
   have e5:(a:Int)*q2=0 ↔ (a:Int)=0:=by rw [Int.mul_eq_zero];omega
   have e6:(b:Int)*q=0 ↔ (b:Int)=0:=by rw [Int.mul_eq_zero];omega
   rw [Int.neg_mul]
   unfold cmpZ
   by_cases ha:(a:Int)=0 <;> by_cases hb:(b:Int)=0 <;> (repeat' split) <;> omega
theorem cmpZ_zero {a b:Int} (h:cmpZ a b=0):a=b:=by
 unfold cmpZ at h
 (repeat' split at h) <;> omega
end
section
open Go Go.RowKit
theorem mkbx14_8 {w W:World} {x0 x1 x2 x3 x4 x5:Value} (h:((w.alloc (Obj.cells #[x0,x1,x2] 27)).alloc (Obj.cells #[x3,x4,x5] 27))=W):Below w.heap.size w W∧B3 W (w.heap.size) x0 x1 x2∧B3 W (w.heap.size+1) x3 x4 x5∧W.heap.size=w.heap.size+2:=by subst h;exact ⟨by exact (((Below.refl _ _).alloc (Nat.le_refl _) _).alloc (by simp) _),by exact (B3.new' _ _ _ _ _ rfl).alloc _,by exact B3.new' _ _ _ _ _ (by simp),by simp⟩
theorem rcmp_q {s t:Bool} {A A' B B':Option Addr} {n c n' c' m d m' d' k k2:Nat} {v0 u0:Rat} (X0:QR w s A n c A' n' c' v0 k) (Y0:QR w t B m d B' m' d' u0 k2) (hk:k≤40000) (hkb:k2≤40000) (h40:k≤40000 ∨ k2≤40000) (hk1:1≤k) (hk3:1≤k2) :
 Calls Tryz.prog 20 #[.agg #[.bool s,.slice A n c,.slice A' n' c'],.agg #[.bool t,.slice B m d,.slice B' m' d']] w fun e w'=>e=.returned (.int .i64 (cmpQ v0 u0))∧Below w.heap.size w w':=by
 obtain ⟨p,q,X,Q,rfl⟩:=X0
 obtain ⟨p2,q2,Y,R,rfl⟩:=Y0
 go_enter Tryz.func20,Tryz.ntmps20
 go_wp2_with fail
 generalize hW:World.alloc _ _=W
 obtain ⟨hb,XA,XB,hzW⟩:=mkbx14_8 hW;clear hW;replace X:=X.below hb;replace Q:=Q.below hb;replace Y:=Y.below hb;replace R:=R.below hb;obtain ⟨xa0,xa1,xa2⟩:=XA.all;obtain ⟨xb0,xb1,xb2⟩:=XB.all
 go_upto_region 2 with (first
  | (go_at_call 50;(with_reducible refine (parts_any X Q (by omega) hk1).mono ?_);rintro e w_p ⟨s_x,A_x,n_x,c_x,s_y,A_y,n_y,c_y,rfl,x,y,hh⟩
     (try replace X:=X.below hh);(try replace Q:=Q.below hh);(try replace Y:=Y.below hh);(try replace R:=R.below hh);(try replace u:=u.below hh);(try replace v:=v.below hh);(try replace m1:=m1.below hh);(try replace m2:=m2.below hh);(try replace m3:=m3.below hh);(try replace XA:=XA.below hh);(try replace XB:=XB.below hh);(try replace Z:=Z.below hh);(try replace Z1:=Z1.below hh);(try replace Z2:=Z2.below hh);(try replace Z3:=Z3.below hh);(try replace XP:=XP.below hh);(try replace XQ:=XQ.below hh);(try replace XU:=XU.below hh);(try replace XV:=XV.below hh);replace hb:=bend hb hh))
 have hp1:=XB.lt
 generalize hW:World.alloc _ _=W2
 obtain ⟨hh,XP,XQ,hzW2⟩:=mkbx8_8 hW;clear hW;(try replace X:=X.below hh);(try replace Q:=Q.below hh);(try replace Y:=Y.below hh);(try replace R:=R.below hh);(try replace x:=x.below hh);(try replace y:=y.below hh);(try replace XA:=XA.below hh);(try replace XB:=XB.below hh);replace hb:=bend hb hh;obtain ⟨xb0,xb1,xb2⟩:=XB.all
 go_upto_region 3 with (first
  | (go_at_call 50;(with_reducible refine (parts_any Y R (by omega) hk3).mono ?_);rintro e w_u ⟨s_u,A_u,n_u,c_u,s_v,A_v,n_v,c_v,rfl,u,v,hh⟩
     (try replace X:=X.below hh);(try replace Q:=Q.below hh);(try replace Y:=Y.below hh);(try replace R:=R.below hh);(try replace x:=x.below hh);(try replace y:=y.below hh);(try replace m1:=m1.below hh);(try replace m2:=m2.below hh);(try replace m3:=m3.below hh);(try replace XA:=XA.below hh);(try replace XB:=XB.below hh);(try replace Z:=Z.below hh);(try replace Z1:=Z1.below hh);(try replace Z2:=Z2.below hh);(try replace Z3:=Z3.below hh);(try replace XP:=XP.below hh);(try replace XQ:=XQ.below hh);(try replace XU:=XU.below hh);(try replace XV:=XV.below hh);replace hb:=bend hb hh))
 have hu1:=XQ.lt
 generalize hW:World.alloc _ _=W3
 obtain ⟨hh,XU,XV,hzW3⟩:=mkbx8_8 hW;clear hW;(try replace x:=x.below hh);(try replace y:=y.below hh);(try replace u:=u.below hh);(try replace v:=v.below hh);(try replace XP:=XP.below hh);(try replace XQ:=XQ.below hh);replace hb:=bend hb hh;obtain ⟨xp0,xp1⟩:=XP.all;obtain ⟨xq0,xq1⟩:=XQ.all;obtain ⟨xu0,xu1⟩:=XU.all;obtain ⟨xv0,xv1⟩:=XV.all
 by_cases hst:s_u=s_x
 · have hst2:=hst.symm
   clear hst
   subst hst2
   by_cases heq:den1 q=den1 q2
   · have HE:Hid (cmpZ p p2=cmpQ (mkRat p (den1 q)) (mkRat p2 (den1 q2))):=by show _=_;rw [← heq];exact (cmpQ_same (den1_ne q)).symm
     have HC:Hid (cmpZ (den1 q:Int) (den1 q2:Int)=0):=by show _=_;rw [heq];exact cmpZ_self _
     have hne:(s_x != s_x)=false:=by cases s_x <;> rfl
     clear heq
     go_wp2_with (first
     | (go_at_call 51;(with_reducible refine (zcmp_zr y v (by omega)).mono ?_);rintro e w_z ⟨rfl,hh⟩
        rw [HC.out];(try replace X:=X.below hh);(try replace Q:=Q.below hh);(try replace Y:=Y.below hh);(try replace R:=R.below hh);(try replace x:=x.below hh);(try replace y:=y.below hh);(try replace u:=u.below hh);(try replace v:=v.below hh);(try replace m1:=m1.below hh);(try replace m2:=m2.below hh);(try replace m3:=m3.below hh);(try replace XA:=XA.below hh);(try replace XB:=XB.below hh);(try replace Z:=Z.below hh);(try replace Z1:=Z1.below hh);(try replace Z2:=Z2.below hh);(try replace Z3:=Z3.below hh);(try replace XP:=XP.below hh);(try replace XQ:=XQ.below hh);(try replace XU:=XU.below hh);(try replace XV:=XV.below hh);replace hb:=bend hb hh;obtain ⟨xp0,xp1⟩:=XP.all;obtain ⟨xq0,xq1⟩:=XQ.all;obtain ⟨xu0,xu1⟩:=XU.all;obtain ⟨xv0,xv1⟩:=XV.all)
     | (go_at_call 51;(with_reducible refine (zcmp_zr x u (by omega)).mono ?_);rintro e w_z ⟨rfl,hh⟩
        rw [HE.out];(try replace X:=X.below hh);(try replace Q:=Q.below hh);(try replace Y:=Y.below hh);(try replace R:=R.below hh);(try replace x:=x.below hh);(try replace y:=y.below hh);(try replace u:=u.below hh);(try replace v:=v.below hh);(try replace m1:=m1.below hh);(try replace m2:=m2.below hh);(try replace m3:=m3.below hh);(try replace XA:=XA.below hh);(try replace XB:=XB.below hh);(try replace Z:=Z.below hh);(try replace Z1:=Z1.below hh);(try replace Z2:=Z2.below hh);(try replace Z3:=Z3.below hh);(try replace XP:=XP.below hh);(try replace XQ:=XQ.below hh);(try replace XU:=XU.below hh);(try replace XV:=XV.below hh);replace hb:=bend hb hh;obtain ⟨xp0,xp1⟩:=XP.all;obtain ⟨xq0,xq1⟩:=XQ.all;obtain ⟨xu0,xu1⟩:=XU.all;obtain ⟨xv0,xv1⟩:=XV.all))
     go_ret;exact ⟨rfl,hb⟩
   · have HE:Hid (cmpZ (p*(den1 q2:Int)) (p2*(den1 q:Int))=cmpQ (mkRat p (den1 q)) (mkRat p2 (den1 q2))):=(cmpQ_mk (den1_ne q) (den1_ne q2)).symm
     obtain ⟨K,hK,hK0⟩:∃ K,cmpZ (den1 q:Int) (den1 q2:Int)=K∧((K:Int) == 0)=false:=⟨_,rfl,by
      rw [beq_eq_false_iff_ne];intro h;exact heq (by have:=cmpZ_zero h;omega)⟩
     have HC:=Lib.hid hK
     have hne:(s_x != s_x)=false:=by cases s_x <;> rfl
     clear heq hK
     go_upto_region 5 with (first
     | (go_at_call 51;(with_reducible refine (zcmp_zr y v (by omega)).mono ?_);rintro e w_z ⟨rfl,hh⟩
        rw [HC.out];(try replace X:=X.below hh);(try replace Q:=Q.below hh);(try replace Y:=Y.below hh);(try replace R:=R.below hh);(try replace x:=x.below hh);(try replace y:=y.below hh);(try replace u:=u.below hh);(try replace v:=v.below hh);(try replace m1:=m1.below hh);(try replace m2:=m2.below hh);(try replace m3:=m3.below hh);(try replace XA:=XA.below hh);(try replace XB:=XB.below hh);(try replace Z:=Z.below hh);(try replace Z1:=Z1.below hh);(try replace Z2:=Z2.below hh);(try replace Z3:=Z3.below hh);(try replace XP:=XP.below hh);(try replace XQ:=XQ.below hh);(try replace XU:=XU.below hh);(try replace XV:=XV.below hh);replace hb:=bend hb hh;obtain ⟨xp0,xp1⟩:=XP.all;obtain ⟨xq0,xq1⟩:=XQ.all;obtain ⟨xu0,xu1⟩:=XU.all;obtain ⟨xv0,xv1⟩:=XV.all))
     replace x:=x.below (Below.refl _ _).drew
     replace y:=y.below (Below.refl _ _).drew
     replace u:=u.below (Below.refl _ _).drew
     replace v:=v.below (Below.refl _ _).drew
     replace XP:=XP.below (Below.refl _ _).drew
     replace XQ:=XQ.below (Below.refl _ _).drew
     replace XU:=XU.below (Below.refl _ _).drew
     replace XV:=XV.below (Below.refl _ _).drew
     replace hb:=hb.drew
     go_region_held3 (fun w'=>w'.cell? ⟨w_p.heap.size,0,none⟩=some (.bool s_x)∧w'.cell? ⟨w_p.heap.size,1,none⟩=some (.slice A_x n_x c_x)∧w'.cell? ⟨w_p.heap.size+1,0,none⟩=some (.bool s_y)∧w'.cell? ⟨w_p.heap.size+1,1,none⟩=some (.slice A_y n_y c_y)∧w'.cell? ⟨w_u.heap.size,0,none⟩=some (.bool s_x)∧w'.cell? ⟨w_u.heap.size,1,none⟩=some (.slice A_u n_u c_u)∧w'.cell? ⟨w_u.heap.size+1,0,none⟩=some (.bool s_v)∧w'.cell? ⟨w_u.heap.size+1,1,none⟩=some (.slice A_v n_v c_v))
      (first | with_reducible exact ⟨XP.c0,XP.c1,XQ.c0,XQ.c1,XU.c0,XU.c1,XV.c0,XV.c1⟩)
      (first
      | (go_at_call 52;(with_reducible refine (zmul_zr (k+k2) x v (by omega) (by omega) (by omega)).mono ?_);rintro e w_m1 ⟨s_m1,A_m1,n_m1,c_m1,rfl,m1,hh⟩
         (try replace X:=X.below hh);(try replace Q:=Q.below hh);(try replace Y:=Y.below hh);(try replace R:=R.below hh);(try replace x:=x.below hh);(try replace y:=y.below hh);(try replace u:=u.below hh);(try replace v:=v.below hh);(try replace m2:=m2.below hh);(try replace m3:=m3.below hh);(try replace XA:=XA.below hh);(try replace XB:=XB.below hh);(try replace Z:=Z.below hh);(try replace Z1:=Z1.below hh);(try replace Z2:=Z2.below hh);(try replace Z3:=Z3.below hh);(try replace XP:=XP.below hh);(try replace XQ:=XQ.below hh);(try replace XU:=XU.below hh);(try replace XV:=XV.below hh);replace hb:=bend hb hh)
      | (go_at_call 52;(with_reducible refine (zmul_zr (k+k2) u y (by omega) (by omega) (by omega)).mono ?_);rintro e w_m2 ⟨s_m2,A_m2,n_m2,c_m2,rfl,m2,hh⟩
         (try replace X:=X.below hh);(try replace Q:=Q.below hh);(try replace Y:=Y.below hh);(try replace R:=R.below hh);(try replace x:=x.below hh);(try replace y:=y.below hh);(try replace u:=u.below hh);(try replace v:=v.below hh);(try replace m1:=m1.below hh);(try replace m3:=m3.below hh);(try replace XA:=XA.below hh);(try replace XB:=XB.below hh);(try replace Z:=Z.below hh);(try replace Z1:=Z1.below hh);(try replace Z2:=Z2.below hh);(try replace Z3:=Z3.below hh);(try replace XP:=XP.below hh);(try replace XQ:=XQ.below hh);(try replace XU:=XU.below hh);(try replace XV:=XV.below hh);replace hb:=bend hb hh)
      | (go_at_call 51;(with_reducible refine (zcmp_zr m1 m2 (by omega)).mono ?_);rintro e w_z ⟨rfl,hh⟩
         rw [HE.out];(try replace X:=X.below hh);(try replace Q:=Q.below hh);(try replace Y:=Y.below hh);(try replace R:=R.below hh);(try replace x:=x.below hh);(try replace y:=y.below hh);(try replace u:=u.below hh);(try replace v:=v.below hh);(try replace m1:=m1.below hh);(try replace m2:=m2.below hh);(try replace m3:=m3.below hh);(try replace XA:=XA.below hh);(try replace XB:=XB.below hh);(try replace Z:=Z.below hh);(try replace Z1:=Z1.below hh);(try replace Z2:=Z2.below hh);(try replace Z3:=Z3.below hh);(try replace XP:=XP.below hh);(try replace XQ:=XQ.below hh);(try replace XU:=XU.below hh);(try replace XV:=XV.below hh);replace hb:=bend hb hh))
     go_wp2_with fail
     go_ret;exact ⟨rfl,hb⟩
 · have HE : Hid (cmpZ p p2 = cmpQ (mkRat p (den1 q)) (mkRat p2 (den1 q2))) := by
     have:=cmpQ_signs (a:=p.natAbs) (b:=p2.natAbs) (den1_ne q) (den1_ne q2) (fun h=>hst h.symm)
     rw [← x.uv,← u.uv] at this
     exact this
   have hs:=bool_not hst;clear hst
   subst hs
   have hne:(s_x != (!s_x))=true:=by cases s_x <;> rfl
   go_wp2_with (first
    | (go_at_call 51;(with_reducible refine (zcmp_zr x u (by omega)).mono ?_);rintro e w_z ⟨rfl,hh⟩
       rw [HE.out];(try replace X:=X.below hh);(try replace Q:=Q.below hh);(try replace Y:=Y.below hh);(try replace R:=R.below hh);(try replace x:=x.below hh);(try replace y:=y.below hh);(try replace u:=u.below hh);(try replace v:=v.below hh);(try replace m1:=m1.below hh);(try replace m2:=m2.below hh);(try replace m3:=m3.below hh);(try replace XA:=XA.below hh);(try replace XB:=XB.below hh);(try replace Z:=Z.below hh);(try replace Z1:=Z1.below hh);(try replace Z2:=Z2.below hh);(try replace Z3:=Z3.below hh);(try replace XP:=XP.below hh);(try replace XQ:=XQ.below hh);(try replace XU:=XU.below hh);(try replace XV:=XV.below hh);replace hb:=bend hb hh;obtain ⟨xp0,xp1⟩:=XP.all;obtain ⟨xq0,xq1⟩:=XQ.all;obtain ⟨xu0,xu1⟩:=XU.all;obtain ⟨xv0,xv1⟩:=XV.all))
   go_ret;exact ⟨rfl,hb⟩
end
end Go.Proofs.YtlpogecpdfdggaaGreat
