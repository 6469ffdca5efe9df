/- AreaTells: part 11. -/
import Derived.Deep.Cut
import Derived.Deep.CutRange
import Derived.Test.YtgfcofecdhodcaaGreatKAreaTells6
import Derived.Test.YtgfcofecdhodcaaGreatKAreaTells7
import Derived.Test.YtgfcofecdhodcaaGreatKAreaTells8
import Derived.Test.YtgfcofecdhodcaaGreatKAreaTells9
import Derived.Test.YtgfcofecdhodcaaGreatKAreaTells10
set_option linter.unusedVariables false
set_option maxRecDepth 100000
set_option maxHeartbeats 16000000
variable {w:Go.World}
namespace Go.Proofs.YtgfcofecdhodcaaGreat
section
open Go Go.RowKit
def B3R (W:World) (g:Nat) (x y z:Value):Prop:=W.heap[g]?=some (.cells #[x,y,z] 43 (0,0))
section
variable {W W':World} {g:Nat} {x y z:Value}
theorem B3R.c0 (h:B3R W g x y z):W.cell? ⟨g,0,none⟩=some x:=by rw [cell_of_row W g 0 _ _ (0,0) h];rfl
theorem B3R.c1 (h:B3R W g x y z):W.cell? ⟨g,1,none⟩=some y:=by rw [cell_of_row W g 1 _ _ (0,0) h];rfl
theorem B3R.c2 (h:B3R W g x y z):W.cell? ⟨g,2,none⟩=some z:=by rw [cell_of_row W g 2 _ _ (0,0) h];rfl
theorem B3R.all (h:B3R W g x y z):W.cell? ⟨g,0,none⟩=some x∧W.cell? ⟨g,1,none⟩=some y∧W.cell? ⟨g,2,none⟩=some z:=⟨h.c0,h.c1,h.c2⟩
theorem B3R.f0 (h:B3R W g x y z):W.frozen? ⟨g,0,none⟩=false:=frozen_of_row W g 0 _ _ h
theorem B3R.f1 (h:B3R W g x y z):W.frozen? ⟨g,1,none⟩=false:=frozen_of_row W g 1 _ _ h
theorem B3R.f2 (h:B3R W g x y z):W.frozen? ⟨g,2,none⟩=false:=frozen_of_row W g 2 _ _ h
theorem B3R.lt (h:B3R W g x y z):g < W.heap.size:=World.block_lt_of_cell? W _ h.c0
theorem B3R.below (h:B3R W g x y z) (hb:Below W.heap.size W W'):B3R W' g x y z:=(hb.block g h.lt).trans h
theorem B3R.alloc (h:B3R W g x y z) (o:Obj):B3R (W.alloc o) g x y z:=(Below.heap_alloc W o g h.lt).trans h
theorem B3R.new' (W:World) (x y z:Value) (g:Nat) (hg:g=W.heap.size):B3R (W.alloc (.cells #[x,y,z] 43)) g x y z:=by subst hg;exact heap_alloc_new W _
theorem B3R.set3 (h:B3R W g x y z) (a b c:Value):B3R (((W.setCell ⟨g,0,none⟩ a).setCell ⟨g,1,none⟩ b).setCell ⟨g,2,none⟩ c) g a b c:=by
 unfold B3R at h ⊢
 simp [World.setCell,Array.getElem?_modify,h]
theorem B3R.offx {s:Bool} {A A1 A2:Option Addr} {n n1 n2 c1 c2:Nat} {K:IntKind} {l:List Nat} (h:B3R W g (.bool s) (.slice A1 n1 c1) (.slice A2 n2 c2)) (hr:Rd K W A n l):Off A n g:=by
 intro hn ad e hg
 obtain ⟨b,o,eA,hc⟩:=hr.at_ hn
 obtain ⟨x,_,hx⟩:=hc 0 hn
 rw [eA] at e
 cases e
 have hg2:b=g:=hg
 subst hg2
 rw [cell_of_row W b (o+0) _ _ (0,0) h] at hx
 match o,hx with
 | 0,hx=>cases hx
 | 1,hx=>cases hx
 | 2,hx=>cases hx
 | o+3,hx=>cases hx
end
def RQ (w:World) (s:Bool) (A:Option Addr) (n c:Nat) (A':Option Addr) (n' c':Nat) (v:Rat) (k:Nat):Prop:=RG w s A n c v.num k∧RN w A' n' c' v.den k
def Qa4 (w:World) (v:Rat) (k:Nat) (e:Ending) (w':World):Prop :=
 ∃ s A n c A' n' c',e=.returned (.agg #[.bool s,.slice A n c,.slice A' n' c'])∧RQ w' s A n c A' n' c' v k∧Below w.heap.size w w'
section
variable {w w':World} {s:Bool} {A A':Option Addr} {n c n' c' k g:Nat} {v:Rat}
theorem RQ.below (h:RQ w s A n c A' n' c' v k) (hb:Below w.heap.size w w'):RQ w' s A n c A' n' c' v k:=⟨h.1.below hb,h.2.below hb⟩
theorem RN.only {V:Nat} (h:RN w A n c V k) (ho:Off A n g) (hb:Only g w w'):RN w' A n c V k:=⟨h.1.only ho hb,h.2⟩
theorem RG.only {V:Int} (h:RG w s A n c V k) (ho:Off A n g) (hb:Only g w w'):RG w' s A n c V k:=⟨h.1,h.2.only ho hb⟩
theorem RG.rn {V:Int} (h:RG w s A n c V k):RN w A n c V.natAbs k:=h.2
theorem RG.more {V:Int} {k1:Nat} (h:RG w s A n c V k) (hk:k≤k1):RG w s A n c V k1:=⟨h.1,h.2.more hk⟩
theorem RQ.set3 {t:Bool} {A1 A2:Option Addr} {n1 c1 n2 c2:Nat} (h:RQ w s A n c A' n' c' v k) (Z:B3R w g (.bool t) (.slice A1 n1 c1) (.slice A2 n2 c2)) (x y z:Value) :
 RQ (((w.setCell ⟨g,0,none⟩ x).setCell ⟨g,1,none⟩ y).setCell ⟨g,2,none⟩ z) s A n c A' n' c' v k:=by
 have ho:Only g w (((w.setCell ⟨g,0,none⟩ x).setCell ⟨g,1,none⟩ y).setCell ⟨g,2,none⟩ z):=(((Only.refl g w).setCell 0 _).setCell 1 _).setCell 2 _
 exact ⟨h.1.only (Z.offx h.1.2.1) ho,h.2.only (Z.offx h.2.1) ho⟩
end
theorem QfT {p:Int} {q:Nat} (hq:q ≠ 0):(mkRat p q).num.natAbs=p.natAbs / Nat.gcd p.natAbs q∧(mkRat p q).den=q / Nat.gcd p.natAbs q∧((mkRat p q).num < 0 ↔ p < 0):=by
 have h0:(q:Int) ≠ 0:=by omega
 have h1:=QmP (p:=p) h0
 have h2:=Qn2 (p:=p) h0
 rw [Rat.divInt_ofNat] at h1 h2
 simp only [Int.natAbs_natCast] at h1 h2
 exact ⟨h1,h2,by rw [QfK,Qj2 hq]⟩
theorem Qf4 {w W:World} {x0 x1 x2 x3 x4:Value} (h:((w.alloc (Obj.cells #[x0,x1] 41)).alloc (Obj.cells #[x2,x3,x4] 43))=W):Below w.heap.size w W∧By W (w.heap.size) x0 x1∧B3R W (w.heap.size+1) x2 x3 x4∧W.heap.size=w.heap.size+2:=by subst h;exact ⟨by exact (((Below.refl _ _).alloc (Nat.le_refl _) _).alloc (by simp) _),by exact (By.new' _ _ _ _ rfl).alloc _,by exact B3R.new' _ _ _ _ _ (by simp),by simp⟩
theorem Qow {s:Bool} {A B:Option Addr} {n c m d k q:Nat} {p:Int} (X:RG w s A n c p k) (Y:RN w B m d q k) (hk:k≤100000) (hq:q ≠ 0) (hg:Nat.gcd p.natAbs q=1) :
 Calls Tryz.prog 86 #[.agg #[.bool s,.slice A n c],.slice B m d] w (Qa4 w (mkRat p q) k):=by
 have HG:=Lib.hid hg
 have hm:=QfT (p:=p) hq
 rw [hg,Nat.div_one,Nat.div_one] at hm
 have HM:=Lib.hid hm;clear hg hm
 go_enter Tryz.func86,Tryz.ntmps86
 go_wp2_with fail
 generalize hW:World.alloc _ _=W
 obtain ⟨hb,XP,Z,hzW⟩:=Qf4 hW;clear hW;replace X:=X.below hb;replace Y:=Y.below hb;obtain ⟨xp0,xp1⟩:=XP.all
 go_upto_region 2 with (first
  | (go_at_call 122;(with_reducible refine (QjT X.rn Y (by omega)).mono ?_);rintro e w_g ⟨A_g,n_g,c_g,rfl,g,hh⟩
     rw [HG.out] at g;(try replace X:=X.below hh);(try replace Y:=Y.below hh);(try replace x:=x.below hh);(try replace y:=y.below hh);(try replace XP:=XP.below hh);(try replace Z:=Z.below hh);replace hb:=Qai hb hh;obtain ⟨xp0,xp1⟩:=XP.all))
 have hl:Qaf B32 1=[1]:=Qbv Qah (by decide) (by decide)
 have hg1:=g.1;rw [hl] at hg1
 have hn:1=n_g:=hg1.1
 subst hn
 obtain ⟨gb,go,rfl,hgc⟩:=hg1.at_ (by decide)
 obtain ⟨gx,hgx,hgc0⟩:=hgc 0 (by decide)
 have hgx1:1=gx:=by simpa using hgx
 subst hgx1
 have hc1:w_g.cell? ⟨gb,go,none⟩=some (.int .u32 1):=by simpa using hgc0
 clear hgc hgx hgc0 hg1 hl g;have zf0:=Z.f0;have zf1:=Z.f1;have zf2:=Z.f2;obtain ⟨z0,z1,z2⟩:=Z.all
 go_wp2_with fail
 have Z2:=Z.set3 (.bool s) (.slice A n c) (.slice B m d)
 obtain ⟨g0,g1,g2⟩:=Z2.all
 refine bodyPost_ret (v:=.agg #[.bool s,.slice A n c,.slice B m d]) (by simp [results,Tryz.results86,go_sem,g0,g1,g2]) rfl ?_
 have hm:=HM.out
 have hr:RQ w_g s A n c B m d (mkRat p q) k:=⟨⟨X.1.trans (by rw [decide_eq_decide];exact hm.2.2.symm),by rw [hm.1];exact X.rn⟩,by rw [hm.2.1];exact Y⟩
 exact ⟨s,_,_,_,_,_,_,rfl,hr.set3 Z _ _ _,Qak hb (by omega) _ _ _⟩
theorem QoC {s:Bool} {A B:Option Addr} {n c m d k q G:Nat} {p:Int} (X:RG w s A n c p k) (Y:RN w B m d q k) (hk:k≤100000) (hq:q ≠ 0) (hg:Nat.gcd p.natAbs q=G) (hG:B32≤G) :
 Calls Tryz.prog 86 #[.agg #[.bool s,.slice A n c],.slice B m d] w (Qa4 w (mkRat p q) k):=by
 have HG:=Lib.hid hg
 have HG0:Hid (G ≠ 0):=by
  show G ≠ 0
  have:=Nat.gcd_pos_of_pos_right p.natAbs (Nat.pos_of_ne_zero hq)
  omega
 have hm:=QfT (p:=p) hq
 rw [hg] at hm;have HM:=Lib.hid hm;clear hg hm
 go_enter Tryz.func86,Tryz.ntmps86
 go_wp2_with fail
 generalize hW:World.alloc _ _=W
 obtain ⟨hb,XP,Z,hzW⟩:=Qf4 hW;clear hW;replace X:=X.below hb;replace Y:=Y.below hb;obtain ⟨xp0,xp1⟩:=XP.all
 go_upto_region 2 with (first
  | (go_at_call 122;(with_reducible refine (QjT X.rn Y (by omega)).mono ?_);rintro e w_g ⟨A_g,n_g,c_g,rfl,g,hh⟩
     rw [HG.out] at g;(try replace X:=X.below hh);(try replace Y:=Y.below hh);(try replace x:=x.below hh);(try replace y:=y.below hh);(try replace XP:=XP.below hh);(try replace Z:=Z.below hh);replace hb:=Qai hb hh;obtain ⟨xp0,xp1⟩:=XP.all))
 have hng:2≤n_g:=by
  rcases Nat.lt_or_ge n_g 2 with h | h
  · have h1:=QaT (Qag Qah G)
    rw [Qad Qah,g.1.1] at h1
    have h2:B32 ^ n_g≤B32 ^ 1:=Nat.pow_le_pow_right (by decide) (by omega)
    rw [Nat.pow_one] at h2
    omega
  · exact h
 have hn0:((n_g:Int) == 0)=false:=by simp;omega
 have hn1:((n_g:Int) == 1)=false:=by simp;omega
 clear hng hG
 have hfd:∀ (A:Option Addr) (n c:Nat) (A':Option Addr) (n' c':Nat) (w:World),(Instr.field 159 (.agg #[.slice A n c,.slice A' n' c']) 0).run Tryz.prog w=.ok (.slice A n c) w:=fun _ _ _ _ _ _ _=>by kernel_rfl
 go_upto_region 4 with (fail)
 replace X:=X.below (Below.refl _ _).drew
 replace Y:=Y.below (Below.refl _ _).drew
 replace g:=g.below (Below.refl _ _).drew
 replace XP:=XP.below (Below.refl _ _).drew
 replace Z:=Z.below (Below.refl _ _).drew
 replace hb:=hb.drew
 go_region_held3 (fun w'=>w'.cell? ⟨w.heap.size,0,none⟩=some (.bool s)∧w'.cell? ⟨w.heap.size,1,none⟩=some (.slice A n c))
  (first | with_reducible exact ⟨XP.c0,XP.c1⟩ | with_reducible exact ⟨(Qac _ _ _ _ _ _ _ (by omega)).trans XP.c0,(Qac _ _ _ _ _ _ _ (by omega)).trans XP.c1⟩)
  (first
  | (go_at_call 123;(with_reducible refine (Qi0 X.rn g (by omega) (by omega) HG0.out).mono ?_);rintro e w_x ⟨A_x,n_x,c_x,A_r,n_r,c_r,rfl,x,xr,hh⟩
     (try replace X:=X.below hh);(try replace Y:=Y.below hh);(try replace g:=g.below hh);(try replace y:=y.below hh);(try replace XP:=XP.below hh);(try replace Z:=Z.below hh);replace hb:=Qai hb hh;have zf0:=Z.f0;have zf1:=Z.f1;have zf2:=Z.f2;obtain ⟨z0,z1,z2⟩:=Z.all)
  | (go_at_call 123;(with_reducible refine (Qi0 Y g (by omega) (by omega) HG0.out).mono ?_);rintro e w_y ⟨A_y,n_y,c_y,A_t,n_t,c_t,rfl,y,yr,hh⟩
     (try replace X:=X.below hh);(try replace Y:=Y.below hh);(try replace g:=g.below hh);(try replace x:=x.below hh);(try replace XP:=XP.below hh);(try replace Z:=Z.below hh);replace hb:=Qai hb hh;have zf0:=Z.f0;have zf1:=Z.f1;have zf2:=Z.f2;obtain ⟨z0,z1,z2⟩:=Z.all))
 go_wp2_with fail
 have Z2:=Z.set3 (.bool s) (.slice A_x n_x c_x) (.slice A_y n_y c_y)
 obtain ⟨g0,g1,g2⟩:=Z2.all
 refine bodyPost_ret (v:=.agg #[.bool s,.slice A_x n_x c_x,.slice A_y n_y c_y]) (by simp [results,Tryz.results86,go_sem,g0,g1,g2]) rfl ?_
 have hm:=HM.out
 have hr:RQ w_y s A_x n_x c_x A_y n_y c_y (mkRat p q) k:=⟨⟨X.1.trans (by rw [decide_eq_decide];exact hm.2.2.symm),by rw [hm.1];exact x⟩,by rw [hm.2.1];exact y⟩
 exact ⟨s,_,_,_,_,_,_,rfl,hr.set3 Z _ _ _,Qak hb (by omega) _ _ _⟩
theorem QlP {s:Bool} {A B:Option Addr} {n c m d k q G:Nat} {p:Int} (X:RG w s A n c p k) (Y:RN w B m d q k) (hk:k≤100000) (hq:q ≠ 0) (hg:Nat.gcd p.natAbs q=G) (hG:G < B32) (hG1:G ≠ 1) :
 Calls Tryz.prog 86 #[.agg #[.bool s,.slice A n c],.slice B m d] w (Qa4 w (mkRat p q) k):=by
 have HG:=Lib.hid hg
 have HG0:Hid (G ≠ 0):=by
  show G ≠ 0
  have:=Nat.gcd_pos_of_pos_right p.natAbs (Nat.pos_of_ne_zero hq)
  omega
 have hm:=QfT (p:=p) hq
 rw [hg] at hm;have HM:=Lib.hid hm;clear hg hm
 go_enter Tryz.func86,Tryz.ntmps86
 go_wp2_with fail
 generalize hW:World.alloc _ _=W
 obtain ⟨hb,XP,Z,hzW⟩:=Qf4 hW;clear hW;replace X:=X.below hb;replace Y:=Y.below hb;obtain ⟨xp0,xp1⟩:=XP.all
 go_upto_region 2 with (first
  | (go_at_call 122;(with_reducible refine (QjT X.rn Y (by omega)).mono ?_);rintro e w_g ⟨A_g,n_g,c_g,rfl,g,hh⟩
     rw [HG.out] at g;(try replace X:=X.below hh);(try replace Y:=Y.below hh);(try replace x:=x.below hh);(try replace y:=y.below hh);(try replace XP:=XP.below hh);(try replace Z:=Z.below hh);replace hb:=Qai hb hh;obtain ⟨xp0,xp1⟩:=XP.all))
 have hl:Qaf B32 G=[G]:=Qbv Qah hG HG0.out
 have hg1:=g.1;rw [hl] at hg1
 have hn:1=n_g:=hg1.1
 subst hn
 obtain ⟨gb,go,eA,hgc⟩:=hg1.at_ (by decide)
 subst eA
 obtain ⟨gx,hgx,hgc0⟩:=hgc 0 (by decide)
 have hgx1:G=gx:=by simpa using hgx
 subst hgx1
 have hc1:w_g.cell? ⟨gb,go,none⟩=some (.int .u32 (G:Int)):=by simpa using hgc0
 have hG2:((G:Int) == 1)=false:=by simp;omega
 clear hgc hgx hgc0 hg1 hl hG hG1
 have hfd:∀ (A:Option Addr) (n c:Nat) (A':Option Addr) (n' c':Nat) (w:World),(Instr.field 159 (.agg #[.slice A n c,.slice A' n' c']) 0).run Tryz.prog w=.ok (.slice A n c) w:=fun _ _ _ _ _ _ _=>by kernel_rfl
 go_upto_region 4 with (fail)
 replace X:=X.below (Below.refl _ _).drew
 replace Y:=Y.below (Below.refl _ _).drew
 replace g:=g.below (Below.refl _ _).drew
 replace XP:=XP.below (Below.refl _ _).drew
 replace Z:=Z.below (Below.refl _ _).drew
 replace hb:=hb.drew
 go_region_held3 (fun w'=>w'.cell? ⟨w.heap.size,0,none⟩=some (.bool s)∧w'.cell? ⟨w.heap.size,1,none⟩=some (.slice A n c))
  (first | with_reducible exact ⟨XP.c0,XP.c1⟩ | with_reducible exact ⟨(Qac _ _ _ _ _ _ _ (by omega)).trans XP.c0,(Qac _ _ _ _ _ _ _ (by omega)).trans XP.c1⟩)
  (first
  | (go_at_call 123;(with_reducible refine (Qi0 X.rn g (by omega) (by omega) HG0.out).mono ?_);rintro e w_x ⟨A_x,n_x,c_x,A_r,n_r,c_r,rfl,x,xr,hh⟩
     (try replace X:=X.below hh);(try replace Y:=Y.below hh);(try replace g:=g.below hh);(try replace y:=y.below hh);(try replace XP:=XP.below hh);(try replace Z:=Z.below hh);replace hb:=Qai hb hh;have zf0:=Z.f0;have zf1:=Z.f1;have zf2:=Z.f2;obtain ⟨z0,z1,z2⟩:=Z.all)
  | (go_at_call 123;(with_reducible refine (Qi0 Y g (by omega) (by omega) HG0.out).mono ?_);rintro e w_y ⟨A_y,n_y,c_y,A_t,n_t,c_t,rfl,y,yr,hh⟩
     (try replace X:=X.below hh);(try replace Y:=Y.below hh);(try replace g:=g.below hh);(try replace x:=x.below hh);(try replace XP:=XP.below hh);(try replace Z:=Z.below hh);replace hb:=Qai hb hh;have zf0:=Z.f0;have zf1:=Z.f1;have zf2:=Z.f2;obtain ⟨z0,z1,z2⟩:=Z.all))
 go_wp2_with fail
 have Z2:=Z.set3 (.bool s) (.slice A_x n_x c_x) (.slice A_y n_y c_y)
 obtain ⟨g0,g1,g2⟩:=Z2.all
 refine bodyPost_ret (v:=.agg #[.bool s,.slice A_x n_x c_x,.slice A_y n_y c_y]) (by simp [results,Tryz.results86,go_sem,g0,g1,g2]) rfl ?_
 have hm:=HM.out
 have hr:RQ w_y s A_x n_x c_x A_y n_y c_y (mkRat p q) k:=⟨⟨X.1.trans (by rw [decide_eq_decide];exact hm.2.2.symm),by rw [hm.1];exact x⟩,by rw [hm.2.1];exact y⟩
 exact ⟨s,_,_,_,_,_,_,rfl,hr.set3 Z _ _ _,Qak hb (by omega) _ _ _⟩
theorem Qdc {s:Bool} {A B:Option Addr} {n c m d k q:Nat} {p:Int} (X:RG w s A n c p k) (Y:RN w B m d q k) (hk:k≤100000) (hq:q ≠ 0) :
 Calls Tryz.prog 86 #[.agg #[.bool s,.slice A n c],.slice B m d] w (Qa4 w (mkRat p q) k):=by
 by_cases h1:Nat.gcd p.natAbs q=1
 · exact Qow X Y hk hq h1
 · rcases Nat.lt_or_ge (Nat.gcd p.natAbs q) B32 with h | h
   · exact QlP X Y hk hq rfl h h1
   · exact QoC X Y hk hq rfl h
end
section
theorem QiA (v u:Rat):Qco u v=-Qco v u:=by
 unfold Qco
 by_cases h1:v < u <;> by_cases h2:u < v <;> simp [h1,h2]
 exact absurd (Rat.le_of_lt h2) (Rat.not_le.2 h1)
theorem int1 (n:Int):Rat.divInt n 1=(n:Rat):=by
 have h:Rat.divInt n 1=mkRat n 1:=Rat.divInt_ofNat n 1
 rw [h]
 apply Rat.ext
 · simp [Rat.num_mkRat]
 · simp [Rat.den_mkRat]
end
section
open Go Go.RowKit
theorem RN.pos_ne {A:Option Addr} {n c V k:Nat} (h:RN w A n c V k) (hV:V ≠ 0):((n:Int) == 0)=false:=by
 have h1:=QkM h
 rw [decide_eq_true (show 0 < V by omega)] at h1
 have:=of_decide_eq_true h1
 simp;omega
theorem RN.zero_n {A:Option Addr} {n c V k:Nat} (h:RN w A n c V k) (hV:V=0):n=0:=by
 have h1:=h.1.1
 rw [hV,Qar] at h1
 exact h1.symm
theorem fld02 (s:Bool) (A:Option Addr) (n c:Nat) (w:World):(Instr.field 41 (.agg #[.bool s,.slice A n c]) 1).run Tryz.prog w=.ok (.slice A n c) w:=by kernel_rfl
section
variable {w:World} {s:Bool} {A A':Option Addr} {n c n' c' k k1:Nat} {v:Rat}
theorem RQ.pz (h:RQ w s A n c A' n' c' v k):RZ w s A n c v.num k:=h.1.rz
theorem RQ.pg (h:RQ w s A n c A' n' c' v k):RG w s A n c v.num k:=h.1
theorem RQ.qn (h:RQ w s A n c A' n' c' v k):RN w A' n' c' v.den k:=h.2
theorem RQ.qz (h:RQ w s A n c A' n' c' v k):RZ w false A' n' c' (v.den:Int) k:=⟨v.den,h.2,rfl⟩
theorem RQ.more (h:RQ w s A n c A' n' c' v k) (hk:k≤k1):RQ w s A n c A' n' c' v k1:=⟨h.1.more hk,h.2.more hk⟩
end
theorem QcS (v:Rat):v=mkRat v.num v.den:=(Rat.mkRat_self v).symm
theorem Qga {w W:World} {x0 x1 x2 x3 x4 x5:Value} (h:((w.alloc (Obj.cells #[x0,x1,x2] 27)).alloc (Obj.cells #[x3,x4,x5] 43))=W):Below w.heap.size w W∧B3 W (w.heap.size) x0 x1 x2∧B3R W (w.heap.size+1) x3 x4 x5∧W.heap.size=w.heap.size+2:=by subst h;exact ⟨by exact (((Below.refl _ _).alloc (Nat.le_refl _) _).alloc (by simp) _),by exact (B3.new' _ _ _ _ _ rfl).alloc _,by exact B3R.new' _ _ _ _ _ (by simp),by simp⟩
theorem QmK {s:Bool} {A A':Option Addr} {n c n' c' k qq:Nat} {pp:Int} (p:ZR w s A n c pp k) (q:NR w A' n' c' qq k) (hk:k≤1000) (hk1:1≤k) (hq:qq=0) :
 Calls Tryz.prog 57 #[.agg #[.bool s,.slice A n c,.slice A' n' c']] w (Qa4 w (mkRat pp (QaY qq)) (2*k)):=by
 have HQ:=Lib.hid hq
 have HD:Hid (mkRat pp 1=mkRat pp (QaY qq)):=by show _=_;rw [hq];rfl
 clear hq
 go_enter Tryz.func57,Tryz.ntmps57
 go_wp2_with fail
 generalize hW:World.alloc _ _=W
 obtain ⟨hb,XA,Z,hzW⟩:=Qga hW;clear hW;replace p:=p.below hb;replace q:=q.below hb;obtain ⟨xa0,xa1,xa2⟩:=XA.all
 go_upto_region 2 with (first
  | (go_at_call 95;(with_reducible refine (QlV (2*k) q (by omega) rfl).mono ?_);rintro e w_x ⟨A_x,n_x,c_x,rfl,x,hh⟩
     (try replace p:=p.below hh);(try replace q:=q.below hh);(try replace y:=y.below hh);(try replace o:=o.below hh);(try replace r:=r.below hh);(try replace XA:=XA.below hh);(try replace Z:=Z.below hh);replace hb:=Qai hb hh;obtain ⟨xa0,xa1,xa2⟩:=XA.all))
 have hx0:=x.zero_n HQ.out
 subst hx0
 go_wp2_with (first
  | (go_at_call 96;(with_reducible refine (rof_rn _).mono ?_);rintro e w_o ⟨A_o,n_o,c_o,rfl,o,hh⟩
     (try replace p:=p.below hh);(try replace q:=q.below hh);(try replace x:=x.below hh);(try replace y:=y.below hh);(try replace r:=r.below hh);(try replace XA:=XA.below hh);(try replace Z:=Z.below hh);replace hb:=Qai hb hh;obtain ⟨xa0,xa1,xa2⟩:=XA.all)
  | (go_at_call 97;(with_reducible refine (rin2 p hk).mono ?_);rintro e w_y ⟨s_y,A_y,n_y,c_y,rfl,y,hh⟩
     (try replace p:=p.below hh);(try replace q:=q.below hh);(try replace x:=x.below hh);(try replace o:=o.below hh);(try replace r:=r.below hh);(try replace XA:=XA.below hh);(try replace Z:=Z.below hh);replace hb:=Qai hb hh;obtain ⟨xa0,xa1,xa2⟩:=XA.all)
  | (go_at_call 86;(with_reducible refine (Qdc y (o.more (by omega)) (by omega) (by decide)).mono ?_);rintro e w_r ⟨s_r,A_r,n_r,c_r,B_r,m_r,d_r,rfl,r,hh⟩
     rw [HD.out] at r;(try replace p:=p.below hh);(try replace q:=q.below hh);(try replace x:=x.below hh);(try replace y:=y.below hh);(try replace o:=o.below hh);(try replace XA:=XA.below hh);(try replace Z:=Z.below hh);replace hb:=Qai hb hh;obtain ⟨xa0,xa1,xa2⟩:=XA.all;have zf0:=Z.f0;have zf1:=Z.f1;have zf2:=Z.f2;obtain ⟨z0,z1,z2⟩:=Z.all))
 have Z2:=Z.set3 (.bool s_r) (.slice A_r n_r c_r) (.slice B_r m_r d_r)
 obtain ⟨g0,g1,g2⟩:=Z2.all
 refine bodyPost_ret (v:=.agg #[.bool s_r,.slice A_r n_r c_r,.slice B_r m_r d_r]) (by simp [results,Tryz.results57,go_sem,g0,g1,g2]) rfl ?_
 exact ⟨s_r,A_r,n_r,c_r,B_r,m_r,d_r,rfl,r.set3 Z _ _ _,Qak hb (by omega) _ _ _⟩
theorem Qpp {s:Bool} {A A':Option Addr} {n c n' c' k qq:Nat} {pp:Int} (p:ZR w s A n c pp k) (q:NR w A' n' c' qq k) (hk:k≤1000) (hk1:1≤k) (hq:qq ≠ 0) :
 Calls Tryz.prog 57 #[.agg #[.bool s,.slice A n c,.slice A' n' c']] w (Qa4 w (mkRat pp (QaY qq)) (2*k)):=by
 have HQ:=Lib.hid hq
 have HD:Hid (mkRat pp qq=mkRat pp (QaY qq)):=by show _=_;rw [QjX hq]
 clear hq
 go_enter Tryz.func57,Tryz.ntmps57
 go_wp2_with fail
 generalize hW:World.alloc _ _=W
 obtain ⟨hb,XA,Z,hzW⟩:=Qga hW;clear hW;replace p:=p.below hb;replace q:=q.below hb;obtain ⟨xa0,xa1,xa2⟩:=XA.all
 go_upto_region 2 with (first
  | (go_at_call 95;(with_reducible refine (QlV (2*k) q (by omega) rfl).mono ?_);rintro e w_x ⟨A_x,n_x,c_x,rfl,x,hh⟩
     (try replace p:=p.below hh);(try replace q:=q.below hh);(try replace y:=y.below hh);(try replace o:=o.below hh);(try replace r:=r.below hh);(try replace XA:=XA.below hh);(try replace Z:=Z.below hh);replace hb:=Qai hb hh;obtain ⟨xa0,xa1,xa2⟩:=XA.all))
 have hx0:=x.pos_ne HQ.out
 go_wp2_with (first
  | (go_at_call 97;(with_reducible refine (rin2 p hk).mono ?_);rintro e w_y ⟨s_y,A_y,n_y,c_y,rfl,y,hh⟩
     (try replace p:=p.below hh);(try replace q:=q.below hh);(try replace x:=x.below hh);(try replace o:=o.below hh);(try replace r:=r.below hh);(try replace XA:=XA.below hh);(try replace Z:=Z.below hh);replace hb:=Qai hb hh;obtain ⟨xa0,xa1,xa2⟩:=XA.all)
  | (go_at_call 86;(with_reducible refine (Qdc y x (by omega) HQ.out).mono ?_);rintro e w_r ⟨s_r,A_r,n_r,c_r,B_r,m_r,d_r,rfl,r,hh⟩
     rw [HD.out] at r;(try replace p:=p.below hh);(try replace q:=q.below hh);(try replace x:=x.below hh);(try replace y:=y.below hh);(try replace o:=o.below hh);(try replace XA:=XA.below hh);(try replace Z:=Z.below hh);replace hb:=Qai hb hh;obtain ⟨xa0,xa1,xa2⟩:=XA.all;have zf0:=Z.f0;have zf1:=Z.f1;have zf2:=Z.f2;obtain ⟨z0,z1,z2⟩:=Z.all))
 have Z2:=Z.set3 (.bool s_r) (.slice A_r n_r c_r) (.slice B_r m_r d_r)
 obtain ⟨g0,g1,g2⟩:=Z2.all
 refine bodyPost_ret (v:=.agg #[.bool s_r,.slice A_r n_r c_r,.slice B_r m_r d_r]) (by simp [results,Tryz.results57,go_sem,g0,g1,g2]) rfl ?_
 exact ⟨s_r,A_r,n_r,c_r,B_r,m_r,d_r,rfl,r.set3 Z _ _ _,Qak hb (by omega) _ _ _⟩
theorem rin3 {s:Bool} {A A':Option Addr} {n c n' c' k:Nat} {v:Rat} (X0:QR w s A n c A' n' c' v k) (hk:k≤1000) (hk1:1≤k) :
 Calls Tryz.prog 57 #[.agg #[.bool s,.slice A n c,.slice A' n' c']] w (Qa4 w v (2*k)):=by
 obtain ⟨pp,qq,p,q,rfl⟩:=X0
 by_cases h:qq=0
 · exact QmK p q hk hk1 h
 · exact Qpp p q hk hk1 h
theorem QmE {w W:World} {x0 x1 x2 x3 x4:Value} (h:((w.alloc (Obj.cells #[x0,x1,x2] 43)).alloc (Obj.cells #[x3,x4] 41))=W):Below w.heap.size w W∧B3R W (w.heap.size) x0 x1 x2∧By W (w.heap.size+1) x3 x4∧W.heap.size=w.heap.size+2:=by subst h;exact ⟨by exact (((Below.refl _ _).alloc (Nat.le_refl _) _).alloc (by simp) _),by exact (B3R.new' _ _ _ _ _ rfl).alloc _,by exact By.new' _ _ _ _ (by simp),by simp⟩
theorem Qia {s:Bool} {A A':Option Addr} {n c n' c' k:Nat} {v:Rat} (X:RQ w s A n c A' n' c' v k) :
 Calls Tryz.prog 89 #[.agg #[.bool s,.slice A n c,.slice A' n' c']] w fun e w'=>e=.returned (.agg #[.bool false,.slice A' n' c'])∧Below w.heap.size w w':=by
 have hn:=X.qn.pos_ne v.den_nz;clear X
 go_enter Tryz.func89,Tryz.ntmps89
 go_upto_region 1 with (fail)
 generalize hW:World.alloc _ _=W
 obtain ⟨hb,XA,Z,hzW⟩:=QmE hW;clear hW;obtain ⟨xa0,xa1,xa2⟩:=XA.all;obtain ⟨z0,z1⟩:=Z.all;have zf0:=Z.f0;have zf1:=Z.f1
 go_wp2_with fail
 have Z2:=Z.set2 (.bool false) (.slice A' n' c')
 obtain ⟨g0,g1⟩:=Z2.all
 refine bodyPost_ret (v:=.agg #[.bool false,.slice A' n' c']) (by simp [results,Tryz.results89,go_sem,g0,g1]) rfl ?_
 exact ⟨rfl,Qjh hb (by omega) _ _⟩
theorem QdX {w W:World} {x0 x1 x2:Value} (h:(w.alloc (Obj.cells #[x0,x1,x2] 43))=W):Below w.heap.size w W∧B3R W (w.heap.size) x0 x1 x2∧W.heap.size=w.heap.size+1:=by subst h;exact ⟨by exact ((Below.refl _ _).alloc (Nat.le_refl _) _),by exact B3R.new' _ _ _ _ _ rfl,by simp⟩
theorem rsign3 {s:Bool} {A A':Option Addr} {n c n' c' k:Nat} {v:Rat} (X:RQ w s A n c A' n' c' v k) :
 Calls Tryz.prog 94 #[.agg #[.bool s,.slice A n c,.slice A' n' c']] w fun e w'=>e=.returned (.int .i64 (Qb3 v))∧Below w.heap.size w w':=by
 have HS:Hid (sgn v.num=Qb3 v):=by
  show _=_
  conv=>rhs;rw [QcS v]
  exact (Qmc v.den_nz).symm
 go_enter Tryz.func94,Tryz.ntmps94
 go_wp2_with fail
 generalize hW:World.alloc _ _=W
 obtain ⟨hb,XA,hzW⟩:=QdX hW;clear hW;replace X:=X.below hb;obtain ⟨xa0,xa1,xa2⟩:=XA.all
 go_wp2_with (first
  | (go_at_call 129;(with_reducible refine (QpW X.pz).mono ?_);rintro e w_z ⟨rfl,hh⟩
     rw [HS.out];(try replace X:=X.below hh);(try replace XA:=XA.below hh);replace hb:=Qai hb hh;obtain ⟨xa0,xa1,xa2⟩:=XA.all))
 go_ret;exact ⟨rfl,hb⟩
theorem QiR {w W:World} {x0 x1 x2 x3 x4 x5:Value} (h:((w.alloc (Obj.cells #[x0,x1,x2] 43)).alloc (Obj.cells #[x3,x4,x5] 43))=W):Below w.heap.size w W∧B3R W (w.heap.size) x0 x1 x2∧B3R W (w.heap.size+1) x3 x4 x5∧W.heap.size=w.heap.size+2:=by subst h;exact ⟨by exact (((Below.refl _ _).alloc (Nat.le_refl _) _).alloc (by simp) _),by exact (B3R.new' _ _ _ _ _ rfl).alloc _,by exact B3R.new' _ _ _ _ _ (by simp),by simp⟩
theorem Qry {s:Bool} {A A':Option Addr} {n c n' c' k:Nat} {v:Rat} (X:RQ w s A n c A' n' c' v k) :
 Calls Tryz.prog 128 #[.agg #[.bool s,.slice A n c,.slice A' n' c']] w (Qa4 w (-v) k):=by
 go_enter Tryz.func128,Tryz.ntmps128
 go_wp2_with fail
 generalize hW:World.alloc _ _=W
 obtain ⟨hb,XA,Z,hzW⟩:=QiR hW;clear hW;replace X:=X.below hb
 replace X:=X.below (Below.refl _ _).drew
 replace XA:=XA.below (Below.refl _ _).drew
 replace Z:=Z.below (Below.refl _ _).drew
 replace hb:=hb.drew
 go_region_held3 (fun w'=>w'.cell? ⟨w.heap.size,0,none⟩=some (.bool s)∧w'.cell? ⟨w.heap.size,1,none⟩=some (.slice A n c)∧w'.cell? ⟨w.heap.size,2,none⟩=some (.slice A' n' c'))
  (first | with_reducible exact ⟨XA.c0,XA.c1,XA.c2⟩ | with_reducible exact ⟨(Qac _ _ _ _ _ _ _ (by omega)).trans XA.c0,(Qac _ _ _ _ _ _ _ (by omega)).trans XA.c1,(Qac _ _ _ _ _ _ _ (by omega)).trans XA.c2⟩)
  (first
  | (go_at_call 151;(with_reducible refine (Qmx X.pz).mono ?_);rintro e w_y ⟨s_y,A_y,n_y,c_y,rfl,y,hh⟩
     (try replace X:=X.below hh);(try replace XA:=XA.below hh);(try replace Z:=Z.below hh);replace hb:=Qai hb hh;have zf0:=Z.f0;have zf1:=Z.f1;have zf2:=Z.f2;obtain ⟨z0,z1,z2⟩:=Z.all))
 go_wp2_with fail
 have Z2:=Z.set3 (.bool s_y) (.slice A_y n_y c_y) (.slice A' n' c')
 obtain ⟨g0,g1,g2⟩:=Z2.all
 refine bodyPost_ret (v:=.agg #[.bool s_y,.slice A_y n_y c_y,.slice A' n' c']) (by simp [results,Tryz.results128,go_sem,g0,g1,g2]) rfl ?_
 have hr:RQ w_y s_y A_y n_y c_y A' n' c' (-v) k:=⟨by rw [Rat.neg_num];exact y,by rw [Rat.neg_den];exact X.qn⟩
 exact ⟨s_y,_,_,_,_,_,_,rfl,hr.set3 Z _ _ _,Qak hb (by omega) _ _ _⟩
theorem Qcl {w W:World} {x0 x1 x2 x3 x4 x5 x6 x7 x8:Value} (h:(((w.alloc (Obj.cells #[x0,x1,x2] 43)).alloc (Obj.cells #[x3,x4,x5] 43)).alloc (Obj.cells #[x6,x7,x8] 43))=W):Below w.heap.size w W∧B3R W (w.heap.size) x0 x1 x2∧B3R W (w.heap.size+1) x3 x4 x5∧B3R W (w.heap.size+1+1) x6 x7 x8∧W.heap.size=w.heap.size+3:=by subst h;exact ⟨by exact ((((Below.refl _ _).alloc (Nat.le_refl _) _).alloc (by simp) _).alloc (by simp;omega) _),by exact ((B3R.new' _ _ _ _ _ rfl).alloc _).alloc _,by exact (B3R.new' _ _ _ _ _ (by simp)).alloc _,by exact B3R.new' _ _ _ _ _ (by simp),by simp⟩
theorem Qq6 {s t:Bool} {A A' B B':Option Addr} {n c n' c' m d m' d' k k2:Nat} {v u:Rat} (X:RQ w s A n c A' n' c' v k) (Y:RQ w t B m d B' m' d' u k2) (hk:k≤10000) (hk2:k2≤10000) :
 Calls Tryz.prog 52 #[.agg #[.bool s,.slice A n c,.slice A' n' c'],.agg #[.bool t,.slice B m d,.slice B' m' d']] w (Qa4 w (v*u) (k+k2)):=by
 have HE:Hid (mkRat (v.num*u.num) (v.den*u.den)=v*u):=by
  show _=_
  conv=>rhs;rw [QcS v,QcS u,QpS]
 have H0:Hid (v.den*u.den ≠ 0):=Nat.mul_ne_zero v.den_nz u.den_nz
 have HJ:Hid (v.den*u.den < B32 ^ (k+k2)):=by
  show _ < _
  rw [Nat.pow_add]
  exact Nat.mul_lt_mul'' X.qn.lt Y.qn.lt
 have hfd:=fld02
 go_enter Tryz.func52,Tryz.ntmps52
 go_wp2_with fail
 generalize hW:World.alloc _ _=W
 obtain ⟨hb,XA,XB,Z,hzW⟩:=Qcl hW;clear hW;replace X:=X.below hb;replace Y:=Y.below hb
 replace X:=X.below (Below.refl _ _).drew
 replace Y:=Y.below (Below.refl _ _).drew
 replace XA:=XA.below (Below.refl _ _).drew
 replace XB:=XB.below (Below.refl _ _).drew
 replace Z:=Z.below (Below.refl _ _).drew
 replace hb:=hb.drew
 go_region_held3 (fun w'=>w'.cell? ⟨w.heap.size,0,none⟩=some (.bool s)∧w'.cell? ⟨w.heap.size,1,none⟩=some (.slice A n c)∧w'.cell? ⟨w.heap.size,2,none⟩=some (.slice A' n' c')∧w'.cell? ⟨w.heap.size+1,0,none⟩=some (.bool t)∧w'.cell? ⟨w.heap.size+1,1,none⟩=some (.slice B m d)∧w'.cell? ⟨w.heap.size+1,2,none⟩=some (.slice B' m' d'))
  (first | with_reducible exact ⟨XA.c0,XA.c1,XA.c2,XB.c0,XB.c1,XB.c2⟩ | with_reducible exact ⟨(Qac _ _ _ _ _ _ _ (by omega)).trans XA.c0,(Qac _ _ _ _ _ _ _ (by omega)).trans XA.c1,(Qac _ _ _ _ _ _ _ (by omega)).trans XA.c2,(Qac _ _ _ _ _ _ _ (by omega)).trans XB.c0,(Qac _ _ _ _ _ _ _ (by omega)).trans XB.c1,(Qac _ _ _ _ _ _ _ (by omega)).trans XB.c2⟩)
  (first
  | (go_at_call 88;(with_reducible refine (Qnm X.pz Y.pz (by omega) (by omega)).mono ?_);rintro e w_x ⟨s_x,A_x,n_x,c_x,rfl,x,hh⟩
     (try replace X:=X.below hh);(try replace Y:=Y.below hh);(try replace y:=y.below hh);(try replace r:=r.below hh);(try replace XA:=XA.below hh);(try replace XB:=XB.below hh);(try replace Z:=Z.below hh);replace hb:=Qai hb hh)
  | (go_at_call 89;(with_reducible refine (Qia X).mono ?_);rintro e w_z ⟨rfl,hh⟩
     (try replace X:=X.below hh);(try replace Y:=Y.below hh);(try replace x:=x.below hh);(try replace y:=y.below hh);(try replace r:=r.below hh);(try replace XA:=XA.below hh);(try replace XB:=XB.below hh);(try replace Z:=Z.below hh);replace hb:=Qai hb hh)
  | (go_at_call 89;(with_reducible refine (Qia Y).mono ?_);rintro e w_z ⟨rfl,hh⟩
     (try replace X:=X.below hh);(try replace Y:=Y.below hh);(try replace x:=x.below hh);(try replace y:=y.below hh);(try replace r:=r.below hh);(try replace XA:=XA.below hh);(try replace XB:=XB.below hh);(try replace Z:=Z.below hh);replace hb:=Qai hb hh)
  | (go_at_call 90;(with_reducible refine (Qjw (k+k2) X.qn Y.qn (by omega) (by omega) HJ.out).mono ?_);rintro e w_y ⟨A_y,n_y,c_y,rfl,y,hh⟩
     (try replace X:=X.below hh);(try replace Y:=Y.below hh);(try replace x:=x.below hh);(try replace r:=r.below hh);(try replace XA:=XA.below hh);(try replace XB:=XB.below hh);(try replace Z:=Z.below hh);replace hb:=Qai hb hh)
  | (go_at_call 86;(with_reducible refine (Qdc x y (by omega) H0.out).mono ?_);rintro e w_r ⟨s_r,A_r,n_r,c_r,B_r,m_r,d_r,rfl,r,hh⟩
     rw [HE.out] at r;(try replace X:=X.below hh);(try replace Y:=Y.below hh);(try replace x:=x.below hh);(try replace y:=y.below hh);(try replace XA:=XA.below hh);(try replace XB:=XB.below hh);(try replace Z:=Z.below hh);replace hb:=Qai hb hh;have zf0:=Z.f0;have zf1:=Z.f1;have zf2:=Z.f2;obtain ⟨z0,z1,z2⟩:=Z.all))
 go_wp2_with fail
 have Z2:=Z.set3 (.bool s_r) (.slice A_r n_r c_r) (.slice B_r m_r d_r)
 obtain ⟨g0,g1,g2⟩:=Z2.all
 refine bodyPost_ret (v:=.agg #[.bool s_r,.slice A_r n_r c_r,.slice B_r m_r d_r]) (by simp [results,Tryz.results52,go_sem,g0,g1,g2]) rfl ?_
 exact ⟨s_r,A_r,n_r,c_r,B_r,m_r,d_r,rfl,r.set3 Z _ _ _,Qak hb (by omega) _ _ _⟩
theorem Qj0 {s t:Bool} {A A' B B':Option Addr} {n c n' c' m d m' d' k k2:Nat} {v u:Rat} (X:RQ w s A n c A' n' c' v k) (Y:RQ w t B m d B' m' d' u k2) (hk:k≤10000) (hk2:k2≤10000) :
 Calls Tryz.prog 58 #[.agg #[.bool s,.slice A n c,.slice A' n' c'],.agg #[.bool t,.slice B m d,.slice B' m' d']] w fun e w'=>e=.returned (.int .i64 (Qco v u))∧Below w.heap.size w w':=by
 have HE:Hid (Qdb (v.num*(u.den:Int)) (u.num*(v.den:Int))=Qco v u):=by
  show _=_
  conv=>rhs;rw [QcS v,QcS u]
  exact (QhY v.den_nz u.den_nz).symm
 go_enter Tryz.func58,Tryz.ntmps58
 go_wp2_with fail
 generalize hW:World.alloc _ _=W
 obtain ⟨hb,XA,XB,hzW⟩:=QiR hW;clear hW;replace X:=X.below hb;replace Y:=Y.below hb
 replace X:=X.below (Below.refl _ _).drew
 replace Y:=Y.below (Below.refl _ _).drew
 replace XA:=XA.below (Below.refl _ _).drew
 replace XB:=XB.below (Below.refl _ _).drew
 replace hb:=hb.drew
 go_region_held3 (fun w'=>w'.cell? ⟨w.heap.size,0,none⟩=some (.bool s)∧w'.cell? ⟨w.heap.size,1,none⟩=some (.slice A n c)∧w'.cell? ⟨w.heap.size,2,none⟩=some (.slice A' n' c')∧w'.cell? ⟨w.heap.size+1,0,none⟩=some (.bool t)∧w'.cell? ⟨w.heap.size+1,1,none⟩=some (.slice B m d)∧w'.cell? ⟨w.heap.size+1,2,none⟩=some (.slice B' m' d'))
  (first | with_reducible exact ⟨XA.c0,XA.c1,XA.c2,XB.c0,XB.c1,XB.c2⟩)
  (first
  | (go_at_call 89;(with_reducible refine (Qia Y).mono ?_);rintro e w_z ⟨rfl,hh⟩
     (try replace X:=X.below hh);(try replace Y:=Y.below hh);(try replace x:=x.below hh);(try replace y:=y.below hh);(try replace XA:=XA.below hh);(try replace XB:=XB.below hh);replace hb:=Qai hb hh)
  | (go_at_call 88;(with_reducible refine (Qnm X.pz Y.qz (by omega) (by omega)).mono ?_);rintro e w_x ⟨s_x,A_x,n_x,c_x,rfl,x,hh⟩
     (try replace X:=X.below hh);(try replace Y:=Y.below hh);(try replace y:=y.below hh);(try replace XA:=XA.below hh);(try replace XB:=XB.below hh);replace hb:=Qai hb hh)
  | (go_at_call 89;(with_reducible refine (Qia X).mono ?_);rintro e w_z ⟨rfl,hh⟩
     (try replace X:=X.below hh);(try replace Y:=Y.below hh);(try replace x:=x.below hh);(try replace y:=y.below hh);(try replace XA:=XA.below hh);(try replace XB:=XB.below hh);replace hb:=Qai hb hh)
  | (go_at_call 88;(with_reducible refine (Qnm Y.pz X.qz (by omega) (by omega)).mono ?_);rintro e w_y ⟨s_y,A_y,n_y,c_y,rfl,y,hh⟩
     (try replace X:=X.below hh);(try replace Y:=Y.below hh);(try replace x:=x.below hh);(try replace XA:=XA.below hh);(try replace XB:=XB.below hh);replace hb:=Qai hb hh)
  | (go_at_call 98;(with_reducible refine (rcmp2 x.rz y.rz (by omega) (by omega)).mono ?_);rintro e w_z ⟨rfl,hh⟩
     rw [HE.out];(try replace X:=X.below hh);(try replace Y:=Y.below hh);(try replace x:=x.below hh);(try replace y:=y.below hh);(try replace XA:=XA.below hh);(try replace XB:=XB.below hh);replace hb:=Qai hb hh))
 go_wp2_with fail
 go_ret;exact ⟨rfl,hb⟩
end
section
open Go Go.RowKit
def VRG (v:Int) (k:Nat) (x:Value) (w:World):Prop:=∃ s A n c,x=.agg #[.bool s,.slice A n c]∧RG w s A n c v k
theorem RG.box {T:TypeId} {w w':World} {g:Nat} {cs:Array Value} {s:Bool} {A:Option Addr} {n c k:Nat} {v:Int} (h:RG w s A n c v k) (B:BoxAt T w g cs) (ho:Only g w w'):RG w' s A n c v k:=h.only (B.offx h.2.1) ho
theorem Qcc (v:Int) (k:Nat):Stays (VRG v k) :=
 ⟨fun _ _ _ ⟨s,A,n,c,h1,h2⟩ hb=>⟨s,A,n,c,h1,h2.below hb⟩,fun _ _ _ _ _ _ ⟨s,A,n,c,h1,h2⟩ hB ho=>⟨s,A,n,c,h1,h2.box hB ho⟩⟩
theorem Qio {e:Operand→Value} {x:Operand} {d:Option Tmp} {y g:Nat} {pos:String} {af:Array Edge} {u v z:Value} (h:e x=.pointer (some ⟨g,0,none⟩)) (h0:w.cell? ⟨g,0,none⟩=some u) (h1:w.cell? ⟨g,1,none⟩=some v) (h2:w.cell? ⟨g,2,none⟩=some z) :
 (execOp e ⟨d,.load 43 x,y,pos,af,none⟩).run Tryz.prog w=.ok (.value (.agg #[u,v,z])) w:=by
 go_simp
theorem Qhe {e:Operand→Value} {x:Operand} {d:Option Tmp} {y g:Nat} {pos:String} {af:Array Edge} {u v:Value} (h:e x=.pointer (some ⟨g,0,none⟩)) (h0:w.cell? ⟨g,0,none⟩=some u) (h1:w.cell? ⟨g,1,none⟩=some v) :
 (execOp e ⟨d,.load 41 x,y,pos,af,none⟩).run Tryz.prog w=.ok (.value (.agg #[u,v])) w:=by
 go_simp
theorem Qnw {e:Operand→Value} {x:Operand} {d:Option Tmp} {y g:Nat} {pos:String} {af:Array Edge} (h:e x=.pointer (some ⟨g,0,none⟩)) :
 (execOp e ⟨d,.fieldAddr 43 x 0,y,pos,af,none⟩).run Tryz.prog w=.ok (.value (.pointer (some ⟨g,0,none⟩))) w:=by
 go_simp
theorem Qqn {ac:Act} {x z:Operand} {y g:Nat} {pos:String} {af:Array Edge} {Q:Exit→Act→World→Prop} {V:Int} {k:Nat} (p1:ac.eval x=.pointer (some ⟨g,0,none⟩)) (h:VRG V k (ac.eval z) w) (B:BoxAt 41 w g #[.bool false,.slice none 0 0]) :
 (⟨none,.store 41 x z,y,pos,af,none⟩:Oper).wp Tryz.prog ac w (fun a'' w''=>a''=ac∧Only g w w''∧∃ cs',BoxAt 41 w'' g cs'∧(fun cs w=>∃ s A n c,cs=#[.bool s,.slice A n c]∧RG w s A n c V k) cs' w'') Q:=by
 obtain ⟨s1,A1,n1,c1,h1,h2⟩:=h
 have Z:By w g (Value.bool false) (Value.slice none 0 0):=B.at_
 unfold Oper.wp
 rw [Qlu p1 h1 Z.c0 Z.c1 Z.f0 Z.f1,Oper.upon_skip]
 refine ⟨QdF ac undef,(((Only.refl g w).setCell 0 _).setCell 1 _),#[.bool s1,.slice A1 n1 c1],⟨Z.set2 (Value.bool s1) (Value.slice A1 n1 c1),free2 _ _ _ _⟩,s1,A1,n1,c1,rfl,h2.box B (((Only.refl g w).setCell 0 _).setCell 1 _)⟩
def VRQ (v:Rat) (k:Nat) (x:Value) (w:World):Prop:=∃ s A n c B m d,x=.agg #[.bool s,.slice A n c,.slice B m d]∧RQ w s A n c B m d v k
theorem RQ.box {T:TypeId} {w w':World} {g:Nat} {cs:Array Value} {s:Bool} {A A':Option Addr} {n c n' c' k:Nat} {v:Rat} (h:RQ w s A n c A' n' c' v k) (B:BoxAt T w g cs) (ho:Only g w w'):RQ w' s A n c A' n' c' v k:=⟨h.1.box B ho,h.2.only (B.offx h.2.1) ho⟩
theorem QbV (v:Rat) (k:Nat):Stays (VRQ v k) :=
 ⟨fun _ _ _ ⟨s,A,n,c,B,m,d,h1,h2⟩ hb=>⟨s,A,n,c,B,m,d,h1,h2.below hb⟩,fun _ _ _ _ _ _ ⟨s,A,n,c,B,m,d,h1,h2⟩ hB ho=>⟨s,A,n,c,B,m,d,h1,h2.box hB ho⟩⟩
end
section
open Go Go.RowKit
theorem QbT {e:Operand→Value} {x0:Operand} {d:Option Tmp} {y:Nat} {pos:String} {af:Array Edge} {u0:Value} (h0:e x0=u0) (hf:e (.func 89)=.func (.func 89) #[] #[]) :
 (execOp e ⟨d,.call ⟨.value (.func 89),#[x0],#[43]⟩,y,pos,af,none⟩).run Tryz.prog w=.ok (.enter 89 #[u0]) w:=by
 go_simp
theorem QbX {e:Operand→Value} {x0 x1:Operand} {d:Option Tmp} {y:Nat} {pos:String} {af:Array Edge} {u0 u1:Value} (h0:e x0=u0) (h1:e x1=u1) (hf:e (.func 88)=.func (.func 88) #[] #[]) :
 (execOp e ⟨d,.call ⟨.value (.func 88),#[x0,x1],#[41,41]⟩,y,pos,af,none⟩).run Tryz.prog w=.ok (.enter 88 #[u0,u1]) w:=by
 go_simp
theorem QcY {e:Operand→Value} {x0 x1:Operand} {d:Option Tmp} {y:Nat} {pos:String} {af:Array Edge} {u0 u1:Value} (h0:e x0=u0) (h1:e x1=u1) (hf:e (.func 87)=.func (.func 87) #[] #[]) :
 (execOp e ⟨d,.call ⟨.value (.func 87),#[x0,x1],#[41,41]⟩,y,pos,af,none⟩).run Tryz.prog w=.ok (.enter 87 #[u0,u1]) w:=by
 go_simp
def Qp2 (s:Bool) (t:Bool) (A:Option Addr) (A':Option Addr) (B:Option Addr) (B':Option Addr) (n:Nat) (c:Nat) (n':Nat) (c':Nat) (m:Nat) (d:Nat) (m':Nat) (d':Nat) (k:Nat) (k2:Nat) (g1:Nat) (g2:Nat) (v:Rat) (u:Rat) (sl:Nat):Value→World→Prop :=
 match sl with
 | 6=>fun x _=>x=Value.pointer (some ⟨g1,0,none⟩)
 | 7=>fun x _=>x=Value.agg #[.bool s,.slice A n c]
 | 8=>fun x _=>x=Value.agg #[.bool t,.slice B m d,.slice B' m' d']
 | 9=>fun x _=>x=Value.agg #[.bool false,.slice B' m' d']
 | 10=>VRG (v.num*(u.den:Int)) (k+k2)
 | 11=>fun x _=>x=Value.pointer (some ⟨g2,0,none⟩)
 | 12=>fun x _=>x=Value.agg #[.bool t,.slice B m d]
 | 13=>fun x _=>x=Value.agg #[.bool s,.slice A n c,.slice A' n' c']
 | 14=>fun x _=>x=Value.agg #[.bool false,.slice A' n' c']
 | 15=>VRG (u.num*(v.den:Int)) (k2+k)
 | 16=>VRG (v.num*(u.den:Int)+u.num*(v.den:Int)) (k+k2+1)
 | _=>fun _ _=>True
theorem QjW {id:Nat} {ac:Act} {Q:Exit→Act→World→Prop} {s t:Bool} {A A' B B':Option Addr} {n c n' c' m d m' d' k k2 g1 g2:Nat} {v u:Rat}
 (hsz:16 < ac.tmps.size) (e2:ac.eval (.tmp 2)=Value.pointer (some ⟨g1,0,none⟩)) (e3:ac.eval (.tmp 3)=Value.pointer (some ⟨g2,0,none⟩)) (XA:B3R w g1 (.bool s) (.slice A n c) (.slice A' n' c')) (XB:B3R w g2 (.bool t) (.slice B m d) (.slice B' m' d')) (X:RQ w s A n c A' n' c' v k) (Y:RQ w t B m d B' m' d' u k2) (hk:k≤10000) (hk2:k2≤10000)
 (hend:∀ (V:Nat→Value) (w':World) (g:Nat) (s:Bool) (A:Option Addr) (n c:Nat),RG w' s A n c (v.num*(u.den:Int)+u.num*(v.den:Int)) (k+k2+1)→By w' g (.bool s) (.slice A n c)→Below w.heap.size w w'→w.heap.size≤g→V 5=.pointer (some ⟨g,0,none⟩)→Q .normal (Qal ac [6,7,8,9,10,11,12,13,14,15,16,5] V) w') :
 (Code.region id #[⟨some 6,.fieldAddr 43 (.tmp 2) 0,0, "ref.go:81",#[],none⟩,
  ⟨some 7,.load 41 (.tmp 6),41, "ref.go:81",#[⟨0,.data⟩],none⟩,
  ⟨some 8,.load 43 (.tmp 3),43, "ref.go:81",#[],none⟩,
  ⟨some 9,.call ⟨.value (.func 89),#[.tmp 8],#[43]⟩,41, "ref.go:81",#[⟨2,.data⟩],none⟩,
  ⟨some 10,.call ⟨.value (.func 88),#[.tmp 7,.tmp 9],#[41,41]⟩,41, "ref.go:81",#[⟨1,.data⟩,⟨3,.data⟩,⟨3,.chain⟩],none⟩,
  ⟨some 11,.fieldAddr 43 (.tmp 3) 0,0, "ref.go:81",#[],none⟩,
  ⟨some 12,.load 41 (.tmp 11),41, "ref.go:81",#[⟨5,.data⟩],none⟩,
  ⟨some 13,.load 43 (.tmp 2),43, "ref.go:81",#[],none⟩,
  ⟨some 14,.call ⟨.value (.func 89),#[.tmp 13],#[43]⟩,41, "ref.go:81",#[⟨7,.data⟩,⟨4,.chain⟩],none⟩,
  ⟨some 15,.call ⟨.value (.func 88),#[.tmp 12,.tmp 14],#[41,41]⟩,41, "ref.go:81",#[⟨6,.data⟩,⟨8,.data⟩,⟨8,.chain⟩],none⟩,
  ⟨some 16,.call ⟨.value (.func 87),#[.tmp 10,.tmp 15],#[41,41]⟩,41, "ref.go:81",#[⟨4,.data⟩,⟨9,.data⟩,⟨9,.chain⟩],none⟩,
  ⟨some 5,.alloc 41,0, "ref.go:81",#[],none⟩,
  ⟨none,.store 41 (.tmp 5) (.tmp 16),0, "ref.go:81",#[⟨11,.data⟩,⟨10,.data⟩,⟨10,.chain⟩,⟨0,.phase⟩,⟨1,.phase⟩,⟨2,.phase⟩,⟨3,.phase⟩,⟨4,.phase⟩,⟨5,.phase⟩,⟨6,.phase⟩,⟨7,.phase⟩,⟨8,.phase⟩,⟨9,.phase⟩,⟨10,.phase⟩,⟨11,.phase⟩],none⟩] true).wp Tryz.prog Q ac w:=by
 have hnd:([6,7,8,9,10,11,12,13,14,15,16,5]:List Nat).Nodup:=by decide
 have G:∀ (sv:Nat→Value) (t:Nat),t ∈ ([6,7,8,9,10,11,12,13,14,15,16,5]:List Nat)→t≤16→(Qal ac [6,7,8,9,10,11,12,13,14,15,16,5] sv).eval (.tmp t)=sv t:=fun sv t ht h=>Qay (t:=t) [6,7,8,9,10,11,12,13,14,15,16,5] ac hnd ht (Nat.lt_of_le_of_lt h hsz)
 have E2:∀ sv:Nat→Value,(Qal ac [6,7,8,9,10,11,12,13,14,15,16,5] sv).eval (.tmp 2)=Value.pointer (some ⟨g1,0,none⟩):=fun sv=>(Qap (v:=sv) [6,7,8,9,10,11,12,13,14,15,16,5] ac (show 2 ∉ _ by decide)).trans e2
 have E3:∀ sv:Nat→Value,(Qal ac [6,7,8,9,10,11,12,13,14,15,16,5] sv).eval (.tmp 3)=Value.pointer (some ⟨g2,0,none⟩):=fun sv=>(Qap (v:=sv) [6,7,8,9,10,11,12,13,14,15,16,5] ac (show 3 ∉ _ by decide)).trans e3
 refine Qgv 41 #[.bool false,.slice none 0 0] [6,7,8,9,10,11,12,13,14,15,16,5] 11 12 5 (⟨some 5,.alloc 41,0, "ref.go:81",#[],none⟩) (⟨none,.store 41 (.tmp 5) (.tmp 16),0, "ref.go:81",#[⟨11,.data⟩,⟨10,.data⟩,⟨10,.chain⟩,⟨0,.phase⟩,⟨1,.phase⟩,⟨2,.phase⟩,⟨3,.phase⟩,⟨4,.phase⟩,⟨5,.phase⟩,⟨6,.phase⟩,⟨7,.phase⟩,⟨8,.phase⟩,⟨9,.phase⟩,⟨10,.phase⟩,⟨11,.phase⟩],none⟩) (Qp2 s t A A' B B' n c n' c' m d m' d' k k2 g1 g2 v u) (fun cs w=>∃ s A n c,cs=#[.bool s,.slice A n c]∧RG w s A n c (v.num*(u.den:Int)+u.num*(v.den:Int)) (k+k2+1)) (by kernel_rfl) (by kernel_rfl) rfl hnd rfl rfl rfl rfl ?_ rfl rfl ⟨⟨11,.data⟩,by simp,rfl,rfl⟩ ?_ (free2 _ _ _ _) (fun e w'=>Qlp) ?_ ?_ ?_ ?_
 · intro i o h1 h2
   match i,h1 with
   | 0,h1=>cases h1;cases h2
   | 1,h1=>cases h1;cases h2
   | 2,h1=>cases h1;cases h2
   | 3,h1=>cases h1;cases h2
   | 4,h1=>cases h1;cases h2
   | 5,h1=>cases h1;cases h2
   | 6,h1=>cases h1;cases h2
   | 7,h1=>cases h1;cases h2
   | 8,h1=>cases h1;cases h2
   | 9,h1=>cases h1;cases h2
   | 10,h1=>cases h1;cases h2
   | 11,h1=>cases h1;cases h2
   | 12,h1=>cases h1;rfl
   | i+13,h1=>cases h1
 · intro t
   unfold Qp2
   split <;> first | exact Qbs _ | exact QbL _ _ | exact Qcb _ _ | exact Qcc _ _ | exact Qph _ _ | exact QoW _ _ | exact QaV
 · intro i o t sv w' ho hia hd J0 hf
   have X:=X.below J0;have Y:=Y.below J0;have XA:=XA.below J0;have XB:=XB.below J0
   match i,ho with
   | 0,ho =>
     obtain rfl:⟨some 6,.fieldAddr 43 (.tmp 2) 0,0, "ref.go:81",#[],none⟩=o:=Option.some.inj ho
     cases hd
     refine Qaa (o:=⟨some 6,.fieldAddr 43 (.tmp 2) 0,0, "ref.go:81",#[],none⟩) rfl rfl ?_
     unfold Oper.wp
     rw [Qnw (E2 sv),Oper.upon_value]
     exact ⟨_,rfl,Below.refl _ _,rfl⟩
   | 1,ho =>
     obtain rfl:⟨some 7,.load 41 (.tmp 6),41, "ref.go:81",#[⟨0,.data⟩],none⟩=o:=Option.some.inj ho
     cases hd
     have f6:sv 6=Value.pointer (some ⟨g1,0,none⟩):=hf ⟨0,.data⟩ (by simp) rfl _ 6 rfl rfl (by decide)
     refine Qaa (o:=⟨some 7,.load 41 (.tmp 6),41, "ref.go:81",#[⟨0,.data⟩],none⟩) rfl rfl ?_
     unfold Oper.wp
     rw [Qhe ((G sv 6 (by decide) (by decide)).trans f6) XA.c0 XA.c1,Oper.upon_value]
     exact ⟨_,rfl,Below.refl _ _,rfl⟩
   | 2,ho =>
     obtain rfl:⟨some 8,.load 43 (.tmp 3),43, "ref.go:81",#[],none⟩=o:=Option.some.inj ho
     cases hd
     refine Qaa (o:=⟨some 8,.load 43 (.tmp 3),43, "ref.go:81",#[],none⟩) rfl rfl ?_
     unfold Oper.wp
     rw [Qio (E3 sv) XB.c0 XB.c1 XB.c2,Oper.upon_value]
     exact ⟨_,rfl,Below.refl _ _,rfl⟩
   | 3,ho =>
     obtain rfl:⟨some 9,.call ⟨.value (.func 89),#[.tmp 8],#[43]⟩,41, "ref.go:81",#[⟨2,.data⟩],none⟩=o:=Option.some.inj ho
     cases hd
     have f8:sv 8=Value.agg #[.bool t,.slice B m d,.slice B' m' d']:=hf ⟨2,.data⟩ (by simp) rfl _ 8 rfl rfl (by decide)
     refine Qaa (o:=⟨some 9,.call ⟨.value (.func 89),#[.tmp 8],#[43]⟩,41, "ref.go:81",#[⟨2,.data⟩],none⟩) rfl rfl ?_
     unfold Oper.wp
     rw [QbT ((G sv 8 (by decide) (by decide)).trans f8) rfl,Oper.upon_enter]
     refine (Qia Y).mono ?_
     rintro e w1 ⟨rfl,hh⟩
     exact ⟨_,rfl,hh,rfl⟩
   | 4,ho =>
     obtain rfl:⟨some 10,.call ⟨.value (.func 88),#[.tmp 7,.tmp 9],#[41,41]⟩,41, "ref.go:81",#[⟨1,.data⟩,⟨3,.data⟩,⟨3,.chain⟩],none⟩=o:=Option.some.inj ho
     cases hd
     have f7:sv 7=Value.agg #[.bool s,.slice A n c]:=hf ⟨1,.data⟩ (by simp) rfl _ 7 rfl rfl (by decide)
     have f9:sv 9=Value.agg #[.bool false,.slice B' m' d']:=hf ⟨3,.data⟩ (by simp) rfl _ 9 rfl rfl (by decide)
     refine Qaa (o:=⟨some 10,.call ⟨.value (.func 88),#[.tmp 7,.tmp 9],#[41,41]⟩,41, "ref.go:81",#[⟨1,.data⟩,⟨3,.data⟩,⟨3,.chain⟩],none⟩) rfl rfl ?_
     unfold Oper.wp
     rw [QbX ((G sv 7 (by decide) (by decide)).trans f7) ((G sv 9 (by decide) (by decide)).trans f9) rfl,Oper.upon_enter]
     refine (Qnm X.pz Y.qz (by omega) (by omega)).mono ?_
     rintro e w1 ⟨s1,A1,n1,c1,rfl,hq,hh⟩
     exact ⟨_,rfl,hh,s1,A1,n1,c1,rfl,hq⟩
   | 5,ho =>
     obtain rfl:⟨some 11,.fieldAddr 43 (.tmp 3) 0,0, "ref.go:81",#[],none⟩=o:=Option.some.inj ho
     cases hd
     refine Qaa (o:=⟨some 11,.fieldAddr 43 (.tmp 3) 0,0, "ref.go:81",#[],none⟩) rfl rfl ?_
     unfold Oper.wp
     rw [Qnw (E3 sv),Oper.upon_value]
     exact ⟨_,rfl,Below.refl _ _,rfl⟩
   | 6,ho =>
     obtain rfl:⟨some 12,.load 41 (.tmp 11),41, "ref.go:81",#[⟨5,.data⟩],none⟩=o:=Option.some.inj ho
     cases hd
     have f11:sv 11=Value.pointer (some ⟨g2,0,none⟩):=hf ⟨5,.data⟩ (by simp) rfl _ 11 rfl rfl (by decide)
     refine Qaa (o:=⟨some 12,.load 41 (.tmp 11),41, "ref.go:81",#[⟨5,.data⟩],none⟩) rfl rfl ?_
     unfold Oper.wp
     rw [Qhe ((G sv 11 (by decide) (by decide)).trans f11) XB.c0 XB.c1,Oper.upon_value]
     exact ⟨_,rfl,Below.refl _ _,rfl⟩
   | 7,ho =>
     obtain rfl:⟨some 13,.load 43 (.tmp 2),43, "ref.go:81",#[],none⟩=o:=Option.some.inj ho
     cases hd
     refine Qaa (o:=⟨some 13,.load 43 (.tmp 2),43, "ref.go:81",#[],none⟩) rfl rfl ?_
     unfold Oper.wp
     rw [Qio (E2 sv) XA.c0 XA.c1 XA.c2,Oper.upon_value]
     exact ⟨_,rfl,Below.refl _ _,rfl⟩
   | 8,ho =>
     obtain rfl:⟨some 14,.call ⟨.value (.func 89),#[.tmp 13],#[43]⟩,41, "ref.go:81",#[⟨7,.data⟩,⟨4,.chain⟩],none⟩=o:=Option.some.inj ho
     cases hd
     have f13:sv 13=Value.agg #[.bool s,.slice A n c,.slice A' n' c']:=hf ⟨7,.data⟩ (by simp) rfl _ 13 rfl rfl (by decide)
     refine Qaa (o:=⟨some 14,.call ⟨.value (.func 89),#[.tmp 13],#[43]⟩,41, "ref.go:81",#[⟨7,.data⟩,⟨4,.chain⟩],none⟩) rfl rfl ?_
     unfold Oper.wp
     rw [QbT ((G sv 13 (by decide) (by decide)).trans f13) rfl,Oper.upon_enter]
     refine (Qia X).mono ?_
     rintro e w1 ⟨rfl,hh⟩
     exact ⟨_,rfl,hh,rfl⟩
   | 9,ho =>
     obtain rfl:⟨some 15,.call ⟨.value (.func 88),#[.tmp 12,.tmp 14],#[41,41]⟩,41, "ref.go:81",#[⟨6,.data⟩,⟨8,.data⟩,⟨8,.chain⟩],none⟩=o:=Option.some.inj ho
     cases hd
     have f12:sv 12=Value.agg #[.bool t,.slice B m d]:=hf ⟨6,.data⟩ (by simp) rfl _ 12 rfl rfl (by decide)
     have f14:sv 14=Value.agg #[.bool false,.slice A' n' c']:=hf ⟨8,.data⟩ (by simp) rfl _ 14 rfl rfl (by decide)
     refine Qaa (o:=⟨some 15,.call ⟨.value (.func 88),#[.tmp 12,.tmp 14],#[41,41]⟩,41, "ref.go:81",#[⟨6,.data⟩,⟨8,.data⟩,⟨8,.chain⟩],none⟩) rfl rfl ?_
     unfold Oper.wp
     rw [QbX ((G sv 12 (by decide) (by decide)).trans f12) ((G sv 14 (by decide) (by decide)).trans f14) rfl,Oper.upon_enter]
     refine (Qnm Y.pz X.qz (by omega) (by omega)).mono ?_
     rintro e w1 ⟨s1,A1,n1,c1,rfl,hq,hh⟩
     exact ⟨_,rfl,hh,s1,A1,n1,c1,rfl,hq⟩
   | 10,ho =>
     obtain rfl:⟨some 16,.call ⟨.value (.func 87),#[.tmp 10,.tmp 15],#[41,41]⟩,41, "ref.go:81",#[⟨4,.data⟩,⟨9,.data⟩,⟨9,.chain⟩],none⟩=o:=Option.some.inj ho
     cases hd
     have h10:VRG (v.num*(u.den:Int)) (k+k2) (sv 10) w':=hf ⟨4,.data⟩ (by simp) rfl _ 10 rfl rfl (by decide)
     obtain ⟨s10,A10,n10,c10,f10,q10⟩:=h10
     have h15:VRG (u.num*(v.den:Int)) (k2+k) (sv 15) w':=hf ⟨9,.data⟩ (by simp) rfl _ 15 rfl rfl (by decide)
     obtain ⟨s15,A15,n15,c15,f15,q15⟩:=h15
     refine Qaa (o:=⟨some 16,.call ⟨.value (.func 87),#[.tmp 10,.tmp 15],#[41,41]⟩,41, "ref.go:81",#[⟨4,.data⟩,⟨9,.data⟩,⟨9,.chain⟩],none⟩) rfl rfl ?_
     unfold Oper.wp
     rw [QcY ((G sv 10 (by decide) (by decide)).trans f10) ((G sv 15 (by decide) (by decide)).trans f15) rfl,Oper.upon_enter]
     refine (radd2 (k+k2+1) q10.rz q15.rz (by omega) (by omega) (by omega)).mono ?_
     rintro e w1 ⟨s1,A1,n1,c1,rfl,hq,hh⟩
     exact ⟨_,rfl,hh,s1,A1,n1,c1,rfl,hq⟩
   | 11,ho=>exact absurd rfl hia
   | 12,ho=>cases ho;cases hd
   | i+13,ho=>cases ho
 · intro sv w' g J0 p1 p3 hf
   have h1:VRG (v.num*(u.den:Int)+u.num*(v.den:Int)) (k+k2+1) (sv 16) w':=hf ⟨10,.data⟩ (by simp) rfl _ 16 rfl rfl (by decide)
   rw [← G sv 16 (by decide) (by decide)] at h1
   refine Qqn (V:=v.num*(u.den:Int)+u.num*(v.den:Int)) (k:=k+k2+1) (ac:=Qal ac [6,7,8,9,10,11,12,13,14,15,16,5] sv) (z:=.tmp 16) ?_ ?_ ?_
   · exact (G sv 5 (by decide) (by decide)).trans p1
   · exact h1
   · exact p3
 · rintro cs w1 w2 ⟨s1,A1,n1,c1,h1,h2⟩ hb
   exact ⟨s1,A1,n1,c1,h1,h2.below hb⟩
 · rintro sv w' g cs J0 hF p1 p2 p3 ⟨s1,A1,n1,c1,h1,h2⟩
   subst h1
   exact hend sv w' g _ _ _ _ h2 p3.at_ J0 p2 p1 
theorem radd3 {s t:Bool} {A A' B B':Option Addr} {n c n' c' m d m' d' k k2:Nat} {v u:Rat} (X:RQ w s A n c A' n' c' v k) (Y:RQ w t B m d B' m' d' u k2) (hk:k≤10000) (hk2:k2≤10000) :
 Calls Tryz.prog 50 #[.agg #[.bool s,.slice A n c,.slice A' n' c'],.agg #[.bool t,.slice B m d,.slice B' m' d']] w (Qa4 w (v+u) (k+k2+1)):=by
 have HE:Hid (mkRat (v.num*(u.den:Int)+u.num*(v.den:Int)) (v.den*u.den)=v+u):=by
  show _=_
  conv=>rhs;rw [QcS v,QcS u,Qp5 v.den_nz u.den_nz]
 have H0:Hid (v.den*u.den ≠ 0):=Nat.mul_ne_zero v.den_nz u.den_nz
 have HJ:Hid (v.den*u.den < B32 ^ (k+k2+1)):=by
  show _ < _
  have h1:=Nat.mul_lt_mul'' X.qn.lt Y.qn.lt
  rw [← Nat.pow_add] at h1
  exact Nat.lt_of_lt_of_le h1 (Nat.pow_le_pow_right (by decide) (by omega))
 have hfd:=fld02
 go_enter Tryz.func50,Tryz.ntmps50
 go_wp2_with fail
 generalize hW:World.alloc _ _=W
 obtain ⟨hb,XA,XB,Z,hzW⟩:=Qcl hW;clear hW;replace X:=X.below hb;replace Y:=Y.below hb
 refine QjW (by simp) rfl rfl XA XB X Y hk hk2 ?_
 intro V w_x g_x s_x A_x n_x c_x x XP hh hg_x hv5
 simp only [Qal,Act.put,List.setIfInBounds_toArray,List.set_cons_zero,List.set_cons_succ,hv5]
 clear hv5;replace X:=X.below hh;replace Y:=Y.below hh;replace XA:=XA.below hh;replace XB:=XB.below hh;replace Z:=Z.below hh;replace hb:=Qai hb hh
 go_upto_region 2 with (fail)
 replace X:=X.below (Below.refl _ _).drew
 replace Y:=Y.below (Below.refl _ _).drew
 replace x:=x.below (Below.refl _ _).drew
 replace XA:=XA.below (Below.refl _ _).drew
 replace XB:=XB.below (Below.refl _ _).drew
 replace XP:=XP.below (Below.refl _ _).drew
 replace Z:=Z.below (Below.refl _ _).drew
 replace hb:=hb.drew
 go_region_held3 (fun w'=>w'.cell? ⟨w.heap.size,0,none⟩=some (.bool s)∧w'.cell? ⟨w.heap.size,1,none⟩=some (.slice A n c)∧w'.cell? ⟨w.heap.size,2,none⟩=some (.slice A' n' c')∧w'.cell? ⟨w.heap.size+1,0,none⟩=some (.bool t)∧w'.cell? ⟨w.heap.size+1,1,none⟩=some (.slice B m d)∧w'.cell? ⟨w.heap.size+1,2,none⟩=some (.slice B' m' d')∧w'.cell? ⟨g_x,0,none⟩=some (.bool s_x)∧w'.cell? ⟨g_x,1,none⟩=some (.slice A_x n_x c_x))
  (first | with_reducible exact ⟨XA.c0,XA.c1,XA.c2,XB.c0,XB.c1,XB.c2,XP.c0,XP.c1⟩ | with_reducible exact ⟨(Qac _ _ _ _ _ _ _ (by omega)).trans XA.c0,(Qac _ _ _ _ _ _ _ (by omega)).trans XA.c1,(Qac _ _ _ _ _ _ _ (by omega)).trans XA.c2,(Qac _ _ _ _ _ _ _ (by omega)).trans XB.c0,(Qac _ _ _ _ _ _ _ (by omega)).trans XB.c1,(Qac _ _ _ _ _ _ _ (by omega)).trans XB.c2,(Qac _ _ _ _ _ _ _ (by omega)).trans XP.c0,(Qac _ _ _ _ _ _ _ (by omega)).trans XP.c1⟩)
  (first
  | (go_at_call 89;(with_reducible refine (Qia X).mono ?_);rintro e w_z ⟨rfl,hh⟩
     (try replace X:=X.below hh);(try replace Y:=Y.below hh);(try replace x:=x.below hh);(try replace y:=y.below hh);(try replace r:=r.below hh);(try replace XA:=XA.below hh);(try replace XB:=XB.below hh);(try replace XP:=XP.below hh);(try replace Z:=Z.below hh);replace hb:=Qai hb hh)
  | (go_at_call 89;(with_reducible refine (Qia Y).mono ?_);rintro e w_z ⟨rfl,hh⟩
     (try replace X:=X.below hh);(try replace Y:=Y.below hh);(try replace x:=x.below hh);(try replace y:=y.below hh);(try replace r:=r.below hh);(try replace XA:=XA.below hh);(try replace XB:=XB.below hh);(try replace XP:=XP.below hh);(try replace Z:=Z.below hh);replace hb:=Qai hb hh)
  | (go_at_call 90;(with_reducible refine (Qjw (k+k2+1) X.qn Y.qn (by omega) (by omega) HJ.out).mono ?_);rintro e w_y ⟨A_y,n_y,c_y,rfl,y,hh⟩
     (try replace X:=X.below hh);(try replace Y:=Y.below hh);(try replace x:=x.below hh);(try replace r:=r.below hh);(try replace XA:=XA.below hh);(try replace XB:=XB.below hh);(try replace XP:=XP.below hh);(try replace Z:=Z.below hh);replace hb:=Qai hb hh)
  | (go_at_call 86;(with_reducible refine (Qdc x y (by omega) H0.out).mono ?_);rintro e w_r ⟨s_r,A_r,n_r,c_r,B_r,m_r,d_r,rfl,r,hh⟩
     rw [HE.out] at r;(try replace X:=X.below hh);(try replace Y:=Y.below hh);(try replace x:=x.below hh);(try replace y:=y.below hh);(try replace XA:=XA.below hh);(try replace XB:=XB.below hh);(try replace XP:=XP.below hh);(try replace Z:=Z.below hh);replace hb:=Qai hb hh;have zf0:=Z.f0;have zf1:=Z.f1;have zf2:=Z.f2;obtain ⟨z0,z1,z2⟩:=Z.all))
 go_wp2_with fail
 have Z2:=Z.set3 (.bool s_r) (.slice A_r n_r c_r) (.slice B_r m_r d_r)
 obtain ⟨g0,g1,g2⟩:=Z2.all
 refine bodyPost_ret (v:=.agg #[.bool s_r,.slice A_r n_r c_r,.slice B_r m_r d_r]) (by simp [results,Tryz.results50,go_sem,g0,g1,g2]) rfl ?_
 exact ⟨s_r,A_r,n_r,c_r,B_r,m_r,d_r,rfl,r.set3 Z _ _ _,Qak hb (by omega) _ _ _⟩
theorem Qqk {s t:Bool} {A A' B B':Option Addr} {n c n' c' m d m' d' k k2:Nat} {v u:Rat} (X:RQ w s A n c A' n' c' v k) (Y:RQ w t B m d B' m' d' u k2) (hk:k≤10000) (hk2:k2≤10000) :
 Calls Tryz.prog 91 #[.agg #[.bool s,.slice A n c,.slice A' n' c'],.agg #[.bool t,.slice B m d,.slice B' m' d']] w (Qa4 w (v - u) (k+k2+1)):=by
 have HE:Hid (v+-u=v - u):=(Rat.sub_eq_add_neg v u).symm
 go_enter Tryz.func91,Tryz.ntmps91
 go_wp2_with fail
 generalize hW:World.alloc _ _=W
 obtain ⟨hb,XA,XB,Z,hzW⟩:=Qcl hW;clear hW;replace X:=X.below hb;replace Y:=Y.below hb
 replace X:=X.below (Below.refl _ _).drew
 replace Y:=Y.below (Below.refl _ _).drew
 replace XA:=XA.below (Below.refl _ _).drew
 replace XB:=XB.below (Below.refl _ _).drew
 replace Z:=Z.below (Below.refl _ _).drew
 replace hb:=hb.drew
 go_region_held3 (fun w'=>w'.cell? ⟨w.heap.size,0,none⟩=some (.bool s)∧w'.cell? ⟨w.heap.size,1,none⟩=some (.slice A n c)∧w'.cell? ⟨w.heap.size,2,none⟩=some (.slice A' n' c')∧w'.cell? ⟨w.heap.size+1,0,none⟩=some (.bool t)∧w'.cell? ⟨w.heap.size+1,1,none⟩=some (.slice B m d)∧w'.cell? ⟨w.heap.size+1,2,none⟩=some (.slice B' m' d'))
  (first | with_reducible exact ⟨XA.c0,XA.c1,XA.c2,XB.c0,XB.c1,XB.c2⟩ | with_reducible exact ⟨(Qac _ _ _ _ _ _ _ (by omega)).trans XA.c0,(Qac _ _ _ _ _ _ _ (by omega)).trans XA.c1,(Qac _ _ _ _ _ _ _ (by omega)).trans XA.c2,(Qac _ _ _ _ _ _ _ (by omega)).trans XB.c0,(Qac _ _ _ _ _ _ _ (by omega)).trans XB.c1,(Qac _ _ _ _ _ _ _ (by omega)).trans XB.c2⟩)
  (first
  | (go_at_call 128;(with_reducible refine (Qry Y).mono ?_);rintro e w_y ⟨s_y,A_y,n_y,c_y,B_y,m_y,d_y,rfl,y,hh⟩
     (try replace X:=X.below hh);(try replace Y:=Y.below hh);(try replace r:=r.below hh);(try replace XA:=XA.below hh);(try replace XB:=XB.below hh);(try replace Z:=Z.below hh);replace hb:=Qai hb hh)
  | (go_at_call 50;(with_reducible refine (radd3 X y hk hk2).mono ?_);rintro e w_r ⟨s_r,A_r,n_r,c_r,B_r,m_r,d_r,rfl,r,hh⟩
     rw [HE.out] at r;(try replace X:=X.below hh);(try replace Y:=Y.below hh);(try replace y:=y.below hh);(try replace XA:=XA.below hh);(try replace XB:=XB.below hh);(try replace Z:=Z.below hh);replace hb:=Qai hb hh;have zf0:=Z.f0;have zf1:=Z.f1;have zf2:=Z.f2;obtain ⟨z0,z1,z2⟩:=Z.all))
 go_wp2_with fail
 have Z2:=Z.set3 (.bool s_r) (.slice A_r n_r c_r) (.slice B_r m_r d_r)
 obtain ⟨g0,g1,g2⟩:=Z2.all
 refine bodyPost_ret (v:=.agg #[.bool s_r,.slice A_r n_r c_r,.slice B_r m_r d_r]) (by simp [results,Tryz.results91,go_sem,g0,g1,g2]) rfl ?_
 exact ⟨s_r,A_r,n_r,c_r,B_r,m_r,d_r,rfl,r.set3 Z _ _ _,Qak hb (by omega) _ _ _⟩
end
section
open Go Go.RowKit
theorem rout_v {A:Option Addr} {n c V k:Nat} (Y:RN w A n c V k) (hk:k≤200000) :
 Calls Tryz.prog 79 #[.slice A n c] w fun e w'=>∃ A n c,e=.returned (.slice A n c)∧Rd .u64 w' A n (Qaf B64 V)∧Below w.heap.size w w':=by
 refine (Qe8 (Qaf B32 V) A n c w Y.1 (Qag Qah _) (Nat.le_trans Y.2.2 (by omega))).mono ?_
 rintro e w' ⟨A1,n1,c1,rfl,p1,p2,p3,p4⟩
 rw [Qcw] at p3
 exact ⟨A1,n1,c1,rfl,p3.rd,p4⟩
def QnC (w:World) (v:Rat) (e:Ending) (w':World):Prop :=
 ∃ A n c B m d,e=.returned (.agg #[.bool (decide (v.num < 0)),.slice A n c,.slice B m d])∧Rd .u64 w' A n (Qaf B64 v.num.natAbs)∧Rd .u64 w' B m (Qaf B64 v.den)∧Below w.heap.size w w'
theorem Qjc {w W:World} {x0 x1 x2 x3 x4 x5:Value} (h:((w.alloc (Obj.cells #[x0,x1,x2] 43)).alloc (Obj.cells #[x3,x4,x5] 27))=W):Below w.heap.size w W∧B3R W (w.heap.size) x0 x1 x2∧B3 W (w.heap.size+1) x3 x4 x5∧W.heap.size=w.heap.size+2:=by subst h;exact ⟨by exact (((Below.refl _ _).alloc (Nat.le_refl _) _).alloc (by simp) _),by exact (B3R.new' _ _ _ _ _ rfl).alloc _,by exact B3.new' _ _ _ _ _ (by simp),by simp⟩
theorem rout3 {s:Bool} {A A':Option Addr} {n c n' c' k:Nat} {v:Rat} (X:RQ w s A n c A' n' c' v k) (hk:k≤100000) :
 Calls Tryz.prog 43 #[.agg #[.bool s,.slice A n c,.slice A' n' c']] w (QnC w v):=by
 have hs:s=decide (v.num < 0):=X.pg.1
 have HS:=Lib.hid hs;clear hs
 go_enter Tryz.func43,Tryz.ntmps43
 go_wp2_with fail
 generalize hW:World.alloc _ _=W
 obtain ⟨hb,XA,Z,hzW⟩:=Qjc hW;clear hW;replace X:=X.below hb;obtain ⟨xa0,xa1,xa2⟩:=XA.all
 go_upto_region 2 with (first
  | (go_at_call 79;(with_reducible refine (rout_v X.qn (by omega)).mono ?_);rintro e w_q ⟨A_q,n_q,c_q,rfl,q,hh⟩
     (try replace X:=X.below hh);(try replace p:=p.below hh);(try replace XA:=XA.below hh);(try replace Z:=Z.below hh);replace hb:=Qai hb hh;obtain ⟨xa0,xa1,xa2⟩:=XA.all))
 have hq0:((n_q:Int) == 0)=false:=by
  have h1:=q.1;rw [QaP Qae v.den_nz] at h1
  simp at h1 ⊢
  omega
 have zf0:=Z.f0;have zf1:=Z.f1;have zf2:=Z.f2;obtain ⟨z0,z1,z2⟩:=Z.all
 go_wp2_with (first
  | (go_at_call 80;(with_reducible refine (out2 X.pg (by omega)).mono ?_);rintro e w_p ⟨A_p,n_p,c_p,rfl,p,hh⟩
     (try replace X:=X.below hh);(try replace q:=q.below hh);(try replace XA:=XA.below hh);(try replace Z:=Z.below hh);replace hb:=Qai hb hh;obtain ⟨xa0,xa1,xa2⟩:=XA.all;have zf0:=Z.f0;have zf1:=Z.f1;have zf2:=Z.f2;obtain ⟨z0,z1,z2⟩:=Z.all))
 have Z2:=Z.set3 (.bool s) (.slice A_p n_p c_p) (.slice A_q n_q c_q)
 obtain ⟨g0,g1,g2⟩:=Z2.all
 refine bodyPost_ret (v:=.agg #[.bool s,.slice A_p n_p c_p,.slice A_q n_q c_q]) (by simp [results,Tryz.results43,go_sem,g0,g1,g2]) rfl ?_
 have ho:=(((Only.refl (w.heap.size+1) w_p).setCell 0 (Value.bool s)).setCell 1 (Value.slice A_p n_p c_p)).setCell 2 (Value.slice A_q n_q c_q)
 exact ⟨A_p,n_p,c_p,A_q,n_q,c_q,by rw [← HS.out],p.only (Z.offx p) ho,q.only (Z.offx q) ho,Qak hb (by omega) _ _ _⟩
theorem Qrq {s t:Bool} {A A' B B':Option Addr} {n c n' c' m d m' d':Nat} {la lb lc ld:List Nat} (p:Rd .u64 w A n la) (q:Rd .u64 w A' n' lc) (p2:Rd .u64 w B m lb) (q2:Rd .u64 w B' m' ld) (hn:n≤maxLen) (hi:(s == t && decide (la=lb))=false) :
 Calls Tryz.prog 42 #[.agg #[.bool s,.slice A n c,.slice A' n' c'],.agg #[.bool t,.slice B m d,.slice B' m' d']] w fun e w'=>e=.returned (.bool false)∧Below w.heap.size w w':=by
 have HI:=Lib.hid hi;clear hi
 go_enter Tryz.func42,Tryz.ntmps42
 go_wp2_with fail
 generalize hW:World.alloc _ _=W
 obtain ⟨hb,XA,XB,hzW⟩:=Qfb hW;clear hW;replace p:=p.below hb;replace q:=q.below hb;replace p2:=p2.below hb;replace q2:=q2.below hb;obtain ⟨xa0,xa1,xa2⟩:=XA.all;obtain ⟨xb0,xb1,xb2⟩:=XB.all
 go_wp2_with (first
  | (go_at_call 77;(with_reducible refine (Qkv s t la lb A B n c m d _ p p2 hn).mono ?_);rintro e w_z ⟨rfl,hh⟩
     rw [HI.out];(try replace p:=p.below hh);(try replace q:=q.below hh);(try replace p2:=p2.below hh);(try replace q2:=q2.below hh);(try replace XA:=XA.below hh);(try replace XB:=XB.below hh);replace hb:=Qai hb hh;obtain ⟨xa0,xa1,xa2⟩:=XA.all;obtain ⟨xb0,xb1,xb2⟩:=XB.all))
 go_ret;exact ⟨rfl,hb⟩
theorem Qoa {s t:Bool} {A A' B B':Option Addr} {n c n' c' m d m' d':Nat} {la lb lc ld:List Nat} (p:Rd .u64 w A n la) (q:Rd .u64 w A' n' lc) (p2:Rd .u64 w B m lb) (q2:Rd .u64 w B' m' ld) (hn:n≤maxLen) (hn':n'≤maxLen) (hi:(s == t && decide (la=lb))=true) :
 Calls Tryz.prog 42 #[.agg #[.bool s,.slice A n c,.slice A' n' c'],.agg #[.bool t,.slice B m d,.slice B' m' d']] w fun e w'=>e=.returned (.bool (decide (lc=ld)))∧Below w.heap.size w w':=by
 have HI:=Lib.hid hi;clear hi
 go_enter Tryz.func42,Tryz.ntmps42
 go_wp2_with fail
 generalize hW:World.alloc _ _=W
 obtain ⟨hb,XA,XB,hzW⟩:=Qfb hW;clear hW;replace p:=p.below hb;replace q:=q.below hb;replace p2:=p2.below hb;replace q2:=q2.below hb;obtain ⟨xa0,xa1,xa2⟩:=XA.all;obtain ⟨xb0,xb1,xb2⟩:=XB.all
 go_wp2_with (first
  | (go_at_call 77;(with_reducible refine (Qkv s t la lb A B n c m d _ p p2 hn).mono ?_);rintro e w_z ⟨rfl,hh⟩
     rw [HI.out];(try replace p:=p.below hh);(try replace q:=q.below hh);(try replace p2:=p2.below hh);(try replace q2:=q2.below hh);(try replace XA:=XA.below hh);(try replace XB:=XB.below hh);replace hb:=Qai hb hh;obtain ⟨xa0,xa1,xa2⟩:=XA.all;obtain ⟨xb0,xb1,xb2⟩:=XB.all)
  | (go_at_call 78;(with_reducible refine (Qk1 lc ld A' B' n' c' m' d' _ q q2 hn').mono ?_);rintro e w_z ⟨rfl,jj,rfl⟩
     replace hb:=Qam hb jj))
 go_ret;exact ⟨rfl,hb⟩
theorem Qe3 {s t:Bool} {A A' B B':Option Addr} {n c n' c' m d m' d':Nat} {la lb lc ld:List Nat} (p:Rd .u64 w A n la) (q:Rd .u64 w A' n' lc) (p2:Rd .u64 w B m lb) (q2:Rd .u64 w B' m' ld) (hn:n≤maxLen) (hn':n'≤maxLen) (r:Bool) (hr:((s == t && decide (la=lb)) && decide (lc=ld))=r) :
 Calls Tryz.prog 42 #[.agg #[.bool s,.slice A n c,.slice A' n' c'],.agg #[.bool t,.slice B m d,.slice B' m' d']] w fun e w'=>e=.returned (.bool r)∧Below w.heap.size w w':=by
 cases h:(s == t && decide (la=lb)) with
 | false =>
   rw [h,Bool.false_and] at hr
   subst hr
   exact Qrq p q p2 q2 hn h
 | true =>
   rw [h,Bool.true_and] at hr
   subst hr
   exact Qoa p q p2 q2 hn hn' h
theorem QjY (a:Bool) (l m:List Nat):((a == a && decide (l=l)) && decide (m=m))=true:=by simp
theorem same3 {s t:Bool} {A A' B B':Option Addr} {n c n' c' m d m' d' k k2:Nat} {v u:Rat} (X:QG w s A n c A' n' c' v k) (Y:RQ w t B m d B' m' d' u k2) (he:v=u) (hk:k≤100000) (hk2:k2≤100000) :
 Calls Tryz.prog 13 #[.agg #[.bool s,.slice A n c,.slice A' n' c'],.agg #[.bool t,.slice B m d,.slice B' m' d']] w fun e w'=>e=.returned (.bool true)∧Below w.heap.size w w':=by
 subst he
 have hs:s=decide (v.num < 0):=X.1.1
 subst hs
 have hn:n≤maxLen:=by have:=X.1.2.2.2;unfold maxLen;omega
 have hn':n'≤maxLen:=by have:=X.2.2.2;unfold maxLen;omega
 have xp:Rd .u64 w A n (Qaf B64 v.num.natAbs):=X.1.2.1
 have xq:Rd .u64 w A' n' (Qaf B64 v.den):=X.2.1
 have HN:=Lib.hid hn
 have HN':=Lib.hid hn'
 clear X hn hn'
 go_enter Tryz.func13,Tryz.ntmps13
 go_wp2_with fail
 generalize hW:World.alloc _ _=W
 obtain ⟨hb,XA,XB,hzW⟩:=Qga hW;clear hW;replace xp:=xp.below hb;replace xq:=xq.below hb;replace Y:=Y.below hb
 replace xp:=xp.below (Below.refl _ _).drew
 replace xq:=xq.below (Below.refl _ _).drew
 replace Y:=Y.below (Below.refl _ _).drew
 replace XA:=XA.below (Below.refl _ _).drew
 replace XB:=XB.below (Below.refl _ _).drew
 replace hb:=hb.drew
 go_region_held3 (fun w'=>w'.cell? ⟨w.heap.size,0,none⟩=some (.bool (decide (v.num < 0)))∧w'.cell? ⟨w.heap.size,1,none⟩=some (.slice A n c)∧w'.cell? ⟨w.heap.size,2,none⟩=some (.slice A' n' c')∧w'.cell? ⟨w.heap.size+1,0,none⟩=some (.bool t)∧w'.cell? ⟨w.heap.size+1,1,none⟩=some (.slice B m d)∧w'.cell? ⟨w.heap.size+1,2,none⟩=some (.slice B' m' d'))
  (first | with_reducible exact ⟨XA.c0,XA.c1,XA.c2,XB.c0,XB.c1,XB.c2⟩)
  (first
  | (go_at_call 43;(with_reducible refine (rout3 Y hk2).mono ?_);rintro e w_y ⟨A_p,n_p,c_p,A_q,n_q,c_q,rfl,yp,yq,hh⟩
     (try replace xp:=xp.below hh);(try replace xq:=xq.below hh);(try replace Y:=Y.below hh);(try replace XA:=XA.below hh);(try replace XB:=XB.below hh);replace hb:=Qai hb hh)
  | (go_at_call 42;(with_reducible refine (Qe3 xp xq yp yq HN.out HN'.out true (QjY _ _ _)).mono ?_);rintro e w_z ⟨rfl,hh⟩
     (try replace xp:=xp.below hh);(try replace xq:=xq.below hh);(try replace Y:=Y.below hh);(try replace yp:=yp.below hh);(try replace yq:=yq.below hh);(try replace XA:=XA.below hh);(try replace XB:=XB.below hh);replace hb:=Qai hb hh))
 go_wp2_with fail
 go_ret;exact ⟨rfl,hb⟩
end
section
open Go Go.RowKit
theorem out2c {t:Bool} {B:Option Addr} {m d k:Nat} {v:Int} (Y:RG w t B m d v k) (hk:k≤200000) :
 Calls Tryz.prog 80 #[.agg #[.bool t,.slice B m d]] w fun e w'=>∃ A n c,e=.returned (.agg #[.bool t,.slice A n c])∧Rd .u64 w' A n (Qaf B64 v.natAbs)∧n≤c∧Below w.heap.size w w':=by
 have hJ:=Qcw v.natAbs;have HJ:=Lib.hid hJ
 have hm:m≤2000000:=Nat.le_trans Y.2.2.2 (by omega)
 have hY:=Y.2.1;clear hJ
 go_enter Tryz.func80,Tryz.ntmps80
 go_wp2_with fail
 generalize hW:World.alloc _ _=W
 obtain ⟨hb,XB,Z,hz⟩:=QmX hW;clear hW;replace hY:=hY.below hb
 replace hY:=hY.below (Below.refl _ _).drew
 replace XB:=XB.drew;replace Z:=Z.drew;replace hb:=hb.drew
 go_region_held3 (fun w'=>w'.cell? ⟨w.heap.size,0,none⟩=some (Value.bool t)∧w'.cell? ⟨w.heap.size,1,none⟩=some (Value.slice B m d))
  (first | with_reducible exact ⟨XB.c0,XB.c1⟩ | with_reducible exact ⟨(Qab _ _ _ _ _ _ (by omega)).trans XB.c0,(Qab _ _ _ _ _ _ (by omega)).trans XB.c1⟩)
  (first
  | (go_at_call 79;(with_reducible refine (Qe8 (Qaf B32 v.natAbs) B m d _ hY (Qag Qah _) hm).mono ?_);rintro e w1 ⟨A1,n1,c1,rfl,p1,p2,p3,hh⟩
     rw [HJ.out] at p3;replace XB:=XB.below hh;replace Z:=Z.below hh;replace hb:=Qai hb hh;obtain ⟨r0,r1⟩:=Z.all;have r2:=Z.f0;have r3:=Z.f1))
 go_wp2
 have hf0:=(Z.set2 (.bool t) (.slice A1 n1 c1)).c0
 have hf1:=(Z.set2 (.bool t) (.slice A1 n1 c1)).c1
 refine bodyPost_ret (v:=.agg #[.bool t,.slice A1 n1 c1]) (by simp [results,Tryz.results80,go_sem,hf0,hf1]) rfl ?_
 refine ⟨A1,n1,c1,rfl,?_,p1,(hb.setCell (by show w.heap.size≤_;simp) _).setCell (by show w.heap.size≤_;simp) _⟩
 exact p3.rd.only (Z.offx p3.rd) (((Only.refl (w.heap.size+1) w1).setCell 0 _).setCell 1 _)
theorem Qqs {A:Option Addr} {n c V k:Nat} (Y:RN w A n c V k) (hk:k≤200000) :
 Calls Tryz.prog 79 #[.slice A n c] w fun e w'=>∃ A n c,e=.returned (.slice A n c)∧Rd .u64 w' A n (Qaf B64 V)∧n≤c∧Below w.heap.size w w':=by
 refine (Qe8 (Qaf B32 V) A n c w Y.1 (Qag Qah _) (Nat.le_trans Y.2.2 (by omega))).mono ?_
 rintro e w' ⟨A1,n1,c1,rfl,p1,p2,p3,p4⟩
 rw [Qcw] at p3
 exact ⟨A1,n1,c1,rfl,p3.rd,p1,p4⟩
theorem QpN {s:Bool} {A A':Option Addr} {n c n' c' k:Nat} {v:Rat} (X:RQ w s A n c A' n' c' v k) (hk:k≤100000) (K:Nat) (h1:v.num.natAbs < B64 ^ K) (h2:v.den < B64 ^ K) :
 Calls Tryz.prog 43 #[.agg #[.bool s,.slice A n c,.slice A' n' c']] w (QbI w v K):=by
 have hs:s=decide (v.num < 0):=X.pg.1
 have HS:=Lib.hid hs
 have HK:Hid ((Qaf B64 v.num.natAbs).length≤K∧(Qaf B64 v.den).length≤K):=⟨Qan Qae h1,Qan Qae h2⟩
 clear h1 h2;clear hs
 go_enter Tryz.func43,Tryz.ntmps43
 go_wp2_with fail
 generalize hW:World.alloc _ _=W
 obtain ⟨hb,XA,Z,hzW⟩:=Qjc hW;clear hW;replace X:=X.below hb;obtain ⟨xa0,xa1,xa2⟩:=XA.all
 go_upto_region 2 with (first
  | (go_at_call 79;(with_reducible refine (Qqs X.qn (by omega)).mono ?_);rintro e w_q ⟨A_q,n_q,c_q,rfl,q,qc,hh⟩
     (try replace X:=X.below hh);(try replace p:=p.below hh);(try replace XA:=XA.below hh);(try replace Z:=Z.below hh);replace hb:=Qai hb hh;obtain ⟨xa0,xa1,xa2⟩:=XA.all))
 have hq0:((n_q:Int) == 0)=false:=by
  have h1:=q.1;rw [QaP Qae v.den_nz] at h1
  simp at h1 ⊢
  omega
 have zf0:=Z.f0;have zf1:=Z.f1;have zf2:=Z.f2;obtain ⟨z0,z1,z2⟩:=Z.all
 go_wp2_with (first
  | (go_at_call 80;(with_reducible refine (out2c X.pg (by omega)).mono ?_);rintro e w_p ⟨A_p,n_p,c_p,rfl,p,pc,hh⟩
     (try replace X:=X.below hh);(try replace q:=q.below hh);(try replace XA:=XA.below hh);(try replace Z:=Z.below hh);replace hb:=Qai hb hh;obtain ⟨xa0,xa1,xa2⟩:=XA.all;have zf0:=Z.f0;have zf1:=Z.f1;have zf2:=Z.f2;obtain ⟨z0,z1,z2⟩:=Z.all))
 have Z2:=Z.set3 (.bool s) (.slice A_p n_p c_p) (.slice A_q n_q c_q)
 obtain ⟨g0,g1,g2⟩:=Z2.all
 refine bodyPost_ret (v:=.agg #[.bool s,.slice A_p n_p c_p,.slice A_q n_q c_q]) (by simp [results,Tryz.results43,go_sem,g0,g1,g2]) rfl ?_
 have ho:=(((Only.refl (w.heap.size+1) w_p).setCell 0 (Value.bool s)).setCell 1 (Value.slice A_p n_p c_p)).setCell 2 (Value.slice A_q n_q c_q)
 exact ⟨s,A_p,n_p,c_p,A_q,n_q,c_q,rfl,⟨⟨HS.out,p.only (Z.offx p) ho,pc,by rw [← p.1];exact HK.out.1⟩,q.only (Z.offx q) ho,qc,by rw [← q.1];exact HK.out.2⟩,Qak hb (by omega) _ _ _⟩
end
section
open Go Go.RowKit
theorem QkB (v:Int) (h1:-9223372036854775808≤v) (h2:v < 9223372036854775808) (w:World):Calls Tryz.prog 85 #[.int .i64 v] w (QbY w v 2):=by
 by_cases h:v < 0
 · obtain ⟨V,rfl⟩:∃ V:Nat,v=-(V:Int):=⟨v.natAbs,by omega⟩
   exact Qo0 V (by omega) (by omega) w
 · obtain ⟨V,rfl⟩:∃ V:Nat,v=(V:Int):=⟨v.natAbs,by omega⟩
   exact Qpr V (by omega) w
end
section
open Go Go.RowKit
theorem RG.of_f {A:Option Addr} {n c V k:Nat} (h:RN w A n c V k):RG w false A n c (iv false V) k:=RG.of_made (neg:=false) h rfl
theorem RG.of_t {A:Option Addr} {n c V k:Nat} (h:RN w A n c V k):RG w (decide (0 < n)) A n c (iv true V) k:=RG.of_made (neg:=true) h rfl
theorem Qiu (p:Int):(Rat.divInt p 1).num=p∧(Rat.divInt p 1).den=1:=by rw [int1];exact ⟨rfl,rfl⟩
theorem rof3 (p q:Int) (hp1:-9223372036854775808≤p) (hp2:p < 9223372036854775808) (hq1:-9223372036854775808≤q) (hq2:q < 9223372036854775808) (h0:((q:Int) == 0)=false) (w:World) :
 Calls Tryz.prog 49 #[.int .i64 p,.int .i64 q] w (Qa4 w (Rat.divInt p q) 2):=by
 have hq0:q ≠ 0:=by simpa using h0
 have HQ0:Hid ((q:Int).natAbs ≠ 0):=by show (q:Int).natAbs ≠ 0;omega
 have H1:=Lib.hid hp1;have H2:=Lib.hid hp2;have H3:=Lib.hid hq1;have H4:=Lib.hid hq2;clear hq0;clear hp1 hp2 hq1 hq2
 go_enter Tryz.func49,Tryz.ntmps49
 go_upto_region 1 with (fail)
 generalize hW:World.alloc _ _=W
 obtain ⟨hb,Z,hzW⟩:=QdX hW;clear hW
 go_upto_region 4 with (first
  | (go_at_call 85;(with_reducible refine (QkB p H1.out H2.out _).mono ?_);rintro e w_x ⟨s_x,A_x,n_x,c_x,rfl,x,hh⟩
     (try replace y:=y.below hh);(try replace r:=r.below hh);(try replace XP:=XP.below hh);(try replace XQ:=XQ.below hh);(try replace Z:=Z.below hh);replace hb:=Qai hb hh)
  | (go_at_call 85;(with_reducible refine (QkB q H3.out H4.out _).mono ?_);rintro e w_y ⟨s_y,A_y,n_y,c_y,rfl,y,hh⟩
     (try replace x:=x.below hh);(try replace r:=r.below hh);(try replace XP:=XP.below hh);(try replace XQ:=XQ.below hh);(try replace Z:=Z.below hh);replace hb:=Qai hb hh))
 generalize hW:World.alloc _ _=W2
 obtain ⟨hh,XP,XQ,hzW2⟩:=QjO hW;clear hW;(try replace x:=x.below hh);(try replace y:=y.below hh);(try replace Z:=Z.below hh);replace hb:=Qai hb hh
 have hsx:s_x=decide (p < 0):=x.1
 have hsy:s_y=decide (q < 0):=y.1
 have HE:Hid (mkRat (iv (s_x != s_y) p.natAbs) (q:Int).natAbs=Rat.divInt p q):=by
  show _=_
  rw [← QpI,hsx,hsy,Qfl]
  first | rfl | rw [Qfl]
 have hnx:=QkM x.rn;have HNX:=Lib.hid hnx;have xr:=x.rn;have yr:=y.rn;clear hsx hsy hnx x y
 cases s_x <;> cases s_y
 · have xp0:=XP.c0
   have xp1:=XP.c1;obtain ⟨xq0,xq1⟩:=XQ.all;have zf0:=Z.f0;have zf1:=Z.f1;have zf2:=Z.f2;obtain ⟨z0,z1,z2⟩:=Z.all
   have HE2:Hid (mkRat (iv false p.natAbs) (q:Int).natAbs=Rat.divInt p q):=HE
   go_wp2_with (first
    | (go_at_call 86;(with_reducible refine (Qdc (RG.of_f xr) yr (by decide) HQ0.out).mono ?_);rintro e w_r ⟨s_r,A_r,n_r,c_r,B_r,m_r,d_r,rfl,r,hh⟩
       rw [HE2.out] at r;(try replace Z:=Z.below hh);replace hb:=Qai hb hh;have zf0:=Z.f0;have zf1:=Z.f1;have zf2:=Z.f2;obtain ⟨z0,z1,z2⟩:=Z.all))
   have Z2:=Z.set3 (.bool s_r) (.slice A_r n_r c_r) (.slice B_r m_r d_r)
   obtain ⟨g0,g1,g2⟩:=Z2.all
   refine bodyPost_ret (v:=.agg #[.bool s_r,.slice A_r n_r c_r,.slice B_r m_r d_r]) (by simp [results,Tryz.results49,go_sem,g0,g1,g2]) rfl ?_
   exact ⟨s_r,A_r,n_r,c_r,B_r,m_r,d_r,rfl,r.set3 Z _ _ _,Qak hb (by omega) _ _ _⟩
 · have xp0:=XP.c0
   have xp1:=XP.c1;obtain ⟨xq0,xq1⟩:=XQ.all;have zf0:=Z.f0;have zf1:=Z.f1;have zf2:=Z.f2;obtain ⟨z0,z1,z2⟩:=Z.all
   have HE2:Hid (mkRat (iv true p.natAbs) (q:Int).natAbs=Rat.divInt p q):=HE
   go_wp2_with (first
    | (go_at_call 86;(with_reducible refine (Qdc (RG.of_t xr) yr (by decide) HQ0.out).mono ?_);rintro e w_r ⟨s_r,A_r,n_r,c_r,B_r,m_r,d_r,rfl,r,hh⟩
       rw [HE2.out] at r;(try replace Z:=Z.below hh);replace hb:=Qai hb hh;have zf0:=Z.f0;have zf1:=Z.f1;have zf2:=Z.f2;obtain ⟨z0,z1,z2⟩:=Z.all))
   have Z2:=Z.set3 (.bool s_r) (.slice A_r n_r c_r) (.slice B_r m_r d_r)
   obtain ⟨g0,g1,g2⟩:=Z2.all
   refine bodyPost_ret (v:=.agg #[.bool s_r,.slice A_r n_r c_r,.slice B_r m_r d_r]) (by simp [results,Tryz.results49,go_sem,g0,g1,g2]) rfl ?_
   exact ⟨s_r,A_r,n_r,c_r,B_r,m_r,d_r,rfl,r.set3 Z _ _ _,Qak hb (by omega) _ _ _⟩
 · have xp0:=XP.c0
   have xp1:=XP.c1;obtain ⟨xq0,xq1⟩:=XQ.all;have zf0:=Z.f0;have zf1:=Z.f1;have zf2:=Z.f2;obtain ⟨z0,z1,z2⟩:=Z.all
   have HE2:Hid (mkRat (iv true p.natAbs) (q:Int).natAbs=Rat.divInt p q):=HE
   go_wp2_with (first
    | (go_at_call 86;(with_reducible refine (Qdc (RG.of_t xr) yr (by decide) HQ0.out).mono ?_);rintro e w_r ⟨s_r,A_r,n_r,c_r,B_r,m_r,d_r,rfl,r,hh⟩
       rw [HE2.out] at r;(try replace Z:=Z.below hh);replace hb:=Qai hb hh;have zf0:=Z.f0;have zf1:=Z.f1;have zf2:=Z.f2;obtain ⟨z0,z1,z2⟩:=Z.all))
   have Z2:=Z.set3 (.bool s_r) (.slice A_r n_r c_r) (.slice B_r m_r d_r)
   obtain ⟨g0,g1,g2⟩:=Z2.all
   refine bodyPost_ret (v:=.agg #[.bool s_r,.slice A_r n_r c_r,.slice B_r m_r d_r]) (by simp [results,Tryz.results49,go_sem,g0,g1,g2]) rfl ?_
   exact ⟨s_r,A_r,n_r,c_r,B_r,m_r,d_r,rfl,r.set3 Z _ _ _,Qak hb (by omega) _ _ _⟩
 · have xp0:=XP.c0
   have xp1:=XP.c1;obtain ⟨xq0,xq1⟩:=XQ.all;have zf0:=Z.f0;have zf1:=Z.f1;have zf2:=Z.f2;obtain ⟨z0,z1,z2⟩:=Z.all
   have HE2:Hid (mkRat (iv false p.natAbs) (q:Int).natAbs=Rat.divInt p q):=HE
   go_wp2_with (first
    | (go_at_call 86;(with_reducible refine (Qdc (RG.of_f xr) yr (by decide) HQ0.out).mono ?_);rintro e w_r ⟨s_r,A_r,n_r,c_r,B_r,m_r,d_r,rfl,r,hh⟩
       rw [HE2.out] at r;(try replace Z:=Z.below hh);replace hb:=Qai hb hh;have zf0:=Z.f0;have zf1:=Z.f1;have zf2:=Z.f2;obtain ⟨z0,z1,z2⟩:=Z.all))
   have Z2:=Z.set3 (.bool s_r) (.slice A_r n_r c_r) (.slice B_r m_r d_r)
   obtain ⟨g0,g1,g2⟩:=Z2.all
   refine bodyPost_ret (v:=.agg #[.bool s_r,.slice A_r n_r c_r,.slice B_r m_r d_r]) (by simp [results,Tryz.results49,go_sem,g0,g1,g2]) rfl ?_
   exact ⟨s_r,A_r,n_r,c_r,B_r,m_r,d_r,rfl,r.set3 Z _ _ _,Qak hb (by omega) _ _ _⟩
end
section
open Go Go.RowKit
theorem Qhm (M:Nat) {s:Bool} {A A':Option Addr} {n c n' c':Nat} (w:World) (L:Bool) (hL:decide (n≤M∧n'≤M)=L) :
 Calls Tryz.prog 111 #[.agg #[.bool s,.slice A n c,.slice A' n' c'],.int .i64 (M:Int)] w fun e w'=>e=.returned (.bool L)∧Below w.heap.size w w':=by
 have HL:=Lib.hid hL;clear hL
 go_enter Tryz.func111,Tryz.ntmps111
 go_wp2_with fail
 generalize hW:World.alloc _ _=W
 obtain ⟨hb,XA,hzW⟩:=QaW hW;clear hW;obtain ⟨xa0,xa1,xa2⟩:=XA.all
 go_wp2_with fail
 · have h:n≤M:=by assumption
   go_ret
   refine ⟨?_,by first | assumption | exact (Below.refl _ _).alloc (Nat.le_refl _) _⟩
   show Ending.returned (.bool (decide (n'≤M)))=_
   rw [← HL.out]
   by_cases h2:n'≤M
   · rw [decide_eq_true (show n'≤M by omega),decide_eq_true (show n≤M∧n'≤M by omega)]
   · rw [decide_eq_false (show ¬ n'≤M by omega),decide_eq_false (show ¬ (n≤M∧n'≤M) by omega)]
 · have h:M < n:=by omega
   go_ret
   refine ⟨?_,by first | assumption | exact (Below.refl _ _).alloc (Nat.le_refl _) _⟩
   show Ending.returned (.bool false)=_
   rw [← HL.out,decide_eq_false (show ¬ (n≤M∧n'≤M) by omega)]
theorem QjU {s:Bool} {A A':Option Addr} {n c n' c':Nat} (w:World) (L:Bool) (hL:decide (n≤6∧n'≤6)=L) :
 Calls Tryz.prog 111 #[.agg #[.bool s,.slice A n c,.slice A' n' c'],.int .i64 6] w fun e w'=>e=.returned (.bool L)∧Below w.heap.size w w':=Qhm 6 w L hL
end
end Go.Proofs.YtgfcofecdhodcaaGreat
