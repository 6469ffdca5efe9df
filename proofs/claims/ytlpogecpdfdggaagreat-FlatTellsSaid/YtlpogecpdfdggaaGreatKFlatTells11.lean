/- FlatTells: part 11. -/
import Derived.Deep.Cut
import Derived.Deep.CutRange
import Derived.Test.YtlpogecpdfdggaaGreatKFlatTells6
import Derived.Test.YtlpogecpdfdggaaGreatKFlatTells7
import Derived.Test.YtlpogecpdfdggaaGreatKFlatTells8
import Derived.Test.YtlpogecpdfdggaaGreatKFlatTells9
import Derived.Test.YtlpogecpdfdggaaGreatKFlatTells10
set_option linter.unusedVariables false
set_option maxRecDepth 100000
set_option maxHeartbeats 16000000
variable {w:Go.World}
namespace Go.Proofs.YtlpogecpdfdggaaGreat
section
open Go Go.RowKit
def B3R (W:World) (g:Nat) (x y z:Value):Prop:=W.heap[g]?=some (.cells #[x,y,z] 43 (0,0))
section
variable {W W':World} {g:Nat} {x y z:Value}
theorem B3R.c0 (h:B3R W g x y z):W.cell? ⟨g,0,none⟩=some x:=by rw [cell_of_row W g 0 _ _ (0,0) h];rfl
theorem B3R.c1 (h:B3R W g x y z):W.cell? ⟨g,1,none⟩=some y:=by rw [cell_of_row W g 1 _ _ (0,0) h];rfl
theorem B3R.c2 (h:B3R W g x y z):W.cell? ⟨g,2,none⟩=some z:=by rw [cell_of_row W g 2 _ _ (0,0) h];rfl
theorem B3R.all (h:B3R W g x y z):W.cell? ⟨g,0,none⟩=some x∧W.cell? ⟨g,1,none⟩=some y∧W.cell? ⟨g,2,none⟩=some z:=⟨h.c0,h.c1,h.c2⟩
theorem B3R.f0 (h:B3R W g x y z):W.frozen? ⟨g,0,none⟩=false:=frozen_of_row W g 0 _ _ h
theorem B3R.f1 (h:B3R W g x y z):W.frozen? ⟨g,1,none⟩=false:=frozen_of_row W g 1 _ _ h
theorem B3R.f2 (h:B3R W g x y z):W.frozen? ⟨g,2,none⟩=false:=frozen_of_row W g 2 _ _ h
theorem B3R.lt (h:B3R W g x y z):g < W.heap.size:=World.block_lt_of_cell? W _ h.c0
theorem B3R.below (h:B3R W g x y z) (hb:Below W.heap.size W W'):B3R W' g x y z:=(hb.block g h.lt).trans h
theorem B3R.alloc (h:B3R W g x y z) (o:Obj):B3R (W.alloc o) g x y z:=(Below.heap_alloc W o g h.lt).trans h
theorem B3R.new' (W:World) (x y z:Value) (g:Nat) (hg:g=W.heap.size):B3R (W.alloc (.cells #[x,y,z] 43)) g x y z:=by subst hg;exact heap_alloc_new W _
theorem B3R.set3 (h:B3R W g x y z) (a b c:Value):B3R (((W.setCell ⟨g,0,none⟩ a).setCell ⟨g,1,none⟩ b).setCell ⟨g,2,none⟩ c) g a b c:=by
 unfold B3R at h ⊢
 simp [World.setCell,Array.getElem?_modify,h]
theorem B3R.offx {s:Bool} {A A1 A2:Option Addr} {n n1 n2 c1 c2:Nat} {K:IntKind} {l:List Nat} (h:B3R W g (.bool s) (.slice A1 n1 c1) (.slice A2 n2 c2)) (hr:Rd K W A n l):Off A n g:=by
 intro hn ad e hg
 obtain ⟨b,o,eA,hc⟩:=hr.at_ hn
 obtain ⟨x,_,hx⟩:=hc 0 hn
 rw [eA] at e
 cases e
 have hg2:b=g:=hg
 subst hg2
 rw [cell_of_row W b (o+0) _ _ (0,0) h] at hx
 match o,hx with
 | 0,hx=>cases hx
 | 1,hx=>cases hx
 | 2,hx=>cases hx
 | o+3,hx=>cases hx
end
def RQ (w:World) (s:Bool) (A:Option Addr) (n c:Nat) (A':Option Addr) (n' c':Nat) (v:Rat) (k:Nat):Prop:=RG w s A n c v.num k∧RN w A' n' c' v.den k
def GivesRQ (w:World) (v:Rat) (k:Nat) (e:Ending) (w':World):Prop :=
 ∃ s A n c A' n' c',e=.returned (.agg #[.bool s,.slice A n c,.slice A' n' c'])∧RQ w' s A n c A' n' c' v k∧Below w.heap.size w w'
section
variable {w w':World} {s:Bool} {A A':Option Addr} {n c n' c' k g:Nat} {v:Rat}
theorem RQ.below (h:RQ w s A n c A' n' c' v k) (hb:Below w.heap.size w w'):RQ w' s A n c A' n' c' v k:=⟨h.1.below hb,h.2.below hb⟩
theorem RN.only {V:Nat} (h:RN w A n c V k) (ho:Off A n g) (hb:Only g w w'):RN w' A n c V k:=⟨h.1.only ho hb,h.2⟩
theorem RG.only {V:Int} (h:RG w s A n c V k) (ho:Off A n g) (hb:Only g w w'):RG w' s A n c V k:=⟨h.1,h.2.only ho hb⟩
theorem RG.rn {V:Int} (h:RG w s A n c V k):RN w A n c V.natAbs k:=h.2
theorem RG.more {V:Int} {k1:Nat} (h:RG w s A n c V k) (hk:k≤k1):RG w s A n c V k1:=⟨h.1,h.2.more hk⟩
theorem RQ.set3 {t:Bool} {A1 A2:Option Addr} {n1 c1 n2 c2:Nat} (h:RQ w s A n c A' n' c' v k) (Z:B3R w g (.bool t) (.slice A1 n1 c1) (.slice A2 n2 c2)) (x y z:Value) :
 RQ (((w.setCell ⟨g,0,none⟩ x).setCell ⟨g,1,none⟩ y).setCell ⟨g,2,none⟩ z) s A n c A' n' c' v k:=by
 have ho:Only g w (((w.setCell ⟨g,0,none⟩ x).setCell ⟨g,1,none⟩ y).setCell ⟨g,2,none⟩ z):=(((Only.refl g w).setCell 0 _).setCell 1 _).setCell 2 _
 exact ⟨h.1.only (Z.offx h.1.2.1) ho,h.2.only (Z.offx h.2.1) ho⟩
end
theorem mkRat_num {p:Int} {q:Nat} (hq:q ≠ 0):(mkRat p q).num.natAbs=p.natAbs / Nat.gcd p.natAbs q∧(mkRat p q).den=q / Nat.gcd p.natAbs q∧((mkRat p q).num < 0 ↔ p < 0):=by
 have h0:(q:Int) ≠ 0:=by omega
 have h1:=div_num (p:=p) h0
 have h2:=div_den (p:=p) h0
 rw [Rat.divInt_ofNat] at h1 h2
 simp only [Int.natAbs_natCast] at h1 h2
 exact ⟨h1,h2,by rw [num_neg_iff,mk_negv hq]⟩
theorem mkbx24_11 {w W:World} {x0 x1 x2 x3 x4:Value} (h:((w.alloc (Obj.cells #[x0,x1] 41)).alloc (Obj.cells #[x2,x3,x4] 43))=W):Below w.heap.size w W∧By W (w.heap.size) x0 x1∧B3R W (w.heap.size+1) x2 x3 x4∧W.heap.size=w.heap.size+2:=by subst h;exact ⟨by exact (((Below.refl _ _).alloc (Nat.le_refl _) _).alloc (by simp) _),by exact (By.new' _ _ _ _ rfl).alloc _,by exact B3R.new' _ _ _ _ _ (by simp),by simp⟩
theorem made_one {s:Bool} {A B:Option Addr} {n c m d k q:Nat} {p:Int} (X:RG w s A n c p k) (Y:RN w B m d q k) (hk:k≤100000) (hq:q ≠ 0) (hg:Nat.gcd p.natAbs q=1) :
 Calls Tryz.prog 36 #[.agg #[.bool s,.slice A n c],.slice B m d] w (GivesRQ w (mkRat p q) k):=by
 have HG:=Lib.hid hg
 have hm:=mkRat_num (p:=p) hq
 rw [hg,Nat.div_one,Nat.div_one] at hm
 have HM:=Lib.hid hm;clear hg hm
 go_enter Tryz.func36,Tryz.ntmps36
 go_wp2_with fail
 generalize hW:World.alloc _ _=W
 obtain ⟨hb,XP,Z,hzW⟩:=mkbx24_11 hW;clear hW;replace X:=X.below hb;replace Y:=Y.below hb;obtain ⟨xp0,xp1⟩:=XP.all
 go_upto_region 2 with (first
  | (go_at_call 74;(with_reducible refine (rgcd_nr X.rn Y (by omega)).mono ?_);rintro e w_g ⟨A_g,n_g,c_g,rfl,g,hh⟩
     rw [HG.out] at g;(try replace X:=X.below hh);(try replace Y:=Y.below hh);(try replace x:=x.below hh);(try replace y:=y.below hh);(try replace XP:=XP.below hh);(try replace Z:=Z.below hh);replace hb:=bend hb hh;obtain ⟨xp0,xp1⟩:=XP.all))
 have hl:limbs B32 1=[1]:=limbs_small B32_two (by decide) (by decide)
 have hg1:=g.1;rw [hl] at hg1
 have hn:1=n_g:=hg1.1
 subst hn
 obtain ⟨gb,go,rfl,hgc⟩:=hg1.at_ (by decide)
 obtain ⟨gx,hgx,hgc0⟩:=hgc 0 (by decide)
 have hgx1:1=gx:=by simpa using hgx
 subst hgx1
 have hc1:w_g.cell? ⟨gb,go,none⟩=some (.int .u32 1):=by simpa using hgc0
 clear hgc hgx hgc0 hg1 hl g;have zf0:=Z.f0;have zf1:=Z.f1;have zf2:=Z.f2;obtain ⟨z0,z1,z2⟩:=Z.all
 go_wp2_with fail
 have Z2:=Z.set3 (.bool s) (.slice A n c) (.slice B m d)
 obtain ⟨g0,g1,g2⟩:=Z2.all
 refine bodyPost_ret (v:=.agg #[.bool s,.slice A n c,.slice B m d]) (by simp [results,Tryz.results36,go_sem,g0,g1,g2]) rfl ?_
 have hm:=HM.out
 have hr:RQ w_g s A n c B m d (mkRat p q) k:=⟨⟨X.1.trans (by rw [decide_eq_decide];exact hm.2.2.symm),by rw [hm.1];exact X.rn⟩,by rw [hm.2.1];exact Y⟩
 exact ⟨s,_,_,_,_,_,_,rfl,hr.set3 Z _ _ _,below_set3 hb (by omega) _ _ _⟩
theorem made_big {s:Bool} {A B:Option Addr} {n c m d k q G:Nat} {p:Int} (X:RG w s A n c p k) (Y:RN w B m d q k) (hk:k≤100000) (hq:q ≠ 0) (hg:Nat.gcd p.natAbs q=G) (hG:B32≤G) :
 Calls Tryz.prog 36 #[.agg #[.bool s,.slice A n c],.slice B m d] w (GivesRQ w (mkRat p q) k):=by
 have HG:=Lib.hid hg
 have HG0:Hid (G ≠ 0):=by
  show G ≠ 0
  have:=Nat.gcd_pos_of_pos_right p.natAbs (Nat.pos_of_ne_zero hq)
  omega
 have hm:=mkRat_num (p:=p) hq
 rw [hg] at hm;have HM:=Lib.hid hm;clear hg hm
 go_enter Tryz.func36,Tryz.ntmps36
 go_wp2_with fail
 generalize hW:World.alloc _ _=W
 obtain ⟨hb,XP,Z,hzW⟩:=mkbx24_11 hW;clear hW;replace X:=X.below hb;replace Y:=Y.below hb;obtain ⟨xp0,xp1⟩:=XP.all
 go_upto_region 2 with (first
  | (go_at_call 74;(with_reducible refine (rgcd_nr X.rn Y (by omega)).mono ?_);rintro e w_g ⟨A_g,n_g,c_g,rfl,g,hh⟩
     rw [HG.out] at g;(try replace X:=X.below hh);(try replace Y:=Y.below hh);(try replace x:=x.below hh);(try replace y:=y.below hh);(try replace XP:=XP.below hh);(try replace Z:=Z.below hh);replace hb:=bend hb hh;obtain ⟨xp0,xp1⟩:=XP.all))
 have hng:2≤n_g:=by
  rcases Nat.lt_or_ge n_g 2 with h | h
  · have h1:=val_lt (lim_limbs B32_two G)
    rw [val_limbs B32_two,g.1.1] at h1
    have h2:B32 ^ n_g≤B32 ^ 1:=Nat.pow_le_pow_right (by decide) (by omega)
    rw [Nat.pow_one] at h2
    omega
  · exact h
 have hn0:((n_g:Int) == 0)=false:=by simp;omega
 have hn1:((n_g:Int) == 1)=false:=by simp;omega
 clear hng hG
 have hfd:∀ (A:Option Addr) (n c:Nat) (A':Option Addr) (n' c':Nat) (w:World),(Instr.field 117 (.agg #[.slice A n c,.slice A' n' c']) 0).run Tryz.prog w=.ok (.slice A n c) w:=fun _ _ _ _ _ _ _=>by kernel_rfl
 go_upto_region 4 with (fail)
 replace X:=X.below (Below.refl _ _).drew
 replace Y:=Y.below (Below.refl _ _).drew
 replace g:=g.below (Below.refl _ _).drew
 replace XP:=XP.below (Below.refl _ _).drew
 replace Z:=Z.below (Below.refl _ _).drew
 replace hb:=hb.drew
 go_region_held3 (fun w'=>w'.cell? ⟨w.heap.size,0,none⟩=some (.bool s)∧w'.cell? ⟨w.heap.size,1,none⟩=some (.slice A n c))
  (first | with_reducible exact ⟨XP.c0,XP.c1⟩ | with_reducible exact ⟨(set3_cell _ _ _ _ _ _ _ (by omega)).trans XP.c0,(set3_cell _ _ _ _ _ _ _ (by omega)).trans XP.c1⟩)
  (first
  | (go_at_call 75;(with_reducible refine (rdm_nr X.rn g (by omega) (by omega) HG0.out).mono ?_);rintro e w_x ⟨A_x,n_x,c_x,A_r,n_r,c_r,rfl,x,xr,hh⟩
     (try replace X:=X.below hh);(try replace Y:=Y.below hh);(try replace g:=g.below hh);(try replace y:=y.below hh);(try replace XP:=XP.below hh);(try replace Z:=Z.below hh);replace hb:=bend hb hh;have zf0:=Z.f0;have zf1:=Z.f1;have zf2:=Z.f2;obtain ⟨z0,z1,z2⟩:=Z.all)
  | (go_at_call 75;(with_reducible refine (rdm_nr Y g (by omega) (by omega) HG0.out).mono ?_);rintro e w_y ⟨A_y,n_y,c_y,A_t,n_t,c_t,rfl,y,yr,hh⟩
     (try replace X:=X.below hh);(try replace Y:=Y.below hh);(try replace g:=g.below hh);(try replace x:=x.below hh);(try replace XP:=XP.below hh);(try replace Z:=Z.below hh);replace hb:=bend hb hh;have zf0:=Z.f0;have zf1:=Z.f1;have zf2:=Z.f2;obtain ⟨z0,z1,z2⟩:=Z.all))
 go_wp2_with fail
 have Z2:=Z.set3 (.bool s) (.slice A_x n_x c_x) (.slice A_y n_y c_y)
 obtain ⟨g0,g1,g2⟩:=Z2.all
 refine bodyPost_ret (v:=.agg #[.bool s,.slice A_x n_x c_x,.slice A_y n_y c_y]) (by simp [results,Tryz.results36,go_sem,g0,g1,g2]) rfl ?_
 have hm:=HM.out
 have hr:RQ w_y s A_x n_x c_x A_y n_y c_y (mkRat p q) k:=⟨⟨X.1.trans (by rw [decide_eq_decide];exact hm.2.2.symm),by rw [hm.1];exact x⟩,by rw [hm.2.1];exact y⟩
 exact ⟨s,_,_,_,_,_,_,rfl,hr.set3 Z _ _ _,below_set3 hb (by omega) _ _ _⟩
theorem made_small {s:Bool} {A B:Option Addr} {n c m d k q G:Nat} {p:Int} (X:RG w s A n c p k) (Y:RN w B m d q k) (hk:k≤100000) (hq:q ≠ 0) (hg:Nat.gcd p.natAbs q=G) (hG:G < B32) (hG1:G ≠ 1) :
 Calls Tryz.prog 36 #[.agg #[.bool s,.slice A n c],.slice B m d] w (GivesRQ w (mkRat p q) k):=by
 have HG:=Lib.hid hg
 have HG0:Hid (G ≠ 0):=by
  show G ≠ 0
  have:=Nat.gcd_pos_of_pos_right p.natAbs (Nat.pos_of_ne_zero hq)
  omega
 have hm:=mkRat_num (p:=p) hq
 rw [hg] at hm;have HM:=Lib.hid hm;clear hg hm
 go_enter Tryz.func36,Tryz.ntmps36
 go_wp2_with fail
 generalize hW:World.alloc _ _=W
 obtain ⟨hb,XP,Z,hzW⟩:=mkbx24_11 hW;clear hW;replace X:=X.below hb;replace Y:=Y.below hb;obtain ⟨xp0,xp1⟩:=XP.all
 go_upto_region 2 with (first
  | (go_at_call 74;(with_reducible refine (rgcd_nr X.rn Y (by omega)).mono ?_);rintro e w_g ⟨A_g,n_g,c_g,rfl,g,hh⟩
     rw [HG.out] at g;(try replace X:=X.below hh);(try replace Y:=Y.below hh);(try replace x:=x.below hh);(try replace y:=y.below hh);(try replace XP:=XP.below hh);(try replace Z:=Z.below hh);replace hb:=bend hb hh;obtain ⟨xp0,xp1⟩:=XP.all))
 have hl:limbs B32 G=[G]:=limbs_small B32_two hG HG0.out
 have hg1:=g.1;rw [hl] at hg1
 have hn:1=n_g:=hg1.1
 subst hn
 obtain ⟨gb,go,eA,hgc⟩:=hg1.at_ (by decide)
 subst eA
 obtain ⟨gx,hgx,hgc0⟩:=hgc 0 (by decide)
 have hgx1:G=gx:=by simpa using hgx
 subst hgx1
 have hc1:w_g.cell? ⟨gb,go,none⟩=some (.int .u32 (G:Int)):=by simpa using hgc0
 have hG2:((G:Int) == 1)=false:=by simp;omega
 clear hgc hgx hgc0 hg1 hl hG hG1
 have hfd:∀ (A:Option Addr) (n c:Nat) (A':Option Addr) (n' c':Nat) (w:World),(Instr.field 117 (.agg #[.slice A n c,.slice A' n' c']) 0).run Tryz.prog w=.ok (.slice A n c) w:=fun _ _ _ _ _ _ _=>by kernel_rfl
 go_upto_region 4 with (fail)
 replace X:=X.below (Below.refl _ _).drew
 replace Y:=Y.below (Below.refl _ _).drew
 replace g:=g.below (Below.refl _ _).drew
 replace XP:=XP.below (Below.refl _ _).drew
 replace Z:=Z.below (Below.refl _ _).drew
 replace hb:=hb.drew
 go_region_held3 (fun w'=>w'.cell? ⟨w.heap.size,0,none⟩=some (.bool s)∧w'.cell? ⟨w.heap.size,1,none⟩=some (.slice A n c))
  (first | with_reducible exact ⟨XP.c0,XP.c1⟩ | with_reducible exact ⟨(set3_cell _ _ _ _ _ _ _ (by omega)).trans XP.c0,(set3_cell _ _ _ _ _ _ _ (by omega)).trans XP.c1⟩)
  (first
  | (go_at_call 75;(with_reducible refine (rdm_nr X.rn g (by omega) (by omega) HG0.out).mono ?_);rintro e w_x ⟨A_x,n_x,c_x,A_r,n_r,c_r,rfl,x,xr,hh⟩
     (try replace X:=X.below hh);(try replace Y:=Y.below hh);(try replace g:=g.below hh);(try replace y:=y.below hh);(try replace XP:=XP.below hh);(try replace Z:=Z.below hh);replace hb:=bend hb hh;have zf0:=Z.f0;have zf1:=Z.f1;have zf2:=Z.f2;obtain ⟨z0,z1,z2⟩:=Z.all)
  | (go_at_call 75;(with_reducible refine (rdm_nr Y g (by omega) (by omega) HG0.out).mono ?_);rintro e w_y ⟨A_y,n_y,c_y,A_t,n_t,c_t,rfl,y,yr,hh⟩
     (try replace X:=X.below hh);(try replace Y:=Y.below hh);(try replace g:=g.below hh);(try replace x:=x.below hh);(try replace XP:=XP.below hh);(try replace Z:=Z.below hh);replace hb:=bend hb hh;have zf0:=Z.f0;have zf1:=Z.f1;have zf2:=Z.f2;obtain ⟨z0,z1,z2⟩:=Z.all))
 go_wp2_with fail
 have Z2:=Z.set3 (.bool s) (.slice A_x n_x c_x) (.slice A_y n_y c_y)
 obtain ⟨g0,g1,g2⟩:=Z2.all
 refine bodyPost_ret (v:=.agg #[.bool s,.slice A_x n_x c_x,.slice A_y n_y c_y]) (by simp [results,Tryz.results36,go_sem,g0,g1,g2]) rfl ?_
 have hm:=HM.out
 have hr:RQ w_y s A_x n_x c_x A_y n_y c_y (mkRat p q) k:=⟨⟨X.1.trans (by rw [decide_eq_decide];exact hm.2.2.symm),by rw [hm.1];exact x⟩,by rw [hm.2.1];exact y⟩
 exact ⟨s,_,_,_,_,_,_,rfl,hr.set3 Z _ _ _,below_set3 hb (by omega) _ _ _⟩
theorem made_rq {s:Bool} {A B:Option Addr} {n c m d k q:Nat} {p:Int} (X:RG w s A n c p k) (Y:RN w B m d q k) (hk:k≤100000) (hq:q ≠ 0) :
 Calls Tryz.prog 36 #[.agg #[.bool s,.slice A n c],.slice B m d] w (GivesRQ w (mkRat p q) k):=by
 by_cases h1:Nat.gcd p.natAbs q=1
 · exact made_one X Y hk hq h1
 · rcases Nat.lt_or_ge (Nat.gcd p.natAbs q) B32 with h | h
   · exact made_small X Y hk hq rfl h h1
   · exact made_big X Y hk hq rfl h
end
section
theorem cmpQ_swap (v u:Rat):cmpQ u v=-cmpQ v u:=by
 unfold cmpQ
 by_cases h1:v < u <;> by_cases h2:u < v <;> simp [h1,h2]
 exact absurd (Rat.le_of_lt h2) (Rat.not_le.2 h1)
theorem cmpQ_le {v u:Rat}:cmpQ v u≤0 ↔ v≤u:=by
 unfold cmpQ
 rw [← Rat.not_lt]
 by_cases h1:v < u
 · have h2:¬ u < v:=fun h=>absurd (Rat.le_of_lt h) (Rat.not_le.2 h1)
   simp [h1,h2]
 · by_cases h2:u < v <;> simp [h1,h2]
theorem int1 (n:Int):Rat.divInt n 1=(n:Rat):=by
 have h:Rat.divInt n 1=mkRat n 1:=Rat.divInt_ofNat n 1
 rw [h]
 apply Rat.ext
 · simp [Rat.num_mkRat]
 · simp [Rat.den_mkRat]
end
section
open Go Go.RowKit
theorem RN.pos_ne {A:Option Addr} {n c V k:Nat} (h:RN w A n c V k) (hV:V ≠ 0):((n:Int) == 0)=false:=by
 have h1:=rn_pos h
 rw [decide_eq_true (show 0 < V by omega)] at h1
 have:=of_decide_eq_true h1
 simp;omega
theorem RN.zero_n {A:Option Addr} {n c V k:Nat} (h:RN w A n c V k) (hV:V=0):n=0:=by
 have h1:=h.1.1
 rw [hV,limbs_zero] at h1
 exact h1.symm
theorem fld02 (s:Bool) (A:Option Addr) (n c:Nat) (w:World):(Instr.field 41 (.agg #[.bool s,.slice A n c]) 1).run Tryz.prog w=.ok (.slice A n c) w:=by kernel_rfl
section
variable {w:World} {s:Bool} {A A':Option Addr} {n c n' c' k k1:Nat} {v:Rat}
theorem RQ.pz (h:RQ w s A n c A' n' c' v k):RZ w s A n c v.num k:=h.1.rz
theorem RQ.pg (h:RQ w s A n c A' n' c' v k):RG w s A n c v.num k:=h.1
theorem RQ.qn (h:RQ w s A n c A' n' c' v k):RN w A' n' c' v.den k:=h.2
theorem RQ.qz (h:RQ w s A n c A' n' c' v k):RZ w false A' n' c' (v.den:Int) k:=⟨v.den,h.2,rfl⟩
theorem RQ.more (h:RQ w s A n c A' n' c' v k) (hk:k≤k1):RQ w s A n c A' n' c' v k1:=⟨h.1.more hk,h.2.more hk⟩
end
theorem parts_eq (v:Rat):v=mkRat v.num v.den:=(Rat.mkRat_self v).symm
theorem mkbx25_11 {w W:World} {x0 x1 x2 x3 x4 x5:Value} (h:((w.alloc (Obj.cells #[x0,x1,x2] 27)).alloc (Obj.cells #[x3,x4,x5] 43))=W):Below w.heap.size w W∧B3 W (w.heap.size) x0 x1 x2∧B3R W (w.heap.size+1) x3 x4 x5∧W.heap.size=w.heap.size+2:=by subst h;exact ⟨by exact (((Below.refl _ _).alloc (Nat.le_refl _) _).alloc (by simp) _),by exact (B3.new' _ _ _ _ _ rfl).alloc _,by exact B3R.new' _ _ _ _ _ (by simp),by simp⟩
theorem rin3_zero {s:Bool} {A A':Option Addr} {n c n' c' k qq:Nat} {pp:Int} (p:ZR w s A n c pp k) (q:NR w A' n' c' qq k) (hk:k≤1000) (hk1:1≤k) (hq:qq=0) :
 Calls Tryz.prog 13 #[.agg #[.bool s,.slice A n c,.slice A' n' c']] w (GivesRQ w (mkRat pp (den1 qq)) (2*k)):=by
 have HQ:=Lib.hid hq
 have HD:Hid (mkRat pp 1=mkRat pp (den1 qq)):=by show _=_;rw [hq];rfl
 clear hq
 go_enter Tryz.func13,Tryz.ntmps13
 go_wp2_with fail
 generalize hW:World.alloc _ _=W
 obtain ⟨hb,XA,Z,hzW⟩:=mkbx25_11 hW;clear hW;replace p:=p.below hb;replace q:=q.below hb;obtain ⟨xa0,xa1,xa2⟩:=XA.all
 go_upto_region 2 with (first
  | (go_at_call 34;(with_reducible refine (rin_nr (2*k) q (by omega) rfl).mono ?_);rintro e w_x ⟨A_x,n_x,c_x,rfl,x,hh⟩
     (try replace p:=p.below hh);(try replace q:=q.below hh);(try replace y:=y.below hh);(try replace o:=o.below hh);(try replace r:=r.below hh);(try replace XA:=XA.below hh);(try replace Z:=Z.below hh);replace hb:=bend hb hh;obtain ⟨xa0,xa1,xa2⟩:=XA.all))
 have hx0:=x.zero_n HQ.out
 subst hx0
 go_wp2_with (first
  | (go_at_call 35;(with_reducible refine (rof_rn _).mono ?_);rintro e w_o ⟨A_o,n_o,c_o,rfl,o,hh⟩
     (try replace p:=p.below hh);(try replace q:=q.below hh);(try replace x:=x.below hh);(try replace y:=y.below hh);(try replace r:=r.below hh);(try replace XA:=XA.below hh);(try replace Z:=Z.below hh);replace hb:=bend hb hh;obtain ⟨xa0,xa1,xa2⟩:=XA.all)
  | (go_at_call 37;(with_reducible refine (rin2 p hk).mono ?_);rintro e w_y ⟨s_y,A_y,n_y,c_y,rfl,y,hh⟩
     (try replace p:=p.below hh);(try replace q:=q.below hh);(try replace x:=x.below hh);(try replace o:=o.below hh);(try replace r:=r.below hh);(try replace XA:=XA.below hh);(try replace Z:=Z.below hh);replace hb:=bend hb hh;obtain ⟨xa0,xa1,xa2⟩:=XA.all)
  | (go_at_call 36;(with_reducible refine (made_rq y (o.more (by omega)) (by omega) (by decide)).mono ?_);rintro e w_r ⟨s_r,A_r,n_r,c_r,B_r,m_r,d_r,rfl,r,hh⟩
     rw [HD.out] at r;(try replace p:=p.below hh);(try replace q:=q.below hh);(try replace x:=x.below hh);(try replace y:=y.below hh);(try replace o:=o.below hh);(try replace XA:=XA.below hh);(try replace Z:=Z.below hh);replace hb:=bend hb hh;obtain ⟨xa0,xa1,xa2⟩:=XA.all;have zf0:=Z.f0;have zf1:=Z.f1;have zf2:=Z.f2;obtain ⟨z0,z1,z2⟩:=Z.all))
 have Z2:=Z.set3 (.bool s_r) (.slice A_r n_r c_r) (.slice B_r m_r d_r)
 obtain ⟨g0,g1,g2⟩:=Z2.all
 refine bodyPost_ret (v:=.agg #[.bool s_r,.slice A_r n_r c_r,.slice B_r m_r d_r]) (by simp [results,Tryz.results13,go_sem,g0,g1,g2]) rfl ?_
 exact ⟨s_r,A_r,n_r,c_r,B_r,m_r,d_r,rfl,r.set3 Z _ _ _,below_set3 hb (by omega) _ _ _⟩
theorem rin3_pos {s:Bool} {A A':Option Addr} {n c n' c' k qq:Nat} {pp:Int} (p:ZR w s A n c pp k) (q:NR w A' n' c' qq k) (hk:k≤1000) (hk1:1≤k) (hq:qq ≠ 0) :
 Calls Tryz.prog 13 #[.agg #[.bool s,.slice A n c,.slice A' n' c']] w (GivesRQ w (mkRat pp (den1 qq)) (2*k)):=by
 have HQ:=Lib.hid hq
 have HD:Hid (mkRat pp qq=mkRat pp (den1 qq)):=by show _=_;rw [den1_of hq]
 clear hq
 go_enter Tryz.func13,Tryz.ntmps13
 go_wp2_with fail
 generalize hW:World.alloc _ _=W
 obtain ⟨hb,XA,Z,hzW⟩:=mkbx25_11 hW;clear hW;replace p:=p.below hb;replace q:=q.below hb;obtain ⟨xa0,xa1,xa2⟩:=XA.all
 go_upto_region 2 with (first
  | (go_at_call 34;(with_reducible refine (rin_nr (2*k) q (by omega) rfl).mono ?_);rintro e w_x ⟨A_x,n_x,c_x,rfl,x,hh⟩
     (try replace p:=p.below hh);(try replace q:=q.below hh);(try replace y:=y.below hh);(try replace o:=o.below hh);(try replace r:=r.below hh);(try replace XA:=XA.below hh);(try replace Z:=Z.below hh);replace hb:=bend hb hh;obtain ⟨xa0,xa1,xa2⟩:=XA.all))
 have hx0:=x.pos_ne HQ.out
 go_wp2_with (first
  | (go_at_call 37;(with_reducible refine (rin2 p hk).mono ?_);rintro e w_y ⟨s_y,A_y,n_y,c_y,rfl,y,hh⟩
     (try replace p:=p.below hh);(try replace q:=q.below hh);(try replace x:=x.below hh);(try replace o:=o.below hh);(try replace r:=r.below hh);(try replace XA:=XA.below hh);(try replace Z:=Z.below hh);replace hb:=bend hb hh;obtain ⟨xa0,xa1,xa2⟩:=XA.all)
  | (go_at_call 36;(with_reducible refine (made_rq y x (by omega) HQ.out).mono ?_);rintro e w_r ⟨s_r,A_r,n_r,c_r,B_r,m_r,d_r,rfl,r,hh⟩
     rw [HD.out] at r;(try replace p:=p.below hh);(try replace q:=q.below hh);(try replace x:=x.below hh);(try replace y:=y.below hh);(try replace o:=o.below hh);(try replace XA:=XA.below hh);(try replace Z:=Z.below hh);replace hb:=bend hb hh;obtain ⟨xa0,xa1,xa2⟩:=XA.all;have zf0:=Z.f0;have zf1:=Z.f1;have zf2:=Z.f2;obtain ⟨z0,z1,z2⟩:=Z.all))
 have Z2:=Z.set3 (.bool s_r) (.slice A_r n_r c_r) (.slice B_r m_r d_r)
 obtain ⟨g0,g1,g2⟩:=Z2.all
 refine bodyPost_ret (v:=.agg #[.bool s_r,.slice A_r n_r c_r,.slice B_r m_r d_r]) (by simp [results,Tryz.results13,go_sem,g0,g1,g2]) rfl ?_
 exact ⟨s_r,A_r,n_r,c_r,B_r,m_r,d_r,rfl,r.set3 Z _ _ _,below_set3 hb (by omega) _ _ _⟩
theorem rin3 {s:Bool} {A A':Option Addr} {n c n' c' k:Nat} {v:Rat} (X0:QR w s A n c A' n' c' v k) (hk:k≤1000) (hk1:1≤k) :
 Calls Tryz.prog 13 #[.agg #[.bool s,.slice A n c,.slice A' n' c']] w (GivesRQ w v (2*k)):=by
 obtain ⟨pp,qq,p,q,rfl⟩:=X0
 by_cases h:qq=0
 · exact rin3_zero p q hk hk1 h
 · exact rin3_pos p q hk hk1 h
theorem mkbx26_11 {w W:World} {x0 x1 x2 x3 x4:Value} (h:((w.alloc (Obj.cells #[x0,x1,x2] 43)).alloc (Obj.cells #[x3,x4] 41))=W):Below w.heap.size w W∧B3R W (w.heap.size) x0 x1 x2∧By W (w.heap.size+1) x3 x4∧W.heap.size=w.heap.size+2:=by subst h;exact ⟨by exact (((Below.refl _ _).alloc (Nat.le_refl _) _).alloc (by simp) _),by exact (B3R.new' _ _ _ _ _ rfl).alloc _,by exact By.new' _ _ _ _ (by simp),by simp⟩
theorem rden3 {s:Bool} {A A':Option Addr} {n c n' c' k:Nat} {v:Rat} (X:RQ w s A n c A' n' c' v k) :
 Calls Tryz.prog 71 #[.agg #[.bool s,.slice A n c,.slice A' n' c']] w fun e w'=>e=.returned (.agg #[.bool false,.slice A' n' c'])∧Below w.heap.size w w':=by
 have hn:=X.qn.pos_ne v.den_nz;clear X
 go_enter Tryz.func71,Tryz.ntmps71
 go_upto_region 1 with (fail)
 generalize hW:World.alloc _ _=W
 obtain ⟨hb,XA,Z,hzW⟩:=mkbx26_11 hW;clear hW;obtain ⟨xa0,xa1,xa2⟩:=XA.all;obtain ⟨z0,z1⟩:=Z.all;have zf0:=Z.f0;have zf1:=Z.f1
 go_wp2_with fail
 have Z2:=Z.set2 (.bool false) (.slice A' n' c')
 obtain ⟨g0,g1⟩:=Z2.all
 refine bodyPost_ret (v:=.agg #[.bool false,.slice A' n' c']) (by simp [results,Tryz.results71,go_sem,g0,g1]) rfl ?_
 exact ⟨rfl,below_set2' hb (by omega) _ _⟩
theorem mkbx27_11 {w W:World} {x0 x1 x2:Value} (h:(w.alloc (Obj.cells #[x0,x1,x2] 43))=W):Below w.heap.size w W∧B3R W (w.heap.size) x0 x1 x2∧W.heap.size=w.heap.size+1:=by subst h;exact ⟨by exact ((Below.refl _ _).alloc (Nat.le_refl _) _),by exact B3R.new' _ _ _ _ _ rfl,by simp⟩
theorem rsign3 {s:Bool} {A A':Option Addr} {n c n' c' k:Nat} {v:Rat} (X:RQ w s A n c A' n' c' v k) :
 Calls Tryz.prog 31 #[.agg #[.bool s,.slice A n c,.slice A' n' c']] w fun e w'=>e=.returned (.int .i64 (sgnQ v))∧Below w.heap.size w w':=by
 have HS:Hid (sgn v.num=sgnQ v):=by
  show _=_
  conv=>rhs;rw [parts_eq v]
  exact (sgnQ_mk v.den_nz).symm
 go_enter Tryz.func31,Tryz.ntmps31
 go_wp2_with fail
 generalize hW:World.alloc _ _=W
 obtain ⟨hb,XA,hzW⟩:=mkbx27_11 hW;clear hW;replace X:=X.below hb;obtain ⟨xa0,xa1,xa2⟩:=XA.all
 go_wp2_with (first
  | (go_at_call 68;(with_reducible refine (rsign2 X.pz).mono ?_);rintro e w_z ⟨rfl,hh⟩
     rw [HS.out];(try replace X:=X.below hh);(try replace XA:=XA.below hh);replace hb:=bend hb hh;obtain ⟨xa0,xa1,xa2⟩:=XA.all))
 go_ret;exact ⟨rfl,hb⟩
theorem mkbx28_11 {w W:World} {x0 x1 x2 x3 x4 x5:Value} (h:((w.alloc (Obj.cells #[x0,x1,x2] 43)).alloc (Obj.cells #[x3,x4,x5] 43))=W):Below w.heap.size w W∧B3R W (w.heap.size) x0 x1 x2∧B3R W (w.heap.size+1) x3 x4 x5∧W.heap.size=w.heap.size+2:=by subst h;exact ⟨by exact (((Below.refl _ _).alloc (Nat.le_refl _) _).alloc (by simp) _),by exact (B3R.new' _ _ _ _ _ rfl).alloc _,by exact B3R.new' _ _ _ _ _ (by simp),by simp⟩
theorem rminus3 {s:Bool} {A A':Option Addr} {n c n' c' k:Nat} {v:Rat} (X:RQ w s A n c A' n' c' v k) :
 Calls Tryz.prog 152 #[.agg #[.bool s,.slice A n c,.slice A' n' c']] w (GivesRQ w (-v) k):=by
 go_enter Tryz.func152,Tryz.ntmps152
 go_wp2_with fail
 generalize hW:World.alloc _ _=W
 obtain ⟨hb,XA,Z,hzW⟩:=mkbx28_11 hW;clear hW;replace X:=X.below hb
 replace X:=X.below (Below.refl _ _).drew
 replace XA:=XA.below (Below.refl _ _).drew
 replace Z:=Z.below (Below.refl _ _).drew
 replace hb:=hb.drew
 go_region_held3 (fun w'=>w'.cell? ⟨w.heap.size,0,none⟩=some (.bool s)∧w'.cell? ⟨w.heap.size,1,none⟩=some (.slice A n c)∧w'.cell? ⟨w.heap.size,2,none⟩=some (.slice A' n' c'))
  (first | with_reducible exact ⟨XA.c0,XA.c1,XA.c2⟩ | with_reducible exact ⟨(set3_cell _ _ _ _ _ _ _ (by omega)).trans XA.c0,(set3_cell _ _ _ _ _ _ _ (by omega)).trans XA.c1,(set3_cell _ _ _ _ _ _ _ (by omega)).trans XA.c2⟩)
  (first
  | (go_at_call 111;(with_reducible refine (rminus2 X.pz).mono ?_);rintro e w_y ⟨s_y,A_y,n_y,c_y,rfl,y,hh⟩
     (try replace X:=X.below hh);(try replace XA:=XA.below hh);(try replace Z:=Z.below hh);replace hb:=bend hb hh;have zf0:=Z.f0;have zf1:=Z.f1;have zf2:=Z.f2;obtain ⟨z0,z1,z2⟩:=Z.all))
 go_wp2_with fail
 have Z2:=Z.set3 (.bool s_y) (.slice A_y n_y c_y) (.slice A' n' c')
 obtain ⟨g0,g1,g2⟩:=Z2.all
 refine bodyPost_ret (v:=.agg #[.bool s_y,.slice A_y n_y c_y,.slice A' n' c']) (by simp [results,Tryz.results152,go_sem,g0,g1,g2]) rfl ?_
 have hr:RQ w_y s_y A_y n_y c_y A' n' c' (-v) k:=⟨by rw [Rat.neg_num];exact y,by rw [Rat.neg_den];exact X.qn⟩
 exact ⟨s_y,_,_,_,_,_,_,rfl,hr.set3 Z _ _ _,below_set3 hb (by omega) _ _ _⟩
theorem mkbx29_11 {w W:World} {x0 x1 x2 x3 x4 x5 x6 x7 x8:Value} (h:(((w.alloc (Obj.cells #[x0,x1,x2] 43)).alloc (Obj.cells #[x3,x4,x5] 43)).alloc (Obj.cells #[x6,x7,x8] 43))=W):Below w.heap.size w W∧B3R W (w.heap.size) x0 x1 x2∧B3R W (w.heap.size+1) x3 x4 x5∧B3R W (w.heap.size+1+1) x6 x7 x8∧W.heap.size=w.heap.size+3:=by subst h;exact ⟨by exact ((((Below.refl _ _).alloc (Nat.le_refl _) _).alloc (by simp) _).alloc (by simp;omega) _),by exact ((B3R.new' _ _ _ _ _ rfl).alloc _).alloc _,by exact (B3R.new' _ _ _ _ _ (by simp)).alloc _,by exact B3R.new' _ _ _ _ _ (by simp),by simp⟩
theorem rmul3 {s t:Bool} {A A' B B':Option Addr} {n c n' c' m d m' d' k k2:Nat} {v u:Rat} (X:RQ w s A n c A' n' c' v k) (Y:RQ w t B m d B' m' d' u k2) (hk:k≤10000) (hk2:k2≤10000) :
 Calls Tryz.prog 33 #[.agg #[.bool s,.slice A n c,.slice A' n' c'],.agg #[.bool t,.slice B m d,.slice B' m' d']] w (GivesRQ w (v*u) (k+k2)):=by
 have HE:Hid (mkRat (v.num*u.num) (v.den*u.den)=v*u):=by
  show _=_
  conv=>rhs;rw [parts_eq v,parts_eq u,mk_mul]
 have H0:Hid (v.den*u.den ≠ 0):=Nat.mul_ne_zero v.den_nz u.den_nz
 have HJ:Hid (v.den*u.den < B32 ^ (k+k2)):=by
  show _ < _
  rw [Nat.pow_add]
  exact Nat.mul_lt_mul'' X.qn.lt Y.qn.lt
 have hfd:=fld02
 go_enter Tryz.func33,Tryz.ntmps33
 go_wp2_with fail
 generalize hW:World.alloc _ _=W
 obtain ⟨hb,XA,XB,Z,hzW⟩:=mkbx29_11 hW;clear hW;replace X:=X.below hb;replace Y:=Y.below hb
 replace X:=X.below (Below.refl _ _).drew
 replace Y:=Y.below (Below.refl _ _).drew
 replace XA:=XA.below (Below.refl _ _).drew
 replace XB:=XB.below (Below.refl _ _).drew
 replace Z:=Z.below (Below.refl _ _).drew
 replace hb:=hb.drew
 go_region_held3 (fun w'=>w'.cell? ⟨w.heap.size,0,none⟩=some (.bool s)∧w'.cell? ⟨w.heap.size,1,none⟩=some (.slice A n c)∧w'.cell? ⟨w.heap.size,2,none⟩=some (.slice A' n' c')∧w'.cell? ⟨w.heap.size+1,0,none⟩=some (.bool t)∧w'.cell? ⟨w.heap.size+1,1,none⟩=some (.slice B m d)∧w'.cell? ⟨w.heap.size+1,2,none⟩=some (.slice B' m' d'))
  (first | with_reducible exact ⟨XA.c0,XA.c1,XA.c2,XB.c0,XB.c1,XB.c2⟩ | with_reducible exact ⟨(set3_cell _ _ _ _ _ _ _ (by omega)).trans XA.c0,(set3_cell _ _ _ _ _ _ _ (by omega)).trans XA.c1,(set3_cell _ _ _ _ _ _ _ (by omega)).trans XA.c2,(set3_cell _ _ _ _ _ _ _ (by omega)).trans XB.c0,(set3_cell _ _ _ _ _ _ _ (by omega)).trans XB.c1,(set3_cell _ _ _ _ _ _ _ (by omega)).trans XB.c2⟩)
  (first
  | (go_at_call 70;(with_reducible refine (rmul2 X.pz Y.pz (by omega) (by omega)).mono ?_);rintro e w_x ⟨s_x,A_x,n_x,c_x,rfl,x,hh⟩
     (try replace X:=X.below hh);(try replace Y:=Y.below hh);(try replace y:=y.below hh);(try replace r:=r.below hh);(try replace XA:=XA.below hh);(try replace XB:=XB.below hh);(try replace Z:=Z.below hh);replace hb:=bend hb hh)
  | (go_at_call 71;(with_reducible refine (rden3 X).mono ?_);rintro e w_z ⟨rfl,hh⟩
     (try replace X:=X.below hh);(try replace Y:=Y.below hh);(try replace x:=x.below hh);(try replace y:=y.below hh);(try replace r:=r.below hh);(try replace XA:=XA.below hh);(try replace XB:=XB.below hh);(try replace Z:=Z.below hh);replace hb:=bend hb hh)
  | (go_at_call 71;(with_reducible refine (rden3 Y).mono ?_);rintro e w_z ⟨rfl,hh⟩
     (try replace X:=X.below hh);(try replace Y:=Y.below hh);(try replace x:=x.below hh);(try replace y:=y.below hh);(try replace r:=r.below hh);(try replace XA:=XA.below hh);(try replace XB:=XB.below hh);(try replace Z:=Z.below hh);replace hb:=bend hb hh)
  | (go_at_call 72;(with_reducible refine (rmul_rn (k+k2) X.qn Y.qn (by omega) (by omega) HJ.out).mono ?_);rintro e w_y ⟨A_y,n_y,c_y,rfl,y,hh⟩
     (try replace X:=X.below hh);(try replace Y:=Y.below hh);(try replace x:=x.below hh);(try replace r:=r.below hh);(try replace XA:=XA.below hh);(try replace XB:=XB.below hh);(try replace Z:=Z.below hh);replace hb:=bend hb hh)
  | (go_at_call 36;(with_reducible refine (made_rq x y (by omega) H0.out).mono ?_);rintro e w_r ⟨s_r,A_r,n_r,c_r,B_r,m_r,d_r,rfl,r,hh⟩
     rw [HE.out] at r;(try replace X:=X.below hh);(try replace Y:=Y.below hh);(try replace x:=x.below hh);(try replace y:=y.below hh);(try replace XA:=XA.below hh);(try replace XB:=XB.below hh);(try replace Z:=Z.below hh);replace hb:=bend hb hh;have zf0:=Z.f0;have zf1:=Z.f1;have zf2:=Z.f2;obtain ⟨z0,z1,z2⟩:=Z.all))
 go_wp2_with fail
 have Z2:=Z.set3 (.bool s_r) (.slice A_r n_r c_r) (.slice B_r m_r d_r)
 obtain ⟨g0,g1,g2⟩:=Z2.all
 refine bodyPost_ret (v:=.agg #[.bool s_r,.slice A_r n_r c_r,.slice B_r m_r d_r]) (by simp [results,Tryz.results33,go_sem,g0,g1,g2]) rfl ?_
 exact ⟨s_r,A_r,n_r,c_r,B_r,m_r,d_r,rfl,r.set3 Z _ _ _,below_set3 hb (by omega) _ _ _⟩
theorem rcmp3 {s t:Bool} {A A' B B':Option Addr} {n c n' c' m d m' d' k k2:Nat} {v u:Rat} (X:RQ w s A n c A' n' c' v k) (Y:RQ w t B m d B' m' d' u k2) (hk:k≤10000) (hk2:k2≤10000) :
 Calls Tryz.prog 32 #[.agg #[.bool s,.slice A n c,.slice A' n' c'],.agg #[.bool t,.slice B m d,.slice B' m' d']] w fun e w'=>e=.returned (.int .i64 (cmpQ v u))∧Below w.heap.size w w':=by
 have HE:Hid (cmpZ (v.num*(u.den:Int)) (u.num*(v.den:Int))=cmpQ v u):=by
  show _=_
  conv=>rhs;rw [parts_eq v,parts_eq u]
  exact (cmpQ_mk v.den_nz u.den_nz).symm
 go_enter Tryz.func32,Tryz.ntmps32
 go_wp2_with fail
 generalize hW:World.alloc _ _=W
 obtain ⟨hb,XA,XB,hzW⟩:=mkbx28_11 hW;clear hW;replace X:=X.below hb;replace Y:=Y.below hb
 replace X:=X.below (Below.refl _ _).drew
 replace Y:=Y.below (Below.refl _ _).drew
 replace XA:=XA.below (Below.refl _ _).drew
 replace XB:=XB.below (Below.refl _ _).drew
 replace hb:=hb.drew
 go_region_held3 (fun w'=>w'.cell? ⟨w.heap.size,0,none⟩=some (.bool s)∧w'.cell? ⟨w.heap.size,1,none⟩=some (.slice A n c)∧w'.cell? ⟨w.heap.size,2,none⟩=some (.slice A' n' c')∧w'.cell? ⟨w.heap.size+1,0,none⟩=some (.bool t)∧w'.cell? ⟨w.heap.size+1,1,none⟩=some (.slice B m d)∧w'.cell? ⟨w.heap.size+1,2,none⟩=some (.slice B' m' d'))
  (first | with_reducible exact ⟨XA.c0,XA.c1,XA.c2,XB.c0,XB.c1,XB.c2⟩)
  (first
  | (go_at_call 71;(with_reducible refine (rden3 Y).mono ?_);rintro e w_z ⟨rfl,hh⟩
     (try replace X:=X.below hh);(try replace Y:=Y.below hh);(try replace x:=x.below hh);(try replace y:=y.below hh);(try replace XA:=XA.below hh);(try replace XB:=XB.below hh);replace hb:=bend hb hh)
  | (go_at_call 70;(with_reducible refine (rmul2 X.pz Y.qz (by omega) (by omega)).mono ?_);rintro e w_x ⟨s_x,A_x,n_x,c_x,rfl,x,hh⟩
     (try replace X:=X.below hh);(try replace Y:=Y.below hh);(try replace y:=y.below hh);(try replace XA:=XA.below hh);(try replace XB:=XB.below hh);replace hb:=bend hb hh)
  | (go_at_call 71;(with_reducible refine (rden3 X).mono ?_);rintro e w_z ⟨rfl,hh⟩
     (try replace X:=X.below hh);(try replace Y:=Y.below hh);(try replace x:=x.below hh);(try replace y:=y.below hh);(try replace XA:=XA.below hh);(try replace XB:=XB.below hh);replace hb:=bend hb hh)
  | (go_at_call 70;(with_reducible refine (rmul2 Y.pz X.qz (by omega) (by omega)).mono ?_);rintro e w_y ⟨s_y,A_y,n_y,c_y,rfl,y,hh⟩
     (try replace X:=X.below hh);(try replace Y:=Y.below hh);(try replace x:=x.below hh);(try replace XA:=XA.below hh);(try replace XB:=XB.below hh);replace hb:=bend hb hh)
  | (go_at_call 69;(with_reducible refine (rcmp2 x.rz y.rz (by omega) (by omega)).mono ?_);rintro e w_z ⟨rfl,hh⟩
     rw [HE.out];(try replace X:=X.below hh);(try replace Y:=Y.below hh);(try replace x:=x.below hh);(try replace y:=y.below hh);(try replace XA:=XA.below hh);(try replace XB:=XB.below hh);replace hb:=bend hb hh))
 go_wp2_with fail
 go_ret;exact ⟨rfl,hb⟩
end
section
open Go Go.RowKit
def VRG (v:Int) (k:Nat) (x:Value) (w:World):Prop:=∃ s A n c,x=.agg #[.bool s,.slice A n c]∧RG w s A n c v k
theorem RG.box {T:TypeId} {w w':World} {g:Nat} {cs:Array Value} {s:Bool} {A:Option Addr} {n c k:Nat} {v:Int} (h:RG w s A n c v k) (B:BoxAt T w g cs) (ho:Only g w w'):RG w' s A n c v k:=h.only (B.offx h.2.1) ho
theorem stays_r (v:Int) (k:Nat):Stays (VRG v k) :=
 ⟨fun _ _ _ ⟨s,A,n,c,h1,h2⟩ hb=>⟨s,A,n,c,h1,h2.below hb⟩,fun _ _ _ _ _ _ ⟨s,A,n,c,h1,h2⟩ hB ho=>⟨s,A,n,c,h1,h2.box hB ho⟩⟩
theorem run_load3 {e:Operand→Value} {x:Operand} {d:Option Tmp} {y g:Nat} {pos:String} {af:Array Edge} {u v z:Value} (h:e x=.pointer (some ⟨g,0,none⟩)) (h0:w.cell? ⟨g,0,none⟩=some u) (h1:w.cell? ⟨g,1,none⟩=some v) (h2:w.cell? ⟨g,2,none⟩=some z) :
 (execOp e ⟨d,.load 43 x,y,pos,af,none⟩).run Tryz.prog w=.ok (.value (.agg #[u,v,z])) w:=by
 go_simp
theorem run_load32 {e:Operand→Value} {x:Operand} {d:Option Tmp} {y g:Nat} {pos:String} {af:Array Edge} {u v:Value} (h:e x=.pointer (some ⟨g,0,none⟩)) (h0:w.cell? ⟨g,0,none⟩=some u) (h1:w.cell? ⟨g,1,none⟩=some v) :
 (execOp e ⟨d,.load 41 x,y,pos,af,none⟩).run Tryz.prog w=.ok (.value (.agg #[u,v])) w:=by
 go_simp
theorem run_fa0 {e:Operand→Value} {x:Operand} {d:Option Tmp} {y g:Nat} {pos:String} {af:Array Edge} (h:e x=.pointer (some ⟨g,0,none⟩)) :
 (execOp e ⟨d,.fieldAddr 43 x 0,y,pos,af,none⟩).run Tryz.prog w=.ok (.value (.pointer (some ⟨g,0,none⟩))) w:=by
 go_simp
theorem store_r {ac:Act} {x z:Operand} {y g:Nat} {pos:String} {af:Array Edge} {Q:Exit→Act→World→Prop} {V:Int} {k:Nat} (p1:ac.eval x=.pointer (some ⟨g,0,none⟩)) (h:VRG V k (ac.eval z) w) (B:BoxAt 41 w g #[.bool false,.slice none 0 0]) :
 (⟨none,.store 41 x z,y,pos,af,none⟩:Oper).wp Tryz.prog ac w (fun a'' w''=>a''=ac∧Only g w w''∧∃ cs',BoxAt 41 w'' g cs'∧(fun cs w=>∃ s A n c,cs=#[.bool s,.slice A n c]∧RG w s A n c V k) cs' w'') Q:=by
 obtain ⟨s1,A1,n1,c1,h1,h2⟩:=h
 have Z:By w g (Value.bool false) (Value.slice none 0 0):=B.at_
 unfold Oper.wp
 rw [run_storeR p1 h1 Z.c0 Z.c1 Z.f0 Z.f1,Oper.upon_skip]
 refine ⟨put_none ac undef,(((Only.refl g w).setCell 0 _).setCell 1 _),#[.bool s1,.slice A1 n1 c1],⟨Z.set2 (Value.bool s1) (Value.slice A1 n1 c1),free2 _ _ _ _⟩,s1,A1,n1,c1,rfl,h2.box B (((Only.refl g w).setCell 0 _).setCell 1 _)⟩
def VRQ (v:Rat) (k:Nat) (x:Value) (w:World):Prop:=∃ s A n c B m d,x=.agg #[.bool s,.slice A n c,.slice B m d]∧RQ w s A n c B m d v k
theorem RQ.box {T:TypeId} {w w':World} {g:Nat} {cs:Array Value} {s:Bool} {A A':Option Addr} {n c n' c' k:Nat} {v:Rat} (h:RQ w s A n c A' n' c' v k) (B:BoxAt T w g cs) (ho:Only g w w'):RQ w' s A n c A' n' c' v k:=⟨h.1.box B ho,h.2.only (B.offx h.2.1) ho⟩
theorem stays_rq (v:Rat) (k:Nat):Stays (VRQ v k) :=
 ⟨fun _ _ _ ⟨s,A,n,c,B,m,d,h1,h2⟩ hb=>⟨s,A,n,c,B,m,d,h1,h2.below hb⟩,fun _ _ _ _ _ _ ⟨s,A,n,c,B,m,d,h1,h2⟩ hB ho=>⟨s,A,n,c,B,m,d,h1,h2.box hB ho⟩⟩
end
section
open Go Go.RowKit
theorem rc_gesso_gessoref03_den {e:Operand→Value} {x0:Operand} {d:Option Tmp} {y:Nat} {pos:String} {af:Array Edge} {u0:Value} (h0:e x0=u0) (hf:e (.func 71)=.func (.func 71) #[] #[]) :
 (execOp e ⟨d,.call ⟨.value (.func 71),#[x0],#[43]⟩,y,pos,af,none⟩).run Tryz.prog w=.ok (.enter 71 #[u0]) w:=by
 go_simp
theorem rc_gesso_gessoref02_Mul {e:Operand→Value} {x0 x1:Operand} {d:Option Tmp} {y:Nat} {pos:String} {af:Array Edge} {u0 u1:Value} (h0:e x0=u0) (h1:e x1=u1) (hf:e (.func 70)=.func (.func 70) #[] #[]) :
 (execOp e ⟨d,.call ⟨.value (.func 70),#[x0,x1],#[41,41]⟩,y,pos,af,none⟩).run Tryz.prog w=.ok (.enter 70 #[u0,u1]) w:=by
 go_simp
theorem rc_gesso_gessoref02_Add {e:Operand→Value} {x0 x1:Operand} {d:Option Tmp} {y:Nat} {pos:String} {af:Array Edge} {u0 u1:Value} (h0:e x0=u0) (h1:e x1=u1) (hf:e (.func 133)=.func (.func 133) #[] #[]) :
 (execOp e ⟨d,.call ⟨.value (.func 133),#[x0,x1],#[41,41]⟩,y,pos,af,none⟩).run Tryz.prog w=.ok (.enter 133 #[u0,u1]) w:=by
 go_simp
def F_radd (s:Bool) (t:Bool) (A:Option Addr) (A':Option Addr) (B:Option Addr) (B':Option Addr) (n:Nat) (c:Nat) (n':Nat) (c':Nat) (m:Nat) (d:Nat) (m':Nat) (d':Nat) (k:Nat) (k2:Nat) (g1:Nat) (g2:Nat) (v:Rat) (u:Rat) (sl:Nat):Value→World→Prop :=
 match sl with
 | 6=>fun x _=>x=Value.pointer (some ⟨g1,0,none⟩)
 | 7=>fun x _=>x=Value.agg #[.bool s,.slice A n c]
 | 8=>fun x _=>x=Value.agg #[.bool t,.slice B m d,.slice B' m' d']
 | 9=>fun x _=>x=Value.agg #[.bool false,.slice B' m' d']
 | 10=>VRG (v.num*(u.den:Int)) (k+k2)
 | 11=>fun x _=>x=Value.pointer (some ⟨g2,0,none⟩)
 | 12=>fun x _=>x=Value.agg #[.bool t,.slice B m d]
 | 13=>fun x _=>x=Value.agg #[.bool s,.slice A n c,.slice A' n' c']
 | 14=>fun x _=>x=Value.agg #[.bool false,.slice A' n' c']
 | 15=>VRG (u.num*(v.den:Int)) (k2+k)
 | 16=>VRG (v.num*(u.den:Int)+u.num*(v.den:Int)) (k+k2+1)
 | _=>fun _ _=>True
theorem radd_region {id:Nat} {ac:Act} {Q:Exit→Act→World→Prop} {s t:Bool} {A A' B B':Option Addr} {n c n' c' m d m' d' k k2 g1 g2:Nat} {v u:Rat}
 (hsz:16 < ac.tmps.size) (e2:ac.eval (.tmp 2)=Value.pointer (some ⟨g1,0,none⟩)) (e3:ac.eval (.tmp 3)=Value.pointer (some ⟨g2,0,none⟩)) (XA:B3R w g1 (.bool s) (.slice A n c) (.slice A' n' c')) (XB:B3R w g2 (.bool t) (.slice B m d) (.slice B' m' d')) (X:RQ w s A n c A' n' c' v k) (Y:RQ w t B m d B' m' d' u k2) (hk:k≤10000) (hk2:k2≤10000)
 (hend:∀ (V:Nat→Value) (w':World) (g:Nat) (s:Bool) (A:Option Addr) (n c:Nat),RG w' s A n c (v.num*(u.den:Int)+u.num*(v.den:Int)) (k+k2+1)→By w' g (.bool s) (.slice A n c)→Below w.heap.size w w'→w.heap.size≤g→V 5=.pointer (some ⟨g,0,none⟩)→Q .normal (putAll ac [6,7,8,9,10,11,12,13,14,15,16,5] V) w') :
 (Code.region id #[⟨some 6,.fieldAddr 43 (.tmp 2) 0,0, "ref.go:81",#[],none⟩,
  ⟨some 7,.load 41 (.tmp 6),41, "ref.go:81",#[⟨0,.data⟩],none⟩,
  ⟨some 8,.load 43 (.tmp 3),43, "ref.go:81",#[],none⟩,
  ⟨some 9,.call ⟨.value (.func 71),#[.tmp 8],#[43]⟩,41, "ref.go:81",#[⟨2,.data⟩],none⟩,
  ⟨some 10,.call ⟨.value (.func 70),#[.tmp 7,.tmp 9],#[41,41]⟩,41, "ref.go:81",#[⟨1,.data⟩,⟨3,.data⟩,⟨3,.chain⟩],none⟩,
  ⟨some 11,.fieldAddr 43 (.tmp 3) 0,0, "ref.go:81",#[],none⟩,
  ⟨some 12,.load 41 (.tmp 11),41, "ref.go:81",#[⟨5,.data⟩],none⟩,
  ⟨some 13,.load 43 (.tmp 2),43, "ref.go:81",#[],none⟩,
  ⟨some 14,.call ⟨.value (.func 71),#[.tmp 13],#[43]⟩,41, "ref.go:81",#[⟨7,.data⟩,⟨4,.chain⟩],none⟩,
  ⟨some 15,.call ⟨.value (.func 70),#[.tmp 12,.tmp 14],#[41,41]⟩,41, "ref.go:81",#[⟨6,.data⟩,⟨8,.data⟩,⟨8,.chain⟩],none⟩,
  ⟨some 16,.call ⟨.value (.func 133),#[.tmp 10,.tmp 15],#[41,41]⟩,41, "ref.go:81",#[⟨4,.data⟩,⟨9,.data⟩,⟨9,.chain⟩],none⟩,
  ⟨some 5,.alloc 41,0, "ref.go:81",#[],none⟩,
  ⟨none,.store 41 (.tmp 5) (.tmp 16),0, "ref.go:81",#[⟨11,.data⟩,⟨10,.data⟩,⟨10,.chain⟩,⟨0,.phase⟩,⟨1,.phase⟩,⟨2,.phase⟩,⟨3,.phase⟩,⟨4,.phase⟩,⟨5,.phase⟩,⟨6,.phase⟩,⟨7,.phase⟩,⟨8,.phase⟩,⟨9,.phase⟩,⟨10,.phase⟩,⟨11,.phase⟩],none⟩] true).wp Tryz.prog Q ac w:=by
 have hnd:([6,7,8,9,10,11,12,13,14,15,16,5]:List Nat).Nodup:=by decide
 have G:∀ (sv:Nat→Value) (t:Nat),t ∈ ([6,7,8,9,10,11,12,13,14,15,16,5]:List Nat)→t≤16→(putAll ac [6,7,8,9,10,11,12,13,14,15,16,5] sv).eval (.tmp t)=sv t:=fun sv t ht h=>eval_putAll_mem (t:=t) [6,7,8,9,10,11,12,13,14,15,16,5] ac hnd ht (Nat.lt_of_le_of_lt h hsz)
 have E2:∀ sv:Nat→Value,(putAll ac [6,7,8,9,10,11,12,13,14,15,16,5] sv).eval (.tmp 2)=Value.pointer (some ⟨g1,0,none⟩):=fun sv=>(eval_putAll_not (v:=sv) [6,7,8,9,10,11,12,13,14,15,16,5] ac (show 2 ∉ _ by decide)).trans e2
 have E3:∀ sv:Nat→Value,(putAll ac [6,7,8,9,10,11,12,13,14,15,16,5] sv).eval (.tmp 3)=Value.pointer (some ⟨g2,0,none⟩):=fun sv=>(eval_putAll_not (v:=sv) [6,7,8,9,10,11,12,13,14,15,16,5] ac (show 3 ∉ _ by decide)).trans e3
 refine wp_region_flow 41 #[.bool false,.slice none 0 0] [6,7,8,9,10,11,12,13,14,15,16,5] 11 12 5 (⟨some 5,.alloc 41,0, "ref.go:81",#[],none⟩) (⟨none,.store 41 (.tmp 5) (.tmp 16),0, "ref.go:81",#[⟨11,.data⟩,⟨10,.data⟩,⟨10,.chain⟩,⟨0,.phase⟩,⟨1,.phase⟩,⟨2,.phase⟩,⟨3,.phase⟩,⟨4,.phase⟩,⟨5,.phase⟩,⟨6,.phase⟩,⟨7,.phase⟩,⟨8,.phase⟩,⟨9,.phase⟩,⟨10,.phase⟩,⟨11,.phase⟩],none⟩) (F_radd s t A A' B B' n c n' c' m d m' d' k k2 g1 g2 v u) (fun cs w=>∃ s A n c,cs=#[.bool s,.slice A n c]∧RG w s A n c (v.num*(u.den:Int)+u.num*(v.den:Int)) (k+k2+1)) (by kernel_rfl) (by kernel_rfl) rfl hnd rfl rfl rfl rfl ?_ rfl rfl ⟨⟨11,.data⟩,by simp,rfl,rfl⟩ ?_ (free2 _ _ _ _) (fun e w'=>run_allocR) ?_ ?_ ?_ ?_
 · intro i o h1 h2
   match i,h1 with
   | 0,h1=>cases h1;cases h2
   | 1,h1=>cases h1;cases h2
   | 2,h1=>cases h1;cases h2
   | 3,h1=>cases h1;cases h2
   | 4,h1=>cases h1;cases h2
   | 5,h1=>cases h1;cases h2
   | 6,h1=>cases h1;cases h2
   | 7,h1=>cases h1;cases h2
   | 8,h1=>cases h1;cases h2
   | 9,h1=>cases h1;cases h2
   | 10,h1=>cases h1;cases h2
   | 11,h1=>cases h1;cases h2
   | 12,h1=>cases h1;rfl
   | i+13,h1=>cases h1
 · intro t
   unfold F_radd
   split <;> first | exact stays_eq _ | exact stays_q _ _ | exact stays_z _ _ | exact stays_r _ _ | exact stays_qe _ _ | exact stays_qs _ _ | exact stays_true
 · intro i o t sv w' ho hia hd J0 hf
   have X:=X.below J0;have Y:=Y.below J0;have XA:=XA.below J0;have XB:=XB.below J0
   match i,ho with
   | 0,ho =>
     obtain rfl:⟨some 6,.fieldAddr 43 (.tmp 2) 0,0, "ref.go:81",#[],none⟩=o:=Option.some.inj ho
     cases hd
     refine wpOp_plain' (o:=⟨some 6,.fieldAddr 43 (.tmp 2) 0,0, "ref.go:81",#[],none⟩) rfl rfl ?_
     unfold Oper.wp
     rw [run_fa0 (E2 sv),Oper.upon_value]
     exact ⟨_,rfl,Below.refl _ _,rfl⟩
   | 1,ho =>
     obtain rfl:⟨some 7,.load 41 (.tmp 6),41, "ref.go:81",#[⟨0,.data⟩],none⟩=o:=Option.some.inj ho
     cases hd
     have f6:sv 6=Value.pointer (some ⟨g1,0,none⟩):=hf ⟨0,.data⟩ (by simp) rfl _ 6 rfl rfl (by decide)
     refine wpOp_plain' (o:=⟨some 7,.load 41 (.tmp 6),41, "ref.go:81",#[⟨0,.data⟩],none⟩) rfl rfl ?_
     unfold Oper.wp
     rw [run_load32 ((G sv 6 (by decide) (by decide)).trans f6) XA.c0 XA.c1,Oper.upon_value]
     exact ⟨_,rfl,Below.refl _ _,rfl⟩
   | 2,ho =>
     obtain rfl:⟨some 8,.load 43 (.tmp 3),43, "ref.go:81",#[],none⟩=o:=Option.some.inj ho
     cases hd
     refine wpOp_plain' (o:=⟨some 8,.load 43 (.tmp 3),43, "ref.go:81",#[],none⟩) rfl rfl ?_
     unfold Oper.wp
     rw [run_load3 (E3 sv) XB.c0 XB.c1 XB.c2,Oper.upon_value]
     exact ⟨_,rfl,Below.refl _ _,rfl⟩
   | 3,ho =>
     obtain rfl:⟨some 9,.call ⟨.value (.func 71),#[.tmp 8],#[43]⟩,41, "ref.go:81",#[⟨2,.data⟩],none⟩=o:=Option.some.inj ho
     cases hd
     have f8:sv 8=Value.agg #[.bool t,.slice B m d,.slice B' m' d']:=hf ⟨2,.data⟩ (by simp) rfl _ 8 rfl rfl (by decide)
     refine wpOp_plain' (o:=⟨some 9,.call ⟨.value (.func 71),#[.tmp 8],#[43]⟩,41, "ref.go:81",#[⟨2,.data⟩],none⟩) rfl rfl ?_
     unfold Oper.wp
     rw [rc_gesso_gessoref03_den ((G sv 8 (by decide) (by decide)).trans f8) rfl,Oper.upon_enter]
     refine (rden3 Y).mono ?_
     rintro e w1 ⟨rfl,hh⟩
     exact ⟨_,rfl,hh,rfl⟩
   | 4,ho =>
     obtain rfl:⟨some 10,.call ⟨.value (.func 70),#[.tmp 7,.tmp 9],#[41,41]⟩,41, "ref.go:81",#[⟨1,.data⟩,⟨3,.data⟩,⟨3,.chain⟩],none⟩=o:=Option.some.inj ho
     cases hd
     have f7:sv 7=Value.agg #[.bool s,.slice A n c]:=hf ⟨1,.data⟩ (by simp) rfl _ 7 rfl rfl (by decide)
     have f9:sv 9=Value.agg #[.bool false,.slice B' m' d']:=hf ⟨3,.data⟩ (by simp) rfl _ 9 rfl rfl (by decide)
     refine wpOp_plain' (o:=⟨some 10,.call ⟨.value (.func 70),#[.tmp 7,.tmp 9],#[41,41]⟩,41, "ref.go:81",#[⟨1,.data⟩,⟨3,.data⟩,⟨3,.chain⟩],none⟩) rfl rfl ?_
     unfold Oper.wp
     rw [rc_gesso_gessoref02_Mul ((G sv 7 (by decide) (by decide)).trans f7) ((G sv 9 (by decide) (by decide)).trans f9) rfl,Oper.upon_enter]
     refine (rmul2 X.pz Y.qz (by omega) (by omega)).mono ?_
     rintro e w1 ⟨s1,A1,n1,c1,rfl,hq,hh⟩
     exact ⟨_,rfl,hh,s1,A1,n1,c1,rfl,hq⟩
   | 5,ho =>
     obtain rfl:⟨some 11,.fieldAddr 43 (.tmp 3) 0,0, "ref.go:81",#[],none⟩=o:=Option.some.inj ho
     cases hd
     refine wpOp_plain' (o:=⟨some 11,.fieldAddr 43 (.tmp 3) 0,0, "ref.go:81",#[],none⟩) rfl rfl ?_
     unfold Oper.wp
     rw [run_fa0 (E3 sv),Oper.upon_value]
     exact ⟨_,rfl,Below.refl _ _,rfl⟩
   | 6,ho =>
     obtain rfl:⟨some 12,.load 41 (.tmp 11),41, "ref.go:81",#[⟨5,.data⟩],none⟩=o:=Option.some.inj ho
     cases hd
     have f11:sv 11=Value.pointer (some ⟨g2,0,none⟩):=hf ⟨5,.data⟩ (by simp) rfl _ 11 rfl rfl (by decide)
     refine wpOp_plain' (o:=⟨some 12,.load 41 (.tmp 11),41, "ref.go:81",#[⟨5,.data⟩],none⟩) rfl rfl ?_
     unfold Oper.wp
     rw [run_load32 ((G sv 11 (by decide) (by decide)).trans f11) XB.c0 XB.c1,Oper.upon_value]
     exact ⟨_,rfl,Below.refl _ _,rfl⟩
   | 7,ho =>
     obtain rfl:⟨some 13,.load 43 (.tmp 2),43, "ref.go:81",#[],none⟩=o:=Option.some.inj ho
     cases hd
     refine wpOp_plain' (o:=⟨some 13,.load 43 (.tmp 2),43, "ref.go:81",#[],none⟩) rfl rfl ?_
     unfold Oper.wp
     rw [run_load3 (E2 sv) XA.c0 XA.c1 XA.c2,Oper.upon_value]
     exact ⟨_,rfl,Below.refl _ _,rfl⟩
   | 8,ho =>
     obtain rfl:⟨some 14,.call ⟨.value (.func 71),#[.tmp 13],#[43]⟩,41, "ref.go:81",#[⟨7,.data⟩,⟨4,.chain⟩],none⟩=o:=Option.some.inj ho
     cases hd
     have f13:sv 13=Value.agg #[.bool s,.slice A n c,.slice A' n' c']:=hf ⟨7,.data⟩ (by simp) rfl _ 13 rfl rfl (by decide)
     refine wpOp_plain' (o:=⟨some 14,.call ⟨.value (.func 71),#[.tmp 13],#[43]⟩,41, "ref.go:81",#[⟨7,.data⟩,⟨4,.chain⟩],none⟩) rfl rfl ?_
     unfold Oper.wp
     rw [rc_gesso_gessoref03_den ((G sv 13 (by decide) (by decide)).trans f13) rfl,Oper.upon_enter]
     refine (rden3 X).mono ?_
     rintro e w1 ⟨rfl,hh⟩
     exact ⟨_,rfl,hh,rfl⟩
   | 9,ho =>
     obtain rfl:⟨some 15,.call ⟨.value (.func 70),#[.tmp 12,.tmp 14],#[41,41]⟩,41, "ref.go:81",#[⟨6,.data⟩,⟨8,.data⟩,⟨8,.chain⟩],none⟩=o:=Option.some.inj ho
     cases hd
     have f12:sv 12=Value.agg #[.bool t,.slice B m d]:=hf ⟨6,.data⟩ (by simp) rfl _ 12 rfl rfl (by decide)
     have f14:sv 14=Value.agg #[.bool false,.slice A' n' c']:=hf ⟨8,.data⟩ (by simp) rfl _ 14 rfl rfl (by decide)
     refine wpOp_plain' (o:=⟨some 15,.call ⟨.value (.func 70),#[.tmp 12,.tmp 14],#[41,41]⟩,41, "ref.go:81",#[⟨6,.data⟩,⟨8,.data⟩,⟨8,.chain⟩],none⟩) rfl rfl ?_
     unfold Oper.wp
     rw [rc_gesso_gessoref02_Mul ((G sv 12 (by decide) (by decide)).trans f12) ((G sv 14 (by decide) (by decide)).trans f14) rfl,Oper.upon_enter]
     refine (rmul2 Y.pz X.qz (by omega) (by omega)).mono ?_
     rintro e w1 ⟨s1,A1,n1,c1,rfl,hq,hh⟩
     exact ⟨_,rfl,hh,s1,A1,n1,c1,rfl,hq⟩
   | 10,ho =>
     obtain rfl:⟨some 16,.call ⟨.value (.func 133),#[.tmp 10,.tmp 15],#[41,41]⟩,41, "ref.go:81",#[⟨4,.data⟩,⟨9,.data⟩,⟨9,.chain⟩],none⟩=o:=Option.some.inj ho
     cases hd
     have h10:VRG (v.num*(u.den:Int)) (k+k2) (sv 10) w':=hf ⟨4,.data⟩ (by simp) rfl _ 10 rfl rfl (by decide)
     obtain ⟨s10,A10,n10,c10,f10,q10⟩:=h10
     have h15:VRG (u.num*(v.den:Int)) (k2+k) (sv 15) w':=hf ⟨9,.data⟩ (by simp) rfl _ 15 rfl rfl (by decide)
     obtain ⟨s15,A15,n15,c15,f15,q15⟩:=h15
     refine wpOp_plain' (o:=⟨some 16,.call ⟨.value (.func 133),#[.tmp 10,.tmp 15],#[41,41]⟩,41, "ref.go:81",#[⟨4,.data⟩,⟨9,.data⟩,⟨9,.chain⟩],none⟩) rfl rfl ?_
     unfold Oper.wp
     rw [rc_gesso_gessoref02_Add ((G sv 10 (by decide) (by decide)).trans f10) ((G sv 15 (by decide) (by decide)).trans f15) rfl,Oper.upon_enter]
     refine (radd2 (k+k2+1) q10.rz q15.rz (by omega) (by omega) (by omega)).mono ?_
     rintro e w1 ⟨s1,A1,n1,c1,rfl,hq,hh⟩
     exact ⟨_,rfl,hh,s1,A1,n1,c1,rfl,hq⟩
   | 11,ho=>exact absurd rfl hia
   | 12,ho=>cases ho;cases hd
   | i+13,ho=>cases ho
 · intro sv w' g J0 p1 p3 hf
   have h1:VRG (v.num*(u.den:Int)+u.num*(v.den:Int)) (k+k2+1) (sv 16) w':=hf ⟨10,.data⟩ (by simp) rfl _ 16 rfl rfl (by decide)
   rw [← G sv 16 (by decide) (by decide)] at h1
   refine store_r (V:=v.num*(u.den:Int)+u.num*(v.den:Int)) (k:=k+k2+1) (ac:=putAll ac [6,7,8,9,10,11,12,13,14,15,16,5] sv) (z:=.tmp 16) ?_ ?_ ?_
   · exact (G sv 5 (by decide) (by decide)).trans p1
   · exact h1
   · exact p3
 · rintro cs w1 w2 ⟨s1,A1,n1,c1,h1,h2⟩ hb
   exact ⟨s1,A1,n1,c1,h1,h2.below hb⟩
 · rintro sv w' g cs J0 hF p1 p2 p3 ⟨s1,A1,n1,c1,h1,h2⟩
   subst h1
   exact hend sv w' g _ _ _ _ h2 p3.at_ J0 p2 p1 
theorem radd3 {s t:Bool} {A A' B B':Option Addr} {n c n' c' m d m' d' k k2:Nat} {v u:Rat} (X:RQ w s A n c A' n' c' v k) (Y:RQ w t B m d B' m' d' u k2) (hk:k≤10000) (hk2:k2≤10000) :
 Calls Tryz.prog 134 #[.agg #[.bool s,.slice A n c,.slice A' n' c'],.agg #[.bool t,.slice B m d,.slice B' m' d']] w (GivesRQ w (v+u) (k+k2+1)):=by
 have HE:Hid (mkRat (v.num*(u.den:Int)+u.num*(v.den:Int)) (v.den*u.den)=v+u):=by
  show _=_
  conv=>rhs;rw [parts_eq v,parts_eq u,mk_add v.den_nz u.den_nz]
 have H0:Hid (v.den*u.den ≠ 0):=Nat.mul_ne_zero v.den_nz u.den_nz
 have HJ:Hid (v.den*u.den < B32 ^ (k+k2+1)):=by
  show _ < _
  have h1:=Nat.mul_lt_mul'' X.qn.lt Y.qn.lt
  rw [← Nat.pow_add] at h1
  exact Nat.lt_of_lt_of_le h1 (Nat.pow_le_pow_right (by decide) (by omega))
 have hfd:=fld02
 go_enter Tryz.func134,Tryz.ntmps134
 go_wp2_with fail
 generalize hW:World.alloc _ _=W
 obtain ⟨hb,XA,XB,Z,hzW⟩:=mkbx29_11 hW;clear hW;replace X:=X.below hb;replace Y:=Y.below hb
 refine radd_region (by simp) rfl rfl XA XB X Y hk hk2 ?_
 intro V w_x g_x s_x A_x n_x c_x x XP hh hg_x hv5
 simp only [putAll,Act.put,List.setIfInBounds_toArray,List.set_cons_zero,List.set_cons_succ,hv5]
 clear hv5;replace X:=X.below hh;replace Y:=Y.below hh;replace XA:=XA.below hh;replace XB:=XB.below hh;replace Z:=Z.below hh;replace hb:=bend hb hh
 go_upto_region 2 with (fail)
 replace X:=X.below (Below.refl _ _).drew
 replace Y:=Y.below (Below.refl _ _).drew
 replace x:=x.below (Below.refl _ _).drew
 replace XA:=XA.below (Below.refl _ _).drew
 replace XB:=XB.below (Below.refl _ _).drew
 replace XP:=XP.below (Below.refl _ _).drew
 replace Z:=Z.below (Below.refl _ _).drew
 replace hb:=hb.drew
 go_region_held3 (fun w'=>w'.cell? ⟨w.heap.size,0,none⟩=some (.bool s)∧w'.cell? ⟨w.heap.size,1,none⟩=some (.slice A n c)∧w'.cell? ⟨w.heap.size,2,none⟩=some (.slice A' n' c')∧w'.cell? ⟨w.heap.size+1,0,none⟩=some (.bool t)∧w'.cell? ⟨w.heap.size+1,1,none⟩=some (.slice B m d)∧w'.cell? ⟨w.heap.size+1,2,none⟩=some (.slice B' m' d')∧w'.cell? ⟨g_x,0,none⟩=some (.bool s_x)∧w'.cell? ⟨g_x,1,none⟩=some (.slice A_x n_x c_x))
  (first | with_reducible exact ⟨XA.c0,XA.c1,XA.c2,XB.c0,XB.c1,XB.c2,XP.c0,XP.c1⟩ | with_reducible exact ⟨(set3_cell _ _ _ _ _ _ _ (by omega)).trans XA.c0,(set3_cell _ _ _ _ _ _ _ (by omega)).trans XA.c1,(set3_cell _ _ _ _ _ _ _ (by omega)).trans XA.c2,(set3_cell _ _ _ _ _ _ _ (by omega)).trans XB.c0,(set3_cell _ _ _ _ _ _ _ (by omega)).trans XB.c1,(set3_cell _ _ _ _ _ _ _ (by omega)).trans XB.c2,(set3_cell _ _ _ _ _ _ _ (by omega)).trans XP.c0,(set3_cell _ _ _ _ _ _ _ (by omega)).trans XP.c1⟩)
  (first
  | (go_at_call 71;(with_reducible refine (rden3 X).mono ?_);rintro e w_z ⟨rfl,hh⟩
     (try replace X:=X.below hh);(try replace Y:=Y.below hh);(try replace x:=x.below hh);(try replace y:=y.below hh);(try replace r:=r.below hh);(try replace XA:=XA.below hh);(try replace XB:=XB.below hh);(try replace XP:=XP.below hh);(try replace Z:=Z.below hh);replace hb:=bend hb hh)
  | (go_at_call 71;(with_reducible refine (rden3 Y).mono ?_);rintro e w_z ⟨rfl,hh⟩
     (try replace X:=X.below hh);(try replace Y:=Y.below hh);(try replace x:=x.below hh);(try replace y:=y.below hh);(try replace r:=r.below hh);(try replace XA:=XA.below hh);(try replace XB:=XB.below hh);(try replace XP:=XP.below hh);(try replace Z:=Z.below hh);replace hb:=bend hb hh)
  | (go_at_call 72;(with_reducible refine (rmul_rn (k+k2+1) X.qn Y.qn (by omega) (by omega) HJ.out).mono ?_);rintro e w_y ⟨A_y,n_y,c_y,rfl,y,hh⟩
     (try replace X:=X.below hh);(try replace Y:=Y.below hh);(try replace x:=x.below hh);(try replace r:=r.below hh);(try replace XA:=XA.below hh);(try replace XB:=XB.below hh);(try replace XP:=XP.below hh);(try replace Z:=Z.below hh);replace hb:=bend hb hh)
  | (go_at_call 36;(with_reducible refine (made_rq x y (by omega) H0.out).mono ?_);rintro e w_r ⟨s_r,A_r,n_r,c_r,B_r,m_r,d_r,rfl,r,hh⟩
     rw [HE.out] at r;(try replace X:=X.below hh);(try replace Y:=Y.below hh);(try replace x:=x.below hh);(try replace y:=y.below hh);(try replace XA:=XA.below hh);(try replace XB:=XB.below hh);(try replace XP:=XP.below hh);(try replace Z:=Z.below hh);replace hb:=bend hb hh;have zf0:=Z.f0;have zf1:=Z.f1;have zf2:=Z.f2;obtain ⟨z0,z1,z2⟩:=Z.all))
 go_wp2_with fail
 have Z2:=Z.set3 (.bool s_r) (.slice A_r n_r c_r) (.slice B_r m_r d_r)
 obtain ⟨g0,g1,g2⟩:=Z2.all
 refine bodyPost_ret (v:=.agg #[.bool s_r,.slice A_r n_r c_r,.slice B_r m_r d_r]) (by simp [results,Tryz.results134,go_sem,g0,g1,g2]) rfl ?_
 exact ⟨s_r,A_r,n_r,c_r,B_r,m_r,d_r,rfl,r.set3 Z _ _ _,below_set3 hb (by omega) _ _ _⟩
theorem rsub3 {s t:Bool} {A A' B B':Option Addr} {n c n' c' m d m' d' k k2:Nat} {v u:Rat} (X:RQ w s A n c A' n' c' v k) (Y:RQ w t B m d B' m' d' u k2) (hk:k≤10000) (hk2:k2≤10000) :
 Calls Tryz.prog 135 #[.agg #[.bool s,.slice A n c,.slice A' n' c'],.agg #[.bool t,.slice B m d,.slice B' m' d']] w (GivesRQ w (v - u) (k+k2+1)):=by
 have HE:Hid (v+-u=v - u):=(Rat.sub_eq_add_neg v u).symm
 go_enter Tryz.func135,Tryz.ntmps135
 go_wp2_with fail
 generalize hW:World.alloc _ _=W
 obtain ⟨hb,XA,XB,Z,hzW⟩:=mkbx29_11 hW;clear hW;replace X:=X.below hb;replace Y:=Y.below hb
 replace X:=X.below (Below.refl _ _).drew
 replace Y:=Y.below (Below.refl _ _).drew
 replace XA:=XA.below (Below.refl _ _).drew
 replace XB:=XB.below (Below.refl _ _).drew
 replace Z:=Z.below (Below.refl _ _).drew
 replace hb:=hb.drew
 go_region_held3 (fun w'=>w'.cell? ⟨w.heap.size,0,none⟩=some (.bool s)∧w'.cell? ⟨w.heap.size,1,none⟩=some (.slice A n c)∧w'.cell? ⟨w.heap.size,2,none⟩=some (.slice A' n' c')∧w'.cell? ⟨w.heap.size+1,0,none⟩=some (.bool t)∧w'.cell? ⟨w.heap.size+1,1,none⟩=some (.slice B m d)∧w'.cell? ⟨w.heap.size+1,2,none⟩=some (.slice B' m' d'))
  (first | with_reducible exact ⟨XA.c0,XA.c1,XA.c2,XB.c0,XB.c1,XB.c2⟩ | with_reducible exact ⟨(set3_cell _ _ _ _ _ _ _ (by omega)).trans XA.c0,(set3_cell _ _ _ _ _ _ _ (by omega)).trans XA.c1,(set3_cell _ _ _ _ _ _ _ (by omega)).trans XA.c2,(set3_cell _ _ _ _ _ _ _ (by omega)).trans XB.c0,(set3_cell _ _ _ _ _ _ _ (by omega)).trans XB.c1,(set3_cell _ _ _ _ _ _ _ (by omega)).trans XB.c2⟩)
  (first
  | (go_at_call 152;(with_reducible refine (rminus3 Y).mono ?_);rintro e w_y ⟨s_y,A_y,n_y,c_y,B_y,m_y,d_y,rfl,y,hh⟩
     (try replace X:=X.below hh);(try replace Y:=Y.below hh);(try replace r:=r.below hh);(try replace XA:=XA.below hh);(try replace XB:=XB.below hh);(try replace Z:=Z.below hh);replace hb:=bend hb hh)
  | (go_at_call 134;(with_reducible refine (radd3 X y hk hk2).mono ?_);rintro e w_r ⟨s_r,A_r,n_r,c_r,B_r,m_r,d_r,rfl,r,hh⟩
     rw [HE.out] at r;(try replace X:=X.below hh);(try replace Y:=Y.below hh);(try replace y:=y.below hh);(try replace XA:=XA.below hh);(try replace XB:=XB.below hh);(try replace Z:=Z.below hh);replace hb:=bend hb hh;have zf0:=Z.f0;have zf1:=Z.f1;have zf2:=Z.f2;obtain ⟨z0,z1,z2⟩:=Z.all))
 go_wp2_with fail
 have Z2:=Z.set3 (.bool s_r) (.slice A_r n_r c_r) (.slice B_r m_r d_r)
 obtain ⟨g0,g1,g2⟩:=Z2.all
 refine bodyPost_ret (v:=.agg #[.bool s_r,.slice A_r n_r c_r,.slice B_r m_r d_r]) (by simp [results,Tryz.results135,go_sem,g0,g1,g2]) rfl ?_
 exact ⟨s_r,A_r,n_r,c_r,B_r,m_r,d_r,rfl,r.set3 Z _ _ _,below_set3 hb (by omega) _ _ _⟩
end
section
open Go Go.RowKit
theorem div_pos3 {v u:Rat} (hu:0 < u.num):mkRat (v.num*(u.den:Int)) (v.den*u.num.natAbs)=v / u:=by
 conv=>rhs;rw [parts_eq v,parts_eq u,mk_div]
 rw [← Rat.divInt_ofNat,Int.natCast_mul,Int.natAbs_of_nonneg (by omega)]
theorem div_neg3 {v u:Rat} (hu:u.num < 0):mkRat (-(v.num*(u.den:Int))) (v.den*u.num.natAbs)=v / u:=by
 conv=>rhs;rw [parts_eq v,parts_eq u,mk_div]
 rw [← Rat.divInt_ofNat,Int.natCast_mul,show (u.num.natAbs:Int)=-u.num by omega,Int.mul_neg,Rat.neg_divInt_neg]
def F_rdiv (s:Bool) (t:Bool) (A:Option Addr) (B:Option Addr) (B':Option Addr) (n:Nat) (c:Nat) (m:Nat) (d:Nat) (m':Nat) (d':Nat) (k:Nat) (k2:Nat) (g1:Nat) (v:Rat) (u:Rat) (sl:Nat):Value→World→Prop :=
 match sl with
 | 6=>fun x _=>x=Value.pointer (some ⟨g1,0,none⟩)
 | 7=>fun x _=>x=Value.agg #[.bool s,.slice A n c]
 | 8=>fun x _=>x=Value.agg #[.bool t,.slice B m d,.slice B' m' d']
 | 9=>fun x _=>x=Value.agg #[.bool false,.slice B' m' d']
 | 10=>VRG (v.num*(u.den:Int)) (k+k2)
 | _=>fun _ _=>True
theorem rdiv_region {id:Nat} {ac:Act} {Q:Exit→Act→World→Prop} {s t:Bool} {A A' B B':Option Addr} {n c n' c' m d m' d' k k2 g1 g2:Nat} {v u:Rat}
 (hsz:10 < ac.tmps.size) (e2:ac.eval (.tmp 2)=Value.pointer (some ⟨g1,0,none⟩)) (e3:ac.eval (.tmp 3)=Value.pointer (some ⟨g2,0,none⟩)) (XA:B3R w g1 (.bool s) (.slice A n c) (.slice A' n' c')) (XB:B3R w g2 (.bool t) (.slice B m d) (.slice B' m' d')) (X:RQ w s A n c A' n' c' v k) (Y:RQ w t B m d B' m' d' u k2) (hk:k≤10000) (hk2:k2≤10000)
 (hend:∀ (V:Nat→Value) (w':World) (g:Nat) (s:Bool) (A:Option Addr) (n c:Nat),RG w' s A n c (v.num*(u.den:Int)) (k+k2)→By w' g (.bool s) (.slice A n c)→Below w.heap.size w w'→w.heap.size≤g→V 5=.pointer (some ⟨g,0,none⟩)→Q .normal (putAll ac [6,7,8,9,10,5] V) w') :
 (Code.region id #[⟨some 6,.fieldAddr 43 (.tmp 2) 0,0, "ref.go:92",#[],none⟩,
  ⟨some 7,.load 41 (.tmp 6),41, "ref.go:92",#[⟨0,.data⟩],none⟩,
  ⟨some 8,.load 43 (.tmp 3),43, "ref.go:92",#[],none⟩,
  ⟨some 9,.call ⟨.value (.func 71),#[.tmp 8],#[43]⟩,41, "ref.go:92",#[⟨2,.data⟩],none⟩,
  ⟨some 10,.call ⟨.value (.func 70),#[.tmp 7,.tmp 9],#[41,41]⟩,41, "ref.go:92",#[⟨1,.data⟩,⟨3,.data⟩,⟨3,.chain⟩],none⟩,
  ⟨some 5,.alloc 41,0, "ref.go:92",#[],none⟩,
  ⟨none,.store 41 (.tmp 5) (.tmp 10),0, "ref.go:92",#[⟨5,.data⟩,⟨4,.data⟩,⟨4,.chain⟩,⟨0,.phase⟩,⟨1,.phase⟩,⟨2,.phase⟩,⟨3,.phase⟩,⟨4,.phase⟩,⟨5,.phase⟩],none⟩] true).wp Tryz.prog Q ac w:=by
 have hnd:([6,7,8,9,10,5]:List Nat).Nodup:=by decide
 have G:∀ (sv:Nat→Value) (t:Nat),t ∈ ([6,7,8,9,10,5]:List Nat)→t≤10→(putAll ac [6,7,8,9,10,5] sv).eval (.tmp t)=sv t:=fun sv t ht h=>eval_putAll_mem (t:=t) [6,7,8,9,10,5] ac hnd ht (Nat.lt_of_le_of_lt h hsz)
 have E2:∀ sv:Nat→Value,(putAll ac [6,7,8,9,10,5] sv).eval (.tmp 2)=Value.pointer (some ⟨g1,0,none⟩):=fun sv=>(eval_putAll_not (v:=sv) [6,7,8,9,10,5] ac (show 2 ∉ _ by decide)).trans e2
 have E3:∀ sv:Nat→Value,(putAll ac [6,7,8,9,10,5] sv).eval (.tmp 3)=Value.pointer (some ⟨g2,0,none⟩):=fun sv=>(eval_putAll_not (v:=sv) [6,7,8,9,10,5] ac (show 3 ∉ _ by decide)).trans e3
 refine wp_region_flow 41 #[.bool false,.slice none 0 0] [6,7,8,9,10,5] 5 6 5 (⟨some 5,.alloc 41,0, "ref.go:92",#[],none⟩) (⟨none,.store 41 (.tmp 5) (.tmp 10),0, "ref.go:92",#[⟨5,.data⟩,⟨4,.data⟩,⟨4,.chain⟩,⟨0,.phase⟩,⟨1,.phase⟩,⟨2,.phase⟩,⟨3,.phase⟩,⟨4,.phase⟩,⟨5,.phase⟩],none⟩) (F_rdiv s t A B B' n c m d m' d' k k2 g1 v u) (fun cs w=>∃ s A n c,cs=#[.bool s,.slice A n c]∧RG w s A n c (v.num*(u.den:Int)) (k+k2)) (by kernel_rfl) (by kernel_rfl) rfl hnd rfl rfl rfl rfl ?_ rfl rfl ⟨⟨5,.data⟩,by simp,rfl,rfl⟩ ?_ (free2 _ _ _ _) (fun e w'=>run_allocR) ?_ ?_ ?_ ?_
 · intro i o h1 h2
   match i,h1 with
   | 0,h1=>cases h1;cases h2
   | 1,h1=>cases h1;cases h2
   | 2,h1=>cases h1;cases h2
   | 3,h1=>cases h1;cases h2
   | 4,h1=>cases h1;cases h2
   | 5,h1=>cases h1;cases h2
   | 6,h1=>cases h1;rfl
   | i+7,h1=>cases h1
 · intro t
   unfold F_rdiv
   split <;> first | exact stays_eq _ | exact stays_q _ _ | exact stays_z _ _ | exact stays_r _ _ | exact stays_qe _ _ | exact stays_qs _ _ | exact stays_true
 · intro i o t sv w' ho hia hd J0 hf
   have X:=X.below J0;have Y:=Y.below J0;have XA:=XA.below J0;have XB:=XB.below J0
   match i,ho with
   | 0,ho =>
     obtain rfl:⟨some 6,.fieldAddr 43 (.tmp 2) 0,0, "ref.go:92",#[],none⟩=o:=Option.some.inj ho
     cases hd
     refine wpOp_plain' (o:=⟨some 6,.fieldAddr 43 (.tmp 2) 0,0, "ref.go:92",#[],none⟩) rfl rfl ?_
     unfold Oper.wp
     rw [run_fa0 (E2 sv),Oper.upon_value]
     exact ⟨_,rfl,Below.refl _ _,rfl⟩
   | 1,ho =>
     obtain rfl:⟨some 7,.load 41 (.tmp 6),41, "ref.go:92",#[⟨0,.data⟩],none⟩=o:=Option.some.inj ho
     cases hd
     have f6:sv 6=Value.pointer (some ⟨g1,0,none⟩):=hf ⟨0,.data⟩ (by simp) rfl _ 6 rfl rfl (by decide)
     refine wpOp_plain' (o:=⟨some 7,.load 41 (.tmp 6),41, "ref.go:92",#[⟨0,.data⟩],none⟩) rfl rfl ?_
     unfold Oper.wp
     rw [run_load32 ((G sv 6 (by decide) (by decide)).trans f6) XA.c0 XA.c1,Oper.upon_value]
     exact ⟨_,rfl,Below.refl _ _,rfl⟩
   | 2,ho =>
     obtain rfl:⟨some 8,.load 43 (.tmp 3),43, "ref.go:92",#[],none⟩=o:=Option.some.inj ho
     cases hd
     refine wpOp_plain' (o:=⟨some 8,.load 43 (.tmp 3),43, "ref.go:92",#[],none⟩) rfl rfl ?_
     unfold Oper.wp
     rw [run_load3 (E3 sv) XB.c0 XB.c1 XB.c2,Oper.upon_value]
     exact ⟨_,rfl,Below.refl _ _,rfl⟩
   | 3,ho =>
     obtain rfl:⟨some 9,.call ⟨.value (.func 71),#[.tmp 8],#[43]⟩,41, "ref.go:92",#[⟨2,.data⟩],none⟩=o:=Option.some.inj ho
     cases hd
     have f8:sv 8=Value.agg #[.bool t,.slice B m d,.slice B' m' d']:=hf ⟨2,.data⟩ (by simp) rfl _ 8 rfl rfl (by decide)
     refine wpOp_plain' (o:=⟨some 9,.call ⟨.value (.func 71),#[.tmp 8],#[43]⟩,41, "ref.go:92",#[⟨2,.data⟩],none⟩) rfl rfl ?_
     unfold Oper.wp
     rw [rc_gesso_gessoref03_den ((G sv 8 (by decide) (by decide)).trans f8) rfl,Oper.upon_enter]
     refine (rden3 Y).mono ?_
     rintro e w1 ⟨rfl,hh⟩
     exact ⟨_,rfl,hh,rfl⟩
   | 4,ho =>
     obtain rfl:⟨some 10,.call ⟨.value (.func 70),#[.tmp 7,.tmp 9],#[41,41]⟩,41, "ref.go:92",#[⟨1,.data⟩,⟨3,.data⟩,⟨3,.chain⟩],none⟩=o:=Option.some.inj ho
     cases hd
     have f7:sv 7=Value.agg #[.bool s,.slice A n c]:=hf ⟨1,.data⟩ (by simp) rfl _ 7 rfl rfl (by decide)
     have f9:sv 9=Value.agg #[.bool false,.slice B' m' d']:=hf ⟨3,.data⟩ (by simp) rfl _ 9 rfl rfl (by decide)
     refine wpOp_plain' (o:=⟨some 10,.call ⟨.value (.func 70),#[.tmp 7,.tmp 9],#[41,41]⟩,41, "ref.go:92",#[⟨1,.data⟩,⟨3,.data⟩,⟨3,.chain⟩],none⟩) rfl rfl ?_
     unfold Oper.wp
     rw [rc_gesso_gessoref02_Mul ((G sv 7 (by decide) (by decide)).trans f7) ((G sv 9 (by decide) (by decide)).trans f9) rfl,Oper.upon_enter]
     refine (rmul2 X.pz Y.qz (by omega) (by omega)).mono ?_
     rintro e w1 ⟨s1,A1,n1,c1,rfl,hq,hh⟩
     exact ⟨_,rfl,hh,s1,A1,n1,c1,rfl,hq⟩
   | 5,ho=>exact absurd rfl hia
   | 6,ho=>cases ho;cases hd
   | i+7,ho=>cases ho
 · intro sv w' g J0 p1 p3 hf
   have h1:VRG (v.num*(u.den:Int)) (k+k2) (sv 10) w':=hf ⟨4,.data⟩ (by simp) rfl _ 10 rfl rfl (by decide)
   rw [← G sv 10 (by decide) (by decide)] at h1
   refine store_r (V:=v.num*(u.den:Int)) (k:=k+k2) (ac:=putAll ac [6,7,8,9,10,5] sv) (z:=.tmp 10) ?_ ?_ ?_
   · exact (G sv 5 (by decide) (by decide)).trans p1
   · exact h1
   · exact p3
 · rintro cs w1 w2 ⟨s1,A1,n1,c1,h1,h2⟩ hb
   exact ⟨s1,A1,n1,c1,h1,h2.below hb⟩
 · rintro sv w' g cs J0 hF p1 p2 p3 ⟨s1,A1,n1,c1,h1,h2⟩
   subst h1
   exact hend sv w' g _ _ _ _ h2 p3.at_ J0 p2 p1 
theorem rdiv3_pos {s t:Bool} {A A' B B':Option Addr} {n c n' c' m d m' d' k k2:Nat} {v u:Rat} (X:RQ w s A n c A' n' c' v k) (Y:RQ w t B m d B' m' d' u k2) (hk:k≤10000) (hk2:k2≤10000) (hu:0 < u.num) :
 Calls Tryz.prog 81 #[.agg #[.bool s,.slice A n c,.slice A' n' c'],.agg #[.bool t,.slice B m d,.slice B' m' d']] w (GivesRQ w (v / u) (k+k2)):=by
 have HE:=Lib.hid (div_pos3 (v:=v) hu)
 have HS:Hid (sgnQ u=1):=by
  show _=_
  conv=>lhs;rw [parts_eq u,sgnQ_mk u.den_nz]
  unfold sgn
  rw [if_neg (by omega),if_neg (by omega)]
 have H0:Hid (v.den*u.num.natAbs ≠ 0):=Nat.mul_ne_zero v.den_nz (by omega)
 have HJ:Hid (v.den*u.num.natAbs < B32 ^ (k+k2)):=by
  show _ < _
  have h1:=Nat.mul_lt_mul'' X.qn.lt Y.pg.rn.lt
  rwa [← Nat.pow_add] at h1
 have hfd:=fld02;clear hu
 go_enter Tryz.func81,Tryz.ntmps81
 go_wp2_with fail
 generalize hW:World.alloc _ _=W
 obtain ⟨hb,XA,XB,Z,hzW⟩:=mkbx29_11 hW;clear hW;replace X:=X.below hb;replace Y:=Y.below hb
 refine rdiv_region (by simp) rfl rfl XA XB X Y hk hk2 ?_
 intro V w_x g_x s_x A_x n_x c_x x XP hh hg_x hv5
 simp only [putAll,Act.put,List.setIfInBounds_toArray,List.set_cons_zero,List.set_cons_succ,hv5]
 clear hv5;replace X:=X.below hh;replace Y:=Y.below hh;replace XA:=XA.below hh;replace XB:=XB.below hh;replace Z:=Z.below hh
 have HZ1:Hid (w.heap.size+1+1 < g_x):=by
  have:=hzW;show _ < _;omega
 replace hb:=bend hb hh;obtain ⟨xb0,xb1,xb2⟩:=XB.all;obtain ⟨xp0,xp1⟩:=XP.all;have yf0:=XP.f0;have yf1:=XP.f1
 go_upto_region 4 with (first
  | (go_at_call 31;(with_reducible refine (rsign3 Y).mono ?_);rintro e w_z ⟨rfl,hh⟩
     rw [HS.out];(try replace X:=X.below hh);(try replace Y:=Y.below hh);(try replace x:=x.below hh);(try replace y:=y.below hh);(try replace q:=q.below hh);(try replace r:=r.below hh);(try replace XA:=XA.below hh);(try replace XB:=XB.below hh);(try replace XP:=XP.below hh);(try replace Z:=Z.below hh);replace hb:=bend hb hh;obtain ⟨xb0,xb1,xb2⟩:=XB.all;obtain ⟨xp0,xp1⟩:=XP.all;have yf0:=XP.f0;have yf1:=XP.f1))
 replace X:=X.below (Below.refl _ _).drew
 replace Y:=Y.below (Below.refl _ _).drew
 replace x:=x.below (Below.refl _ _).drew
 replace XA:=XA.below (Below.refl _ _).drew
 replace XB:=XB.below (Below.refl _ _).drew
 replace XP:=XP.below (Below.refl _ _).drew
 replace Z:=Z.below (Below.refl _ _).drew
 replace hb:=hb.drew
 go_region_held3 (fun w'=>w'.cell? ⟨w.heap.size,0,none⟩=some (.bool s)∧w'.cell? ⟨w.heap.size,1,none⟩=some (.slice A n c)∧w'.cell? ⟨w.heap.size,2,none⟩=some (.slice A' n' c')∧w'.cell? ⟨w.heap.size+1,0,none⟩=some (.bool t)∧w'.cell? ⟨w.heap.size+1,1,none⟩=some (.slice B m d)∧w'.cell? ⟨w.heap.size+1,2,none⟩=some (.slice B' m' d')∧w'.cell? ⟨g_x,0,none⟩=some (.bool s_x)∧w'.cell? ⟨g_x,1,none⟩=some (.slice A_x n_x c_x))
  (first | with_reducible exact ⟨XA.c0,XA.c1,XA.c2,XB.c0,XB.c1,XB.c2,XP.c0,XP.c1⟩ | with_reducible exact ⟨(set3_cell _ _ _ _ _ _ _ (by have:=HZ1.out;omega)).trans XA.c0,(set3_cell _ _ _ _ _ _ _ (by have:=HZ1.out;omega)).trans XA.c1,(set3_cell _ _ _ _ _ _ _ (by have:=HZ1.out;omega)).trans XA.c2,(set3_cell _ _ _ _ _ _ _ (by have:=HZ1.out;omega)).trans XB.c0,(set3_cell _ _ _ _ _ _ _ (by have:=HZ1.out;omega)).trans XB.c1,(set3_cell _ _ _ _ _ _ _ (by have:=HZ1.out;omega)).trans XB.c2,(set3_cell _ _ _ _ _ _ _ (by have:=HZ1.out;omega)).trans XP.c0,(set3_cell _ _ _ _ _ _ _ (by have:=HZ1.out;omega)).trans XP.c1⟩)
  (first
  | (go_at_call 71;(with_reducible refine (rden3 X).mono ?_);rintro e w_z ⟨rfl,hh⟩
     (try replace X:=X.below hh);(try replace Y:=Y.below hh);(try replace x:=x.below hh);(try replace y:=y.below hh);(try replace q:=q.below hh);(try replace r:=r.below hh);(try replace XA:=XA.below hh);(try replace XB:=XB.below hh);(try replace XP:=XP.below hh);(try replace Z:=Z.below hh);replace hb:=bend hb hh)
  | (go_at_call 72;(with_reducible refine (rmul_rn (k+k2) X.qn Y.pg.rn (by omega) (by omega) HJ.out).mono ?_);rintro e w_q ⟨A_q,n_q,c_q,rfl,q,hh⟩
     (try replace X:=X.below hh);(try replace Y:=Y.below hh);(try replace x:=x.below hh);(try replace y:=y.below hh);(try replace r:=r.below hh);(try replace XA:=XA.below hh);(try replace XB:=XB.below hh);(try replace XP:=XP.below hh);(try replace Z:=Z.below hh);replace hb:=bend hb hh)
  | (go_at_call 36;(with_reducible refine (made_rq x q (by omega) H0.out).mono ?_);rintro e w_r ⟨s_r,A_r,n_r,c_r,B_r,m_r,d_r,rfl,r,hh⟩
     rw [HE.out] at r;(try replace X:=X.below hh);(try replace Y:=Y.below hh);(try replace x:=x.below hh);(try replace y:=y.below hh);(try replace q:=q.below hh);(try replace XA:=XA.below hh);(try replace XB:=XB.below hh);(try replace XP:=XP.below hh);(try replace Z:=Z.below hh);replace hb:=bend hb hh;have zf0:=Z.f0;have zf1:=Z.f1;have zf2:=Z.f2;obtain ⟨z0,z1,z2⟩:=Z.all))
 go_wp2_with fail
 have Z2:=Z.set3 (.bool s_r) (.slice A_r n_r c_r) (.slice B_r m_r d_r)
 obtain ⟨g0,g1,g2⟩:=Z2.all
 refine bodyPost_ret (v:=.agg #[.bool s_r,.slice A_r n_r c_r,.slice B_r m_r d_r]) (by simp [results,Tryz.results81,go_sem,g0,g1,g2]) rfl ?_
 exact ⟨s_r,A_r,n_r,c_r,B_r,m_r,d_r,rfl,r.set3 Z _ _ _,below_set3 hb (by omega) _ _ _⟩
theorem rdiv3_neg {s t:Bool} {A A' B B':Option Addr} {n c n' c' m d m' d' k k2:Nat} {v u:Rat} (X:RQ w s A n c A' n' c' v k) (Y:RQ w t B m d B' m' d' u k2) (hk:k≤10000) (hk2:k2≤10000) (hu:u.num < 0) :
 Calls Tryz.prog 81 #[.agg #[.bool s,.slice A n c,.slice A' n' c'],.agg #[.bool t,.slice B m d,.slice B' m' d']] w (GivesRQ w (v / u) (k+k2)):=by
 have HE:=Lib.hid (div_neg3 (v:=v) hu)
 have HS:Hid (sgnQ u=-1):=by
  show _=_
  conv=>lhs;rw [parts_eq u,sgnQ_mk u.den_nz]
  unfold sgn
  rw [if_pos hu]
 have H0:Hid (v.den*u.num.natAbs ≠ 0):=Nat.mul_ne_zero v.den_nz (by omega)
 have HJ:Hid (v.den*u.num.natAbs < B32 ^ (k+k2)):=by
  show _ < _
  have h1:=Nat.mul_lt_mul'' X.qn.lt Y.pg.rn.lt
  rwa [← Nat.pow_add] at h1
 have hfd:=fld02;clear hu
 go_enter Tryz.func81,Tryz.ntmps81
 go_wp2_with fail
 generalize hW:World.alloc _ _=W
 obtain ⟨hb,XA,XB,Z,hzW⟩:=mkbx29_11 hW;clear hW;replace X:=X.below hb;replace Y:=Y.below hb
 refine rdiv_region (by simp) rfl rfl XA XB X Y hk hk2 ?_
 intro V w_x g_x s_x A_x n_x c_x x XP hh hg_x hv5
 simp only [putAll,Act.put,List.setIfInBounds_toArray,List.set_cons_zero,List.set_cons_succ,hv5]
 clear hv5;replace X:=X.below hh;replace Y:=Y.below hh;replace XA:=XA.below hh;replace XB:=XB.below hh;replace Z:=Z.below hh
 have HZ1:Hid (w.heap.size+1+1 < g_x):=by
  have:=hzW;show _ < _;omega
 replace hb:=bend hb hh;obtain ⟨xb0,xb1,xb2⟩:=XB.all;obtain ⟨xp0,xp1⟩:=XP.all;have yf0:=XP.f0;have yf1:=XP.f1
 go_upto_region 4 with (first
  | (go_at_call 31;(with_reducible refine (rsign3 Y).mono ?_);rintro e w_z ⟨rfl,hh⟩
     rw [HS.out];(try replace X:=X.below hh);(try replace Y:=Y.below hh);(try replace x:=x.below hh);(try replace y:=y.below hh);(try replace q:=q.below hh);(try replace r:=r.below hh);(try replace XA:=XA.below hh);(try replace XB:=XB.below hh);(try replace XP:=XP.below hh);(try replace Z:=Z.below hh);replace hb:=bend hb hh;obtain ⟨xb0,xb1,xb2⟩:=XB.all;obtain ⟨xp0,xp1⟩:=XP.all;have yf0:=XP.f0;have yf1:=XP.f1)
  | (go_at_call 111;(with_reducible refine (rminus2 x.rz).mono ?_);rintro e w_y ⟨s_y,A_y,n_y,c_y,rfl,y,hh⟩
     (try replace X:=X.below hh);(try replace Y:=Y.below hh);(try replace x:=x.below hh);(try replace q:=q.below hh);(try replace r:=r.below hh);(try replace XA:=XA.below hh);(try replace XB:=XB.below hh);(try replace XP:=XP.below hh);(try replace Z:=Z.below hh);replace hb:=bend hb hh;obtain ⟨xb0,xb1,xb2⟩:=XB.all;obtain ⟨xp0,xp1⟩:=XP.all;have yf0:=XP.f0;have yf1:=XP.f1))
 generalize hW5:((w_y.setCell ⟨g_x,0,none⟩ (Value.bool s_y)).setCell ⟨g_x,1,none⟩ (Value.slice A_y n_y c_y))=W5
 have ho:Only g_x w_y W5:=by subst hW5;exact ((Only.refl _ _).setCell 0 _).setCell 1 _
 have X5:By W5 g_x (Value.bool s_y) (Value.slice A_y n_y c_y):=by subst hW5;exact XP.set2 _ _
 have y5:=y.only (XP.off y.rn.1) ho
 have Xa:RQ W5 s A n c A' n' c' v k:=⟨X.pg.only (XP.off X.pg.rn.1) ho,X.qn.only (XP.off X.qn.1) ho⟩
 have Ya:RQ W5 t B m d B' m' d' u k2:=⟨Y.pg.only (XP.off Y.pg.rn.1) ho,Y.qn.only (XP.off Y.qn.1) ho⟩
 have XA5:B3R W5 w.heap.size (Value.bool s) (Value.slice A n c) (Value.slice A' n' c'):=(ho.block _ XA.lt (by have:=HZ1.out;omega)).trans XA
 have XB5:B3R W5 (w.heap.size+1) (Value.bool t) (Value.slice B m d) (Value.slice B' m' d'):=(ho.block _ XB.lt (by have:=HZ1.out;omega)).trans XB
 have Z5:B3R W5 (w.heap.size+1+1) (Value.bool false) (Value.slice none 0 0) (Value.slice none 0 0):=(ho.block _ Z.lt (by have:=HZ1.out;omega)).trans Z
 have hb5:Below w.heap.size w W5:=Below.only hb (by have:=HZ1.out;omega) hb.size ho
 clear hW5 ho X Y XA XB XP Z hb x y;have X:=Xa;have Y:=Ya;have x:=y5;have XA:=XA5;have XB:=XB5;have XP:=X5;have Z:=Z5;have hb:=hb5;clear Xa Ya y5 XA5 XB5 X5 Z5 hb5
 replace X:=X.below (Below.refl _ _).drew
 replace Y:=Y.below (Below.refl _ _).drew
 replace x:=x.below (Below.refl _ _).drew
 replace XA:=XA.below (Below.refl _ _).drew
 replace XB:=XB.below (Below.refl _ _).drew
 replace XP:=XP.below (Below.refl _ _).drew
 replace Z:=Z.below (Below.refl _ _).drew
 replace hb:=hb.drew
 go_region_held3 (fun w'=>w'.cell? ⟨w.heap.size,0,none⟩=some (.bool s)∧w'.cell? ⟨w.heap.size,1,none⟩=some (.slice A n c)∧w'.cell? ⟨w.heap.size,2,none⟩=some (.slice A' n' c')∧w'.cell? ⟨w.heap.size+1,0,none⟩=some (.bool t)∧w'.cell? ⟨w.heap.size+1,1,none⟩=some (.slice B m d)∧w'.cell? ⟨w.heap.size+1,2,none⟩=some (.slice B' m' d')∧w'.cell? ⟨g_x,0,none⟩=some (.bool s_y)∧w'.cell? ⟨g_x,1,none⟩=some (.slice A_y n_y c_y))
  (first | with_reducible exact ⟨XA.c0,XA.c1,XA.c2,XB.c0,XB.c1,XB.c2,XP.c0,XP.c1⟩ | with_reducible exact ⟨(set3_cell _ _ _ _ _ _ _ (by have:=HZ1.out;omega)).trans XA.c0,(set3_cell _ _ _ _ _ _ _ (by have:=HZ1.out;omega)).trans XA.c1,(set3_cell _ _ _ _ _ _ _ (by have:=HZ1.out;omega)).trans XA.c2,(set3_cell _ _ _ _ _ _ _ (by have:=HZ1.out;omega)).trans XB.c0,(set3_cell _ _ _ _ _ _ _ (by have:=HZ1.out;omega)).trans XB.c1,(set3_cell _ _ _ _ _ _ _ (by have:=HZ1.out;omega)).trans XB.c2,(set3_cell _ _ _ _ _ _ _ (by have:=HZ1.out;omega)).trans XP.c0,(set3_cell _ _ _ _ _ _ _ (by have:=HZ1.out;omega)).trans XP.c1⟩)
  (first
  | (go_at_call 71;(with_reducible refine (rden3 X).mono ?_);rintro e w_z ⟨rfl,hh⟩
     (try replace X:=X.below hh);(try replace Y:=Y.below hh);(try replace x:=x.below hh);(try replace y:=y.below hh);(try replace q:=q.below hh);(try replace r:=r.below hh);(try replace XA:=XA.below hh);(try replace XB:=XB.below hh);(try replace XP:=XP.below hh);(try replace Z:=Z.below hh);replace hb:=bend hb hh)
  | (go_at_call 72;(with_reducible refine (rmul_rn (k+k2) X.qn Y.pg.rn (by omega) (by omega) HJ.out).mono ?_);rintro e w_q ⟨A_q,n_q,c_q,rfl,q,hh⟩
     (try replace X:=X.below hh);(try replace Y:=Y.below hh);(try replace x:=x.below hh);(try replace y:=y.below hh);(try replace r:=r.below hh);(try replace XA:=XA.below hh);(try replace XB:=XB.below hh);(try replace XP:=XP.below hh);(try replace Z:=Z.below hh);replace hb:=bend hb hh)
  | (go_at_call 36;(with_reducible refine (made_rq x q (by omega) H0.out).mono ?_);rintro e w_r ⟨s_r,A_r,n_r,c_r,B_r,m_r,d_r,rfl,r,hh⟩
     rw [HE.out] at r;(try replace X:=X.below hh);(try replace Y:=Y.below hh);(try replace x:=x.below hh);(try replace y:=y.below hh);(try replace q:=q.below hh);(try replace XA:=XA.below hh);(try replace XB:=XB.below hh);(try replace XP:=XP.below hh);(try replace Z:=Z.below hh);replace hb:=bend hb hh;have zf0:=Z.f0;have zf1:=Z.f1;have zf2:=Z.f2;obtain ⟨z0,z1,z2⟩:=Z.all))
 go_wp2_with fail
 have Z2:=Z.set3 (.bool s_r) (.slice A_r n_r c_r) (.slice B_r m_r d_r)
 obtain ⟨g0,g1,g2⟩:=Z2.all
 refine bodyPost_ret (v:=.agg #[.bool s_r,.slice A_r n_r c_r,.slice B_r m_r d_r]) (by simp [results,Tryz.results81,go_sem,g0,g1,g2]) rfl ?_
 exact ⟨s_r,A_r,n_r,c_r,B_r,m_r,d_r,rfl,r.set3 Z _ _ _,below_set3 hb (by omega) _ _ _⟩
theorem rdiv3 {s t:Bool} {A A' B B':Option Addr} {n c n' c' m d m' d' k k2:Nat} {v u:Rat} (X:RQ w s A n c A' n' c' v k) (Y:RQ w t B m d B' m' d' u k2) (hk:k≤10000) (hk2:k2≤10000) (hu:u ≠ 0) :
 Calls Tryz.prog 81 #[.agg #[.bool s,.slice A n c,.slice A' n' c'],.agg #[.bool t,.slice B m d,.slice B' m' d']] w (GivesRQ w (v / u) (k+k2)):=by
 have h0:u.num ≠ 0:=fun q=>hu (Rat.num_eq_zero.1 q)
 by_cases h:u.num < 0
 · exact rdiv3_neg X Y hk hk2 h
 · exact rdiv3_pos X Y hk hk2 (by omega)
theorem rout_v {A:Option Addr} {n c V k:Nat} (Y:RN w A n c V k) (hk:k≤200000) :
 Calls Tryz.prog 79 #[.slice A n c] w fun e w'=>∃ A n c,e=.returned (.slice A n c)∧Rd .u64 w' A n (limbs B64 V)∧Below w.heap.size w w':=by
 refine (rout_any (limbs B32 V) A n c w Y.1 (lim_limbs B32_two _) (Nat.le_trans Y.2.2 (by omega))).mono ?_
 rintro e w' ⟨A1,n1,c1,rfl,p1,p2,p3,p4⟩
 rw [join32_limbs] at p3
 exact ⟨A1,n1,c1,rfl,p3.rd,p4⟩
def GivesOut3 (w:World) (v:Rat) (e:Ending) (w':World):Prop :=
 ∃ A n c B m d,e=.returned (.agg #[.bool (decide (v.num < 0)),.slice A n c,.slice B m d])∧Rd .u64 w' A n (limbs B64 v.num.natAbs)∧Rd .u64 w' B m (limbs B64 v.den)∧Below w.heap.size w w'
theorem mkbx30_11 {w W:World} {x0 x1 x2 x3 x4 x5:Value} (h:((w.alloc (Obj.cells #[x0,x1,x2] 43)).alloc (Obj.cells #[x3,x4,x5] 27))=W):Below w.heap.size w W∧B3R W (w.heap.size) x0 x1 x2∧B3 W (w.heap.size+1) x3 x4 x5∧W.heap.size=w.heap.size+2:=by subst h;exact ⟨by exact (((Below.refl _ _).alloc (Nat.le_refl _) _).alloc (by simp) _),by exact (B3R.new' _ _ _ _ _ rfl).alloc _,by exact B3.new' _ _ _ _ _ (by simp),by simp⟩
theorem rout3 {s:Bool} {A A':Option Addr} {n c n' c' k:Nat} {v:Rat} (X:RQ w s A n c A' n' c' v k) (hk:k≤100000) :
 Calls Tryz.prog 39 #[.agg #[.bool s,.slice A n c,.slice A' n' c']] w (GivesOut3 w v):=by
 have hs:s=decide (v.num < 0):=X.pg.1
 have HS:=Lib.hid hs;clear hs
 go_enter Tryz.func39,Tryz.ntmps39
 go_wp2_with fail
 generalize hW:World.alloc _ _=W
 obtain ⟨hb,XA,Z,hzW⟩:=mkbx30_11 hW;clear hW;replace X:=X.below hb;obtain ⟨xa0,xa1,xa2⟩:=XA.all
 go_upto_region 2 with (first
  | (go_at_call 79;(with_reducible refine (rout_v X.qn (by omega)).mono ?_);rintro e w_q ⟨A_q,n_q,c_q,rfl,q,hh⟩
     (try replace X:=X.below hh);(try replace p:=p.below hh);(try replace XA:=XA.below hh);(try replace Z:=Z.below hh);replace hb:=bend hb hh;obtain ⟨xa0,xa1,xa2⟩:=XA.all))
 have hq0:((n_q:Int) == 0)=false:=by
  have h1:=q.1;rw [limbs_pos B64_two v.den_nz] at h1
  simp at h1 ⊢
  omega
 have zf0:=Z.f0;have zf1:=Z.f1;have zf2:=Z.f2;obtain ⟨z0,z1,z2⟩:=Z.all
 go_wp2_with (first
  | (go_at_call 80;(with_reducible refine (out2 X.pg (by omega)).mono ?_);rintro e w_p ⟨A_p,n_p,c_p,rfl,p,hh⟩
     (try replace X:=X.below hh);(try replace q:=q.below hh);(try replace XA:=XA.below hh);(try replace Z:=Z.below hh);replace hb:=bend hb hh;obtain ⟨xa0,xa1,xa2⟩:=XA.all;have zf0:=Z.f0;have zf1:=Z.f1;have zf2:=Z.f2;obtain ⟨z0,z1,z2⟩:=Z.all))
 have Z2:=Z.set3 (.bool s) (.slice A_p n_p c_p) (.slice A_q n_q c_q)
 obtain ⟨g0,g1,g2⟩:=Z2.all
 refine bodyPost_ret (v:=.agg #[.bool s,.slice A_p n_p c_p,.slice A_q n_q c_q]) (by simp [results,Tryz.results39,go_sem,g0,g1,g2]) rfl ?_
 have ho:=(((Only.refl (w.heap.size+1) w_p).setCell 0 (Value.bool s)).setCell 1 (Value.slice A_p n_p c_p)).setCell 2 (Value.slice A_q n_q c_q)
 exact ⟨A_p,n_p,c_p,A_q,n_q,c_q,by rw [← HS.out],p.only (Z.offx p) ho,q.only (Z.offx q) ho,below_set3 hb (by omega) _ _ _⟩
theorem rats_no {s t:Bool} {A A' B B':Option Addr} {n c n' c' m d m' d':Nat} {la lb lc ld:List Nat} (p:Rd .u64 w A n la) (q:Rd .u64 w A' n' lc) (p2:Rd .u64 w B m lb) (q2:Rd .u64 w B' m' ld) (hn:n≤maxLen) (hi:(s == t && decide (la=lb))=false) :
 Calls Tryz.prog 38 #[.agg #[.bool s,.slice A n c,.slice A' n' c'],.agg #[.bool t,.slice B m d,.slice B' m' d']] w fun e w'=>e=.returned (.bool false)∧Below w.heap.size w w':=by
 have HI:=Lib.hid hi;clear hi
 go_enter Tryz.func38,Tryz.ntmps38
 go_wp2_with fail
 generalize hW:World.alloc _ _=W
 obtain ⟨hb,XA,XB,hzW⟩:=mkbx14_8 hW;clear hW;replace p:=p.below hb;replace q:=q.below hb;replace p2:=p2.below hb;replace q2:=q2.below hb;obtain ⟨xa0,xa1,xa2⟩:=XA.all;obtain ⟨xb0,xb1,xb2⟩:=XB.all
 go_wp2_with (first
  | (go_at_call 77;(with_reducible refine (ints_any s t la lb A B n c m d _ p p2 hn).mono ?_);rintro e w_z ⟨rfl,hh⟩
     rw [HI.out];(try replace p:=p.below hh);(try replace q:=q.below hh);(try replace p2:=p2.below hh);(try replace q2:=q2.below hh);(try replace XA:=XA.below hh);(try replace XB:=XB.below hh);replace hb:=bend hb hh;obtain ⟨xa0,xa1,xa2⟩:=XA.all;obtain ⟨xb0,xb1,xb2⟩:=XB.all))
 go_ret;exact ⟨rfl,hb⟩
theorem rats_yes {s t:Bool} {A A' B B':Option Addr} {n c n' c' m d m' d':Nat} {la lb lc ld:List Nat} (p:Rd .u64 w A n la) (q:Rd .u64 w A' n' lc) (p2:Rd .u64 w B m lb) (q2:Rd .u64 w B' m' ld) (hn:n≤maxLen) (hn':n'≤maxLen) (hi:(s == t && decide (la=lb))=true) :
 Calls Tryz.prog 38 #[.agg #[.bool s,.slice A n c,.slice A' n' c'],.agg #[.bool t,.slice B m d,.slice B' m' d']] w fun e w'=>e=.returned (.bool (decide (lc=ld)))∧Below w.heap.size w w':=by
 have HI:=Lib.hid hi;clear hi
 go_enter Tryz.func38,Tryz.ntmps38
 go_wp2_with fail
 generalize hW:World.alloc _ _=W
 obtain ⟨hb,XA,XB,hzW⟩:=mkbx14_8 hW;clear hW;replace p:=p.below hb;replace q:=q.below hb;replace p2:=p2.below hb;replace q2:=q2.below hb;obtain ⟨xa0,xa1,xa2⟩:=XA.all;obtain ⟨xb0,xb1,xb2⟩:=XB.all
 go_wp2_with (first
  | (go_at_call 77;(with_reducible refine (ints_any s t la lb A B n c m d _ p p2 hn).mono ?_);rintro e w_z ⟨rfl,hh⟩
     rw [HI.out];(try replace p:=p.below hh);(try replace q:=q.below hh);(try replace p2:=p2.below hh);(try replace q2:=q2.below hh);(try replace XA:=XA.below hh);(try replace XB:=XB.below hh);replace hb:=bend hb hh;obtain ⟨xa0,xa1,xa2⟩:=XA.all;obtain ⟨xb0,xb1,xb2⟩:=XB.all)
  | (go_at_call 78;(with_reducible refine (nats_any lc ld A' B' n' c' m' d' _ q q2 hn').mono ?_);rintro e w_z ⟨rfl,jj,rfl⟩
     replace hb:=below_drawn hb jj))
 go_ret;exact ⟨rfl,hb⟩
theorem rats_any {s t:Bool} {A A' B B':Option Addr} {n c n' c' m d m' d':Nat} {la lb lc ld:List Nat} (p:Rd .u64 w A n la) (q:Rd .u64 w A' n' lc) (p2:Rd .u64 w B m lb) (q2:Rd .u64 w B' m' ld) (hn:n≤maxLen) (hn':n'≤maxLen) (r:Bool) (hr:((s == t && decide (la=lb)) && decide (lc=ld))=r) :
 Calls Tryz.prog 38 #[.agg #[.bool s,.slice A n c,.slice A' n' c'],.agg #[.bool t,.slice B m d,.slice B' m' d']] w fun e w'=>e=.returned (.bool r)∧Below w.heap.size w w':=by
 cases h:(s == t && decide (la=lb)) with
 | false =>
   rw [h,Bool.false_and] at hr
   subst hr
   exact rats_no p q p2 q2 hn h
 | true =>
   rw [h,Bool.true_and] at hr
   subst hr
   exact rats_yes p q p2 q2 hn hn' h
theorem same_eq (a:Bool) (l m:List Nat):((a == a && decide (l=l)) && decide (m=m))=true:=by simp
theorem same3 {s t:Bool} {A A' B B':Option Addr} {n c n' c' m d m' d' k k2:Nat} {v u:Rat} (X:QG w s A n c A' n' c' v k) (Y:RQ w t B m d B' m' d' u k2) (he:v=u) (hk:k≤100000) (hk2:k2≤100000) :
 Calls Tryz.prog 15 #[.agg #[.bool s,.slice A n c,.slice A' n' c'],.agg #[.bool t,.slice B m d,.slice B' m' d']] w fun e w'=>e=.returned (.bool true)∧Below w.heap.size w w':=by
 subst he
 have hs:s=decide (v.num < 0):=X.1.1
 subst hs
 have hn:n≤maxLen:=by have:=X.1.2.2.2;unfold maxLen;omega
 have hn':n'≤maxLen:=by have:=X.2.2.2;unfold maxLen;omega
 have xp:Rd .u64 w A n (limbs B64 v.num.natAbs):=X.1.2.1
 have xq:Rd .u64 w A' n' (limbs B64 v.den):=X.2.1
 have HN:=Lib.hid hn
 have HN':=Lib.hid hn'
 clear X hn hn'
 go_enter Tryz.func15,Tryz.ntmps15
 go_wp2_with fail
 generalize hW:World.alloc _ _=W
 obtain ⟨hb,XA,XB,hzW⟩:=mkbx25_11 hW;clear hW;replace xp:=xp.below hb;replace xq:=xq.below hb;replace Y:=Y.below hb
 replace xp:=xp.below (Below.refl _ _).drew
 replace xq:=xq.below (Below.refl _ _).drew
 replace Y:=Y.below (Below.refl _ _).drew
 replace XA:=XA.below (Below.refl _ _).drew
 replace XB:=XB.below (Below.refl _ _).drew
 replace hb:=hb.drew
 go_region_held3 (fun w'=>w'.cell? ⟨w.heap.size,0,none⟩=some (.bool (decide (v.num < 0)))∧w'.cell? ⟨w.heap.size,1,none⟩=some (.slice A n c)∧w'.cell? ⟨w.heap.size,2,none⟩=some (.slice A' n' c')∧w'.cell? ⟨w.heap.size+1,0,none⟩=some (.bool t)∧w'.cell? ⟨w.heap.size+1,1,none⟩=some (.slice B m d)∧w'.cell? ⟨w.heap.size+1,2,none⟩=some (.slice B' m' d'))
  (first | with_reducible exact ⟨XA.c0,XA.c1,XA.c2,XB.c0,XB.c1,XB.c2⟩)
  (first
  | (go_at_call 39;(with_reducible refine (rout3 Y hk2).mono ?_);rintro e w_y ⟨A_p,n_p,c_p,A_q,n_q,c_q,rfl,yp,yq,hh⟩
     (try replace xp:=xp.below hh);(try replace xq:=xq.below hh);(try replace Y:=Y.below hh);(try replace XA:=XA.below hh);(try replace XB:=XB.below hh);replace hb:=bend hb hh)
  | (go_at_call 38;(with_reducible refine (rats_any xp xq yp yq HN.out HN'.out true (same_eq _ _ _)).mono ?_);rintro e w_z ⟨rfl,hh⟩
     (try replace xp:=xp.below hh);(try replace xq:=xq.below hh);(try replace Y:=Y.below hh);(try replace yp:=yp.below hh);(try replace yq:=yq.below hh);(try replace XA:=XA.below hh);(try replace XB:=XB.below hh);replace hb:=bend hb hh))
 go_wp2_with fail
 go_ret;exact ⟨rfl,hb⟩
end
section
open Go Go.RowKit
theorem out2c {t:Bool} {B:Option Addr} {m d k:Nat} {v:Int} (Y:RG w t B m d v k) (hk:k≤200000) :
 Calls Tryz.prog 80 #[.agg #[.bool t,.slice B m d]] w fun e w'=>∃ A n c,e=.returned (.agg #[.bool t,.slice A n c])∧Rd .u64 w' A n (limbs B64 v.natAbs)∧n≤c∧Below w.heap.size w w':=by
 have hJ:=join32_limbs v.natAbs;have HJ:=Lib.hid hJ
 have hm:m≤2000000:=Nat.le_trans Y.2.2.2 (by omega)
 have hY:=Y.2.1;clear hJ
 go_enter Tryz.func80,Tryz.ntmps80
 go_wp2_with fail
 generalize hW:World.alloc _ _=W
 obtain ⟨hb,XB,Z,hz⟩:=mkbx9_8 hW;clear hW;replace hY:=hY.below hb
 replace hY:=hY.below (Below.refl _ _).drew
 replace XB:=XB.drew;replace Z:=Z.drew;replace hb:=hb.drew
 go_region_held3 (fun w'=>w'.cell? ⟨w.heap.size,0,none⟩=some (Value.bool t)∧w'.cell? ⟨w.heap.size,1,none⟩=some (Value.slice B m d))
  (first | with_reducible exact ⟨XB.c0,XB.c1⟩ | with_reducible exact ⟨(set2_cell _ _ _ _ _ _ (by omega)).trans XB.c0,(set2_cell _ _ _ _ _ _ (by omega)).trans XB.c1⟩)
  (first
  | (go_at_call 79;(with_reducible refine (rout_any (limbs B32 v.natAbs) B m d _ hY (lim_limbs B32_two _) hm).mono ?_);rintro e w1 ⟨A1,n1,c1,rfl,p1,p2,p3,hh⟩
     rw [HJ.out] at p3;replace XB:=XB.below hh;replace Z:=Z.below hh;replace hb:=bend hb hh;obtain ⟨r0,r1⟩:=Z.all;have r2:=Z.f0;have r3:=Z.f1))
 go_wp2
 have hf0:=(Z.set2 (.bool t) (.slice A1 n1 c1)).c0
 have hf1:=(Z.set2 (.bool t) (.slice A1 n1 c1)).c1
 refine bodyPost_ret (v:=.agg #[.bool t,.slice A1 n1 c1]) (by simp [results,Tryz.results80,go_sem,hf0,hf1]) rfl ?_
 refine ⟨A1,n1,c1,rfl,?_,p1,(hb.setCell (by show w.heap.size≤_;simp) _).setCell (by show w.heap.size≤_;simp) _⟩
 exact p3.rd.only (Z.offx p3.rd) (((Only.refl (w.heap.size+1) w1).setCell 0 _).setCell 1 _)
theorem rout_vc {A:Option Addr} {n c V k:Nat} (Y:RN w A n c V k) (hk:k≤200000) :
 Calls Tryz.prog 79 #[.slice A n c] w fun e w'=>∃ A n c,e=.returned (.slice A n c)∧Rd .u64 w' A n (limbs B64 V)∧n≤c∧Below w.heap.size w w':=by
 refine (rout_any (limbs B32 V) A n c w Y.1 (lim_limbs B32_two _) (Nat.le_trans Y.2.2 (by omega))).mono ?_
 rintro e w' ⟨A1,n1,c1,rfl,p1,p2,p3,p4⟩
 rw [join32_limbs] at p3
 exact ⟨A1,n1,c1,rfl,p3.rd,p1,p4⟩
theorem rout3g {s:Bool} {A A':Option Addr} {n c n' c' k:Nat} {v:Rat} (X:RQ w s A n c A' n' c' v k) (hk:k≤100000) (K:Nat) (h1:v.num.natAbs < B64 ^ K) (h2:v.den < B64 ^ K) :
 Calls Tryz.prog 39 #[.agg #[.bool s,.slice A n c,.slice A' n' c']] w (GivesQ w v K):=by
 have hs:s=decide (v.num < 0):=X.pg.1
 have HS:=Lib.hid hs
 have HK:Hid ((limbs B64 v.num.natAbs).length≤K∧(limbs B64 v.den).length≤K):=⟨length_limbs_le B64_two h1,length_limbs_le B64_two h2⟩
 clear h1 h2;clear hs
 go_enter Tryz.func39,Tryz.ntmps39
 go_wp2_with fail
 generalize hW:World.alloc _ _=W
 obtain ⟨hb,XA,Z,hzW⟩:=mkbx30_11 hW;clear hW;replace X:=X.below hb;obtain ⟨xa0,xa1,xa2⟩:=XA.all
 go_upto_region 2 with (first
  | (go_at_call 79;(with_reducible refine (rout_vc X.qn (by omega)).mono ?_);rintro e w_q ⟨A_q,n_q,c_q,rfl,q,qc,hh⟩
     (try replace X:=X.below hh);(try replace p:=p.below hh);(try replace XA:=XA.below hh);(try replace Z:=Z.below hh);replace hb:=bend hb hh;obtain ⟨xa0,xa1,xa2⟩:=XA.all))
 have hq0:((n_q:Int) == 0)=false:=by
  have h1:=q.1;rw [limbs_pos B64_two v.den_nz] at h1
  simp at h1 ⊢
  omega
 have zf0:=Z.f0;have zf1:=Z.f1;have zf2:=Z.f2;obtain ⟨z0,z1,z2⟩:=Z.all
 go_wp2_with (first
  | (go_at_call 80;(with_reducible refine (out2c X.pg (by omega)).mono ?_);rintro e w_p ⟨A_p,n_p,c_p,rfl,p,pc,hh⟩
     (try replace X:=X.below hh);(try replace q:=q.below hh);(try replace XA:=XA.below hh);(try replace Z:=Z.below hh);replace hb:=bend hb hh;obtain ⟨xa0,xa1,xa2⟩:=XA.all;have zf0:=Z.f0;have zf1:=Z.f1;have zf2:=Z.f2;obtain ⟨z0,z1,z2⟩:=Z.all))
 have Z2:=Z.set3 (.bool s) (.slice A_p n_p c_p) (.slice A_q n_q c_q)
 obtain ⟨g0,g1,g2⟩:=Z2.all
 refine bodyPost_ret (v:=.agg #[.bool s,.slice A_p n_p c_p,.slice A_q n_q c_q]) (by simp [results,Tryz.results39,go_sem,g0,g1,g2]) rfl ?_
 have ho:=(((Only.refl (w.heap.size+1) w_p).setCell 0 (Value.bool s)).setCell 1 (Value.slice A_p n_p c_p)).setCell 2 (Value.slice A_q n_q c_q)
 exact ⟨s,A_p,n_p,c_p,A_q,n_q,c_q,rfl,⟨⟨HS.out,p.only (Z.offx p) ho,pc,by rw [← p.1];exact HK.out.1⟩,q.only (Z.offx q) ho,qc,by rw [← q.1];exact HK.out.2⟩,below_set3 hb (by omega) _ _ _⟩
end
section
open Go Go.RowKit
theorem ZG.nil (k:Nat):ZG w false none 0 0 0 k:=⟨rfl,by rw [show ((0:Int).natAbs)=0 from rfl,limbs_zero];exact Rd.nil,Nat.le_refl _,Nat.zero_le _⟩
theorem RG.nil (k:Nat):RG w false none 0 0 0 k:=⟨rfl,RN.zero w k⟩
theorem rof2_any (v:Int) (h1:-9223372036854775808≤v) (h2:v < 9223372036854775808) (w:World):Calls Tryz.prog 82 #[.int .i64 v] w (GivesRZ w v 2):=by
 by_cases h:v < 0
 · obtain ⟨V,rfl⟩:∃ V:Nat,v=-(V:Int):=⟨v.natAbs,by omega⟩
   exact rof2_neg V (by omega) (by omega) w
 · obtain ⟨V,rfl⟩:∃ V:Nat,v=(V:Int):=⟨v.natAbs,by omega⟩
   exact rof2_pos V (by omega) w
end
end Go.Proofs.YtlpogecpdfdggaaGreat
