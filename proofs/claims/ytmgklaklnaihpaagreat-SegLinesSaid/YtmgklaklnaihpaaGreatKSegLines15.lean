/- SegLines: part 15. -/
import Derived.Deep.AppendLies
import Derived.Test.YtmgklaklnaihpaaGreatKSegLines13
import Derived.Test.YtmgklaklnaihpaaGreatKSegLines14
set_option linter.unusedVariables false
set_option maxRecDepth 100000
set_option maxHeartbeats 16000000
variable {w:Go.World}
variable {s_a:Bool} {A_a B_a:Option Go.Addr} {n_a c_a m_a d_a:Nat}
variable {s_b:Bool} {A_b B_b:Option Go.Addr} {n_b c_b m_b d_b:Nat}
variable {s_v:Bool} {A_v B_v:Option Go.Addr} {n_v c_v m_v d_v:Nat}
namespace Go.Proofs.YtmgklaklnaihpaaGreat
section
open Go Go.RowKit
def minQ (a b:Rat):Rat:=if b < a then b else a
def maxQ (a b:Rat):Rat:=if a < b then b else a
theorem cmpQ_lt0 {v u:Rat}:cmpQ v u < 0 ↔ v < u:=by
 unfold cmpQ
 split
 · rename_i h;exact ⟨fun _=>h,fun _=>by decide⟩
 · rename_i h;exact ⟨fun e=>absurd e (by split <;> decide),fun e=>absurd e h⟩
theorem cmpQ_gt0 {v u:Rat}:0 < cmpQ v u ↔ u < v:=by
 have e:cmpQ v u=-cmpQ u v:=cmpQ_swap u v
 have h:=cmpQ_lt0 (v:=u) (u:=v)
 rw [← h,e]
 omega
theorem between_in (v a b:Rat):inQ v a b ↔ minQ a b≤v∧v≤maxQ a b:=by
 unfold inQ minQ maxQ
 rcases (show a < b ∨ a=b ∨ b < a by rcases Rat.le_total (a:=a) (b:=b) with h | h <;> rcases Rat.le_iff_lt_or_eq.1 h with q | q <;> grind) with h | h | h
 · rw [if_neg (by grind),if_pos h]
   constructor
   · intro e
     constructor
     · apply Classical.byContradiction;intro q
       have:=Rat.mul_pos (show 0 < a - v by grind) (show 0 < b - v by grind)
       grind
     · apply Classical.byContradiction;intro q
       have:=Rat.mul_pos (show 0 < v - a by grind) (show 0 < v - b by grind)
       grind
   · rintro ⟨e1,e2⟩
     exact Rat.mul_nonneg (by grind) (by grind)
 · rw [if_neg (by grind),if_neg (by grind),h]
   constructor
   · intro e
     have e2:v=b:=by
      apply Classical.byContradiction;intro q
      have:=sq_pos' (u:=v - b) (by grind)
      grind
     rw [e2];exact ⟨Rat.le_refl,Rat.le_refl⟩
   · rintro ⟨e1,e2⟩
     rw [Rat.le_antisymm e1 e2];grind
 · rw [if_pos h,if_neg (by grind)]
   constructor
   · intro e
     constructor
     · apply Classical.byContradiction;intro q
       have:=Rat.mul_pos (show 0 < a - v by grind) (show 0 < b - v by grind)
       grind
     · apply Classical.byContradiction;intro q
       have:=Rat.mul_pos (show 0 < v - a by grind) (show 0 < v - b by grind)
       grind
   · rintro ⟨e1,e2⟩
     have:=Rat.mul_nonneg (show 0≤a - v by grind) (show 0≤v - b by grind)
     grind
theorem share_in {v a b:Rat} (h:a ≠ b):shareOK (v - a) (b - a) ↔ inQ v a b:=by
 have hk:b - a ≠ 0:=fun e=>h (by grind)
 have e:=div_mul_self (x:=v - a) hk
 unfold shareOK
 generalize (v - a) / (b - a)=t at e
 have p:=sq_pos' hk
 have e3:(v - a)*(b - v)=t*(1 - t)*((b - a)*(b - a)):=by
  have:b - v=(b - a) - t*(b - a):=by rw [e];grind
  rw [this,← e];grind
 unfold inQ
 rw [e3]
 constructor
 · rintro ⟨_,h0,h1⟩
   exact Rat.mul_nonneg (Rat.mul_nonneg h0 (by grind)) (Rat.le_of_lt p)
 · intro q
   have:=unit_of (nn_of_mul p q)
   exact ⟨hk,this.1,this.2⟩
theorem rmin3_0 {k:Nat} {x y:Rat} (a:RQ w s_a A_a n_a c_a B_a m_a d_a x k) (b:RQ w s_b A_b n_b c_b B_b m_b d_b y k) (hk:k≤10000) (h:¬ y < x) :
 Calls Tryz.prog 153 #[.agg #[.bool s_a,.slice A_a n_a c_a,.slice B_a m_a d_a],.agg #[.bool s_b,.slice A_b n_b c_b,.slice B_b m_b d_b]] w (GivesRQ w x k):=by
 obtain ⟨K,hK,h0⟩:∃ K,cmpQ y x=K∧decide (K < 0)=false:=⟨_,rfl,decide_eq_false (fun e=>h (cmpQ_lt0.1 e))⟩
 have HK:=Lib.hid hK;clear hK h
 go_enter Tryz.func153,Tryz.ntmps153
 go_wp2_with fail
 generalize hW:World.alloc _ _=W
 obtain ⟨hb,XA,XB,Z,hzW⟩:=mkbx30_11 hW;clear hW;replace a:=a.below hb;replace b:=b.below hb;obtain ⟨xa0,xa1,xa2⟩:=XA.all;obtain ⟨xb0,xb1,xb2⟩:=XB.all;have zf0:=Z.f0;have zf1:=Z.f1;have zf2:=Z.f2;obtain ⟨z0,z1,z2⟩:=Z.all
 go_wp2_with (first
  | (go_at_call 97;(with_reducible refine (rcmp3 b a hk hk).mono ?_);rintro e w_z ⟨rfl,hh⟩
     rw [HK.out];(try replace a:=a.below hh);(try replace b:=b.below hh);(try replace XA:=XA.below hh);(try replace XB:=XB.below hh);(try replace Z:=Z.below hh);replace hb:=bend hb hh;obtain ⟨xa0,xa1,xa2⟩:=XA.all;obtain ⟨xb0,xb1,xb2⟩:=XB.all;have zf0:=Z.f0;have zf1:=Z.f1;have zf2:=Z.f2;obtain ⟨z0,z1,z2⟩:=Z.all))
 have Z2:=Z.set3 (.bool s_a) (.slice A_a n_a c_a) (.slice B_a m_a d_a)
 obtain ⟨g0,g1,g2⟩:=Z2.all
 refine bodyPost_ret (v:=.agg #[.bool s_a,.slice A_a n_a c_a,.slice B_a m_a d_a]) (by simp [results,Tryz.results153,go_sem,g0,g1,g2]) rfl ?_
 exact ⟨s_a,A_a,n_a,c_a,B_a,m_a,d_a,rfl,a.set3 Z _ _ _,below_set3 hb (by omega) _ _ _⟩
theorem rmin3_1 {k:Nat} {x y:Rat} (a:RQ w s_a A_a n_a c_a B_a m_a d_a x k) (b:RQ w s_b A_b n_b c_b B_b m_b d_b y k) (hk:k≤10000) (h:y < x) :
 Calls Tryz.prog 153 #[.agg #[.bool s_a,.slice A_a n_a c_a,.slice B_a m_a d_a],.agg #[.bool s_b,.slice A_b n_b c_b,.slice B_b m_b d_b]] w (GivesRQ w y k):=by
 obtain ⟨K,hK,h0⟩:∃ K,cmpQ y x=K∧decide (K < 0)=true:=⟨_,rfl,decide_eq_true (cmpQ_lt0.2 h)⟩
 have HK:=Lib.hid hK;clear hK h
 go_enter Tryz.func153,Tryz.ntmps153
 go_wp2_with fail
 generalize hW:World.alloc _ _=W
 obtain ⟨hb,XA,XB,Z,hzW⟩:=mkbx30_11 hW;clear hW;replace a:=a.below hb;replace b:=b.below hb;obtain ⟨xa0,xa1,xa2⟩:=XA.all;obtain ⟨xb0,xb1,xb2⟩:=XB.all;have zf0:=Z.f0;have zf1:=Z.f1;have zf2:=Z.f2;obtain ⟨z0,z1,z2⟩:=Z.all
 go_wp2_with (first
  | (go_at_call 97;(with_reducible refine (rcmp3 b a hk hk).mono ?_);rintro e w_z ⟨rfl,hh⟩
     rw [HK.out];(try replace a:=a.below hh);(try replace b:=b.below hh);(try replace XA:=XA.below hh);(try replace XB:=XB.below hh);(try replace Z:=Z.below hh);replace hb:=bend hb hh;obtain ⟨xa0,xa1,xa2⟩:=XA.all;obtain ⟨xb0,xb1,xb2⟩:=XB.all;have zf0:=Z.f0;have zf1:=Z.f1;have zf2:=Z.f2;obtain ⟨z0,z1,z2⟩:=Z.all))
 have Z2:=Z.set3 (.bool s_b) (.slice A_b n_b c_b) (.slice B_b m_b d_b)
 obtain ⟨g0,g1,g2⟩:=Z2.all
 refine bodyPost_ret (v:=.agg #[.bool s_b,.slice A_b n_b c_b,.slice B_b m_b d_b]) (by simp [results,Tryz.results153,go_sem,g0,g1,g2]) rfl ?_
 exact ⟨s_b,A_b,n_b,c_b,B_b,m_b,d_b,rfl,b.set3 Z _ _ _,below_set3 hb (by omega) _ _ _⟩
theorem rmin3 {k:Nat} {x y:Rat} (a:RQ w s_a A_a n_a c_a B_a m_a d_a x k) (b:RQ w s_b A_b n_b c_b B_b m_b d_b y k) (hk:k≤10000):Calls Tryz.prog 153 #[.agg #[.bool s_a,.slice A_a n_a c_a,.slice B_a m_a d_a],.agg #[.bool s_b,.slice A_b n_b c_b,.slice B_b m_b d_b]] w (GivesRQ w (minQ x y) k):=by
 unfold minQ
 split
 · rename_i h;exact rmin3_1 a b hk h
 · rename_i h;exact rmin3_0 a b hk h
theorem rmax3_0 {k:Nat} {x y:Rat} (a:RQ w s_a A_a n_a c_a B_a m_a d_a x k) (b:RQ w s_b A_b n_b c_b B_b m_b d_b y k) (hk:k≤10000) (h:¬ x < y) :
 Calls Tryz.prog 154 #[.agg #[.bool s_a,.slice A_a n_a c_a,.slice B_a m_a d_a],.agg #[.bool s_b,.slice A_b n_b c_b,.slice B_b m_b d_b]] w (GivesRQ w x k):=by
 obtain ⟨K,hK,h0⟩:∃ K,cmpQ y x=K∧decide (0 < K)=false:=⟨_,rfl,decide_eq_false (fun e=>h (cmpQ_gt0.1 e))⟩
 have HK:=Lib.hid hK;clear hK h
 go_enter Tryz.func154,Tryz.ntmps154
 go_wp2_with fail
 generalize hW:World.alloc _ _=W
 obtain ⟨hb,XA,XB,Z,hzW⟩:=mkbx30_11 hW;clear hW;replace a:=a.below hb;replace b:=b.below hb;obtain ⟨xa0,xa1,xa2⟩:=XA.all;obtain ⟨xb0,xb1,xb2⟩:=XB.all;have zf0:=Z.f0;have zf1:=Z.f1;have zf2:=Z.f2;obtain ⟨z0,z1,z2⟩:=Z.all
 go_wp2_with (first
  | (go_at_call 97;(with_reducible refine (rcmp3 b a hk hk).mono ?_);rintro e w_z ⟨rfl,hh⟩
     rw [HK.out];(try replace a:=a.below hh);(try replace b:=b.below hh);(try replace XA:=XA.below hh);(try replace XB:=XB.below hh);(try replace Z:=Z.below hh);replace hb:=bend hb hh;obtain ⟨xa0,xa1,xa2⟩:=XA.all;obtain ⟨xb0,xb1,xb2⟩:=XB.all;have zf0:=Z.f0;have zf1:=Z.f1;have zf2:=Z.f2;obtain ⟨z0,z1,z2⟩:=Z.all))
 have Z2:=Z.set3 (.bool s_a) (.slice A_a n_a c_a) (.slice B_a m_a d_a)
 obtain ⟨g0,g1,g2⟩:=Z2.all
 refine bodyPost_ret (v:=.agg #[.bool s_a,.slice A_a n_a c_a,.slice B_a m_a d_a]) (by simp [results,Tryz.results154,go_sem,g0,g1,g2]) rfl ?_
 exact ⟨s_a,A_a,n_a,c_a,B_a,m_a,d_a,rfl,a.set3 Z _ _ _,below_set3 hb (by omega) _ _ _⟩
theorem rmax3_1 {k:Nat} {x y:Rat} (a:RQ w s_a A_a n_a c_a B_a m_a d_a x k) (b:RQ w s_b A_b n_b c_b B_b m_b d_b y k) (hk:k≤10000) (h:x < y) :
 Calls Tryz.prog 154 #[.agg #[.bool s_a,.slice A_a n_a c_a,.slice B_a m_a d_a],.agg #[.bool s_b,.slice A_b n_b c_b,.slice B_b m_b d_b]] w (GivesRQ w y k):=by
 obtain ⟨K,hK,h0⟩:∃ K,cmpQ y x=K∧decide (0 < K)=true:=⟨_,rfl,decide_eq_true (cmpQ_gt0.2 h)⟩
 have HK:=Lib.hid hK;clear hK h
 go_enter Tryz.func154,Tryz.ntmps154
 go_wp2_with fail
 generalize hW:World.alloc _ _=W
 obtain ⟨hb,XA,XB,Z,hzW⟩:=mkbx30_11 hW;clear hW;replace a:=a.below hb;replace b:=b.below hb;obtain ⟨xa0,xa1,xa2⟩:=XA.all;obtain ⟨xb0,xb1,xb2⟩:=XB.all;have zf0:=Z.f0;have zf1:=Z.f1;have zf2:=Z.f2;obtain ⟨z0,z1,z2⟩:=Z.all
 go_wp2_with (first
  | (go_at_call 97;(with_reducible refine (rcmp3 b a hk hk).mono ?_);rintro e w_z ⟨rfl,hh⟩
     rw [HK.out];(try replace a:=a.below hh);(try replace b:=b.below hh);(try replace XA:=XA.below hh);(try replace XB:=XB.below hh);(try replace Z:=Z.below hh);replace hb:=bend hb hh;obtain ⟨xa0,xa1,xa2⟩:=XA.all;obtain ⟨xb0,xb1,xb2⟩:=XB.all;have zf0:=Z.f0;have zf1:=Z.f1;have zf2:=Z.f2;obtain ⟨z0,z1,z2⟩:=Z.all))
 have Z2:=Z.set3 (.bool s_b) (.slice A_b n_b c_b) (.slice B_b m_b d_b)
 obtain ⟨g0,g1,g2⟩:=Z2.all
 refine bodyPost_ret (v:=.agg #[.bool s_b,.slice A_b n_b c_b,.slice B_b m_b d_b]) (by simp [results,Tryz.results154,go_sem,g0,g1,g2]) rfl ?_
 exact ⟨s_b,A_b,n_b,c_b,B_b,m_b,d_b,rfl,b.set3 Z _ _ _,below_set3 hb (by omega) _ _ _⟩
theorem rmax3 {k:Nat} {x y:Rat} (a:RQ w s_a A_a n_a c_a B_a m_a d_a x k) (b:RQ w s_b A_b n_b c_b B_b m_b d_b y k) (hk:k≤10000):Calls Tryz.prog 154 #[.agg #[.bool s_a,.slice A_a n_a c_a,.slice B_a m_a d_a],.agg #[.bool s_b,.slice A_b n_b c_b,.slice B_b m_b d_b]] w (GivesRQ w (maxQ x y) k):=by
 unfold maxQ
 split
 · rename_i h;exact rmax3_1 a b hk h
 · rename_i h;exact rmax3_0 a b hk h
theorem rbetween_lo {k:Nat} {xv xa xb:Rat} (v:RQ w s_v A_v n_v c_v B_v m_v d_v xv k) (a:RQ w s_a A_a n_a c_a B_a m_a d_a xa k) (b:RQ w s_b A_b n_b c_b B_b m_b d_b xb k) (hk:k≤10000) (h:¬ minQ xa xb≤xv) :
 Calls Tryz.prog 102 #[.agg #[.bool s_v,.slice A_v n_v c_v,.slice B_v m_v d_v],.agg #[.bool s_a,.slice A_a n_a c_a,.slice B_a m_a d_a],.agg #[.bool s_b,.slice A_b n_b c_b,.slice B_b m_b d_b]] w fun e w'=>e=.returned (.bool false)∧Below w.heap.size w w':=by
 obtain ⟨K,hK,h0⟩:∃ K,cmpQ xv (minQ xa xb)=K∧decide (0≤K)=false:=⟨_,rfl,decide_eq_false (fun e=>h (cmp_nonneg.1 e))⟩
 have HK:=Lib.hid hK;clear hK h
 go_enter Tryz.func102,Tryz.ntmps102
 go_upto_region 1 with (fail)
 generalize hW:World.alloc _ _=W
 obtain ⟨hb,XA,XB,XC,hzW⟩:=mkbx30_11 hW;clear hW;replace v:=v.below hb;replace a:=a.below hb;replace b:=b.below hb
 replace v:=v.below (Below.refl _ _).drew
 replace a:=a.below (Below.refl _ _).drew
 replace b:=b.below (Below.refl _ _).drew
 replace XA:=XA.below (Below.refl _ _).drew
 replace XB:=XB.below (Below.refl _ _).drew
 replace XC:=XC.below (Below.refl _ _).drew
 replace hb:=hb.drew
 refine wp_region_held_drew (S:=(fun w'=>w'.cell? ⟨w.heap.size,0,none⟩=some (.bool s_v)∧w'.cell? ⟨w.heap.size,1,none⟩=some (.slice A_v n_v c_v)∧w'.cell? ⟨w.heap.size,2,none⟩=some (.slice B_v m_v d_v)∧w'.cell? ⟨w.heap.size+1,0,none⟩=some (.bool s_a)∧w'.cell? ⟨w.heap.size+1,1,none⟩=some (.slice A_a n_a c_a)∧w'.cell? ⟨w.heap.size+1,2,none⟩=some (.slice B_a m_a d_a)∧w'.cell? ⟨w.heap.size+1+1,0,none⟩=some (.bool s_b)∧w'.cell? ⟨w.heap.size+1+1,1,none⟩=some (.slice A_b n_b c_b)∧w'.cell? ⟨w.heap.size+1+1,2,none⟩=some (.slice B_b m_b d_b))) (by kernel_rfl) ⟨XA.c0,XA.c1,XA.c2,XB.c0,XB.c1,XB.c2,XC.c0,XC.c1,XC.c2⟩ (fun hHeld=>?_)
 refine wpAnyH_take (i:=0) (oi:=⟨some 7,.load 37 (.tmp 3),37, "ref.go:56",#[],none⟩) (v:=?_) rfl (by kernel_rfl) (by kernel_rfl) (by kernel_rfl) (fun _ _ _ h=>h) (Or.inl ⟨by rfl,?_⟩) hHeld ?_
 rotate_left
 · (intro w hSw;(try dsimp only at hSw);go_simp;try with_reducible rfl)
 simp only [Act.put,List.setIfInBounds_toArray,List.set_cons_zero,List.set_cons_succ]
 refine wpAnyH_take (i:=1) (oi:=⟨some 8,.load 37 (.tmp 4),37, "ref.go:56",#[],none⟩) (v:=?_) rfl (by kernel_rfl) (by kernel_rfl) (by kernel_rfl) (fun _ _ _ h=>h) (Or.inl ⟨by rfl,?_⟩) hHeld ?_
 rotate_left
 · (intro w hSw;(try dsimp only at hSw);go_simp;try with_reducible rfl)
 simp only [Act.put,List.setIfInBounds_toArray,List.set_cons_zero,List.set_cons_succ]
 refine wpAnyH_take (i:=2) (oi:=⟨some 9,.load 37 (.tmp 5),37, "ref.go:56",#[],none⟩) (v:=?_) rfl (by kernel_rfl) (by kernel_rfl) (by kernel_rfl) (fun _ _ _ h=>h) (Or.inl ⟨by rfl,?_⟩) hHeld ?_
 rotate_left
 · (intro w hSw;(try dsimp only at hSw);go_simp;try with_reducible rfl)
 simp only [Act.put,List.setIfInBounds_toArray,List.set_cons_zero,List.set_cons_succ]
 refine wpAnyH_ready (rs:=[3]) (by kernel_rfl) (by simp) ?_
 refine AllReadyH.cons (o:=⟨some 10,.call ⟨.value (.func 153),#[.tmp 8,.tmp 9],#[37,37]⟩,37, "ref.go:56",#[⟨1,.data⟩,⟨2,.data⟩],none⟩) rfl (fun K1 hK1=>?_) AllReadyH.nil
 go_simp
 first
  | (go_at_call 153;(with_reducible refine (rmin3 a b hk).mono ?_);rintro e w_m ⟨s_m,A_m,n_m,c_m,B_m,m_m,d_m,rfl,m,hh⟩
     (try replace v:=v.below hh);(try replace a:=a.below hh);(try replace b:=b.below hh);(try replace XA:=XA.below hh);(try replace XB:=XB.below hh);(try replace XC:=XC.below hh);replace hb:=bend hb hh)
 refine hK1.out _ _ ⟨XA.c0,XA.c1,XA.c2,XB.c0,XB.c1,XB.c2,XC.c0,XC.c1,XC.c2⟩ (fun hHeld=>?_)
 clear hK1 K1
 refine wpAnyH_ready (rs:=[4]) (by kernel_rfl) (by simp) ?_
 refine AllReadyH.cons (o:=⟨some 11,.call ⟨.value (.func 97),#[.tmp 7,.tmp 10],#[37,37]⟩,3, "ref.go:56",#[⟨0,.data⟩,⟨3,.data⟩,⟨3,.chain⟩],none⟩) rfl (fun K1 hK1=>?_) AllReadyH.nil
 go_simp
 first
  | (go_at_call 97;(with_reducible refine (rcmp3 v m hk hk).mono ?_);rintro e w_z ⟨rfl,hh⟩
     rw [HK.out];clear m
     (try replace v:=v.below hh);(try replace a:=a.below hh);(try replace b:=b.below hh);(try replace XA:=XA.below hh);(try replace XB:=XB.below hh);(try replace XC:=XC.below hh);replace hb:=bend hb hh)
 refine hK1.out _ _ ⟨XA.c0,XA.c1,XA.c2,XB.c0,XB.c1,XB.c2,XC.c0,XC.c1,XC.c2⟩ (fun hHeld=>?_)
 clear hK1 K1
 refine wpAnyH_take (i:=5) (oi:=⟨some 12,.binOp BinOp.geq 3 (.tmp 11) (.const (Value.int IntKind.i64 0)) 3,4, "ref.go:56",#[⟨4,.data⟩],none⟩) (v:=?_) rfl (by kernel_rfl) (by kernel_rfl) (by kernel_rfl) (fun _ _ _ h=>h) (Or.inl ⟨by rfl,?_⟩) hHeld ?_
 rotate_left
 · (intro w hSw;(try dsimp only at hSw);go_simp;try with_reducible rfl)
 simp only [Act.put,List.setIfInBounds_toArray,List.set_cons_zero,List.set_cons_succ]
 refine wpAnyH_take (i:=6) (oi:=⟨some 13,.move (.tmp 12),4, "ref.go:56",#[⟨5,.data⟩,⟨4,.chain⟩],none⟩) (v:=?_) rfl (by kernel_rfl) (by kernel_rfl) (by kernel_rfl) (fun _ _ _ h=>h) (Or.inl ⟨by rfl,?_⟩) hHeld ?_
 rotate_left
 · (intro w hSw;(try dsimp only at hSw);go_simp;try with_reducible rfl)
 simp only [Act.put,List.setIfInBounds_toArray,List.set_cons_zero,List.set_cons_succ]
 refine wpAnyH_take (i:=7) (oi:=⟨some 14,.load 37 (.tmp 3),37, "ref.go:56",#[⟨6,.guard⟩],some (6,true)⟩) (v:=undef) rfl (by kernel_rfl) (by kernel_rfl) (by kernel_rfl) (fun _ _ _ h=>h) (Or.inr ⟨by rfl,rfl⟩) hHeld ?_
 simp only [Act.put,List.setIfInBounds_toArray,List.set_cons_zero,List.set_cons_succ]
 refine wpAnyH_take (i:=8) (oi:=⟨some 15,.load 37 (.tmp 4),37, "ref.go:56",#[⟨6,.guard⟩],some (6,true)⟩) (v:=undef) rfl (by kernel_rfl) (by kernel_rfl) (by kernel_rfl) (fun _ _ _ h=>h) (Or.inr ⟨by rfl,rfl⟩) hHeld ?_
 simp only [Act.put,List.setIfInBounds_toArray,List.set_cons_zero,List.set_cons_succ]
 refine wpAnyH_take (i:=9) (oi:=⟨some 16,.load 37 (.tmp 5),37, "ref.go:56",#[⟨6,.guard⟩],some (6,true)⟩) (v:=undef) rfl (by kernel_rfl) (by kernel_rfl) (by kernel_rfl) (fun _ _ _ h=>h) (Or.inr ⟨by rfl,rfl⟩) hHeld ?_
 simp only [Act.put,List.setIfInBounds_toArray,List.set_cons_zero,List.set_cons_succ]
 refine wpAnyH_take (i:=10) (oi:=⟨some 17,.call ⟨.value (.func 154),#[.tmp 15,.tmp 16],#[37,37]⟩,37, "ref.go:56",#[⟨8,.data⟩,⟨9,.data⟩,⟨6,.chain⟩,⟨6,.guard⟩],some (6,true)⟩) (v:=undef) rfl (by kernel_rfl) (by kernel_rfl) (by kernel_rfl) (fun _ _ _ h=>h) (Or.inr ⟨by rfl,rfl⟩) hHeld ?_
 simp only [Act.put,List.setIfInBounds_toArray,List.set_cons_zero,List.set_cons_succ]
 refine wpAnyH_take (i:=11) (oi:=⟨some 18,.call ⟨.value (.func 97),#[.tmp 14,.tmp 17],#[37,37]⟩,3, "ref.go:56",#[⟨7,.data⟩,⟨10,.data⟩,⟨10,.chain⟩,⟨6,.guard⟩],some (6,true)⟩) (v:=undef) rfl (by kernel_rfl) (by kernel_rfl) (by kernel_rfl) (fun _ _ _ h=>h) (Or.inr ⟨by rfl,rfl⟩) hHeld ?_
 simp only [Act.put,List.setIfInBounds_toArray,List.set_cons_zero,List.set_cons_succ]
 refine wpAnyH_take (i:=12) (oi:=⟨some 19,.binOp BinOp.leq 3 (.tmp 18) (.const (Value.int IntKind.i64 0)) 3,4, "ref.go:56",#[⟨11,.data⟩,⟨6,.guard⟩],some (6,true)⟩) (v:=undef) rfl (by kernel_rfl) (by kernel_rfl) (by kernel_rfl) (fun _ _ _ h=>h) (Or.inr ⟨by rfl,rfl⟩) hHeld ?_
 simp only [Act.put,List.setIfInBounds_toArray,List.set_cons_zero,List.set_cons_succ]
 refine wpAnyH_take (i:=13) (oi:=⟨some 20,.pick (.tmp 13) (.tmp 19) (.const (Value.bool false)),4, "ref.go:56",#[⟨6,.data⟩,⟨12,.data⟩],none⟩) (v:=?_) rfl (by kernel_rfl) (by kernel_rfl) (by kernel_rfl) (fun _ _ _ h=>h) (Or.inl ⟨by rfl,?_⟩) hHeld ?_
 rotate_left
 · (intro w hSw;(try dsimp only at hSw);go_simp;try with_reducible rfl)
 simp only [Act.put,List.setIfInBounds_toArray,List.set_cons_zero,List.set_cons_succ]
 refine wpAnyH_take (i:=14) (oi:=⟨some 6,.assign (.tmp 20),4, "ref.go:56",#[⟨13,.data⟩,⟨11,.chain⟩,⟨0,.phase⟩,⟨1,.phase⟩,⟨2,.phase⟩,⟨3,.phase⟩,⟨4,.phase⟩,⟨5,.phase⟩,⟨6,.phase⟩,⟨7,.phase⟩,⟨8,.phase⟩,⟨9,.phase⟩,⟨10,.phase⟩,⟨11,.phase⟩,⟨12,.phase⟩,⟨13,.phase⟩],none⟩) (v:=?_) rfl (by kernel_rfl) (by kernel_rfl) (by kernel_rfl) (fun _ _ _ h=>h) (Or.inl ⟨by rfl,?_⟩) hHeld ?_
 rotate_left
 · (intro w hSw;(try dsimp only at hSw);go_simp;try with_reducible rfl)
 simp only [Act.put,List.setIfInBounds_toArray,List.set_cons_zero,List.set_cons_succ]
 refine wpAnyH_done (by kernel_rfl) ?_ _
 clear hHeld
 go_wp2_with fail
 go_ret;exact ⟨rfl,hb⟩
theorem rbetween_in {k:Nat} {xv xa xb:Rat} (v:RQ w s_v A_v n_v c_v B_v m_v d_v xv k) (a:RQ w s_a A_a n_a c_a B_a m_a d_a xa k) (b:RQ w s_b A_b n_b c_b B_b m_b d_b xb k) (hk:k≤10000) (h:minQ xa xb≤xv) :
 Calls Tryz.prog 102 #[.agg #[.bool s_v,.slice A_v n_v c_v,.slice B_v m_v d_v],.agg #[.bool s_a,.slice A_a n_a c_a,.slice B_a m_a d_a],.agg #[.bool s_b,.slice A_b n_b c_b,.slice B_b m_b d_b]] w fun e w'=>e=.returned (.bool (decide (xv≤maxQ xa xb)))∧Below w.heap.size w w':=by
 obtain ⟨K,hK,h0⟩:∃ K,cmpQ xv (minQ xa xb)=K∧decide (0≤K)=true:=⟨_,rfl,decide_eq_true (cmp_nonneg.2 h)⟩
 have HK:=Lib.hid hK;clear hK h
 obtain ⟨M,hM⟩:∃ M,cmpQ xv (maxQ xa xb)=M:=⟨_,rfl⟩
 have eM:decide (xv≤maxQ xa xb)=decide (M≤0):=by rw [← hM];exact decide_eq_decide.2 cmpQ_le.symm
 rw [eM];have HM:=Lib.hid hM;clear hM eM
 go_enter Tryz.func102,Tryz.ntmps102
 go_upto_region 1 with (fail)
 generalize hW:World.alloc _ _=W
 obtain ⟨hb,XA,XB,XC,hzW⟩:=mkbx30_11 hW;clear hW;replace v:=v.below hb;replace a:=a.below hb;replace b:=b.below hb
 replace v:=v.below (Below.refl _ _).drew
 replace a:=a.below (Below.refl _ _).drew
 replace b:=b.below (Below.refl _ _).drew
 replace XA:=XA.below (Below.refl _ _).drew
 replace XB:=XB.below (Below.refl _ _).drew
 replace XC:=XC.below (Below.refl _ _).drew
 replace hb:=hb.drew
 go_region_held3 (fun w'=>w'.cell? ⟨w.heap.size,0,none⟩=some (.bool s_v)∧w'.cell? ⟨w.heap.size,1,none⟩=some (.slice A_v n_v c_v)∧w'.cell? ⟨w.heap.size,2,none⟩=some (.slice B_v m_v d_v)∧w'.cell? ⟨w.heap.size+1,0,none⟩=some (.bool s_a)∧w'.cell? ⟨w.heap.size+1,1,none⟩=some (.slice A_a n_a c_a)∧w'.cell? ⟨w.heap.size+1,2,none⟩=some (.slice B_a m_a d_a)∧w'.cell? ⟨w.heap.size+1+1,0,none⟩=some (.bool s_b)∧w'.cell? ⟨w.heap.size+1+1,1,none⟩=some (.slice A_b n_b c_b)∧w'.cell? ⟨w.heap.size+1+1,2,none⟩=some (.slice B_b m_b d_b))
  (first | with_reducible exact ⟨XA.c0,XA.c1,XA.c2,XB.c0,XB.c1,XB.c2,XC.c0,XC.c1,XC.c2⟩)
  (first
  | (go_at_call 153;(with_reducible refine (rmin3 a b hk).mono ?_);rintro e w_m ⟨s_m,A_m,n_m,c_m,B_m,m_m,d_m,rfl,m,hh⟩
     (try replace v:=v.below hh);(try replace a:=a.below hh);(try replace b:=b.below hh);(try replace XA:=XA.below hh);(try replace XB:=XB.below hh);(try replace XC:=XC.below hh);replace hb:=bend hb hh)
  | (go_at_call 154;(with_reducible refine (rmax3 a b hk).mono ?_);rintro e w_q ⟨s_q,A_q,n_q,c_q,B_q,m_q,d_q,rfl,q,hh⟩
     (try replace v:=v.below hh);(try replace a:=a.below hh);(try replace b:=b.below hh);(try replace XA:=XA.below hh);(try replace XB:=XB.below hh);(try replace XC:=XC.below hh);replace hb:=bend hb hh)
  | (go_at_call 97;(with_reducible refine (rcmp3 v m hk hk).mono ?_);rintro e w_z ⟨rfl,hh⟩
     rw [HK.out];clear m
     (try replace v:=v.below hh);(try replace a:=a.below hh);(try replace b:=b.below hh);(try replace XA:=XA.below hh);(try replace XB:=XB.below hh);(try replace XC:=XC.below hh);replace hb:=bend hb hh)
  | (go_at_call 97;(with_reducible refine (rcmp3 v q hk hk).mono ?_);rintro e w_z ⟨rfl,hh⟩
     rw [HM.out];clear q
     (try replace v:=v.below hh);(try replace a:=a.below hh);(try replace b:=b.below hh);(try replace XA:=XA.below hh);(try replace XB:=XB.below hh);(try replace XC:=XC.below hh);replace hb:=bend hb hh))
 go_wp2_with fail
 go_ret;exact ⟨rfl,hb⟩
theorem rbetween {k:Nat} {xv xa xb:Rat} (v:RQ w s_v A_v n_v c_v B_v m_v d_v xv k) (a:RQ w s_a A_a n_a c_a B_a m_a d_a xa k) (b:RQ w s_b A_b n_b c_b B_b m_b d_b xb k) (hk:k≤10000) (R:Bool) (hR:R=true ↔ inQ xv xa xb) :
 Calls Tryz.prog 102 #[.agg #[.bool s_v,.slice A_v n_v c_v,.slice B_v m_v d_v],.agg #[.bool s_a,.slice A_a n_a c_a,.slice B_a m_a d_a],.agg #[.bool s_b,.slice A_b n_b c_b,.slice B_b m_b d_b]] w fun e w'=>e=.returned (.bool R)∧Below w.heap.size w w':=by
 rw [between_in] at hR
 by_cases h:minQ xa xb≤xv
 · have:=rbetween_in v a b hk h
   rwa [show decide (xv≤maxQ xa xb)=R from by rw [Bool.eq_iff_iff,hR,decide_eq_true_iff];exact ⟨fun e=>⟨h,e⟩,fun e=>e.2⟩] at this
 · have:=rbetween_lo v a b hk h
   rwa [show false=R from by rw [Bool.eq_iff_iff,hR];exact ⟨fun e=>(by cases e),fun e=>absurd e.1 h⟩] at this
end
section
open Go Go.RowKit
structure PV where
 s:Bool
 A:Option Addr
 n:Nat
 c:Nat
 B:Option Addr
 m:Nat
 d:Nat
 t:Bool
 E:Option Addr
 i:Nat
 e:Nat
 F:Option Addr
 j:Nat
 f:Nat
def PV.cells (p:PV):List Value:=[.bool p.s,.slice p.A p.n p.c,.slice p.B p.m p.d,.bool p.t,.slice p.E p.i p.e,.slice p.F p.j p.f]
def PV.PG (w:World) (p:PV) (u:Rat × Rat) (k:Nat):Prop:=Go.Proofs.YtmgklaklnaihpaaGreat.PG w p.s p.A p.n p.c p.B p.m p.d p.t p.E p.i p.e p.F p.j p.f u.1 u.2 k
def PV.PR (w:World) (p:PV) (u:Rat × Rat) (k:Nat):Prop:=Go.Proofs.YtmgklaklnaihpaaGreat.PR w p.s p.A p.n p.c p.B p.m p.d p.t p.E p.i p.e p.F p.j p.f u.1 u.2 k
def PV.RP (w:World) (p:PV) (u:Rat × Rat) (k:Nat):Prop:=Go.Proofs.YtmgklaklnaihpaaGreat.RP w p.s p.A p.n p.c p.B p.m p.d p.t p.E p.i p.e p.F p.j p.f u.1 u.2 k
def pvs (L:List PV):List Value:=L.flatMap PV.cells
theorem pvs_nil:pvs []=[]:=rfl
theorem pvs_cons (p:PV) (L:List PV):pvs (p :: L)=p.cells ++ pvs L:=List.flatMap_cons
theorem pvs_append (L M:List PV):pvs (L ++ M)=pvs L ++ pvs M:=List.flatMap_append
theorem pvs_length (L:List PV):(pvs L).length=L.length*6:=by
 induction L with
 | nil=>rfl
 | cons p L ih=>rw [pvs_cons,List.length_append,ih,List.length_cons];show 6+_=_;omega
theorem pvs_get {L:List PV} {i:Nat} {p:PV} (h:L[i]?=some p) {j:Nat} (hj:j < 6):(pvs L)[i*6+j]?=p.cells[j]?:=by
 induction L generalizing i with
 | nil=>cases h
 | cons q L ih =>
   rw [pvs_cons]
   match i with
   | 0 =>
     obtain rfl:q=p:=by simpa using h
     rw [List.getElem?_append_left (show 0*6+j < q.cells.length by show _ < 6;omega)]
     congr 1;omega
   | i+1 =>
     rw [List.getElem?_append_right (show q.cells.length≤(i+1)*6+j by show 6≤_;omega)]
     rw [show (i+1)*6+j - q.cells.length=i*6+j by show (i+1)*6+j - 6=_;omega]
     exact ih h
theorem pvs_free (L:List PV):∀ u ∈ pvs L,∀ (k:IntKind) (x:Int),u ≠ .int k x:=by
 intro u hu k x
 obtain ⟨p,_,hp⟩:=List.mem_flatMap.1 hu
 simp only [PV.cells,List.mem_cons,List.not_mem_nil,or_false] at hp
 rcases hp with rfl | rfl | rfl | rfl | rfl | rfl <;> exact fun e=>by cases e
theorem pvs_one (L:List PV):∀ u ∈ pvs L,u.oneCell'=true:=by
 intro u hu
 obtain ⟨p,_,hp⟩:=List.mem_flatMap.1 hu
 simp only [PV.cells,List.mem_cons,List.not_mem_nil,or_false] at hp
 rcases hp with rfl | rfl | rfl | rfl | rfl | rfl <;> rfl
structure Ln (T:TypeId) (base:Nat) (w:World) (v:Value) (L:List PV):Prop where
 own:w.ownsRow base T 6 v L.length (pvs L)
 free:∀ g,v.ownBlock=some g→∃ cs,BoxAt T w g cs
section
variable {T:TypeId} {base:Nat} {w w':World} {v:Value} {L:List PV}
theorem Ln.nil (T:TypeId) (base:Nat) (w:World):Ln T base w (.slice none 0 0) []:=⟨World.ownsRow_nil w base T 6,fun g h=>by cases h⟩
theorem Ln.kept (h:Ln T base w v L) (hb:∀ g,v.ownBlock=some g→w'.heap[g]?=w.heap[g]?):Ln T base w' v L:=by
 refine ⟨⟨h.own.1,?_⟩,fun g hg=>?_⟩
 · rcases h.own.2 with hn | ⟨g,cap,cur,rfl,h1,h2,h3⟩
   · exact .inl hn
   · exact .inr ⟨g,cap,cur,rfl,h1,(hb g rfl).trans h2,h3⟩
 · obtain ⟨cs,hc⟩:=h.free g hg
   exact ⟨cs,(hb g hg).trans hc.at_,hc.free⟩
theorem Ln.below (h:Ln T base w v L) (hb:Below w.heap.size w w'):Ln T base w' v L:=h.kept fun g hg=>by
 obtain ⟨cs,hc⟩:=h.free g hg
 exact hb.block g hc.lt
theorem Ln.base_le {b:Nat} (h:Ln T base w v L) (hb:b≤base):Ln T b w v L:=by
 refine ⟨⟨h.own.1,?_⟩,h.free⟩
 rcases h.own.2 with hn | ⟨g,cap,cur,rfl,h1,h2⟩
 · exact .inl hn
 · exact .inr ⟨g,cap,cur,rfl,Nat.le_trans hb h1,h2⟩
theorem Ln.lit (w:World) (L:List PV) (hb:base≤w.heap.size) (hL:L.length≤1000000):Ln T base (w.alloc (.cells (pvs L).toArray T)) (.slice (some ⟨w.heap.size,0,none⟩) L.length L.length) L:=by
 refine ⟨⟨pvs_length L,.inr ⟨w.heap.size,L.length,_,rfl,hb,heap_alloc_new w _,Nat.le_refl _,by unfold maxLen;omega,?_,?_⟩⟩,fun g hg=>?_⟩
 · simp [pvs_length]
 · simp [← pvs_length]
 · obtain rfl:w.heap.size=g:=by simpa [Value.ownBlock] using hg
   refine ⟨(pvs L).toArray,heap_alloc_new w _,fun i k x e=>?_⟩
   rw [List.getElem?_toArray] at e
   exact pvs_free L _ (List.mem_of_getElem? e) k x rfl
theorem Ln.form (h:Ln T base w v L):∃ A c,v=.slice A L.length c∧L.length≤c∧(A=none→c=0):=by
 rcases h.own.2 with ⟨rfl,hn⟩ | ⟨g,cap,cur,rfl,_,_,h3,_⟩
 · exact ⟨none,0,by rw [hn],by omega,fun _=>rfl⟩
 · exact ⟨_,cap,rfl,h3,fun e=>by cases e⟩
theorem Ln.at_ (h:Ln T base w v L) {i:Nat} {p:PV} (hi:L[i]?=some p):∃ g c,v=.slice (some ⟨g,0,none⟩) L.length c∧i < L.length∧base≤g∧g < w.heap.size ∧
 w.cell? ⟨g,i*6,none⟩=some (.bool p.s)∧w.cell? ⟨g,i*6+1,none⟩=some (.slice p.A p.n p.c)∧w.cell? ⟨g,i*6+2,none⟩=some (.slice p.B p.m p.d) ∧
 w.cell? ⟨g,i*6+3,none⟩=some (.bool p.t)∧w.cell? ⟨g,i*6+4,none⟩=some (.slice p.E p.i p.e)∧w.cell? ⟨g,i*6+5,none⟩=some (.slice p.F p.j p.f):=by
 have hlt:i < L.length:=(List.getElem?_eq_some_iff.1 hi).1
 rcases h.own.2 with ⟨_,hn⟩ | ⟨g,cap,cur,hv,hb,hg,_⟩
 · omega
 · have hc:=h.own.cells (g:=g) (by rw [hv];rfl)
   have ha:∀ j,(⟨g,0,none⟩:Addr).add j=⟨g,j,none⟩:=fun j=>by unfold Addr.add;split <;> simp_all
   have key:∀ j,j < 6→∀ u,p.cells[j]?=some u→w.cell? ⟨g,i*6+j,none⟩=some u:=fun j hj u hu=>by
    have:=hc (i*6+j) u ((pvs_get hi hj).trans hu)
    rwa [ha] at this
   have hlt2:g < w.heap.size:=by
    rcases Nat.lt_or_ge g w.heap.size with q | q
    · exact q
    · rw [Array.getElem?_eq_none q] at hg;cases hg
   exact ⟨g,cap,hv,hlt,hb,hlt2,key 0 (by decide) _ rfl,key 1 (by decide) _ rfl,key 2 (by decide) _ rfl,key 3 (by decide) _ rfl,key 4 (by decide) _ rfl,key 5 (by decide) _ rfl⟩
end
def zpt:Value:=.agg #[.bool false,.slice none 0 0,.slice none 0 0,.bool false,.slice none 0 0,.slice none 0 0]
theorem info_pt:(Tryz.prog.info? 56).map (fun i=>(i.zero,i.size,i.bytes))=some (some zpt,6,112):=by kernel_rfl
theorem zero_free (n:Nat):∀ u ∈ (Builtin.zeroCells zpt.cells n).toList,∀ (k:IntKind) (x:Int),u ≠ .int k x:=by
 intro u hu k x
 simp only [Builtin.zeroCells,Array.toList_map,List.mem_map] at hu
 obtain ⟨i,_,rfl⟩:=hu
 have h:i % zpt.cells.size < 6:=Nat.mod_lt _ (by decide)
 generalize i % zpt.cells.size=j at h
 match j,h with
 | 0,_=>exact fun e=>by cases e
 | 1,_=>exact fun e=>by cases e
 | 2,_=>exact fun e=>by cases e
 | 3,_=>exact fun e=>by cases e
 | 4,_=>exact fun e=>by cases e
 | 5,_=>exact fun e=>by cases e
 | j+6,h=>omega
theorem run_push {T tS ty:TypeId} {base b:Nat} {v:Value} {L:List PV} {p:PV} {k0:Nat} (ht:Tryz.prog.underlying tS=some (.slice T)) (hinfo:(Tryz.prog.info? T).map (fun i=>(i.zero,i.size,i.bytes))=some (some zpt,6,112))
 (h:Ln T base w v L) (hbase:base≤w.heap.size) (hL:L.length≤1000000) (hb:w.heap[b]?=some (.cells p.cells.toArray T (0,0))) :
 ∃ v' w',(Builtin.append_ #[tS,tS] ty #[v,.slice (some ⟨b,0,none⟩) 1 k0]).run Tryz.prog w=.ok v' w'∧Ln T base w' v' (L ++ [p])∧w.grownBy w' v.ownBlock:=by
 obtain ⟨i0,hi,hz,hs,hby⟩:=info_parts hinfo
 have hnews:∀ j u,p.cells[j]?=some u→w.cell? ((⟨b,0,none⟩:Addr).add j)=some u:=fun j u hu=>World.news_of_block hb j u (by simpa using hu)
 have h1:∀ u ∈ p.cells,u.oneCell'=true:=fun u hu=>pvs_one [p] u (by rw [pvs_cons,pvs_nil,List.append_nil];exact hu)
 have hfree:∀ u ∈ p.cells,∀ (k:IntKind) (x:Int),u ≠ .int k x:=fun u hu=>pvs_free [p] u (by rw [pvs_cons,pvs_nil,List.append_nil];exact hu)
 obtain ⟨v',w',hr,hown,hg,_⟩:=run_append_own (P:=Tryz.prog) w base tS ty T i0 zpt 6 112 ht hi hz hs hby rfl (by decide) v L.length (pvs L) h.own ⟨b,0,none⟩ 1 k0 p.cells rfl hnews h1 (by unfold maxLen;omega) (by omega) hbase
 refine ⟨v',w',hr,⟨by rw [pvs_append,List.length_append,pvs_cons,pvs_nil,List.append_nil];exact hown,?_⟩,hg⟩
 have fr:∀ (cs:List Value),(∀ u ∈ cs,∀ (k:IntKind) (x:Int),u ≠ .int k x)→∀ (i:Nat) (k:IntKind) (x:Int),cs.toArray[i]? ≠ some (Value.int k x):=fun cs hc i k x e=>by
  rw [List.getElem?_toArray] at e
  exact hc _ (List.mem_of_getElem? e) k x rfl
 intro g hgv
 rcases h.own.2 with ⟨rfl,hn⟩ | ⟨g0,cap,cur,rfl,_,hg0,hnc,hcm,hcs,htake⟩
 · have e:=run_append_nil (P:=Tryz.prog) w tS ty T i0 zpt ht hi hz ⟨b,0,none⟩ 1 k0 p.cells (by rw [hs];rfl) hnews (by decide) (by decide) (by rw [hby];decide)
   rw [hr] at e
   injection e with e1 e2
   subst e1 e2
   obtain rfl:w.heap.size=g:=by simpa [Value.ownBlock] using hgv
   refine ⟨_,heap_alloc_new w.drew _,?_⟩
   have:=fr (p.cells ++ (Builtin.zeroCells zpt.cells (grownCap w 1 0 T - 1)).toList) (fun u hu=>by
    rcases List.mem_append.1 hu with q | q
    · exact hfree u q
    · exact zero_free _ u q)
   intro i k x
   have:=this i k x
   rwa [show (p.cells ++ (Builtin.zeroCells zpt.cells (grownCap w 1 0 T - 1)).toList).toArray=p.cells.toArray ++ Builtin.zeroCells zpt.cells (grownCap w 1 0 T - 1) by apply Array.ext';simp] at this
 · obtain ⟨cs,hB⟩:=h.free g0 rfl
   have hcur:∀ u ∈ cur.toList,∀ (k:IntKind) (x:Int),u ≠ .int k x:=by
    have:cs=cur:=by exact (Obj.cells.inj (Option.some.inj (hB.at_.symm.trans hg0))).1
    subst this
    intro u hu k x e
    obtain ⟨j,hj⟩:=List.getElem?_of_mem hu
    rw [Array.getElem?_toList] at hj
    exact hB.free j k x (by rw [← e];exact hj)
   by_cases hroom:L.length+1≤cap
   · have e:=run_append_room (P:=Tryz.prog) w tS ty T i0 ht hi g0 L.length cap cur hg0 ⟨b,0,none⟩ 1 k0 p.cells (by rw [hs];rfl) hnews h1 hroom (by rw [hs,hcs];show L.length*6+6≤_;omega)
     rw [hr] at e
     injection e with e1 e2
     subst e1 e2
     obtain rfl:g0=g:=by simpa [Value.ownBlock] using hgv
     refine ⟨_,setRow_heap w g0 cur _ T _ hg0,fr _ fun u hu=>?_⟩
     rcases List.mem_append.1 hu with q | q
     · rcases List.mem_append.1 q with q | q
       · exact hcur u (List.mem_of_mem_take q)
       · exact hfree u q
     · exact hcur u (List.mem_of_mem_drop q)
   · have holds:∀ j u,(pvs L)[j]?=some u→w.cell? ((⟨g0,0,none⟩:Addr).add j)=some u:=h.own.cells (g:=g0) rfl
     have e:=run_append_grow (P:=Tryz.prog) w tS ty T i0 zpt ht hi hz ⟨g0,0,none⟩ L.length cap (pvs L) (by rw [hs];exact h.own.1) holds ⟨b,0,none⟩ 1 k0 p.cells (by rw [hs];rfl) hnews (by omega) (by omega) (growslice_fits (by omega) (by rw [hby];omega))
     rw [hr] at e
     injection e with e1 e2
     subst e1 e2
     obtain rfl:w.heap.size=g:=by simpa [Value.ownBlock] using hgv
     refine ⟨_,heap_alloc_new w.drew _,?_⟩
     have:=fr (pvs L ++ p.cells ++ (Builtin.zeroCells zpt.cells (grownCap w (L.length+1) cap T - (L.length+1))).toList) (fun u hu=>by
      rcases List.mem_append.1 hu with q | q
      · rcases List.mem_append.1 q with q | q
        · exact pvs_free L u q
        · exact hfree u q
      · exact zero_free _ u q)
     intro i k x
     have:=this i k x
     rwa [show (pvs L ++ p.cells ++ (Builtin.zeroCells zpt.cells (grownCap w (L.length+1) cap T - (L.length+1))).toList).toArray=(pvs L).toArray ++ p.cells.toArray ++ Builtin.zeroCells zpt.cells (grownCap w (L.length+1) cap T - (L.length+1)) by apply Array.ext';simp] at this
theorem Ln.stays {T:TypeId} {base:Nat} {w w':World} {v:Value} {L:List PV} (h:Ln T base w v L) (hg:w.grownBy w' v.ownBlock):Below w.heap.size w w' ∨ ∃ g cs,BoxAt T w g cs∧base≤g∧Only g w w':=by
 cases hv:v.ownBlock with
 | none =>
   rw [hv] at hg
   exact .inl ((Below.refl _ _).grown hg (Nat.le_refl _) (fun k e=>by cases e))
 | some g =>
   rw [hv] at hg
   obtain ⟨cs,hc⟩:=h.free g hv
   refine .inr ⟨g,cs,hc,(h.own.lt g hv).1,⟨hg.os,hg.tape,hg.output,hg.size,fun k hk hn=>hg.block k hk (fun e=>hn (by injection e))⟩⟩
theorem idx_pt {g n c i:Nat} (h:i < n) (w:World):(Instr.indexAt 64 (.slice (some ⟨g,0,none⟩) n c) (.int .i64 (i:Int))).run Tryz.prog w=.ok (.pointer (some ⟨g,i*6,none⟩)) w:=by
 have ha:∀ j,(⟨g,0,none⟩:Addr).add j=⟨g,j,none⟩:=fun j=>by unfold Addr.add;split <;> simp_all
 obtain ⟨i0,hi,hz,hs,hby⟩:=info_parts info_pt
 have h1:(0:Int)≤(i:Int):=by omega
 have h2:(i:Int) < (n:Int):=by omega
 simp [Instr.indexAt,asIntOf,run_underlying Tryz.underlying64,h1,sizeOf,typeInfo,hi,hs,ha]
 exact fun e=>absurd h (by omega)
end
end Go.Proofs.YtmgklaklnaihpaaGreat
