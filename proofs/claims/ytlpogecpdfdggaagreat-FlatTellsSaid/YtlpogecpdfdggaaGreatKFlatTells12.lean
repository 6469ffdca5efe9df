/- FlatTells: part 12. -/
import Derived.Test.YtlpogecpdfdggaaGreatKFlatTells9
import Derived.Test.YtlpogecpdfdggaaGreatKFlatTells10
import Derived.Test.YtlpogecpdfdggaaGreatKFlatTells11
set_option linter.unusedVariables false
set_option maxRecDepth 100000
set_option maxHeartbeats 16000000
variable {w:Go.World}
variable {s_p t_p:Bool} {A_p B_p E_p F_p:Option Go.Addr} {n_p c_p m_p d_p i_p e_p j_p f_p:Nat}
namespace Go.Proofs.YtlpogecpdfdggaaGreat
section
open Go Go.RowKit
theorem RG.of_f {A:Option Addr} {n c V k:Nat} (h:RN w A n c V k):RG w false A n c (iv false V) k:=RG.of_made (neg:=false) h rfl
theorem RG.of_t {A:Option Addr} {n c V k:Nat} (h:RN w A n c V k):RG w (decide (0 < n)) A n c (iv true V) k:=RG.of_made (neg:=true) h rfl
theorem int_parts (p:Int):(Rat.divInt p 1).num=p∧(Rat.divInt p 1).den=1:=by rw [int1];exact ⟨rfl,rfl⟩
theorem rof3 (p q:Int) (hp1:-9223372036854775808≤p) (hp2:p < 9223372036854775808) (hq1:-9223372036854775808≤q) (hq2:q < 9223372036854775808) (h0:((q:Int) == 0)=false) (w:World) :
 Calls Tryz.prog 41 #[.int .i64 p,.int .i64 q] w (GivesRQ w (Rat.divInt p q) 2):=by
 have hq0:q ≠ 0:=by simpa using h0
 have HQ0:Hid ((q:Int).natAbs ≠ 0):=by show (q:Int).natAbs ≠ 0;omega
 have H1:=Lib.hid hp1;have H2:=Lib.hid hp2;have H3:=Lib.hid hq1;have H4:=Lib.hid hq2;clear hq0;clear hp1 hp2 hq1 hq2
 go_enter Tryz.func41,Tryz.ntmps41
 go_upto_region 1 with (fail)
 generalize hW:World.alloc _ _=W
 obtain ⟨hb,Z,hzW⟩:=mkbx27_11 hW;clear hW
 go_upto_region 4 with (first
  | (go_at_call 82;(with_reducible refine (rof2_any p H1.out H2.out _).mono ?_);rintro e w_x ⟨s_x,A_x,n_x,c_x,rfl,x,hh⟩
     (try replace y:=y.below hh);(try replace r:=r.below hh);(try replace XP:=XP.below hh);(try replace XQ:=XQ.below hh);(try replace Z:=Z.below hh);replace hb:=bend hb hh)
  | (go_at_call 82;(with_reducible refine (rof2_any q H3.out H4.out _).mono ?_);rintro e w_y ⟨s_y,A_y,n_y,c_y,rfl,y,hh⟩
     (try replace x:=x.below hh);(try replace r:=r.below hh);(try replace XP:=XP.below hh);(try replace XQ:=XQ.below hh);(try replace Z:=Z.below hh);replace hb:=bend hb hh))
 generalize hW:World.alloc _ _=W2
 obtain ⟨hh,XP,XQ,hzW2⟩:=mkbx6_8 hW;clear hW;(try replace x:=x.below hh);(try replace y:=y.below hh);(try replace Z:=Z.below hh);replace hb:=bend hb hh
 have hsx:s_x=decide (p < 0):=x.1
 have hsy:s_y=decide (q < 0):=y.1
 have HE:Hid (mkRat (iv (s_x != s_y) p.natAbs) (q:Int).natAbs=Rat.divInt p q):=by
  show _=_
  rw [← div_mk,hsx,hsy,iv_canon]
  first | rfl | rw [iv_canon]
 have hnx:=rn_pos x.rn;have HNX:=Lib.hid hnx;have xr:=x.rn;have yr:=y.rn;clear hsx hsy hnx x y
 cases s_x <;> cases s_y
 · have xp0:=XP.c0
   have xp1:=XP.c1;obtain ⟨xq0,xq1⟩:=XQ.all;have zf0:=Z.f0;have zf1:=Z.f1;have zf2:=Z.f2;obtain ⟨z0,z1,z2⟩:=Z.all
   have HE2:Hid (mkRat (iv false p.natAbs) (q:Int).natAbs=Rat.divInt p q):=HE
   go_wp2_with (first
    | (go_at_call 36;(with_reducible refine (made_rq (RG.of_f xr) yr (by decide) HQ0.out).mono ?_);rintro e w_r ⟨s_r,A_r,n_r,c_r,B_r,m_r,d_r,rfl,r,hh⟩
       rw [HE2.out] at r;(try replace Z:=Z.below hh);replace hb:=bend hb hh;have zf0:=Z.f0;have zf1:=Z.f1;have zf2:=Z.f2;obtain ⟨z0,z1,z2⟩:=Z.all))
   have Z2:=Z.set3 (.bool s_r) (.slice A_r n_r c_r) (.slice B_r m_r d_r)
   obtain ⟨g0,g1,g2⟩:=Z2.all
   refine bodyPost_ret (v:=.agg #[.bool s_r,.slice A_r n_r c_r,.slice B_r m_r d_r]) (by simp [results,Tryz.results41,go_sem,g0,g1,g2]) rfl ?_
   exact ⟨s_r,A_r,n_r,c_r,B_r,m_r,d_r,rfl,r.set3 Z _ _ _,below_set3 hb (by omega) _ _ _⟩
 · have xp0:=XP.c0
   have xp1:=XP.c1;obtain ⟨xq0,xq1⟩:=XQ.all;have zf0:=Z.f0;have zf1:=Z.f1;have zf2:=Z.f2;obtain ⟨z0,z1,z2⟩:=Z.all
   have HE2:Hid (mkRat (iv true p.natAbs) (q:Int).natAbs=Rat.divInt p q):=HE
   go_wp2_with (first
    | (go_at_call 36;(with_reducible refine (made_rq (RG.of_t xr) yr (by decide) HQ0.out).mono ?_);rintro e w_r ⟨s_r,A_r,n_r,c_r,B_r,m_r,d_r,rfl,r,hh⟩
       rw [HE2.out] at r;(try replace Z:=Z.below hh);replace hb:=bend hb hh;have zf0:=Z.f0;have zf1:=Z.f1;have zf2:=Z.f2;obtain ⟨z0,z1,z2⟩:=Z.all))
   have Z2:=Z.set3 (.bool s_r) (.slice A_r n_r c_r) (.slice B_r m_r d_r)
   obtain ⟨g0,g1,g2⟩:=Z2.all
   refine bodyPost_ret (v:=.agg #[.bool s_r,.slice A_r n_r c_r,.slice B_r m_r d_r]) (by simp [results,Tryz.results41,go_sem,g0,g1,g2]) rfl ?_
   exact ⟨s_r,A_r,n_r,c_r,B_r,m_r,d_r,rfl,r.set3 Z _ _ _,below_set3 hb (by omega) _ _ _⟩
 · have xp0:=XP.c0
   have xp1:=XP.c1;obtain ⟨xq0,xq1⟩:=XQ.all;have zf0:=Z.f0;have zf1:=Z.f1;have zf2:=Z.f2;obtain ⟨z0,z1,z2⟩:=Z.all
   have HE2:Hid (mkRat (iv true p.natAbs) (q:Int).natAbs=Rat.divInt p q):=HE
   go_wp2_with (first
    | (go_at_call 36;(with_reducible refine (made_rq (RG.of_t xr) yr (by decide) HQ0.out).mono ?_);rintro e w_r ⟨s_r,A_r,n_r,c_r,B_r,m_r,d_r,rfl,r,hh⟩
       rw [HE2.out] at r;(try replace Z:=Z.below hh);replace hb:=bend hb hh;have zf0:=Z.f0;have zf1:=Z.f1;have zf2:=Z.f2;obtain ⟨z0,z1,z2⟩:=Z.all))
   have Z2:=Z.set3 (.bool s_r) (.slice A_r n_r c_r) (.slice B_r m_r d_r)
   obtain ⟨g0,g1,g2⟩:=Z2.all
   refine bodyPost_ret (v:=.agg #[.bool s_r,.slice A_r n_r c_r,.slice B_r m_r d_r]) (by simp [results,Tryz.results41,go_sem,g0,g1,g2]) rfl ?_
   exact ⟨s_r,A_r,n_r,c_r,B_r,m_r,d_r,rfl,r.set3 Z _ _ _,below_set3 hb (by omega) _ _ _⟩
 · have xp0:=XP.c0
   have xp1:=XP.c1;obtain ⟨xq0,xq1⟩:=XQ.all;have zf0:=Z.f0;have zf1:=Z.f1;have zf2:=Z.f2;obtain ⟨z0,z1,z2⟩:=Z.all
   have HE2:Hid (mkRat (iv false p.natAbs) (q:Int).natAbs=Rat.divInt p q):=HE
   go_wp2_with (first
    | (go_at_call 36;(with_reducible refine (made_rq (RG.of_f xr) yr (by decide) HQ0.out).mono ?_);rintro e w_r ⟨s_r,A_r,n_r,c_r,B_r,m_r,d_r,rfl,r,hh⟩
       rw [HE2.out] at r;(try replace Z:=Z.below hh);replace hb:=bend hb hh;have zf0:=Z.f0;have zf1:=Z.f1;have zf2:=Z.f2;obtain ⟨z0,z1,z2⟩:=Z.all))
   have Z2:=Z.set3 (.bool s_r) (.slice A_r n_r c_r) (.slice B_r m_r d_r)
   obtain ⟨g0,g1,g2⟩:=Z2.all
   refine bodyPost_ret (v:=.agg #[.bool s_r,.slice A_r n_r c_r,.slice B_r m_r d_r]) (by simp [results,Tryz.results41,go_sem,g0,g1,g2]) rfl ?_
   exact ⟨s_r,A_r,n_r,c_r,B_r,m_r,d_r,rfl,r.set3 Z _ _ _,below_set3 hb (by omega) _ _ _⟩
end
section
open Go Go.RowKit
theorem small_m (M:Nat) {s:Bool} {A A':Option Addr} {n c n' c':Nat} (w:World) (L:Bool) (hL:decide (n≤M∧n'≤M)=L) :
 Calls Tryz.prog 7 #[.agg #[.bool s,.slice A n c,.slice A' n' c'],.int .i64 (M:Int)] w fun e w'=>e=.returned (.bool L)∧Below w.heap.size w w':=by
 have HL:=Lib.hid hL;clear hL
 go_enter Tryz.func7,Tryz.ntmps7
 go_wp2_with fail
 generalize hW:World.alloc _ _=W
 obtain ⟨hb,XA,hzW⟩:=mkbx13_8 hW;clear hW;obtain ⟨xa0,xa1,xa2⟩:=XA.all
 go_wp2_with fail
 · have h:n≤M:=by assumption
   go_ret
   refine ⟨?_,by first | assumption | exact (Below.refl _ _).alloc (Nat.le_refl _) _⟩
   show Ending.returned (.bool (decide (n'≤M)))=_
   rw [← HL.out]
   by_cases h2:n'≤M
   · rw [decide_eq_true (show n'≤M by omega),decide_eq_true (show n≤M∧n'≤M by omega)]
   · rw [decide_eq_false (show ¬ n'≤M by omega),decide_eq_false (show ¬ (n≤M∧n'≤M) by omega)]
 · have h:M < n:=by omega
   go_ret
   refine ⟨?_,by first | assumption | exact (Below.refl _ _).alloc (Nat.le_refl _) _⟩
   show Ending.returned (.bool false)=_
   rw [← HL.out,decide_eq_false (show ¬ (n≤M∧n'≤M) by omega)]
end
section
open Go Go.RowKit
def B6R (W:World) (g:Nat) (x y z u v t:Value):Prop:=W.heap[g]?=some (.cells #[x,y,z,u,v,t] 80 (0,0))
section
variable {W W':World} {g:Nat} {x y z u v t:Value}
theorem B6R.c0 (h:B6R W g x y z u v t):W.cell? ⟨g,0,none⟩=some x:=by rw [cell_of_row W g 0 _ _ (0,0) h];rfl
theorem B6R.c1 (h:B6R W g x y z u v t):W.cell? ⟨g,1,none⟩=some y:=by rw [cell_of_row W g 1 _ _ (0,0) h];rfl
theorem B6R.c2 (h:B6R W g x y z u v t):W.cell? ⟨g,2,none⟩=some z:=by rw [cell_of_row W g 2 _ _ (0,0) h];rfl
theorem B6R.c3 (h:B6R W g x y z u v t):W.cell? ⟨g,3,none⟩=some u:=by rw [cell_of_row W g 3 _ _ (0,0) h];rfl
theorem B6R.c4 (h:B6R W g x y z u v t):W.cell? ⟨g,4,none⟩=some v:=by rw [cell_of_row W g 4 _ _ (0,0) h];rfl
theorem B6R.c5 (h:B6R W g x y z u v t):W.cell? ⟨g,5,none⟩=some t:=by rw [cell_of_row W g 5 _ _ (0,0) h];rfl
theorem B6R.all (h:B6R W g x y z u v t):W.cell? ⟨g,0,none⟩=some x∧W.cell? ⟨g,1,none⟩=some y∧W.cell? ⟨g,2,none⟩=some z∧W.cell? ⟨g,3,none⟩=some u∧W.cell? ⟨g,4,none⟩=some v∧W.cell? ⟨g,5,none⟩=some t:=⟨h.c0,h.c1,h.c2,h.c3,h.c4,h.c5⟩
theorem B6R.f0 (h:B6R W g x y z u v t):W.frozen? ⟨g,0,none⟩=false:=frozen_of_row W g 0 _ _ h
theorem B6R.f1 (h:B6R W g x y z u v t):W.frozen? ⟨g,1,none⟩=false:=frozen_of_row W g 1 _ _ h
theorem B6R.f2 (h:B6R W g x y z u v t):W.frozen? ⟨g,2,none⟩=false:=frozen_of_row W g 2 _ _ h
theorem B6R.f3 (h:B6R W g x y z u v t):W.frozen? ⟨g,3,none⟩=false:=frozen_of_row W g 3 _ _ h
theorem B6R.f4 (h:B6R W g x y z u v t):W.frozen? ⟨g,4,none⟩=false:=frozen_of_row W g 4 _ _ h
theorem B6R.f5 (h:B6R W g x y z u v t):W.frozen? ⟨g,5,none⟩=false:=frozen_of_row W g 5 _ _ h
theorem B6R.lt (h:B6R W g x y z u v t):g < W.heap.size:=World.block_lt_of_cell? W _ h.c0
theorem B6R.below (h:B6R W g x y z u v t) (hb:Below W.heap.size W W'):B6R W' g x y z u v t:=(hb.block g h.lt).trans h
theorem B6R.alloc (h:B6R W g x y z u v t) (o:Obj):B6R (W.alloc o) g x y z u v t:=(Below.heap_alloc W o g h.lt).trans h
theorem B6R.new' (W:World) (x y z u v t:Value) (g:Nat) (hg:g=W.heap.size):B6R (W.alloc (.cells #[x,y,z,u,v,t] 80)) g x y z u v t:=by subst hg;exact heap_alloc_new W _
end
theorem B6R.set6 {W:World} {g:Nat} {x y z u v t:Value} (h:B6R W g x y z u v t) (a b c d e f:Value):B6R ((((((W.setCell ⟨g,0,none⟩ a).setCell ⟨g,1,none⟩ b).setCell ⟨g,2,none⟩ c).setCell ⟨g,3,none⟩ d).setCell ⟨g,4,none⟩ e).setCell ⟨g,5,none⟩ f) g a b c d e f:=by
 unfold B6R at h ⊢
 simp [World.setCell,Array.getElem?_modify,h]
theorem Rd.off6R {K:IntKind} {W:World} {g:Nat} {s t:Bool} {A A1 A2 A3 A4:Option Addr} {n n1 c1 n2 c2 n3 c3 n4 c4:Nat} {l:List Nat} (hr:Rd K W A n l) (h:B6R W g (.bool s) (.slice A1 n1 c1) (.slice A2 n2 c2) (.bool t) (.slice A3 n3 c3) (.slice A4 n4 c4)):Off A n g:=by
 intro hn ad e hg
 obtain ⟨b,o,eA,hc⟩:=hr.at_ hn
 obtain ⟨x,_,hx⟩:=hc 0 hn
 rw [eA] at e
 cases e
 have hg2:b=g:=hg
 subst hg2
 rw [cell_of_row W b (o+0) _ _ (0,0) h] at hx
 match o,hx with
 | 0,hx=>cases hx
 | 1,hx=>cases hx
 | 2,hx=>cases hx
 | 3,hx=>cases hx
 | 4,hx=>cases hx
 | 5,hx=>cases hx
 | o+6,hx=>cases hx
def RP (w:World) (s:Bool) (A:Option Addr) (n c:Nat) (B:Option Addr) (m d:Nat) (t:Bool) (E:Option Addr) (i e:Nat) (F:Option Addr) (j f:Nat) (x y:Rat) (k:Nat):Prop:=RQ w s A n c B m d x k∧RQ w t E i e F j f y k
def GivesRP (w:World) (x y:Rat) (k:Nat) (en:Ending) (w':World):Prop :=
 ∃ s A n c B m d t E i e F j f,en=.returned (.agg #[.bool s,.slice A n c,.slice B m d,.bool t,.slice E i e,.slice F j f])∧RP w' s A n c B m d t E i e F j f x y k∧Below w.heap.size w w'
section
variable {w w':World} {s t:Bool} {A B E F:Option Addr} {n c m d i e j f k k1:Nat} {x y:Rat}
theorem RP.below (h:RP w s A n c B m d t E i e F j f x y k) (hb:Below w.heap.size w w'):RP w' s A n c B m d t E i e F j f x y k:=⟨h.1.below hb,h.2.below hb⟩
theorem RP.qx (h:RP w s A n c B m d t E i e F j f x y k):RQ w s A n c B m d x k:=h.1
theorem RP.qy (h:RP w s A n c B m d t E i e F j f x y k):RQ w t E i e F j f y k:=h.2
theorem RP.more (h:RP w s A n c B m d t E i e F j f x y k) (hk:k≤k1):RP w s A n c B m d t E i e F j f x y k1:=⟨h.1.more hk,h.2.more hk⟩
theorem RQ.onl {v:Rat} {g:Nat} (h:RQ w s A n c B m d v k) (h1:Off A n g) (h2:Off B m g) (ho:Only g w w'):RQ w' s A n c B m d v k:=⟨h.1.only h1 ho,h.2.only h2 ho⟩
theorem RP.set6 {s0 t0:Bool} {g:Nat} {A1 A2 A3 A4:Option Addr} {n1 c1 n2 c2 n3 c3 n4 c4:Nat} (h:RP w s A n c B m d t E i e F j f x y k) (Z:B6R w g (.bool s0) (.slice A1 n1 c1) (.slice A2 n2 c2) (.bool t0) (.slice A3 n3 c3) (.slice A4 n4 c4)) (a1 a2 a3 a4 a5 a6:Value) :
 RP ((((((w.setCell ⟨g,0,none⟩ a1).setCell ⟨g,1,none⟩ a2).setCell ⟨g,2,none⟩ a3).setCell ⟨g,3,none⟩ a4).setCell ⟨g,4,none⟩ a5).setCell ⟨g,5,none⟩ a6) s A n c B m d t E i e F j f x y k:=by
 have ho:Only g w ((((((w.setCell ⟨g,0,none⟩ a1).setCell ⟨g,1,none⟩ a2).setCell ⟨g,2,none⟩ a3).setCell ⟨g,3,none⟩ a4).setCell ⟨g,4,none⟩ a5).setCell ⟨g,5,none⟩ a6):=((((((Only.refl g w).setCell 0 _).setCell 1 _).setCell 2 _).setCell 3 _).setCell 4 _).setCell 5 _
 exact ⟨h.1.onl (h.1.1.2.1.off6R Z) (h.1.2.1.off6R Z) ho,h.2.onl (h.2.1.2.1.off6R Z) (h.2.2.1.off6R Z) ho⟩
end
theorem mkbx31_12 {w W:World} {x0 x1 x2 x3 x4 x5:Value} (h:(w.alloc (Obj.cells #[x0,x1,x2,x3,x4,x5] 80))=W):Below w.heap.size w W∧B6R W (w.heap.size) x0 x1 x2 x3 x4 x5∧W.heap.size=w.heap.size+1:=by subst h;exact ⟨by exact ((Below.refl _ _).alloc (Nat.le_refl _) _),by exact B6R.new' _ _ _ _ _ _ _ _ rfl,by simp⟩
theorem rof6 (x y:Int) (hx1:-9223372036854775808≤x) (hx2:x < 9223372036854775808) (hy1:-9223372036854775808≤y) (hy2:y < 9223372036854775808) (w:World) :
 Calls Tryz.prog 63 #[.int .i64 x,.int .i64 y] w (GivesRP w (Rat.divInt x 1) (Rat.divInt y 1) 2):=by
 have H1:=Lib.hid hx1;have H2:=Lib.hid hx2;have H3:=Lib.hid hy1;have H4:=Lib.hid hy2;clear hx1 hx2 hy1 hy2
 go_enter Tryz.func63,Tryz.ntmps63
 go_upto_region 1 with (fail)
 generalize hW:World.alloc _ _=W
 obtain ⟨hb,Z,hzW⟩:=mkbx31_12 hW;clear hW
 go_wp2_with (first
  | (go_at_call 41;(with_reducible refine (rof3 x 1 H1.out H2.out (by decide) (by decide) (by decide) _).mono ?_);rintro e w_r ⟨s_r,A_r,n_r,c_r,B_r,m_r,d_r,rfl,r,hh⟩
     (try replace Z:=Z.below hh);replace hb:=bend hb hh)
  | (go_at_call 41;(with_reducible refine (rof3 y 1 H3.out H4.out (by decide) (by decide) (by decide) _).mono ?_);rintro e w_u ⟨s_u,A_u,n_u,c_u,B_u,m_u,d_u,rfl,u,hh⟩
     (try replace Z:=Z.below hh);(try replace r:=r.below hh);replace hb:=bend hb hh;have zg0:=Z.f0;have zg1:=Z.f1;have zg2:=Z.f2;have zg3:=Z.f3;have zg4:=Z.f4;have zg5:=Z.f5;obtain ⟨zc0,zc1,zc2,zc3,zc4,zc5⟩:=Z.all))
 have Z2:=Z.set6 (.bool s_r) (.slice A_r n_r c_r) (.slice B_r m_r d_r) (.bool s_u) (.slice A_u n_u c_u) (.slice B_u m_u d_u)
 obtain ⟨g0,g1,g2,g3,g4,g5⟩:=Z2.all
 refine bodyPost_ret (v:=.agg #[.bool s_r,.slice A_r n_r c_r,.slice B_r m_r d_r,.bool s_u,.slice A_u n_u c_u,.slice B_u m_u d_u]) (by simp [results,Tryz.results63,go_sem,g0,g1,g2,g3,g4,g5]) rfl ?_
 exact ⟨_,_,_,_,_,_,_,_,_,_,_,_,_,_,rfl,(show RP _ _ _ _ _ _ _ _ _ _ _ _ _ _ _ _ _ _ from ⟨r,u⟩).set6 Z _ _ _ _ _ _,below_set6 hb (by omega) _ _ _ _ _ _⟩
theorem mkbx32_12 {w W:World} {x0 x1 x2 x3 x4 x5 x6 x7 x8 x9 x10 x11:Value} (h:((w.alloc (Obj.cells #[x0,x1,x2,x3,x4,x5] 80)).alloc (Obj.cells #[x6,x7,x8,x9,x10,x11] 49))=W):Below w.heap.size w W∧B6R W (w.heap.size) x0 x1 x2 x3 x4 x5∧B6 W (w.heap.size+1) x6 x7 x8 x9 x10 x11∧W.heap.size=w.heap.size+2:=by subst h;exact ⟨by exact (((Below.refl _ _).alloc (Nat.le_refl _) _).alloc (by simp) _),by exact (B6R.new' _ _ _ _ _ _ _ _ rfl).alloc _,by exact B6.new' _ _ _ _ _ _ _ _ (by simp),by simp⟩
theorem rout6 {k:Nat} {x y:Rat} (p:RP w s_p A_p n_p c_p B_p m_p d_p t_p E_p i_p e_p F_p j_p f_p x y k) (hk:k≤100000) (K:Nat) (h1:x.num.natAbs < B64 ^ K) (h2:x.den < B64 ^ K) (h3:y.num.natAbs < B64 ^ K) (h4:y.den < B64 ^ K) :
 Calls Tryz.prog 62 #[.agg #[.bool s_p,.slice A_p n_p c_p,.slice B_p m_p d_p,.bool t_p,.slice E_p i_p e_p,.slice F_p j_p f_p]] w (GivesPt w x y K):=by
 have H1:=Lib.hid h1;have H2:=Lib.hid h2;have H3:=Lib.hid h3;have H4:=Lib.hid h4;clear h1 h2 h3 h4
 go_enter Tryz.func62,Tryz.ntmps62
 go_upto_region 1 with (fail)
 generalize hW:World.alloc _ _=W
 obtain ⟨hb,XA,Z,hzW⟩:=mkbx32_12 hW;clear hW;replace p:=p.below hb
 replace p:=p.below (Below.refl _ _).drew
 replace XA:=XA.below (Below.refl _ _).drew
 replace Z:=Z.below (Below.refl _ _).drew
 replace hb:=hb.drew
 go_region_held3 (fun w'=>w'.cell? ⟨w.heap.size,0,none⟩=some (.bool s_p)∧w'.cell? ⟨w.heap.size,1,none⟩=some (.slice A_p n_p c_p)∧w'.cell? ⟨w.heap.size,2,none⟩=some (.slice B_p m_p d_p)∧w'.cell? ⟨w.heap.size,3,none⟩=some (.bool t_p)∧w'.cell? ⟨w.heap.size,4,none⟩=some (.slice E_p i_p e_p)∧w'.cell? ⟨w.heap.size,5,none⟩=some (.slice F_p j_p f_p))
  (first | with_reducible exact ⟨XA.c0,XA.c1,XA.c2,XA.c3,XA.c4,XA.c5⟩ | with_reducible exact ⟨(set6_cell _ _ _ _ _ _ _ _ _ _ (by omega)).trans XA.c0,(set6_cell _ _ _ _ _ _ _ _ _ _ (by omega)).trans XA.c1,(set6_cell _ _ _ _ _ _ _ _ _ _ (by omega)).trans XA.c2,(set6_cell _ _ _ _ _ _ _ _ _ _ (by omega)).trans XA.c3,(set6_cell _ _ _ _ _ _ _ _ _ _ (by omega)).trans XA.c4,(set6_cell _ _ _ _ _ _ _ _ _ _ (by omega)).trans XA.c5⟩)
  (first
  | (go_at_call 39;(with_reducible refine (rout3g p.qx hk K H1.out H2.out).mono ?_);rintro e w_r ⟨s_r,A_r,n_r,c_r,B_r,m_r,d_r,rfl,r,hh⟩
     (try replace p:=p.below hh);(try replace XA:=XA.below hh);(try replace Z:=Z.below hh);replace hb:=bend hb hh)
  | (go_at_call 39;(with_reducible refine (rout3g p.qy hk K H3.out H4.out).mono ?_);rintro e w_u ⟨s_u,A_u,n_u,c_u,B_u,m_u,d_u,rfl,u,hh⟩
     (try replace p:=p.below hh);(try replace r:=r.below hh);(try replace XA:=XA.below hh);(try replace Z:=Z.below hh);replace hb:=bend hb hh;have zg0:=Z.f0;have zg1:=Z.f1;have zg2:=Z.f2;have zg3:=Z.f3;have zg4:=Z.f4;have zg5:=Z.f5;obtain ⟨zc0,zc1,zc2,zc3,zc4,zc5⟩:=Z.all))
 go_wp2_with fail
 have Z2:=Z.set6 (.bool s_r) (.slice A_r n_r c_r) (.slice B_r m_r d_r) (.bool s_u) (.slice A_u n_u c_u) (.slice B_u m_u d_u)
 obtain ⟨g0,g1,g2,g3,g4,g5⟩:=Z2.all
 refine bodyPost_ret (v:=.agg #[.bool s_r,.slice A_r n_r c_r,.slice B_r m_r d_r,.bool s_u,.slice A_u n_u c_u,.slice B_u m_u d_u]) (by simp [results,Tryz.results62,go_sem,g0,g1,g2,g3,g4,g5]) rfl ?_
 exact ⟨_,_,_,_,_,_,_,_,_,_,_,_,_,_,rfl,(show PG _ _ _ _ _ _ _ _ _ _ _ _ _ _ _ _ _ _ from ⟨r,u⟩).set6 Z _ _ _ _ _ _,below_set6 hb (by omega) _ _ _ _ _ _⟩
theorem int_fits {x:Int} (h1:-9223372036854775808≤x) (h2:x < 9223372036854775808):(Rat.divInt x 1).num.natAbs < B64 ^ 1∧(Rat.divInt x 1).den < B64 ^ 1:=by
 rw [(int_parts x).1,(int_parts x).2,Nat.pow_one]
 have:B64=18446744073709551616:=rfl
 omega
theorem lawP (x y:Int) (hx1:-9223372036854775808≤x) (hx2:x < 9223372036854775808) (hy1:-9223372036854775808≤y) (hy2:y < 9223372036854775808) (w:World) :
 Calls Tryz.prog 25 #[.int .i64 x,.int .i64 y] w (GivesPt w (Rat.divInt x 1) (Rat.divInt y 1) 1):=by
 have HX:=Lib.hid (int_fits hx1 hx2)
 have HY:=Lib.hid (int_fits hy1 hy2)
 have H1:=Lib.hid hx1;have H2:=Lib.hid hx2;have H3:=Lib.hid hy1;have H4:=Lib.hid hy2;clear hx1 hx2 hy1 hy2
 go_enter Tryz.func25,Tryz.ntmps25
 go_upto_region 1 with (fail)
 generalize hW:World.alloc _ _=W
 obtain ⟨hb,Z,hzW⟩:=mkbx19_10 hW;clear hW
 go_wp2_with (first
  | (go_at_call 63;(with_reducible refine (rof6 x y H1.out H2.out H3.out H4.out _).mono ?_);rintro e w_r ⟨s_r,A_r,n_r,c_r,B_r,m_r,d_r,t_r,E_r,i_r,e_r,F_r,j_r,f_r,rfl,r,hh⟩
     (try replace Z:=Z.below hh);replace hb:=bend hb hh)
  | (go_at_call 62;(with_reducible refine (rout6 r (by decide) 1 HX.out.1 HX.out.2 HY.out.1 HY.out.2).mono ?_);rintro e w_u ⟨s_u,A_u,n_u,c_u,B_u,m_u,d_u,t_u,E_u,i_u,e_u,F_u,j_u,f_u,rfl,u,hh⟩
     (try replace Z:=Z.below hh);replace hb:=bend hb hh;have zg0:=Z.f0;have zg1:=Z.f1;have zg2:=Z.f2;have zg3:=Z.f3;have zg4:=Z.f4;have zg5:=Z.f5;obtain ⟨zc0,zc1,zc2,zc3,zc4,zc5⟩:=Z.all))
 have Z2:=Z.set6 (.bool s_u) (.slice A_u n_u c_u) (.slice B_u m_u d_u) (.bool t_u) (.slice E_u i_u e_u) (.slice F_u j_u f_u)
 obtain ⟨g0,g1,g2,g3,g4,g5⟩:=Z2.all
 refine bodyPost_ret (v:=.agg #[.bool s_u,.slice A_u n_u c_u,.slice B_u m_u d_u,.bool t_u,.slice E_u i_u e_u,.slice F_u j_u f_u]) (by simp [results,Tryz.results25,go_sem,g0,g1,g2,g3,g4,g5]) rfl ?_
 exact ⟨s_u,A_u,n_u,c_u,B_u,m_u,d_u,t_u,E_u,i_u,e_u,F_u,j_u,f_u,rfl,u.set6 Z _ _ _ _ _ _,below_set6 hb (by omega) _ _ _ _ _ _⟩
def BL2 (W:World) (g:Nat) (v0:Value) (v1:Value) (v2:Value) (v3:Value) (v4:Value) (v5:Value) (v6:Value) (v7:Value) (v8:Value) (v9:Value) (v10:Value) (v11:Value):Prop:=W.heap[g]?=some (.cells #[v0,v1,v2,v3,v4,v5,v6,v7,v8,v9,v10,v11] 49 (0,0))
section
variable {W W':World} {g:Nat} {v0 v1 v2 v3 v4 v5 v6 v7 v8 v9 v10 v11:Value}
theorem BL2.c0 (h:BL2 W g v0 v1 v2 v3 v4 v5 v6 v7 v8 v9 v10 v11):W.cell? ⟨g,0,none⟩=some v0:=by rw [cell_of_row W g 0 _ _ (0,0) h];rfl
theorem BL2.c1 (h:BL2 W g v0 v1 v2 v3 v4 v5 v6 v7 v8 v9 v10 v11):W.cell? ⟨g,1,none⟩=some v1:=by rw [cell_of_row W g 1 _ _ (0,0) h];rfl
theorem BL2.c2 (h:BL2 W g v0 v1 v2 v3 v4 v5 v6 v7 v8 v9 v10 v11):W.cell? ⟨g,2,none⟩=some v2:=by rw [cell_of_row W g 2 _ _ (0,0) h];rfl
theorem BL2.c3 (h:BL2 W g v0 v1 v2 v3 v4 v5 v6 v7 v8 v9 v10 v11):W.cell? ⟨g,3,none⟩=some v3:=by rw [cell_of_row W g 3 _ _ (0,0) h];rfl
theorem BL2.c4 (h:BL2 W g v0 v1 v2 v3 v4 v5 v6 v7 v8 v9 v10 v11):W.cell? ⟨g,4,none⟩=some v4:=by rw [cell_of_row W g 4 _ _ (0,0) h];rfl
theorem BL2.c5 (h:BL2 W g v0 v1 v2 v3 v4 v5 v6 v7 v8 v9 v10 v11):W.cell? ⟨g,5,none⟩=some v5:=by rw [cell_of_row W g 5 _ _ (0,0) h];rfl
theorem BL2.c6 (h:BL2 W g v0 v1 v2 v3 v4 v5 v6 v7 v8 v9 v10 v11):W.cell? ⟨g,6,none⟩=some v6:=by rw [cell_of_row W g 6 _ _ (0,0) h];rfl
theorem BL2.c7 (h:BL2 W g v0 v1 v2 v3 v4 v5 v6 v7 v8 v9 v10 v11):W.cell? ⟨g,7,none⟩=some v7:=by rw [cell_of_row W g 7 _ _ (0,0) h];rfl
theorem BL2.c8 (h:BL2 W g v0 v1 v2 v3 v4 v5 v6 v7 v8 v9 v10 v11):W.cell? ⟨g,8,none⟩=some v8:=by rw [cell_of_row W g 8 _ _ (0,0) h];rfl
theorem BL2.c9 (h:BL2 W g v0 v1 v2 v3 v4 v5 v6 v7 v8 v9 v10 v11):W.cell? ⟨g,9,none⟩=some v9:=by rw [cell_of_row W g 9 _ _ (0,0) h];rfl
theorem BL2.c10 (h:BL2 W g v0 v1 v2 v3 v4 v5 v6 v7 v8 v9 v10 v11):W.cell? ⟨g,10,none⟩=some v10:=by rw [cell_of_row W g 10 _ _ (0,0) h];rfl
theorem BL2.all (h:BL2 W g v0 v1 v2 v3 v4 v5 v6 v7 v8 v9 v10 v11):W.cell? ⟨g,0,none⟩=some v0∧W.cell? ⟨g,1,none⟩=some v1∧W.cell? ⟨g,2,none⟩=some v2∧W.cell? ⟨g,3,none⟩=some v3∧W.cell? ⟨g,4,none⟩=some v4∧W.cell? ⟨g,5,none⟩=some v5∧W.cell? ⟨g,6,none⟩=some v6∧W.cell? ⟨g,7,none⟩=some v7∧W.cell? ⟨g,8,none⟩=some v8∧W.cell? ⟨g,9,none⟩=some v9∧W.cell? ⟨g,10,none⟩=some v10:=⟨h.c0,h.c1,h.c2,h.c3,h.c4,h.c5,h.c6,h.c7,h.c8,h.c9,h.c10⟩
theorem BL2.lt (h:BL2 W g v0 v1 v2 v3 v4 v5 v6 v7 v8 v9 v10 v11):g < W.heap.size:=World.block_lt_of_cell? W _ h.c0
theorem BL2.below (h:BL2 W g v0 v1 v2 v3 v4 v5 v6 v7 v8 v9 v10 v11) (hb:Below W.heap.size W W'):BL2 W' g v0 v1 v2 v3 v4 v5 v6 v7 v8 v9 v10 v11:=(hb.block g h.lt).trans h
theorem BL2.alloc (h:BL2 W g v0 v1 v2 v3 v4 v5 v6 v7 v8 v9 v10 v11) (o:Obj):BL2 (W.alloc o) g v0 v1 v2 v3 v4 v5 v6 v7 v8 v9 v10 v11:=(Below.heap_alloc W o g h.lt).trans h
end
theorem BL2.new' (W:World) (v0 v1 v2 v3 v4 v5 v6 v7 v8 v9 v10 v11:Value) (g:Nat) (hg:g=W.heap.size):BL2 (W.alloc (.cells #[v0,v1,v2,v3,v4,v5,v6,v7,v8,v9,v10,v11] 49)) g v0 v1 v2 v3 v4 v5 v6 v7 v8 v9 v10 v11:=by subst hg;exact heap_alloc_new W _
def BL3 (W:World) (g:Nat) (v0:Value) (v1:Value) (v2:Value) (v3:Value) (v4:Value) (v5:Value) (v6:Value) (v7:Value) (v8:Value) (v9:Value) (v10:Value) (v11:Value) (v12:Value) (v13:Value) (v14:Value) (v15:Value) (v16:Value) (v17:Value):Prop:=W.heap[g]?=some (.cells #[v0,v1,v2,v3,v4,v5,v6,v7,v8,v9,v10,v11,v12,v13,v14,v15,v16,v17] 49 (0,0))
section
variable {W W':World} {g:Nat} {v0 v1 v2 v3 v4 v5 v6 v7 v8 v9 v10 v11 v12 v13 v14 v15 v16 v17:Value}
theorem BL3.c0 (h:BL3 W g v0 v1 v2 v3 v4 v5 v6 v7 v8 v9 v10 v11 v12 v13 v14 v15 v16 v17):W.cell? ⟨g,0,none⟩=some v0:=by rw [cell_of_row W g 0 _ _ (0,0) h];rfl
theorem BL3.c1 (h:BL3 W g v0 v1 v2 v3 v4 v5 v6 v7 v8 v9 v10 v11 v12 v13 v14 v15 v16 v17):W.cell? ⟨g,1,none⟩=some v1:=by rw [cell_of_row W g 1 _ _ (0,0) h];rfl
theorem BL3.c2 (h:BL3 W g v0 v1 v2 v3 v4 v5 v6 v7 v8 v9 v10 v11 v12 v13 v14 v15 v16 v17):W.cell? ⟨g,2,none⟩=some v2:=by rw [cell_of_row W g 2 _ _ (0,0) h];rfl
theorem BL3.c3 (h:BL3 W g v0 v1 v2 v3 v4 v5 v6 v7 v8 v9 v10 v11 v12 v13 v14 v15 v16 v17):W.cell? ⟨g,3,none⟩=some v3:=by rw [cell_of_row W g 3 _ _ (0,0) h];rfl
theorem BL3.c4 (h:BL3 W g v0 v1 v2 v3 v4 v5 v6 v7 v8 v9 v10 v11 v12 v13 v14 v15 v16 v17):W.cell? ⟨g,4,none⟩=some v4:=by rw [cell_of_row W g 4 _ _ (0,0) h];rfl
theorem BL3.c5 (h:BL3 W g v0 v1 v2 v3 v4 v5 v6 v7 v8 v9 v10 v11 v12 v13 v14 v15 v16 v17):W.cell? ⟨g,5,none⟩=some v5:=by rw [cell_of_row W g 5 _ _ (0,0) h];rfl
theorem BL3.c6 (h:BL3 W g v0 v1 v2 v3 v4 v5 v6 v7 v8 v9 v10 v11 v12 v13 v14 v15 v16 v17):W.cell? ⟨g,6,none⟩=some v6:=by rw [cell_of_row W g 6 _ _ (0,0) h];rfl
theorem BL3.c7 (h:BL3 W g v0 v1 v2 v3 v4 v5 v6 v7 v8 v9 v10 v11 v12 v13 v14 v15 v16 v17):W.cell? ⟨g,7,none⟩=some v7:=by rw [cell_of_row W g 7 _ _ (0,0) h];rfl
theorem BL3.c8 (h:BL3 W g v0 v1 v2 v3 v4 v5 v6 v7 v8 v9 v10 v11 v12 v13 v14 v15 v16 v17):W.cell? ⟨g,8,none⟩=some v8:=by rw [cell_of_row W g 8 _ _ (0,0) h];rfl
theorem BL3.c9 (h:BL3 W g v0 v1 v2 v3 v4 v5 v6 v7 v8 v9 v10 v11 v12 v13 v14 v15 v16 v17):W.cell? ⟨g,9,none⟩=some v9:=by rw [cell_of_row W g 9 _ _ (0,0) h];rfl
theorem BL3.c10 (h:BL3 W g v0 v1 v2 v3 v4 v5 v6 v7 v8 v9 v10 v11 v12 v13 v14 v15 v16 v17):W.cell? ⟨g,10,none⟩=some v10:=by rw [cell_of_row W g 10 _ _ (0,0) h];rfl
theorem BL3.c15 (h:BL3 W g v0 v1 v2 v3 v4 v5 v6 v7 v8 v9 v10 v11 v12 v13 v14 v15 v16 v17):W.cell? ⟨g,15,none⟩=some v15:=by rw [cell_of_row W g 15 _ _ (0,0) h];rfl
theorem BL3.lt (h:BL3 W g v0 v1 v2 v3 v4 v5 v6 v7 v8 v9 v10 v11 v12 v13 v14 v15 v16 v17):g < W.heap.size:=World.block_lt_of_cell? W _ h.c0
theorem BL3.below (h:BL3 W g v0 v1 v2 v3 v4 v5 v6 v7 v8 v9 v10 v11 v12 v13 v14 v15 v16 v17) (hb:Below W.heap.size W W'):BL3 W' g v0 v1 v2 v3 v4 v5 v6 v7 v8 v9 v10 v11 v12 v13 v14 v15 v16 v17:=(hb.block g h.lt).trans h
theorem BL3.alloc (h:BL3 W g v0 v1 v2 v3 v4 v5 v6 v7 v8 v9 v10 v11 v12 v13 v14 v15 v16 v17) (o:Obj):BL3 (W.alloc o) g v0 v1 v2 v3 v4 v5 v6 v7 v8 v9 v10 v11 v12 v13 v14 v15 v16 v17:=(Below.heap_alloc W o g h.lt).trans h
end
theorem BL3.new' (W:World) (v0 v1 v2 v3 v4 v5 v6 v7 v8 v9 v10 v11 v12 v13 v14 v15 v16 v17:Value) (g:Nat) (hg:g=W.heap.size):BL3 (W.alloc (.cells #[v0,v1,v2,v3,v4,v5,v6,v7,v8,v9,v10,v11,v12,v13,v14,v15,v16,v17] 49)) g v0 v1 v2 v3 v4 v5 v6 v7 v8 v9 v10 v11 v12 v13 v14 v15 v16 v17:=by subst hg;exact heap_alloc_new W _
end
end Go.Proofs.YtlpogecpdfdggaaGreat
