/- AreaCuts: part 12. -/
import Derived.Deep.AppendLies
import Derived.Deep.LoopGhost
import Derived.WalkMore
import Derived.Test.YthbhngeiiabagaaGreatKAreaCuts9
import Derived.Test.YthbhngeiiabagaaGreatKAreaCuts10
import Derived.Test.YthbhngeiiabagaaGreatKAreaCuts11
set_option linter.unusedVariables false
set_option maxRecDepth 100000
set_option maxHeartbeats 16000000
variable {w:Go.World}
variable {s_p t_p:Bool} {A_p B_p E_p F_p:Option Go.Addr} {n_p c_p m_p d_p i_p e_p j_p f_p:Nat}
variable {s_q t_q:Bool} {A_q B_q E_q F_q:Option Go.Addr} {n_q c_q m_q d_q i_q e_q j_q f_q:Nat}
variable {s_r t_r:Bool} {A_r B_r E_r F_r:Option Go.Addr} {n_r c_r m_r d_r i_r e_r j_r f_r:Nat}
namespace Go.Proofs.YthbhngeiiabagaaGreat
section
open Go Go.RowKit
def B6R (W:World) (g:Nat) (x y z u v t:Value):Prop:=W.heap[g]?=some (.cells #[x,y,z,u,v,t] 44 (0,0))
section
variable {W W':World} {g:Nat} {x y z u v t:Value}
theorem B6R.c0 (h:B6R W g x y z u v t):W.cell? ⟨g,0,none⟩=some x:=by rw [cell_of_row W g 0 _ _ (0,0) h];rfl
theorem B6R.c1 (h:B6R W g x y z u v t):W.cell? ⟨g,1,none⟩=some y:=by rw [cell_of_row W g 1 _ _ (0,0) h];rfl
theorem B6R.c2 (h:B6R W g x y z u v t):W.cell? ⟨g,2,none⟩=some z:=by rw [cell_of_row W g 2 _ _ (0,0) h];rfl
theorem B6R.c3 (h:B6R W g x y z u v t):W.cell? ⟨g,3,none⟩=some u:=by rw [cell_of_row W g 3 _ _ (0,0) h];rfl
theorem B6R.c4 (h:B6R W g x y z u v t):W.cell? ⟨g,4,none⟩=some v:=by rw [cell_of_row W g 4 _ _ (0,0) h];rfl
theorem B6R.c5 (h:B6R W g x y z u v t):W.cell? ⟨g,5,none⟩=some t:=by rw [cell_of_row W g 5 _ _ (0,0) h];rfl
theorem B6R.all (h:B6R W g x y z u v t):W.cell? ⟨g,0,none⟩=some x∧W.cell? ⟨g,1,none⟩=some y∧W.cell? ⟨g,2,none⟩=some z∧W.cell? ⟨g,3,none⟩=some u∧W.cell? ⟨g,4,none⟩=some v∧W.cell? ⟨g,5,none⟩=some t:=⟨h.c0,h.c1,h.c2,h.c3,h.c4,h.c5⟩
theorem B6R.f0 (h:B6R W g x y z u v t):W.frozen? ⟨g,0,none⟩=false:=frozen_of_row W g 0 _ _ h
theorem B6R.f1 (h:B6R W g x y z u v t):W.frozen? ⟨g,1,none⟩=false:=frozen_of_row W g 1 _ _ h
theorem B6R.f2 (h:B6R W g x y z u v t):W.frozen? ⟨g,2,none⟩=false:=frozen_of_row W g 2 _ _ h
theorem B6R.f3 (h:B6R W g x y z u v t):W.frozen? ⟨g,3,none⟩=false:=frozen_of_row W g 3 _ _ h
theorem B6R.f4 (h:B6R W g x y z u v t):W.frozen? ⟨g,4,none⟩=false:=frozen_of_row W g 4 _ _ h
theorem B6R.f5 (h:B6R W g x y z u v t):W.frozen? ⟨g,5,none⟩=false:=frozen_of_row W g 5 _ _ h
theorem B6R.lt (h:B6R W g x y z u v t):g < W.heap.size:=World.block_lt_of_cell? W _ h.c0
theorem B6R.below (h:B6R W g x y z u v t) (hb:Below W.heap.size W W'):B6R W' g x y z u v t:=(hb.block g h.lt).trans h
theorem B6R.alloc (h:B6R W g x y z u v t) (o:Obj):B6R (W.alloc o) g x y z u v t:=(Below.heap_alloc W o g h.lt).trans h
theorem B6R.new' (W:World) (x y z u v t:Value) (g:Nat) (hg:g=W.heap.size):B6R (W.alloc (.cells #[x,y,z,u,v,t] 44)) g x y z u v t:=by subst hg;exact heap_alloc_new W _
end
theorem B6R.set6 {W:World} {g:Nat} {x y z u v t:Value} (h:B6R W g x y z u v t) (a b c d e f:Value):B6R ((((((W.setCell ⟨g,0,none⟩ a).setCell ⟨g,1,none⟩ b).setCell ⟨g,2,none⟩ c).setCell ⟨g,3,none⟩ d).setCell ⟨g,4,none⟩ e).setCell ⟨g,5,none⟩ f) g a b c d e f:=by
 unfold B6R at h ⊢
 simp [World.setCell,Array.getElem?_modify,h]
theorem Rd.off6R {K:IntKind} {W:World} {g:Nat} {s t:Bool} {A A1 A2 A3 A4:Option Addr} {n n1 c1 n2 c2 n3 c3 n4 c4:Nat} {l:List Nat} (hr:Rd K W A n l) (h:B6R W g (.bool s) (.slice A1 n1 c1) (.slice A2 n2 c2) (.bool t) (.slice A3 n3 c3) (.slice A4 n4 c4)):Off A n g:=by
 intro hn ad e hg
 obtain ⟨b,o,eA,hc⟩:=hr.at_ hn
 obtain ⟨x,_,hx⟩:=hc 0 hn
 rw [eA] at e
 cases e
 have hg2:b=g:=hg
 subst hg2
 rw [cell_of_row W b (o+0) _ _ (0,0) h] at hx
 match o,hx with
 | 0,hx=>cases hx
 | 1,hx=>cases hx
 | 2,hx=>cases hx
 | 3,hx=>cases hx
 | 4,hx=>cases hx
 | 5,hx=>cases hx
 | o+6,hx=>cases hx
def RP (w:World) (s:Bool) (A:Option Addr) (n c:Nat) (B:Option Addr) (m d:Nat) (t:Bool) (E:Option Addr) (i e:Nat) (F:Option Addr) (j f:Nat) (x y:Rat) (k:Nat):Prop:=RQ w s A n c B m d x k∧RQ w t E i e F j f y k
def QkB (w:World) (x y:Rat) (k:Nat) (en:Ending) (w':World):Prop :=
 ∃ s A n c B m d t E i e F j f,en=.returned (.agg #[.bool s,.slice A n c,.slice B m d,.bool t,.slice E i e,.slice F j f])∧RP w' s A n c B m d t E i e F j f x y k∧Below w.heap.size w w'
section
variable {w w':World} {s t:Bool} {A B E F:Option Addr} {n c m d i e j f k k1:Nat} {x y:Rat}
theorem RP.below (h:RP w s A n c B m d t E i e F j f x y k) (hb:Below w.heap.size w w'):RP w' s A n c B m d t E i e F j f x y k:=⟨h.1.below hb,h.2.below hb⟩
theorem RP.qx (h:RP w s A n c B m d t E i e F j f x y k):RQ w s A n c B m d x k:=h.1
theorem RP.qy (h:RP w s A n c B m d t E i e F j f x y k):RQ w t E i e F j f y k:=h.2
theorem RQ.onl {v:Rat} {g:Nat} (h:RQ w s A n c B m d v k) (h1:Off A n g) (h2:Off B m g) (ho:Only g w w'):RQ w' s A n c B m d v k:=⟨h.1.only h1 ho,h.2.only h2 ho⟩
theorem RP.set6 {s0 t0:Bool} {g:Nat} {A1 A2 A3 A4:Option Addr} {n1 c1 n2 c2 n3 c3 n4 c4:Nat} (h:RP w s A n c B m d t E i e F j f x y k) (Z:B6R w g (.bool s0) (.slice A1 n1 c1) (.slice A2 n2 c2) (.bool t0) (.slice A3 n3 c3) (.slice A4 n4 c4)) (a1 a2 a3 a4 a5 a6:Value) :
 RP ((((((w.setCell ⟨g,0,none⟩ a1).setCell ⟨g,1,none⟩ a2).setCell ⟨g,2,none⟩ a3).setCell ⟨g,3,none⟩ a4).setCell ⟨g,4,none⟩ a5).setCell ⟨g,5,none⟩ a6) s A n c B m d t E i e F j f x y k:=by
 have ho:Only g w ((((((w.setCell ⟨g,0,none⟩ a1).setCell ⟨g,1,none⟩ a2).setCell ⟨g,2,none⟩ a3).setCell ⟨g,3,none⟩ a4).setCell ⟨g,4,none⟩ a5).setCell ⟨g,5,none⟩ a6):=((((((Only.refl g w).setCell 0 _).setCell 1 _).setCell 2 _).setCell 3 _).setCell 4 _).setCell 5 _
 exact ⟨h.1.onl (h.1.1.2.1.off6R Z) (h.1.2.1.off6R Z) ho,h.2.onl (h.2.1.2.1.off6R Z) (h.2.2.1.off6R Z) ho⟩
end
theorem Qm4 {w W:World} {x0 x1 x2 x3 x4 x5:Value} (h:(w.alloc (Obj.cells #[x0,x1,x2,x3,x4,x5] 44))=W):Below w.heap.size w W∧B6R W (w.heap.size) x0 x1 x2 x3 x4 x5∧W.heap.size=w.heap.size+1:=by subst h;exact ⟨by exact ((Below.refl _ _).alloc (Nat.le_refl _) _),by exact B6R.new' _ _ _ _ _ _ _ _ rfl,by simp⟩
theorem rof6 (x y:Int) (hx1:-9223372036854775808≤x) (hx2:x < 9223372036854775808) (hy1:-9223372036854775808≤y) (hy2:y < 9223372036854775808) (w:World) :
 Calls Tryz.prog 59 #[.int .i64 x,.int .i64 y] w (QkB w (Rat.divInt x 1) (Rat.divInt y 1) 2):=by
 have H1:=Lib.hid hx1;have H2:=Lib.hid hx2;have H3:=Lib.hid hy1;have H4:=Lib.hid hy2;clear hx1 hx2 hy1 hy2
 go_enter Tryz.func59,Tryz.ntmps59
 go_upto_region 1 with (fail)
 generalize hW:World.alloc _ _=W
 obtain ⟨hb,Z,hzW⟩:=Qm4 hW;clear hW
 go_wp2_with (first
  | (go_at_call 97;(with_reducible refine (rof3 x 1 H1.out H2.out (by decide) (by decide) (by decide) _).mono ?_);rintro e w_r ⟨s_r,A_r,n_r,c_r,B_r,m_r,d_r,rfl,r,hh⟩
     (try replace Z:=Z.below hh);replace hb:=Qaj hb hh)
  | (go_at_call 97;(with_reducible refine (rof3 y 1 H3.out H4.out (by decide) (by decide) (by decide) _).mono ?_);rintro e w_u ⟨s_u,A_u,n_u,c_u,B_u,m_u,d_u,rfl,u,hh⟩
     (try replace Z:=Z.below hh);(try replace r:=r.below hh);replace hb:=Qaj hb hh;have zg0:=Z.f0;have zg1:=Z.f1;have zg2:=Z.f2;have zg3:=Z.f3;have zg4:=Z.f4;have zg5:=Z.f5;obtain ⟨zc0,zc1,zc2,zc3,zc4,zc5⟩:=Z.all))
 have Z2:=Z.set6 (.bool s_r) (.slice A_r n_r c_r) (.slice B_r m_r d_r) (.bool s_u) (.slice A_u n_u c_u) (.slice B_u m_u d_u)
 obtain ⟨g0,g1,g2,g3,g4,g5⟩:=Z2.all
 refine bodyPost_ret (v:=.agg #[.bool s_r,.slice A_r n_r c_r,.slice B_r m_r d_r,.bool s_u,.slice A_u n_u c_u,.slice B_u m_u d_u]) (by simp [results,Tryz.results59,go_sem,g0,g1,g2,g3,g4,g5]) rfl ?_
 exact ⟨_,_,_,_,_,_,_,_,_,_,_,_,_,_,rfl,(show RP _ _ _ _ _ _ _ _ _ _ _ _ _ _ _ _ _ _ from ⟨r,u⟩).set6 Z _ _ _ _ _ _,QaE hb (by omega) _ _ _ _ _ _⟩
theorem Qoq {w W:World} {x0 x1 x2 x3 x4 x5 x6 x7 x8 x9 x10 x11:Value} (h:((w.alloc (Obj.cells #[x0,x1,x2,x3,x4,x5] 44)).alloc (Obj.cells #[x6,x7,x8,x9,x10,x11] 29))=W):Below w.heap.size w W∧B6R W (w.heap.size) x0 x1 x2 x3 x4 x5∧B6 W (w.heap.size+1) x6 x7 x8 x9 x10 x11∧W.heap.size=w.heap.size+2:=by subst h;exact ⟨by exact (((Below.refl _ _).alloc (Nat.le_refl _) _).alloc (by simp) _),by exact (B6R.new' _ _ _ _ _ _ _ _ rfl).alloc _,by exact B6.new' _ _ _ _ _ _ _ _ (by simp),by simp⟩
theorem rout6 {k:Nat} {x y:Rat} (p:RP w s_p A_p n_p c_p B_p m_p d_p t_p E_p i_p e_p F_p j_p f_p x y k) (hk:k≤100000) (K:Nat) (h1:x.num.natAbs < B64 ^ K) (h2:x.den < B64 ^ K) (h3:y.num.natAbs < B64 ^ K) (h4:y.den < B64 ^ K) :
 Calls Tryz.prog 58 #[.agg #[.bool s_p,.slice A_p n_p c_p,.slice B_p m_p d_p,.bool t_p,.slice E_p i_p e_p,.slice F_p j_p f_p]] w (QcU w x y K):=by
 have H1:=Lib.hid h1;have H2:=Lib.hid h2;have H3:=Lib.hid h3;have H4:=Lib.hid h4;clear h1 h2 h3 h4
 go_enter Tryz.func58,Tryz.ntmps58
 go_upto_region 1 with (fail)
 generalize hW:World.alloc _ _=W
 obtain ⟨hb,XA,Z,hzW⟩:=Qoq hW;clear hW;replace p:=p.below hb
 replace p:=p.below (Below.refl _ _).drew
 replace XA:=XA.below (Below.refl _ _).drew
 replace Z:=Z.below (Below.refl _ _).drew
 replace hb:=hb.drew
 go_region_held3 (fun w'=>w'.cell? ⟨w.heap.size,0,none⟩=some (.bool s_p)∧w'.cell? ⟨w.heap.size,1,none⟩=some (.slice A_p n_p c_p)∧w'.cell? ⟨w.heap.size,2,none⟩=some (.slice B_p m_p d_p)∧w'.cell? ⟨w.heap.size,3,none⟩=some (.bool t_p)∧w'.cell? ⟨w.heap.size,4,none⟩=some (.slice E_p i_p e_p)∧w'.cell? ⟨w.heap.size,5,none⟩=some (.slice F_p j_p f_p))
  (first | with_reducible exact ⟨XA.c0,XA.c1,XA.c2,XA.c3,XA.c4,XA.c5⟩ | with_reducible exact ⟨(Qat _ _ _ _ _ _ _ _ _ _ (by omega)).trans XA.c0,(Qat _ _ _ _ _ _ _ _ _ _ (by omega)).trans XA.c1,(Qat _ _ _ _ _ _ _ _ _ _ (by omega)).trans XA.c2,(Qat _ _ _ _ _ _ _ _ _ _ (by omega)).trans XA.c3,(Qat _ _ _ _ _ _ _ _ _ _ (by omega)).trans XA.c4,(Qat _ _ _ _ _ _ _ _ _ _ (by omega)).trans XA.c5⟩)
  (first
  | (go_at_call 96;(with_reducible refine (Qq8 p.qx hk K H1.out H2.out).mono ?_);rintro e w_r ⟨s_r,A_r,n_r,c_r,B_r,m_r,d_r,rfl,r,hh⟩
     (try replace p:=p.below hh);(try replace XA:=XA.below hh);(try replace Z:=Z.below hh);replace hb:=Qaj hb hh)
  | (go_at_call 96;(with_reducible refine (Qq8 p.qy hk K H3.out H4.out).mono ?_);rintro e w_u ⟨s_u,A_u,n_u,c_u,B_u,m_u,d_u,rfl,u,hh⟩
     (try replace p:=p.below hh);(try replace r:=r.below hh);(try replace XA:=XA.below hh);(try replace Z:=Z.below hh);replace hb:=Qaj hb hh;have zg0:=Z.f0;have zg1:=Z.f1;have zg2:=Z.f2;have zg3:=Z.f3;have zg4:=Z.f4;have zg5:=Z.f5;obtain ⟨zc0,zc1,zc2,zc3,zc4,zc5⟩:=Z.all))
 go_wp2_with fail
 have Z2:=Z.set6 (.bool s_r) (.slice A_r n_r c_r) (.slice B_r m_r d_r) (.bool s_u) (.slice A_u n_u c_u) (.slice B_u m_u d_u)
 obtain ⟨g0,g1,g2,g3,g4,g5⟩:=Z2.all
 refine bodyPost_ret (v:=.agg #[.bool s_r,.slice A_r n_r c_r,.slice B_r m_r d_r,.bool s_u,.slice A_u n_u c_u,.slice B_u m_u d_u]) (by simp [results,Tryz.results58,go_sem,g0,g1,g2,g3,g4,g5]) rfl ?_
 exact ⟨_,_,_,_,_,_,_,_,_,_,_,_,_,_,rfl,(show PG _ _ _ _ _ _ _ _ _ _ _ _ _ _ _ _ _ _ from ⟨r,u⟩).set6 Z _ _ _ _ _ _,QaE hb (by omega) _ _ _ _ _ _⟩
theorem Qlv {x:Int} (h1:-9223372036854775808≤x) (h2:x < 9223372036854775808):(Rat.divInt x 1).num.natAbs < B64 ^ 1∧(Rat.divInt x 1).den < B64 ^ 1:=by
 rw [(QjP x).1,(QjP x).2,Nat.pow_one]
 have:B64=18446744073709551616:=rfl
 omega
theorem Qpe (x y:Int) (hx1:-9223372036854775808≤x) (hx2:x < 9223372036854775808) (hy1:-9223372036854775808≤y) (hy2:y < 9223372036854775808) (w:World) :
 Calls Tryz.prog 23 #[.int .i64 x,.int .i64 y] w (QcU w (Rat.divInt x 1) (Rat.divInt y 1) 1):=by
 have HX:=Lib.hid (Qlv hx1 hx2)
 have HY:=Lib.hid (Qlv hy1 hy2)
 have H1:=Lib.hid hx1;have H2:=Lib.hid hx2;have H3:=Lib.hid hy1;have H4:=Lib.hid hy2;clear hx1 hx2 hy1 hy2
 go_enter Tryz.func23,Tryz.ntmps23
 go_upto_region 1 with (fail)
 generalize hW:World.alloc _ _=W
 obtain ⟨hb,Z,hzW⟩:=QaD hW;clear hW
 go_wp2_with (first
  | (go_at_call 59;(with_reducible refine (rof6 x y H1.out H2.out H3.out H4.out _).mono ?_);rintro e w_r ⟨s_r,A_r,n_r,c_r,B_r,m_r,d_r,t_r,E_r,i_r,e_r,F_r,j_r,f_r,rfl,r,hh⟩
     (try replace Z:=Z.below hh);replace hb:=Qaj hb hh)
  | (go_at_call 58;(with_reducible refine (rout6 r (by decide) 1 HX.out.1 HX.out.2 HY.out.1 HY.out.2).mono ?_);rintro e w_u ⟨s_u,A_u,n_u,c_u,B_u,m_u,d_u,t_u,E_u,i_u,e_u,F_u,j_u,f_u,rfl,u,hh⟩
     (try replace Z:=Z.below hh);replace hb:=Qaj hb hh;have zg0:=Z.f0;have zg1:=Z.f1;have zg2:=Z.f2;have zg3:=Z.f3;have zg4:=Z.f4;have zg5:=Z.f5;obtain ⟨zc0,zc1,zc2,zc3,zc4,zc5⟩:=Z.all))
 have Z2:=Z.set6 (.bool s_u) (.slice A_u n_u c_u) (.slice B_u m_u d_u) (.bool t_u) (.slice E_u i_u e_u) (.slice F_u j_u f_u)
 obtain ⟨g0,g1,g2,g3,g4,g5⟩:=Z2.all
 refine bodyPost_ret (v:=.agg #[.bool s_u,.slice A_u n_u c_u,.slice B_u m_u d_u,.bool t_u,.slice E_u i_u e_u,.slice F_u j_u f_u]) (by simp [results,Tryz.results23,go_sem,g0,g1,g2,g3,g4,g5]) rfl ?_
 exact ⟨s_u,A_u,n_u,c_u,B_u,m_u,d_u,t_u,E_u,i_u,e_u,F_u,j_u,f_u,rfl,u.set6 Z _ _ _ _ _ _,QaE hb (by omega) _ _ _ _ _ _⟩
theorem Qo1 (h:¬ (n_p≤6∧m_p≤6)) :
 Calls Tryz.prog 47 #[.agg #[.bool s_p,.slice A_p n_p c_p,.slice B_p m_p d_p,.bool t_p,.slice E_p i_p e_p,.slice F_p j_p f_p],.int .i64 6] w fun e w'=>e=.returned (.bool false)∧Below w.heap.size w w':=by
 have HL:Hid (decide (n_p≤6∧m_p≤6)=false):=decide_eq_false h
 clear h
 go_enter Tryz.func47,Tryz.ntmps47
 go_wp2_with fail
 generalize hW:World.alloc _ _=W
 obtain ⟨hb,XA,hzW⟩:=QaD hW;clear hW;obtain ⟨xa0,xa1,xa2,xa3,xa4,xa5⟩:=XA.all
 go_wp2_with (first
  | (go_at_call 85;(with_reducible refine (QkN (s:=s_p) (A:=A_p) (n:=n_p) (c:=c_p) (A':=B_p) (n':=m_p) (c':=d_p) _ false HL.out).mono ?_);rintro e w_z ⟨rfl,hh⟩
     (try replace XA:=XA.below hh);replace hb:=Qaj hb hh;obtain ⟨xa0,xa1,xa2,xa3,xa4,xa5⟩:=XA.all))
 go_ret;exact ⟨rfl,hb⟩
theorem Qnd (h:n_p≤6∧m_p≤6) :
 Calls Tryz.prog 47 #[.agg #[.bool s_p,.slice A_p n_p c_p,.slice B_p m_p d_p,.bool t_p,.slice E_p i_p e_p,.slice F_p j_p f_p],.int .i64 6] w fun e w'=>e=.returned (.bool (decide (i_p≤6∧j_p≤6)))∧Below w.heap.size w w':=by
 have HL:Hid (decide (n_p≤6∧m_p≤6)=true):=decide_eq_true h
 obtain ⟨M,hM⟩:∃ M,decide (i_p≤6∧j_p≤6)=M:=⟨_,rfl⟩
 have HM:=Lib.hid hM;rw [hM];clear hM;clear h
 go_enter Tryz.func47,Tryz.ntmps47
 go_wp2_with fail
 generalize hW:World.alloc _ _=W
 obtain ⟨hb,XA,hzW⟩:=QaD hW;clear hW;obtain ⟨xa0,xa1,xa2,xa3,xa4,xa5⟩:=XA.all
 go_wp2_with (first
  | (go_at_call 85;(with_reducible refine (QkN (s:=s_p) (A:=A_p) (n:=n_p) (c:=c_p) (A':=B_p) (n':=m_p) (c':=d_p) _ true HL.out).mono ?_);rintro e w_z ⟨rfl,hh⟩
     (try replace XA:=XA.below hh);replace hb:=Qaj hb hh;obtain ⟨xa0,xa1,xa2,xa3,xa4,xa5⟩:=XA.all)
  | (go_at_call 85;(with_reducible refine (QkN (s:=t_p) (A:=E_p) (n:=i_p) (c:=e_p) (A':=F_p) (n':=j_p) (c':=f_p) _ M HM.out).mono ?_);rintro e w_z ⟨rfl,hh⟩
     (try replace XA:=XA.below hh);replace hb:=Qaj hb hh;obtain ⟨xa0,xa1,xa2,xa3,xa4,xa5⟩:=XA.all))
 go_ret;exact ⟨rfl,hb⟩
theorem Qcc (L:Bool) (hL:decide ((n_p≤6∧m_p≤6)∧i_p≤6∧j_p≤6)=L) :
 Calls Tryz.prog 47 #[.agg #[.bool s_p,.slice A_p n_p c_p,.slice B_p m_p d_p,.bool t_p,.slice E_p i_p e_p,.slice F_p j_p f_p],.int .i64 6] w fun e w'=>e=.returned (.bool L)∧Below w.heap.size w w':=by
 subst hL
 by_cases h:n_p≤6∧m_p≤6
 · have e:decide (i_p≤6∧j_p≤6)=decide ((n_p≤6∧m_p≤6)∧i_p≤6∧j_p≤6):=by simp [h]
   rw [← e];exact Qnd h
 · have e:false=decide ((n_p≤6∧m_p≤6)∧i_p≤6∧j_p≤6):=by simp [h]
   rw [← e];exact Qo1 h
section
variable {W W':World} {g:Nat} {v0 v1 v2 v3 v4 v5 v6 v7 v8 v9 v10 v11:Value}
end
def BL3 (W:World) (g:Nat) (v0:Value) (v1:Value) (v2:Value) (v3:Value) (v4:Value) (v5:Value) (v6:Value) (v7:Value) (v8:Value) (v9:Value) (v10:Value) (v11:Value) (v12:Value) (v13:Value) (v14:Value) (v15:Value) (v16:Value) (v17:Value):Prop:=W.heap[g]?=some (.cells #[v0,v1,v2,v3,v4,v5,v6,v7,v8,v9,v10,v11,v12,v13,v14,v15,v16,v17] 29 (0,0))
section
variable {W W':World} {g:Nat} {v0 v1 v2 v3 v4 v5 v6 v7 v8 v9 v10 v11 v12 v13 v14 v15 v16 v17:Value}
theorem BL3.c0 (h:BL3 W g v0 v1 v2 v3 v4 v5 v6 v7 v8 v9 v10 v11 v12 v13 v14 v15 v16 v17):W.cell? ⟨g,0,none⟩=some v0:=by rw [cell_of_row W g 0 _ _ (0,0) h];rfl
theorem BL3.c1 (h:BL3 W g v0 v1 v2 v3 v4 v5 v6 v7 v8 v9 v10 v11 v12 v13 v14 v15 v16 v17):W.cell? ⟨g,1,none⟩=some v1:=by rw [cell_of_row W g 1 _ _ (0,0) h];rfl
theorem BL3.c2 (h:BL3 W g v0 v1 v2 v3 v4 v5 v6 v7 v8 v9 v10 v11 v12 v13 v14 v15 v16 v17):W.cell? ⟨g,2,none⟩=some v2:=by rw [cell_of_row W g 2 _ _ (0,0) h];rfl
theorem BL3.c3 (h:BL3 W g v0 v1 v2 v3 v4 v5 v6 v7 v8 v9 v10 v11 v12 v13 v14 v15 v16 v17):W.cell? ⟨g,3,none⟩=some v3:=by rw [cell_of_row W g 3 _ _ (0,0) h];rfl
theorem BL3.c4 (h:BL3 W g v0 v1 v2 v3 v4 v5 v6 v7 v8 v9 v10 v11 v12 v13 v14 v15 v16 v17):W.cell? ⟨g,4,none⟩=some v4:=by rw [cell_of_row W g 4 _ _ (0,0) h];rfl
theorem BL3.c5 (h:BL3 W g v0 v1 v2 v3 v4 v5 v6 v7 v8 v9 v10 v11 v12 v13 v14 v15 v16 v17):W.cell? ⟨g,5,none⟩=some v5:=by rw [cell_of_row W g 5 _ _ (0,0) h];rfl
theorem BL3.c6 (h:BL3 W g v0 v1 v2 v3 v4 v5 v6 v7 v8 v9 v10 v11 v12 v13 v14 v15 v16 v17):W.cell? ⟨g,6,none⟩=some v6:=by rw [cell_of_row W g 6 _ _ (0,0) h];rfl
theorem BL3.c7 (h:BL3 W g v0 v1 v2 v3 v4 v5 v6 v7 v8 v9 v10 v11 v12 v13 v14 v15 v16 v17):W.cell? ⟨g,7,none⟩=some v7:=by rw [cell_of_row W g 7 _ _ (0,0) h];rfl
theorem BL3.c8 (h:BL3 W g v0 v1 v2 v3 v4 v5 v6 v7 v8 v9 v10 v11 v12 v13 v14 v15 v16 v17):W.cell? ⟨g,8,none⟩=some v8:=by rw [cell_of_row W g 8 _ _ (0,0) h];rfl
theorem BL3.c9 (h:BL3 W g v0 v1 v2 v3 v4 v5 v6 v7 v8 v9 v10 v11 v12 v13 v14 v15 v16 v17):W.cell? ⟨g,9,none⟩=some v9:=by rw [cell_of_row W g 9 _ _ (0,0) h];rfl
theorem BL3.c10 (h:BL3 W g v0 v1 v2 v3 v4 v5 v6 v7 v8 v9 v10 v11 v12 v13 v14 v15 v16 v17):W.cell? ⟨g,10,none⟩=some v10:=by rw [cell_of_row W g 10 _ _ (0,0) h];rfl
theorem BL3.c11 (h:BL3 W g v0 v1 v2 v3 v4 v5 v6 v7 v8 v9 v10 v11 v12 v13 v14 v15 v16 v17):W.cell? ⟨g,11,none⟩=some v11:=by rw [cell_of_row W g 11 _ _ (0,0) h];rfl
theorem BL3.c12 (h:BL3 W g v0 v1 v2 v3 v4 v5 v6 v7 v8 v9 v10 v11 v12 v13 v14 v15 v16 v17):W.cell? ⟨g,12,none⟩=some v12:=by rw [cell_of_row W g 12 _ _ (0,0) h];rfl
theorem BL3.c13 (h:BL3 W g v0 v1 v2 v3 v4 v5 v6 v7 v8 v9 v10 v11 v12 v13 v14 v15 v16 v17):W.cell? ⟨g,13,none⟩=some v13:=by rw [cell_of_row W g 13 _ _ (0,0) h];rfl
theorem BL3.c14 (h:BL3 W g v0 v1 v2 v3 v4 v5 v6 v7 v8 v9 v10 v11 v12 v13 v14 v15 v16 v17):W.cell? ⟨g,14,none⟩=some v14:=by rw [cell_of_row W g 14 _ _ (0,0) h];rfl
theorem BL3.c15 (h:BL3 W g v0 v1 v2 v3 v4 v5 v6 v7 v8 v9 v10 v11 v12 v13 v14 v15 v16 v17):W.cell? ⟨g,15,none⟩=some v15:=by rw [cell_of_row W g 15 _ _ (0,0) h];rfl
theorem BL3.c16 (h:BL3 W g v0 v1 v2 v3 v4 v5 v6 v7 v8 v9 v10 v11 v12 v13 v14 v15 v16 v17):W.cell? ⟨g,16,none⟩=some v16:=by rw [cell_of_row W g 16 _ _ (0,0) h];rfl
theorem BL3.c17 (h:BL3 W g v0 v1 v2 v3 v4 v5 v6 v7 v8 v9 v10 v11 v12 v13 v14 v15 v16 v17):W.cell? ⟨g,17,none⟩=some v17:=by rw [cell_of_row W g 17 _ _ (0,0) h];rfl
theorem BL3.all (h:BL3 W g v0 v1 v2 v3 v4 v5 v6 v7 v8 v9 v10 v11 v12 v13 v14 v15 v16 v17):W.cell? ⟨g,0,none⟩=some v0∧W.cell? ⟨g,1,none⟩=some v1∧W.cell? ⟨g,2,none⟩=some v2∧W.cell? ⟨g,3,none⟩=some v3∧W.cell? ⟨g,4,none⟩=some v4∧W.cell? ⟨g,5,none⟩=some v5∧W.cell? ⟨g,6,none⟩=some v6∧W.cell? ⟨g,7,none⟩=some v7∧W.cell? ⟨g,8,none⟩=some v8∧W.cell? ⟨g,9,none⟩=some v9∧W.cell? ⟨g,10,none⟩=some v10∧W.cell? ⟨g,11,none⟩=some v11∧W.cell? ⟨g,12,none⟩=some v12∧W.cell? ⟨g,13,none⟩=some v13∧W.cell? ⟨g,14,none⟩=some v14∧W.cell? ⟨g,15,none⟩=some v15∧W.cell? ⟨g,16,none⟩=some v16∧W.cell? ⟨g,17,none⟩=some v17:=⟨h.c0,h.c1,h.c2,h.c3,h.c4,h.c5,h.c6,h.c7,h.c8,h.c9,h.c10,h.c11,h.c12,h.c13,h.c14,h.c15,h.c16,h.c17⟩
theorem BL3.lt (h:BL3 W g v0 v1 v2 v3 v4 v5 v6 v7 v8 v9 v10 v11 v12 v13 v14 v15 v16 v17):g < W.heap.size:=World.block_lt_of_cell? W _ h.c0
theorem BL3.below (h:BL3 W g v0 v1 v2 v3 v4 v5 v6 v7 v8 v9 v10 v11 v12 v13 v14 v15 v16 v17) (hb:Below W.heap.size W W'):BL3 W' g v0 v1 v2 v3 v4 v5 v6 v7 v8 v9 v10 v11 v12 v13 v14 v15 v16 v17:=(hb.block g h.lt).trans h
end
theorem BL3.new' (W:World) (v0 v1 v2 v3 v4 v5 v6 v7 v8 v9 v10 v11 v12 v13 v14 v15 v16 v17:Value) (g:Nat) (hg:g=W.heap.size):BL3 (W.alloc (.cells #[v0,v1,v2,v3,v4,v5,v6,v7,v8,v9,v10,v11,v12,v13,v14,v15,v16,v17] 29)) g v0 v1 v2 v3 v4 v5 v6 v7 v8 v9 v10 v11 v12 v13 v14 v15 v16 v17:=by subst hg;exact heap_alloc_new W _
theorem Qsk {g:Nat} (L:BL3 w g (.bool s_p) (.slice A_p n_p c_p) (.slice B_p m_p d_p) (.bool t_p) (.slice E_p i_p e_p) (.slice F_p j_p f_p) (.bool s_q) (.slice A_q n_q c_q) (.slice B_q m_q d_q) (.bool t_q) (.slice E_q i_q e_q) (.slice F_q j_q f_q) (.bool s_r) (.slice A_r n_r c_r) (.slice B_r m_r d_r) (.bool t_r) (.slice E_r i_r e_r) (.slice F_r j_r f_r)) (h0:decide ((n_p≤6∧m_p≤6)∧i_p≤6∧j_p≤6)=false) :
 Calls Tryz.prog 19 #[.slice (some ⟨g,0,none⟩) 3 3,.int .i64 6] w fun e w'=>e=.returned (.bool false)∧Below w.heap.size w w':=by
 have H0:=Lib.hid h0;clear h0
 have hb:Below w.heap.size w w:=Below.refl _ _
 obtain ⟨l0,l1,l2,l3,l4,l5,l6,l7,l8,l9,l10,l11,l12,l13,l14,l15,l16,l17⟩:=L.all
 go_enter Tryz.func19,Tryz.ntmps19
 go_wp2_with fail
 refine wp_loop_rounds 4 ?_
 rw [rounds_succ]
 go_wp2_with (first
  | (go_at_call 47;(with_reducible refine (Qcc (s_p:=s_p) (A_p:=A_p) (n_p:=n_p) (c_p:=c_p) (B_p:=B_p) (m_p:=m_p) (d_p:=d_p) (t_p:=t_p) (E_p:=E_p) (i_p:=i_p) (e_p:=e_p) (F_p:=F_p) (j_p:=j_p) (f_p:=f_p) false H0.out).mono ?_);rintro e w_z ⟨rfl,hh⟩
     (try replace L:=L.below hh);replace hb:=Qaj hb hh;obtain ⟨l0,l1,l2,l3,l4,l5,l6,l7,l8,l9,l10,l11,l12,l13,l14,l15,l16,l17⟩:=L.all))
 go_ret;exact ⟨rfl,hb⟩
theorem QsU {g:Nat} (L:BL3 w g (.bool s_p) (.slice A_p n_p c_p) (.slice B_p m_p d_p) (.bool t_p) (.slice E_p i_p e_p) (.slice F_p j_p f_p) (.bool s_q) (.slice A_q n_q c_q) (.slice B_q m_q d_q) (.bool t_q) (.slice E_q i_q e_q) (.slice F_q j_q f_q) (.bool s_r) (.slice A_r n_r c_r) (.slice B_r m_r d_r) (.bool t_r) (.slice E_r i_r e_r) (.slice F_r j_r f_r)) (h0:decide ((n_p≤6∧m_p≤6)∧i_p≤6∧j_p≤6)=true) (h1:decide ((n_q≤6∧m_q≤6)∧i_q≤6∧j_q≤6)=false) :
 Calls Tryz.prog 19 #[.slice (some ⟨g,0,none⟩) 3 3,.int .i64 6] w fun e w'=>e=.returned (.bool false)∧Below w.heap.size w w':=by
 have H0:=Lib.hid h0;clear h0;have H1:=Lib.hid h1;clear h1
 have hb:Below w.heap.size w w:=Below.refl _ _
 obtain ⟨l0,l1,l2,l3,l4,l5,l6,l7,l8,l9,l10,l11,l12,l13,l14,l15,l16,l17⟩:=L.all
 go_enter Tryz.func19,Tryz.ntmps19
 go_wp2_with fail
 refine wp_loop_rounds 4 ?_
 rw [rounds_succ]
 go_wp2_with (first
  | (go_at_call 47;(with_reducible refine (Qcc (s_p:=s_p) (A_p:=A_p) (n_p:=n_p) (c_p:=c_p) (B_p:=B_p) (m_p:=m_p) (d_p:=d_p) (t_p:=t_p) (E_p:=E_p) (i_p:=i_p) (e_p:=e_p) (F_p:=F_p) (j_p:=j_p) (f_p:=f_p) true H0.out).mono ?_);rintro e w_z ⟨rfl,hh⟩
     (try replace L:=L.below hh);replace hb:=Qaj hb hh;obtain ⟨l0,l1,l2,l3,l4,l5,l6,l7,l8,l9,l10,l11,l12,l13,l14,l15,l16,l17⟩:=L.all))
 rw [rounds_succ]
 go_wp2_with (first
  | (go_at_call 47;(with_reducible refine (Qcc (s_p:=s_q) (A_p:=A_q) (n_p:=n_q) (c_p:=c_q) (B_p:=B_q) (m_p:=m_q) (d_p:=d_q) (t_p:=t_q) (E_p:=E_q) (i_p:=i_q) (e_p:=e_q) (F_p:=F_q) (j_p:=j_q) (f_p:=f_q) false H1.out).mono ?_);rintro e w_z ⟨rfl,hh⟩
     (try replace L:=L.below hh);replace hb:=Qaj hb hh;obtain ⟨l0,l1,l2,l3,l4,l5,l6,l7,l8,l9,l10,l11,l12,l13,l14,l15,l16,l17⟩:=L.all))
 go_ret;exact ⟨rfl,hb⟩
theorem QsA {g:Nat} (L:BL3 w g (.bool s_p) (.slice A_p n_p c_p) (.slice B_p m_p d_p) (.bool t_p) (.slice E_p i_p e_p) (.slice F_p j_p f_p) (.bool s_q) (.slice A_q n_q c_q) (.slice B_q m_q d_q) (.bool t_q) (.slice E_q i_q e_q) (.slice F_q j_q f_q) (.bool s_r) (.slice A_r n_r c_r) (.slice B_r m_r d_r) (.bool t_r) (.slice E_r i_r e_r) (.slice F_r j_r f_r)) (h0:decide ((n_p≤6∧m_p≤6)∧i_p≤6∧j_p≤6)=true) (h1:decide ((n_q≤6∧m_q≤6)∧i_q≤6∧j_q≤6)=true) (h2:decide ((n_r≤6∧m_r≤6)∧i_r≤6∧j_r≤6)=false) :
 Calls Tryz.prog 19 #[.slice (some ⟨g,0,none⟩) 3 3,.int .i64 6] w fun e w'=>e=.returned (.bool false)∧Below w.heap.size w w':=by
 have H0:=Lib.hid h0;clear h0;have H1:=Lib.hid h1;clear h1;have H2:=Lib.hid h2;clear h2
 have hb:Below w.heap.size w w:=Below.refl _ _
 obtain ⟨l0,l1,l2,l3,l4,l5,l6,l7,l8,l9,l10,l11,l12,l13,l14,l15,l16,l17⟩:=L.all
 go_enter Tryz.func19,Tryz.ntmps19
 go_wp2_with fail
 refine wp_loop_rounds 4 ?_
 rw [rounds_succ]
 go_wp2_with (first
  | (go_at_call 47;(with_reducible refine (Qcc (s_p:=s_p) (A_p:=A_p) (n_p:=n_p) (c_p:=c_p) (B_p:=B_p) (m_p:=m_p) (d_p:=d_p) (t_p:=t_p) (E_p:=E_p) (i_p:=i_p) (e_p:=e_p) (F_p:=F_p) (j_p:=j_p) (f_p:=f_p) true H0.out).mono ?_);rintro e w_z ⟨rfl,hh⟩
     (try replace L:=L.below hh);replace hb:=Qaj hb hh;obtain ⟨l0,l1,l2,l3,l4,l5,l6,l7,l8,l9,l10,l11,l12,l13,l14,l15,l16,l17⟩:=L.all))
 rw [rounds_succ]
 go_wp2_with (first
  | (go_at_call 47;(with_reducible refine (Qcc (s_p:=s_q) (A_p:=A_q) (n_p:=n_q) (c_p:=c_q) (B_p:=B_q) (m_p:=m_q) (d_p:=d_q) (t_p:=t_q) (E_p:=E_q) (i_p:=i_q) (e_p:=e_q) (F_p:=F_q) (j_p:=j_q) (f_p:=f_q) true H1.out).mono ?_);rintro e w_z ⟨rfl,hh⟩
     (try replace L:=L.below hh);replace hb:=Qaj hb hh;obtain ⟨l0,l1,l2,l3,l4,l5,l6,l7,l8,l9,l10,l11,l12,l13,l14,l15,l16,l17⟩:=L.all))
 rw [rounds_succ]
 go_wp2_with (first
  | (go_at_call 47;(with_reducible refine (Qcc (s_p:=s_r) (A_p:=A_r) (n_p:=n_r) (c_p:=c_r) (B_p:=B_r) (m_p:=m_r) (d_p:=d_r) (t_p:=t_r) (E_p:=E_r) (i_p:=i_r) (e_p:=e_r) (F_p:=F_r) (j_p:=j_r) (f_p:=f_r) false H2.out).mono ?_);rintro e w_z ⟨rfl,hh⟩
     (try replace L:=L.below hh);replace hb:=Qaj hb hh;obtain ⟨l0,l1,l2,l3,l4,l5,l6,l7,l8,l9,l10,l11,l12,l13,l14,l15,l16,l17⟩:=L.all))
 go_ret;exact ⟨rfl,hb⟩
theorem Qsh {g:Nat} (L:BL3 w g (.bool s_p) (.slice A_p n_p c_p) (.slice B_p m_p d_p) (.bool t_p) (.slice E_p i_p e_p) (.slice F_p j_p f_p) (.bool s_q) (.slice A_q n_q c_q) (.slice B_q m_q d_q) (.bool t_q) (.slice E_q i_q e_q) (.slice F_q j_q f_q) (.bool s_r) (.slice A_r n_r c_r) (.slice B_r m_r d_r) (.bool t_r) (.slice E_r i_r e_r) (.slice F_r j_r f_r)) (h0:decide ((n_p≤6∧m_p≤6)∧i_p≤6∧j_p≤6)=true) (h1:decide ((n_q≤6∧m_q≤6)∧i_q≤6∧j_q≤6)=true) (h2:decide ((n_r≤6∧m_r≤6)∧i_r≤6∧j_r≤6)=true) :
 Calls Tryz.prog 19 #[.slice (some ⟨g,0,none⟩) 3 3,.int .i64 6] w fun e w'=>e=.returned (.bool true)∧Below w.heap.size w w':=by
 have H0:=Lib.hid h0;clear h0;have H1:=Lib.hid h1;clear h1;have H2:=Lib.hid h2;clear h2
 have hb:Below w.heap.size w w:=Below.refl _ _
 obtain ⟨l0,l1,l2,l3,l4,l5,l6,l7,l8,l9,l10,l11,l12,l13,l14,l15,l16,l17⟩:=L.all
 go_enter Tryz.func19,Tryz.ntmps19
 go_wp2_with fail
 refine wp_loop_rounds 4 ?_
 rw [rounds_succ]
 go_wp2_with (first
  | (go_at_call 47;(with_reducible refine (Qcc (s_p:=s_p) (A_p:=A_p) (n_p:=n_p) (c_p:=c_p) (B_p:=B_p) (m_p:=m_p) (d_p:=d_p) (t_p:=t_p) (E_p:=E_p) (i_p:=i_p) (e_p:=e_p) (F_p:=F_p) (j_p:=j_p) (f_p:=f_p) true H0.out).mono ?_);rintro e w_z ⟨rfl,hh⟩
     (try replace L:=L.below hh);replace hb:=Qaj hb hh;obtain ⟨l0,l1,l2,l3,l4,l5,l6,l7,l8,l9,l10,l11,l12,l13,l14,l15,l16,l17⟩:=L.all))
 rw [rounds_succ]
 go_wp2_with (first
  | (go_at_call 47;(with_reducible refine (Qcc (s_p:=s_q) (A_p:=A_q) (n_p:=n_q) (c_p:=c_q) (B_p:=B_q) (m_p:=m_q) (d_p:=d_q) (t_p:=t_q) (E_p:=E_q) (i_p:=i_q) (e_p:=e_q) (F_p:=F_q) (j_p:=j_q) (f_p:=f_q) true H1.out).mono ?_);rintro e w_z ⟨rfl,hh⟩
     (try replace L:=L.below hh);replace hb:=Qaj hb hh;obtain ⟨l0,l1,l2,l3,l4,l5,l6,l7,l8,l9,l10,l11,l12,l13,l14,l15,l16,l17⟩:=L.all))
 rw [rounds_succ]
 go_wp2_with (first
  | (go_at_call 47;(with_reducible refine (Qcc (s_p:=s_r) (A_p:=A_r) (n_p:=n_r) (c_p:=c_r) (B_p:=B_r) (m_p:=m_r) (d_p:=d_r) (t_p:=t_r) (E_p:=E_r) (i_p:=i_r) (e_p:=e_r) (F_p:=F_r) (j_p:=j_r) (f_p:=f_r) true H2.out).mono ?_);rintro e w_z ⟨rfl,hh⟩
     (try replace L:=L.below hh);replace hb:=Qaj hb hh;obtain ⟨l0,l1,l2,l3,l4,l5,l6,l7,l8,l9,l10,l11,l12,l13,l14,l15,l16,l17⟩:=L.all))
 rw [rounds_succ]
 go_wp2_with fail
 go_ret;exact ⟨rfl,hb⟩
theorem line3 {g:Nat} (L:BL3 w g (.bool s_p) (.slice A_p n_p c_p) (.slice B_p m_p d_p) (.bool t_p) (.slice E_p i_p e_p) (.slice F_p j_p f_p) (.bool s_q) (.slice A_q n_q c_q) (.slice B_q m_q d_q) (.bool t_q) (.slice E_q i_q e_q) (.slice F_q j_q f_q) (.bool s_r) (.slice A_r n_r c_r) (.slice B_r m_r d_r) (.bool t_r) (.slice E_r i_r e_r) (.slice F_r j_r f_r)) (R:Bool) (hR:decide (((n_p≤6∧m_p≤6)∧i_p≤6∧j_p≤6)∧((n_q≤6∧m_q≤6)∧i_q≤6∧j_q≤6)∧((n_r≤6∧m_r≤6)∧i_r≤6∧j_r≤6))=R) :
 Calls Tryz.prog 19 #[.slice (some ⟨g,0,none⟩) 3 3,.int .i64 6] w fun e w'=>e=.returned (.bool R)∧Below w.heap.size w w':=by
 subst hR
 by_cases h0:(n_p≤6∧m_p≤6)∧i_p≤6∧j_p≤6
 case neg=>rw [decide_eq_false (fun q=>h0 q.1)];exact Qsk L  (decide_eq_false h0)
 by_cases h1:(n_q≤6∧m_q≤6)∧i_q≤6∧j_q≤6
 case neg=>rw [decide_eq_false (fun q=>h1 q.2.1)];exact QsU L (decide_eq_true h0) (decide_eq_false h1)
 by_cases h2:(n_r≤6∧m_r≤6)∧i_r≤6∧j_r≤6
 case neg=>rw [decide_eq_false (fun q=>h2 q.2.2)];exact QsA L (decide_eq_true h0) (decide_eq_true h1) (decide_eq_false h2)
 rw [decide_eq_true ⟨h0,h1,h2⟩];exact Qsh L (decide_eq_true h0) (decide_eq_true h1) (decide_eq_true h2)
theorem QsP {g:Nat} (L:BL3 w g (.bool s_p) (.slice A_p n_p c_p) (.slice B_p m_p d_p) (.bool t_p) (.slice E_p i_p e_p) (.slice F_p j_p f_p) (.bool s_q) (.slice A_q n_q c_q) (.slice B_q m_q d_q) (.bool t_q) (.slice E_q i_q e_q) (.slice F_q j_q f_q) (.bool s_r) (.slice A_r n_r c_r) (.slice B_r m_r d_r) (.bool t_r) (.slice E_r i_r e_r) (.slice F_r j_r f_r)) (R:Bool) (hR:decide (((n_p≤6∧m_p≤6)∧i_p≤6∧j_p≤6)∧((n_q≤6∧m_q≤6)∧i_q≤6∧j_q≤6)∧((n_r≤6∧m_r≤6)∧i_r≤6∧j_r≤6))=R) :
 Calls Tryz.prog 5 #[.slice (some ⟨g,0,none⟩) 3 3] w fun e w'=>e=.returned (.bool R)∧Below w.heap.size w w':=by
 have HR:=Lib.hid hR;clear hR
 have hb:Below w.heap.size w w:=Below.refl _ _
 go_enter Tryz.func5,Tryz.ntmps5
 go_wp2_with (first
  | (go_at_call 19;(with_reducible refine (line3 L R HR.out).mono ?_);rintro e w_z ⟨rfl,hh⟩
     replace hb:=Qaj hb hh))
 go_ret;exact ⟨rfl,hb⟩
end
section
open Go Go.RowKit
theorem Qfw (s:Bool) (A B:Option Addr) (n c m d:Nat) (t:Bool) (E F:Option Addr) (i e j f:Nat):∀ (x:Nat) (k:IntKind) (v:Int),(#[.bool s,.slice A n c,.slice B m d,.bool t,.slice E i e,.slice F j f]:Array Value)[x]? ≠ some (.int k v):=by
 intro x k v h
 match x,h with
 | 0,h=>cases h
 | 1,h=>cases h
 | 2,h=>cases h
 | 3,h=>cases h
 | 4,h=>cases h
 | 5,h=>cases h
 | x+6,h=>cases h
def VPG (x y:Rat) (k:Nat) (v:Value) (w:World):Prop:=∃ s A n c B m d t E i e F j f,v=.agg #[.bool s,.slice A n c,.slice B m d,.bool t,.slice E i e,.slice F j f]∧PG w s A n c B m d t E i e F j f x y k
theorem PG.box {T:TypeId} {w w':World} {g:Nat} {cs:Array Value} {s t:Bool} {A B E F:Option Addr} {n c m d i e j f:Nat} {x y:Rat} {k:Nat} (h:PG w s A n c B m d t E i e F j f x y k) (Z:BoxAt T w g cs) (ho:Only g w w'):PG w' s A n c B m d t E i e F j f x y k:=⟨h.1.box Z ho,h.2.box Z ho⟩
theorem QbQ (x y:Rat) (k:Nat):Stays (VPG x y k) :=
 ⟨fun _ _ _ ⟨s,A,n,c,B,m,d,t,E,i,e,F,j,f,h1,h2⟩ hb=>⟨s,A,n,c,B,m,d,t,E,i,e,F,j,f,h1,h2.below hb⟩,fun _ _ _ _ _ _ ⟨s,A,n,c,B,m,d,t,E,i,e,F,j,f,h1,h2⟩ hB ho=>⟨s,A,n,c,B,m,d,t,E,i,e,F,j,f,h1,h2.box hB ho⟩⟩
theorem QiY {e1:Operand→Value} {x1:Operand} {d1:Option Tmp} {y1 g:Nat} {pos:String} {af:Array Edge} {a b c d e f:Value} (h:e1 x1=.pointer (some ⟨g,0,none⟩)) (h0:w.cell? ⟨g,0,none⟩=some a) (h1:w.cell? ⟨g,1,none⟩=some b) (h2:w.cell? ⟨g,2,none⟩=some c) (h3:w.cell? ⟨g,3,none⟩=some d) (h4:w.cell? ⟨g,4,none⟩=some e) (h5:w.cell? ⟨g,5,none⟩=some f) :
 (execOp e1 ⟨d1,.load 29 x1,y1,pos,af,none⟩).run Tryz.prog w=.ok (.value (.agg #[a,b,c,d,e,f])) w:=by
 go_simp
theorem QcO {e1:Operand→Value} {d1:Option Tmp} {y1:Nat} {pos:String} {af:Array Edge} :
 (execOp e1 ⟨d1,.alloc 29,y1,pos,af,none⟩).run Tryz.prog w=.ok (.value (.pointer (some ⟨w.heap.size,0,none⟩))) (w.alloc (.cells #[.bool false,.slice none 0 0,.slice none 0 0,.bool false,.slice none 0 0,.slice none 0 0] 29)):=by
 go_simp
theorem Qhy {e1:Operand→Value} {x1 z1:Operand} {d1:Option Tmp} {y1 g:Nat} {pos:String} {af:Array Edge} {s t:Bool} {A B E F:Option Addr} {n c m d i e j f:Nat} {v0 v1 v2 v3 v4 v5:Value} (h:e1 x1=.pointer (some ⟨g,0,none⟩)) (hz:e1 z1=.agg #[.bool s,.slice A n c,.slice B m d,.bool t,.slice E i e,.slice F j f]) (Z:B6 w g v0 v1 v2 v3 v4 v5) :
 (execOp e1 ⟨d1,.store 29 x1 z1,y1,pos,af,none⟩).run Tryz.prog w=.ok .skip ((((((w.setCell ⟨g,0,none⟩ (.bool s)).setCell ⟨g,1,none⟩ (.slice A n c)).setCell ⟨g,2,none⟩ (.slice B m d)).setCell ⟨g,3,none⟩ (.bool t)).setCell ⟨g,4,none⟩ (.slice E i e)).setCell ⟨g,5,none⟩ (.slice F j f)):=by
 obtain ⟨c0,c1,c2,c3,c4,c5⟩:=Z.all;have f0:=Z.f0;have f1:=Z.f1;have f2:=Z.f2;have f3:=Z.f3;have f4:=Z.f4;have f5:=Z.f5
 go_simp
theorem Qqz {ac:Act} {x1 z:Operand} {y1 g:Nat} {pos:String} {af:Array Edge} {Q:Exit→Act→World→Prop} {x y:Rat} {k:Nat} (p1:ac.eval x1=.pointer (some ⟨g,0,none⟩)) (h:VPG x y k (ac.eval z) w) (B:BoxAt 29 w g #[.bool false,.slice none 0 0,.slice none 0 0,.bool false,.slice none 0 0,.slice none 0 0]) :
 (⟨none,.store 29 x1 z,y1,pos,af,none⟩:Oper).wp Tryz.prog ac w (fun a'' w''=>a''=ac∧Only g w w''∧∃ cs',BoxAt 29 w'' g cs'∧(fun cs w=>∃ s A n c B m d t E i e F j f,cs=#[.bool s,.slice A n c,.slice B m d,.bool t,.slice E i e,.slice F j f]∧PG w s A n c B m d t E i e F j f x y k) cs' w'') Q:=by
 obtain ⟨s,A,n,c,B1,m,d,t,E,i,e,F,j,f,h1,h2⟩:=h
 have Z:B6 w g (.bool false) (.slice none 0 0) (.slice none 0 0) (.bool false) (.slice none 0 0) (.slice none 0 0):=B.at_
 unfold Oper.wp
 rw [Qhy p1 h1 Z,Oper.upon_skip]
 have ho:=((((((Only.refl g w).setCell 0 (.bool s)).setCell 1 (.slice A n c)).setCell 2 (.slice B1 m d)).setCell 3 (.bool t)).setCell 4 (.slice E i e)).setCell 5 (.slice F j f)
 exact ⟨Qd7 ac undef,ho,#[.bool s,.slice A n c,.slice B1 m d,.bool t,.slice E i e,.slice F j f],⟨Z.set6 _ _ _ _ _ _,Qfw _ _ _ _ _ _ _ _ _ _ _ _ _ _⟩,s,A,n,c,B1,m,d,t,E,i,e,F,j,f,rfl,h2.box B ho⟩
theorem Qgd {e:Operand→Value} {x0 x1:Operand} {d:Option Tmp} {y:Nat} {pos:String} {af:Array Edge} {u0 u1:Value} (h0:e x0=u0) (h1:e x1=u1) (hf:e (.func 46)=.func (.func 46) #[] #[]) :
 (execOp e ⟨d,.call ⟨.value (.func 46),#[x0,x1],#[29,29]⟩,y,pos,af,none⟩).run Tryz.prog w=.ok (.enter 46 #[u0,u1]) w:=by
 go_simp
theorem QfI {e:Operand→Value} {x0 x1:Operand} {d:Option Tmp} {y:Nat} {pos:String} {af:Array Edge} {u0 u1:Value} (h0:e x0=u0) (h1:e x1=u1) (hf:e (.func 68)=.func (.func 68) #[] #[]) :
 (execOp e ⟨d,.call ⟨.value (.func 68),#[x0,x1],#[27,27]⟩,y,pos,af,none⟩).run Tryz.prog w=.ok (.enter 68 #[u0,u1]) w:=by
 go_simp
end
section
theorem QnR {V d:Nat} (h:0 < d) (h2:d < 10) (hV:V=d):txt V=[UInt8.ofNat (48+d)]:=by
 subst hV
 rw [txt,if_neg (by omega),QbT (by omega) h2 (by omega)]
 rfl
end
section
open Go Go.RowKit
theorem Qrq {v:Rat} {a:Nat} {l:List UInt8} (hn:v.num=(a:Int)) (hd:v.den=1) (ha:txt a=l):Qpp v=l:=by
 unfold Qpp
 rw [if_pos hd,hn]
 unfold Qlz
 rw [if_neg (by omega),show ((a:Int)).natAbs=a by omega,ha]
end
section
open Go Go.RowKit
theorem QR.of_rd {s:Bool} {A A':Option Addr} {n c n' c' k:Nat} {l l':List Nat} (h:Rd .u64 w A n l) (hL:Lim B64 l) (hnc:n≤c) (h':Rd .u64 w A' n' l') (hL':Lim B64 l') (hnc':n'≤c') (hk:n≤k) (hk':n'≤k) :
 QR w s A n c A' n' c' (mkRat (iv s (val B64 l)) (Qa7 (val B64 l'))) k:=⟨_,_,ZR.of_rd h hL hnc hk,⟨l',h',hL',rfl,hnc',hk'⟩,rfl⟩
end
section
theorem Qjn (a:Rat):0≤a*a:=by
 rcases Rat.le_total (a:=0) (b:=a) with h | h
 · exact Rat.mul_nonneg h h
 · have:=Rat.mul_nonneg (show 0≤-a by grind) (show 0≤-a by grind)
   grind
section
variable {f g s c t:Rat}
end
section
variable (px py ax ay bx by_ t:Rat)
end
end
section
theorem Qda {x u:Rat} (hu:0 < u) (h:0≤x*u):0≤x:=by
 refine Rat.not_lt.1 fun q=>?_
 have:=Rat.mul_pos (show 0 < -x by grind) hu
 grind
section
variable {px py ax ay bx by_ cx cy dx dy:Rat}
end
section
variable {ax ay bx by_ cx cy dx dy:Rat}
end
section
variable {ax ay bx by_ cx cy dx dy:Rat}
end
end
section
open Go Go.RowKit
theorem QrV (x y:Rat):0≤Qck x*Qck y ↔ 0≤x*y:=by
 rcases (show x < 0 ∨ x=0 ∨ 0 < x by rcases Rat.le_total (a:=0) (b:=x) with h | h <;> rcases Rat.le_iff_lt_or_eq.1 h with q | q <;> grind) with h | h | h <;>
 rcases (show y < 0 ∨ y=0 ∨ 0 < y by rcases Rat.le_total (a:=0) (b:=y) with h | h <;> rcases Rat.le_iff_lt_or_eq.1 h with q | q <;> grind) with g | g | g
 · have:=Rat.mul_pos (show 0 < -x by grind) (show 0 < -y by grind)
   rw [show Qck x=-1 by unfold Qck;rw [if_pos h],show Qck y=-1 by unfold Qck;rw [if_pos g]]
   exact ⟨fun _=>by grind,fun _=>by decide⟩
 · rw [g,Rat.mul_zero];exact ⟨fun _=>Rat.le_refl,fun _=>by rw [show Qck 0=0 from rfl];simp⟩
 · have:=Rat.mul_pos (show 0 < -x by grind) g
   rw [show Qck x=-1 by unfold Qck;rw [if_pos h],show Qck y=1 by unfold Qck;rw [if_neg (by grind),if_neg (by grind)]]
   exact ⟨fun e=>absurd e (by decide),fun _=>by grind⟩
 · rw [h,Rat.zero_mul];exact ⟨fun _=>Rat.le_refl,fun _=>by rw [show Qck 0=0 from rfl];simp⟩
 · rw [h,Rat.zero_mul];exact ⟨fun _=>Rat.le_refl,fun _=>by rw [show Qck 0=0 from rfl];simp⟩
 · rw [h,Rat.zero_mul];exact ⟨fun _=>Rat.le_refl,fun _=>by rw [show Qck 0=0 from rfl];simp⟩
 · have:=Rat.mul_pos h (show 0 < -y by grind)
   rw [show Qck x=1 by unfold Qck;rw [if_neg (by grind),if_neg (by grind)],show Qck y=-1 by unfold Qck;rw [if_pos g]]
   exact ⟨fun e=>absurd e (by decide),fun _=>by grind⟩
 · rw [g,Rat.mul_zero];exact ⟨fun _=>Rat.le_refl,fun _=>by rw [show Qck 0=0 from rfl];simp⟩
 · have:=Rat.mul_pos h g
   rw [show Qck x=1 by unfold Qck;rw [if_neg (by grind),if_neg (by grind)],show Qck y=1 by unfold Qck;rw [if_neg (by grind),if_neg (by grind)]]
   exact ⟨fun _=>by grind,fun _=>by decide⟩
def inSQ (v a b:Rat):Prop:=0≤(v - a)*(b - v)
instance (v a b:Rat):Decidable (inSQ v a b):=inferInstanceAs (Decidable (_≤_))
end
section
open Go Go.RowKit
def BA3 (W:World) (g:Nat) (v0:Value) (v1:Value) (v2:Value) (v3:Value) (v4:Value) (v5:Value) (v6:Value) (v7:Value) (v8:Value) (v9:Value) (v10:Value) (v11:Value) (v12:Value) (v13:Value) (v14:Value) (v15:Value) (v16:Value) (v17:Value):Prop:=W.heap[g]?=some (.cells #[v0,v1,v2,v3,v4,v5,v6,v7,v8,v9,v10,v11,v12,v13,v14,v15,v16,v17] 30 (0,0))
section
variable {W W':World} {g:Nat} {v0 v1 v2 v3 v4 v5 v6 v7 v8 v9 v10 v11 v12 v13 v14 v15 v16 v17:Value}
theorem BA3.c0 (h:BA3 W g v0 v1 v2 v3 v4 v5 v6 v7 v8 v9 v10 v11 v12 v13 v14 v15 v16 v17):W.cell? ⟨g,0,none⟩=some v0:=by rw [cell_of_row W g 0 _ _ (0,0) h];rfl
theorem BA3.c1 (h:BA3 W g v0 v1 v2 v3 v4 v5 v6 v7 v8 v9 v10 v11 v12 v13 v14 v15 v16 v17):W.cell? ⟨g,1,none⟩=some v1:=by rw [cell_of_row W g 1 _ _ (0,0) h];rfl
theorem BA3.c2 (h:BA3 W g v0 v1 v2 v3 v4 v5 v6 v7 v8 v9 v10 v11 v12 v13 v14 v15 v16 v17):W.cell? ⟨g,2,none⟩=some v2:=by rw [cell_of_row W g 2 _ _ (0,0) h];rfl
theorem BA3.c3 (h:BA3 W g v0 v1 v2 v3 v4 v5 v6 v7 v8 v9 v10 v11 v12 v13 v14 v15 v16 v17):W.cell? ⟨g,3,none⟩=some v3:=by rw [cell_of_row W g 3 _ _ (0,0) h];rfl
theorem BA3.c4 (h:BA3 W g v0 v1 v2 v3 v4 v5 v6 v7 v8 v9 v10 v11 v12 v13 v14 v15 v16 v17):W.cell? ⟨g,4,none⟩=some v4:=by rw [cell_of_row W g 4 _ _ (0,0) h];rfl
theorem BA3.c5 (h:BA3 W g v0 v1 v2 v3 v4 v5 v6 v7 v8 v9 v10 v11 v12 v13 v14 v15 v16 v17):W.cell? ⟨g,5,none⟩=some v5:=by rw [cell_of_row W g 5 _ _ (0,0) h];rfl
theorem BA3.c6 (h:BA3 W g v0 v1 v2 v3 v4 v5 v6 v7 v8 v9 v10 v11 v12 v13 v14 v15 v16 v17):W.cell? ⟨g,6,none⟩=some v6:=by rw [cell_of_row W g 6 _ _ (0,0) h];rfl
theorem BA3.c7 (h:BA3 W g v0 v1 v2 v3 v4 v5 v6 v7 v8 v9 v10 v11 v12 v13 v14 v15 v16 v17):W.cell? ⟨g,7,none⟩=some v7:=by rw [cell_of_row W g 7 _ _ (0,0) h];rfl
theorem BA3.c8 (h:BA3 W g v0 v1 v2 v3 v4 v5 v6 v7 v8 v9 v10 v11 v12 v13 v14 v15 v16 v17):W.cell? ⟨g,8,none⟩=some v8:=by rw [cell_of_row W g 8 _ _ (0,0) h];rfl
theorem BA3.c9 (h:BA3 W g v0 v1 v2 v3 v4 v5 v6 v7 v8 v9 v10 v11 v12 v13 v14 v15 v16 v17):W.cell? ⟨g,9,none⟩=some v9:=by rw [cell_of_row W g 9 _ _ (0,0) h];rfl
theorem BA3.c10 (h:BA3 W g v0 v1 v2 v3 v4 v5 v6 v7 v8 v9 v10 v11 v12 v13 v14 v15 v16 v17):W.cell? ⟨g,10,none⟩=some v10:=by rw [cell_of_row W g 10 _ _ (0,0) h];rfl
theorem BA3.c11 (h:BA3 W g v0 v1 v2 v3 v4 v5 v6 v7 v8 v9 v10 v11 v12 v13 v14 v15 v16 v17):W.cell? ⟨g,11,none⟩=some v11:=by rw [cell_of_row W g 11 _ _ (0,0) h];rfl
theorem BA3.c12 (h:BA3 W g v0 v1 v2 v3 v4 v5 v6 v7 v8 v9 v10 v11 v12 v13 v14 v15 v16 v17):W.cell? ⟨g,12,none⟩=some v12:=by rw [cell_of_row W g 12 _ _ (0,0) h];rfl
theorem BA3.c13 (h:BA3 W g v0 v1 v2 v3 v4 v5 v6 v7 v8 v9 v10 v11 v12 v13 v14 v15 v16 v17):W.cell? ⟨g,13,none⟩=some v13:=by rw [cell_of_row W g 13 _ _ (0,0) h];rfl
theorem BA3.c14 (h:BA3 W g v0 v1 v2 v3 v4 v5 v6 v7 v8 v9 v10 v11 v12 v13 v14 v15 v16 v17):W.cell? ⟨g,14,none⟩=some v14:=by rw [cell_of_row W g 14 _ _ (0,0) h];rfl
theorem BA3.c15 (h:BA3 W g v0 v1 v2 v3 v4 v5 v6 v7 v8 v9 v10 v11 v12 v13 v14 v15 v16 v17):W.cell? ⟨g,15,none⟩=some v15:=by rw [cell_of_row W g 15 _ _ (0,0) h];rfl
theorem BA3.c16 (h:BA3 W g v0 v1 v2 v3 v4 v5 v6 v7 v8 v9 v10 v11 v12 v13 v14 v15 v16 v17):W.cell? ⟨g,16,none⟩=some v16:=by rw [cell_of_row W g 16 _ _ (0,0) h];rfl
theorem BA3.c17 (h:BA3 W g v0 v1 v2 v3 v4 v5 v6 v7 v8 v9 v10 v11 v12 v13 v14 v15 v16 v17):W.cell? ⟨g,17,none⟩=some v17:=by rw [cell_of_row W g 17 _ _ (0,0) h];rfl
theorem BA3.all (h:BA3 W g v0 v1 v2 v3 v4 v5 v6 v7 v8 v9 v10 v11 v12 v13 v14 v15 v16 v17):W.cell? ⟨g,0,none⟩=some v0∧W.cell? ⟨g,1,none⟩=some v1∧W.cell? ⟨g,2,none⟩=some v2∧W.cell? ⟨g,3,none⟩=some v3∧W.cell? ⟨g,4,none⟩=some v4∧W.cell? ⟨g,5,none⟩=some v5∧W.cell? ⟨g,6,none⟩=some v6∧W.cell? ⟨g,7,none⟩=some v7∧W.cell? ⟨g,8,none⟩=some v8∧W.cell? ⟨g,9,none⟩=some v9∧W.cell? ⟨g,10,none⟩=some v10∧W.cell? ⟨g,11,none⟩=some v11∧W.cell? ⟨g,12,none⟩=some v12∧W.cell? ⟨g,13,none⟩=some v13∧W.cell? ⟨g,14,none⟩=some v14∧W.cell? ⟨g,15,none⟩=some v15∧W.cell? ⟨g,16,none⟩=some v16∧W.cell? ⟨g,17,none⟩=some v17:=⟨h.c0,h.c1,h.c2,h.c3,h.c4,h.c5,h.c6,h.c7,h.c8,h.c9,h.c10,h.c11,h.c12,h.c13,h.c14,h.c15,h.c16,h.c17⟩
theorem BA3.lt (h:BA3 W g v0 v1 v2 v3 v4 v5 v6 v7 v8 v9 v10 v11 v12 v13 v14 v15 v16 v17):g < W.heap.size:=World.block_lt_of_cell? W _ h.c0
theorem BA3.below (h:BA3 W g v0 v1 v2 v3 v4 v5 v6 v7 v8 v9 v10 v11 v12 v13 v14 v15 v16 v17) (hb:Below W.heap.size W W'):BA3 W' g v0 v1 v2 v3 v4 v5 v6 v7 v8 v9 v10 v11 v12 v13 v14 v15 v16 v17:=(hb.block g h.lt).trans h
end
theorem BA3.new' (W:World) (v0 v1 v2 v3 v4 v5 v6 v7 v8 v9 v10 v11 v12 v13 v14 v15 v16 v17:Value) (g:Nat) (hg:g=W.heap.size):BA3 (W.alloc (.cells #[v0,v1,v2,v3,v4,v5,v6,v7,v8,v9,v10,v11,v12,v13,v14,v15,v16,v17] 30)) g v0 v1 v2 v3 v4 v5 v6 v7 v8 v9 v10 v11 v12 v13 v14 v15 v16 v17:=by subst hg;exact heap_alloc_new W _
theorem at_0 (g:Nat) (w:World):(Instr.indexAt 30 (Value.pointer (some ⟨g,0,none⟩)) (Value.int IntKind.i64 0)).run Tryz.prog w=.ok (.pointer (some ⟨g,0,none⟩)) w:=by kernel_rfl
theorem QrI {e1:Operand→Value} {x1:Operand} {d1:Option Tmp} {y1 g:Nat} {pos:String} {af:Array Edge} (h:e1 x1=.pointer (some ⟨g,0,none⟩)) (hc:e1 (.const (Value.int IntKind.i64 0))=.int .i64 0) :
 (execOp e1 ⟨d1,.indexAddr 30 x1 (.const (Value.int IntKind.i64 0)),y1,pos,af,none⟩).run Tryz.prog w=.ok (.value (.pointer (some ⟨g,0,none⟩))) w:=by
 have h1:=at_0 g w
 go_simp
theorem Qmx {e1:Operand→Value} {x1:Operand} {d1:Option Tmp} {y1 g:Nat} {pos:String} {af:Array Edge} {v0 v1 v2 v3 v4 v5 v6 v7 v8 v9 v10 v11 v12 v13 v14 v15 v16 v17:Value} (h:e1 x1=.pointer (some ⟨g,0,none⟩)) (Z:BA3 w g v0 v1 v2 v3 v4 v5 v6 v7 v8 v9 v10 v11 v12 v13 v14 v15 v16 v17) :
 (execOp e1 ⟨d1,.load 29 x1,y1,pos,af,none⟩).run Tryz.prog w=.ok (.value (.agg #[v0,v1,v2,v3,v4,v5])) w:=by
 obtain ⟨c0,c1,c2,c3,c4,c5⟩:=Z.all
 go_simp
theorem at_1 (g:Nat) (w:World):(Instr.indexAt 30 (Value.pointer (some ⟨g,0,none⟩)) (Value.int IntKind.i64 1)).run Tryz.prog w=.ok (.pointer (some ⟨g,6,none⟩)) w:=by kernel_rfl
theorem Qr7 {e1:Operand→Value} {x1:Operand} {d1:Option Tmp} {y1 g:Nat} {pos:String} {af:Array Edge} (h:e1 x1=.pointer (some ⟨g,0,none⟩)) (hc:e1 (.const (Value.int IntKind.i64 1))=.int .i64 1) :
 (execOp e1 ⟨d1,.indexAddr 30 x1 (.const (Value.int IntKind.i64 1)),y1,pos,af,none⟩).run Tryz.prog w=.ok (.value (.pointer (some ⟨g,6,none⟩))) w:=by
 have h1:=at_1 g w
 go_simp
theorem Qmn {e1:Operand→Value} {x1:Operand} {d1:Option Tmp} {y1 g:Nat} {pos:String} {af:Array Edge} {v0 v1 v2 v3 v4 v5 v6 v7 v8 v9 v10 v11 v12 v13 v14 v15 v16 v17:Value} (h:e1 x1=.pointer (some ⟨g,6,none⟩)) (Z:BA3 w g v0 v1 v2 v3 v4 v5 v6 v7 v8 v9 v10 v11 v12 v13 v14 v15 v16 v17) :
 (execOp e1 ⟨d1,.load 29 x1,y1,pos,af,none⟩).run Tryz.prog w=.ok (.value (.agg #[v6,v7,v8,v9,v10,v11])) w:=by
 have c0:=Z.c6;have c1:=Z.c7;have c2:=Z.c8;have c3:=Z.c9;have c4:=Z.c10;have c5:=Z.c11
 go_simp
theorem at_2 (g:Nat) (w:World):(Instr.indexAt 30 (Value.pointer (some ⟨g,0,none⟩)) (Value.int IntKind.i64 2)).run Tryz.prog w=.ok (.pointer (some ⟨g,12,none⟩)) w:=by kernel_rfl
theorem Qr8 {e1:Operand→Value} {x1:Operand} {d1:Option Tmp} {y1 g:Nat} {pos:String} {af:Array Edge} (h:e1 x1=.pointer (some ⟨g,0,none⟩)) (hc:e1 (.const (Value.int IntKind.i64 2))=.int .i64 2) :
 (execOp e1 ⟨d1,.indexAddr 30 x1 (.const (Value.int IntKind.i64 2)),y1,pos,af,none⟩).run Tryz.prog w=.ok (.value (.pointer (some ⟨g,12,none⟩))) w:=by
 have h1:=at_2 g w
 go_simp
theorem QmM {e1:Operand→Value} {x1:Operand} {d1:Option Tmp} {y1 g:Nat} {pos:String} {af:Array Edge} {v0 v1 v2 v3 v4 v5 v6 v7 v8 v9 v10 v11 v12 v13 v14 v15 v16 v17:Value} (h:e1 x1=.pointer (some ⟨g,12,none⟩)) (Z:BA3 w g v0 v1 v2 v3 v4 v5 v6 v7 v8 v9 v10 v11 v12 v13 v14 v15 v16 v17) :
 (execOp e1 ⟨d1,.load 29 x1,y1,pos,af,none⟩).run Tryz.prog w=.ok (.value (.agg #[v12,v13,v14,v15,v16,v17])) w:=by
 have c0:=Z.c12;have c1:=Z.c13;have c2:=Z.c14;have c3:=Z.c15;have c4:=Z.c16;have c5:=Z.c17
 go_simp
def VK (c:Array Value) (x:Value) (_w:World):Prop:=x=.agg c
theorem QnA (c:Array Value):Stays (VK c):=⟨fun _ _ _ h _=>h,fun _ _ _ _ _ _ h _ _=>h⟩
theorem Qge {ac:Act} {x1 z:Operand} {y1 g:Nat} {pos:String} {af:Array Edge} {Q:Exit→Act→World→Prop} {s t:Bool} {A B E F:Option Addr} {n c m d i e j f:Nat} (p1:ac.eval x1=.pointer (some ⟨g,0,none⟩)) (h:VK #[.bool s,.slice A n c,.slice B m d,.bool t,.slice E i e,.slice F j f] (ac.eval z) w) (Z0:BoxAt 29 w g #[.bool false,.slice none 0 0,.slice none 0 0,.bool false,.slice none 0 0,.slice none 0 0]) :
 (⟨none,.store 29 x1 z,y1,pos,af,none⟩:Oper).wp Tryz.prog ac w (fun a'' w''=>a''=ac∧Only g w w''∧∃ cs',BoxAt 29 w'' g cs'∧(fun cs _=>cs=#[.bool s,.slice A n c,.slice B m d,.bool t,.slice E i e,.slice F j f]) cs' w'') Q:=by
 have Z:B6 w g (.bool false) (.slice none 0 0) (.slice none 0 0) (.bool false) (.slice none 0 0) (.slice none 0 0):=Z0.at_
 unfold Oper.wp
 rw [Qhy p1 h Z,Oper.upon_skip]
 have ho:=((((((Only.refl g w).setCell 0 (.bool s)).setCell 1 (.slice A n c)).setCell 2 (.slice B m d)).setCell 3 (.bool t)).setCell 4 (.slice E i e)).setCell 5 (.slice F j f)
 exact ⟨Qd7 ac undef,ho,_,⟨Z.set6 _ _ _ _ _ _,Qfw _ _ _ _ _ _ _ _ _ _ _ _ _ _⟩,rfl⟩
end
section
open Go Go.RowKit
theorem QfK {e:Operand→Value} {x0 x1:Operand} {d:Option Tmp} {y:Nat} {pos:String} {af:Array Edge} {u0 u1:Value} (h0:e x0=u0) (h1:e x1=u1) (hf:e (.func 69)=.func (.func 69) #[] #[]) :
 (execOp e ⟨d,.call ⟨.value (.func 69),#[x0,x1],#[27,27]⟩,y,pos,af,none⟩).run Tryz.prog w=.ok (.enter 69 #[u0,u1]) w:=by
 go_simp
end
section
open Go Go.RowKit
structure PV where
 s:Bool
 A:Option Addr
 n:Nat
 c:Nat
 B:Option Addr
 m:Nat
 d:Nat
 t:Bool
 E:Option Addr
 i:Nat
 e:Nat
 F:Option Addr
 j:Nat
 f:Nat
def PV.cells (p:PV):List Value:=[.bool p.s,.slice p.A p.n p.c,.slice p.B p.m p.d,.bool p.t,.slice p.E p.i p.e,.slice p.F p.j p.f]
def PV.PG (w:World) (p:PV) (u:Rat × Rat) (k:Nat):Prop:=Go.Proofs.YthbhngeiiabagaaGreat.PG w p.s p.A p.n p.c p.B p.m p.d p.t p.E p.i p.e p.F p.j p.f u.1 u.2 k
def PV.PR (w:World) (p:PV) (u:Rat × Rat) (k:Nat):Prop:=Go.Proofs.YthbhngeiiabagaaGreat.PR w p.s p.A p.n p.c p.B p.m p.d p.t p.E p.i p.e p.F p.j p.f u.1 u.2 k
def PV.RP (w:World) (p:PV) (u:Rat × Rat) (k:Nat):Prop:=Go.Proofs.YthbhngeiiabagaaGreat.RP w p.s p.A p.n p.c p.B p.m p.d p.t p.E p.i p.e p.F p.j p.f u.1 u.2 k
def pvs (L:List PV):List Value:=L.flatMap PV.cells
theorem QiJ:pvs []=[]:=rfl
theorem QeD (p:PV) (L:List PV):pvs (p :: L)=p.cells ++ pvs L:=List.flatMap_cons
theorem Qd5 (L M:List PV):pvs (L ++ M)=pvs L ++ pvs M:=List.flatMap_append
theorem QsL {L:List PV} {i:Nat} {p:PV} (h:L[i]?=some p) {j:Nat} (hj:j < 6):(pvs L)[i*6+j]?=p.cells[j]?:=by
 induction L generalizing i with
 | nil=>cases h
 | cons q L ih =>
   rw [QeD]
   match i with
   | 0 =>
     obtain rfl:q=p:=by simpa using h
     rw [List.getElem?_append_left (show 0*6+j < q.cells.length by show _ < 6;omega)]
     congr 1;omega
   | i+1 =>
     rw [List.getElem?_append_right (show q.cells.length≤(i+1)*6+j by show 6≤_;omega)]
     rw [show (i+1)*6+j - q.cells.length=i*6+j by show (i+1)*6+j - 6=_;omega]
     exact ih h
theorem QcJ (L:List PV):∀ u ∈ pvs L,∀ (k:IntKind) (x:Int),u ≠ .int k x:=by
 intro u hu k x
 obtain ⟨p,_,hp⟩:=List.mem_flatMap.1 hu
 simp only [PV.cells,List.mem_cons,List.not_mem_nil,or_false] at hp
 rcases hp with rfl | rfl | rfl | rfl | rfl | rfl <;> exact fun e=>by cases e
theorem QsT (L:List PV):∀ u ∈ pvs L,u.oneCell'=true:=by
 intro u hu
 obtain ⟨p,_,hp⟩:=List.mem_flatMap.1 hu
 simp only [PV.cells,List.mem_cons,List.not_mem_nil,or_false] at hp
 rcases hp with rfl | rfl | rfl | rfl | rfl | rfl <;> rfl
structure Ln (T:TypeId) (base:Nat) (w:World) (v:Value) (L:List PV):Prop where
 own:w.ownsRow base T 6 v L.length (pvs L)
 free:∀ g,v.ownBlock=some g→∃ cs,BoxAt T w g cs
section
variable {T:TypeId} {base:Nat} {w w':World} {v:Value} {L:List PV}
theorem Ln.nil (T:TypeId) (base:Nat) (w:World):Ln T base w (.slice none 0 0) []:=⟨World.ownsRow_nil w base T 6,fun g h=>by cases h⟩
theorem Ln.kept (h:Ln T base w v L) (hb:∀ g,v.ownBlock=some g→w'.heap[g]?=w.heap[g]?):Ln T base w' v L:=by
 refine ⟨⟨h.own.1,?_⟩,fun g hg=>?_⟩
 · rcases h.own.2 with hn | ⟨g,cap,cur,rfl,h1,h2,h3⟩
   · exact .inl hn
   · exact .inr ⟨g,cap,cur,rfl,h1,(hb g rfl).trans h2,h3⟩
 · obtain ⟨cs,hc⟩:=h.free g hg
   exact ⟨cs,(hb g hg).trans hc.at_,hc.free⟩
theorem Ln.below (h:Ln T base w v L) (hb:Below w.heap.size w w'):Ln T base w' v L:=h.kept fun g hg=>by
 obtain ⟨cs,hc⟩:=h.free g hg
 exact hb.block g hc.lt
theorem Ln.base_le {b:Nat} (h:Ln T base w v L) (hb:b≤base):Ln T b w v L:=by
 refine ⟨⟨h.own.1,?_⟩,h.free⟩
 rcases h.own.2 with hn | ⟨g,cap,cur,rfl,h1,h2⟩
 · exact .inl hn
 · exact .inr ⟨g,cap,cur,rfl,Nat.le_trans hb h1,h2⟩
theorem Ln.form (h:Ln T base w v L):∃ A c,v=.slice A L.length c∧L.length≤c∧(A=none→c=0):=by
 rcases h.own.2 with ⟨rfl,hn⟩ | ⟨g,cap,cur,rfl,_,_,h3,_⟩
 · exact ⟨none,0,by rw [hn],by omega,fun _=>rfl⟩
 · exact ⟨_,cap,rfl,h3,fun e=>by cases e⟩
theorem Ln.at_ (h:Ln T base w v L) {i:Nat} {p:PV} (hi:L[i]?=some p):∃ g c,v=.slice (some ⟨g,0,none⟩) L.length c∧i < L.length∧base≤g∧g < w.heap.size ∧
 w.cell? ⟨g,i*6,none⟩=some (.bool p.s)∧w.cell? ⟨g,i*6+1,none⟩=some (.slice p.A p.n p.c)∧w.cell? ⟨g,i*6+2,none⟩=some (.slice p.B p.m p.d) ∧
 w.cell? ⟨g,i*6+3,none⟩=some (.bool p.t)∧w.cell? ⟨g,i*6+4,none⟩=some (.slice p.E p.i p.e)∧w.cell? ⟨g,i*6+5,none⟩=some (.slice p.F p.j p.f):=by
 have hlt:i < L.length:=(List.getElem?_eq_some_iff.1 hi).1
 rcases h.own.2 with ⟨_,hn⟩ | ⟨g,cap,cur,hv,hb,hg,_⟩
 · omega
 · have hc:=h.own.cells (g:=g) (by rw [hv];rfl)
   have ha:∀ j,(⟨g,0,none⟩:Addr).add j=⟨g,j,none⟩:=fun j=>by unfold Addr.add;split <;> simp_all
   have key:∀ j,j < 6→∀ u,p.cells[j]?=some u→w.cell? ⟨g,i*6+j,none⟩=some u:=fun j hj u hu=>by
    have:=hc (i*6+j) u ((QsL hi hj).trans hu)
    rwa [ha] at this
   have hlt2:g < w.heap.size:=by
    rcases Nat.lt_or_ge g w.heap.size with q | q
    · exact q
    · rw [Array.getElem?_eq_none q] at hg;cases hg
   exact ⟨g,cap,hv,hlt,hb,hlt2,key 0 (by decide) _ rfl,key 1 (by decide) _ rfl,key 2 (by decide) _ rfl,key 3 (by decide) _ rfl,key 4 (by decide) _ rfl,key 5 (by decide) _ rfl⟩
end
def zpt:Value:=.agg #[.bool false,.slice none 0 0,.slice none 0 0,.bool false,.slice none 0 0,.slice none 0 0]
theorem QiK:(Tryz.prog.info? 29).map (fun i=>(i.zero,i.size,i.bytes))=some (some zpt,6,112):=by kernel_rfl
theorem Qp2:(Tryz.prog.info? 44).map (fun i=>(i.zero,i.size,i.bytes))=some (some zpt,6,112):=by kernel_rfl
theorem Qjv (n:Nat):∀ u ∈ (Builtin.zeroCells zpt.cells n).toList,∀ (k:IntKind) (x:Int),u ≠ .int k x:=by
 intro u hu k x
 simp only [Builtin.zeroCells,Array.toList_map,List.mem_map] at hu
 obtain ⟨i,_,rfl⟩:=hu
 have h:i % zpt.cells.size < 6:=Nat.mod_lt _ (by decide)
 generalize i % zpt.cells.size=j at h
 match j,h with
 | 0,_=>exact fun e=>by cases e
 | 1,_=>exact fun e=>by cases e
 | 2,_=>exact fun e=>by cases e
 | 3,_=>exact fun e=>by cases e
 | 4,_=>exact fun e=>by cases e
 | 5,_=>exact fun e=>by cases e
 | j+6,h=>omega
theorem Qqg {T tS ty:TypeId} {base b:Nat} {v:Value} {L:List PV} {p:PV} {k0:Nat} (ht:Tryz.prog.underlying tS=some (.slice T)) (hinfo:(Tryz.prog.info? T).map (fun i=>(i.zero,i.size,i.bytes))=some (some zpt,6,112))
 (h:Ln T base w v L) (hbase:base≤w.heap.size) (hL:L.length≤1000000) (hb:w.heap[b]?=some (.cells p.cells.toArray T (0,0))) :
 ∃ v' w',(Builtin.append_ #[tS,tS] ty #[v,.slice (some ⟨b,0,none⟩) 1 k0]).run Tryz.prog w=.ok v' w'∧Ln T base w' v' (L ++ [p])∧w.grownBy w' v.ownBlock:=by
 obtain ⟨i0,hi,hz,hs,hby⟩:=info_parts hinfo
 have hnews:∀ j u,p.cells[j]?=some u→w.cell? ((⟨b,0,none⟩:Addr).add j)=some u:=fun j u hu=>World.news_of_block hb j u (by simpa using hu)
 have h1:∀ u ∈ p.cells,u.oneCell'=true:=fun u hu=>QsT [p] u (by rw [QeD,QiJ,List.append_nil];exact hu)
 have hfree:∀ u ∈ p.cells,∀ (k:IntKind) (x:Int),u ≠ .int k x:=fun u hu=>QcJ [p] u (by rw [QeD,QiJ,List.append_nil];exact hu)
 obtain ⟨v',w',hr,hown,hg,_⟩:=run_append_own (P:=Tryz.prog) w base tS ty T i0 zpt 6 112 ht hi hz hs hby rfl (by decide) v L.length (pvs L) h.own ⟨b,0,none⟩ 1 k0 p.cells rfl hnews h1 (by unfold maxLen;omega) (by omega) hbase
 refine ⟨v',w',hr,⟨by rw [Qd5,List.length_append,QeD,QiJ,List.append_nil];exact hown,?_⟩,hg⟩
 have fr:∀ (cs:List Value),(∀ u ∈ cs,∀ (k:IntKind) (x:Int),u ≠ .int k x)→∀ (i:Nat) (k:IntKind) (x:Int),cs.toArray[i]? ≠ some (Value.int k x):=fun cs hc i k x e=>by
  rw [List.getElem?_toArray] at e
  exact hc _ (List.mem_of_getElem? e) k x rfl
 intro g hgv
 rcases h.own.2 with ⟨rfl,hn⟩ | ⟨g0,cap,cur,rfl,_,hg0,hnc,hcm,hcs,htake⟩
 · have e:=run_append_nil (P:=Tryz.prog) w tS ty T i0 zpt ht hi hz ⟨b,0,none⟩ 1 k0 p.cells (by rw [hs];rfl) hnews (by decide) (by decide) (by rw [hby];decide)
   rw [hr] at e
   injection e with e1 e2
   subst e1 e2
   obtain rfl:w.heap.size=g:=by simpa [Value.ownBlock] using hgv
   refine ⟨_,heap_alloc_new w.drew _,?_⟩
   have:=fr (p.cells ++ (Builtin.zeroCells zpt.cells (grownCap w 1 0 T - 1)).toList) (fun u hu=>by
    rcases List.mem_append.1 hu with q | q
    · exact hfree u q
    · exact Qjv _ u q)
   intro i k x
   have:=this i k x
   rwa [show (p.cells ++ (Builtin.zeroCells zpt.cells (grownCap w 1 0 T - 1)).toList).toArray=p.cells.toArray ++ Builtin.zeroCells zpt.cells (grownCap w 1 0 T - 1) by apply Array.ext';simp] at this
 · obtain ⟨cs,hB⟩:=h.free g0 rfl
   have hcur:∀ u ∈ cur.toList,∀ (k:IntKind) (x:Int),u ≠ .int k x:=by
    have:cs=cur:=by exact (Obj.cells.inj (Option.some.inj (hB.at_.symm.trans hg0))).1
    subst this
    intro u hu k x e
    obtain ⟨j,hj⟩:=List.getElem?_of_mem hu
    rw [Array.getElem?_toList] at hj
    exact hB.free j k x (by rw [← e];exact hj)
   by_cases hroom:L.length+1≤cap
   · have e:=run_append_room (P:=Tryz.prog) w tS ty T i0 ht hi g0 L.length cap cur hg0 ⟨b,0,none⟩ 1 k0 p.cells (by rw [hs];rfl) hnews h1 hroom (by rw [hs,hcs];show L.length*6+6≤_;omega)
     rw [hr] at e
     injection e with e1 e2
     subst e1 e2
     obtain rfl:g0=g:=by simpa [Value.ownBlock] using hgv
     refine ⟨_,setRow_heap w g0 cur _ T _ hg0,fr _ fun u hu=>?_⟩
     rcases List.mem_append.1 hu with q | q
     · rcases List.mem_append.1 q with q | q
       · exact hcur u (List.mem_of_mem_take q)
       · exact hfree u q
     · exact hcur u (List.mem_of_mem_drop q)
   · have holds:∀ j u,(pvs L)[j]?=some u→w.cell? ((⟨g0,0,none⟩:Addr).add j)=some u:=h.own.cells (g:=g0) rfl
     have e:=run_append_grow (P:=Tryz.prog) w tS ty T i0 zpt ht hi hz ⟨g0,0,none⟩ L.length cap (pvs L) (by rw [hs];exact h.own.1) holds ⟨b,0,none⟩ 1 k0 p.cells (by rw [hs];rfl) hnews (by omega) (by omega) (growslice_fits (by omega) (by rw [hby];omega))
     rw [hr] at e
     injection e with e1 e2
     subst e1 e2
     obtain rfl:w.heap.size=g:=by simpa [Value.ownBlock] using hgv
     refine ⟨_,heap_alloc_new w.drew _,?_⟩
     have:=fr (pvs L ++ p.cells ++ (Builtin.zeroCells zpt.cells (grownCap w (L.length+1) cap T - (L.length+1))).toList) (fun u hu=>by
      rcases List.mem_append.1 hu with q | q
      · rcases List.mem_append.1 q with q | q
        · exact QcJ L u q
        · exact hfree u q
      · exact Qjv _ u q)
     intro i k x
     have:=this i k x
     rwa [show (pvs L ++ p.cells ++ (Builtin.zeroCells zpt.cells (grownCap w (L.length+1) cap T - (L.length+1))).toList).toArray=(pvs L).toArray ++ p.cells.toArray ++ Builtin.zeroCells zpt.cells (grownCap w (L.length+1) cap T - (L.length+1)) by apply Array.ext';simp] at this
theorem Ln.stays {T:TypeId} {base:Nat} {w w':World} {v:Value} {L:List PV} (h:Ln T base w v L) (hg:w.grownBy w' v.ownBlock):Below w.heap.size w w' ∨ ∃ g cs,BoxAt T w g cs∧base≤g∧Only g w w':=by
 cases hv:v.ownBlock with
 | none =>
   rw [hv] at hg
   exact .inl ((Below.refl _ _).grown hg (Nat.le_refl _) (fun k e=>by cases e))
 | some g =>
   rw [hv] at hg
   obtain ⟨cs,hc⟩:=h.free g hv
   refine .inr ⟨g,cs,hc,(h.own.lt g hv).1,⟨hg.os,hg.tape,hg.output,hg.size,fun k hk hn=>hg.block k hk (fun e=>hn (by injection e))⟩⟩
theorem idx_pt {g n c i:Nat} (h:i < n) (w:World):(Instr.indexAt 22 (.slice (some ⟨g,0,none⟩) n c) (.int .i64 (i:Int))).run Tryz.prog w=.ok (.pointer (some ⟨g,i*6,none⟩)) w:=by
 have ha:∀ j,(⟨g,0,none⟩:Addr).add j=⟨g,j,none⟩:=fun j=>by unfold Addr.add;split <;> simp_all
 obtain ⟨i0,hi,hz,hs,hby⟩:=info_parts QiK
 have h1:(0:Int)≤(i:Int):=by omega
 have h2:(i:Int) < (n:Int):=by omega
 simp [Instr.indexAt,asIntOf,run_underlying Tryz.underlying22,h1,sizeOf,typeInfo,hi,hs,ha]
 exact fun e=>absurd h (by omega)
end
section
open Go Go.RowKit
section
variable {w w':World} {s t:Bool} {A B E F:Option Addr} {n c m d i e j f k:Nat} {x y:Rat}
theorem PR.box {T:TypeId} {g:Nat} {cs:Array Value} (h:PR w s A n c B m d t E i e F j f x y k) (Z:BoxAt T w g cs) (ho:Only g w w'):PR w' s A n c B m d t E i e F j f x y k:=⟨h.1.box Z ho,h.2.box Z ho⟩
theorem B6.rest {g k:Nat} {x y z u v t:Value} (h:B6 w g x y z u v t) (hne:g ≠ k) (ho:Only k w w'):B6 w' g x y z u v t:=(ho.block g h.lt hne).trans h
end
theorem Qjy (w:World) (g:Nat) (a b c d e f:Value):Only g w ((((((w.setCell ⟨g,0,none⟩ a).setCell ⟨g,1,none⟩ b).setCell ⟨g,2,none⟩ c).setCell ⟨g,3,none⟩ d).setCell ⟨g,4,none⟩ e).setCell ⟨g,5,none⟩ f) :=
 (((((((Only.refl g w).setCell 0 a).setCell 1 b).setCell 2 c).setCell 3 d).setCell 4 e).setCell 5 f)
theorem QlP {g:Nat} {s t:Bool} {A B E F:Option Addr} {n c m d i e j f:Nat} (h:B6 w g (.bool s) (.slice A n c) (.slice B m d) (.bool t) (.slice E i e) (.slice F j f)):BoxAt 29 w g #[.bool s,.slice A n c,.slice B m d,.bool t,.slice E i e,.slice F j f]:=⟨h,Qfw _ _ _ _ _ _ _ _ _ _ _ _ _ _⟩
theorem Qjf {P:Program} {o:Oper} {a:Act} {K:Act→World→Prop} {Q:Exit→Act→World→Prop} {w w':World} {t:TypeId} (s x:Operand) {v u v':Value} (ho:o.op=.call ⟨.builtin .append,#[s,x],#[t,t]⟩) (hs:a.eval s=v) (hx:a.eval x=u)
 (hr:(Builtin.append_ #[t,t] o.type #[v,u]).run P w=.ok v' w') (hK:K (a.put o.dst v') w'):o.wp P a w K Q:=by
 unfold Oper.wp execOp
 simp only [ho,resolve,invoke,builtin,Sem.run_bind,Sem.run_pure,Result.andThen_ok,List.map_toArray,List.map_cons,List.map_nil,hs,hx,hr]
 exact hK
theorem Qdo {ops:Array Oper} {rest:List Oper} {o:Oper} {a:Act} {Q:Exit→Act→World→Prop} {T tS:TypeId} (ht:Tryz.prog.underlying tS=some (.slice T)) (hinfo:(Tryz.prog.info? T).map (fun i=>(i.zero,i.size,i.bytes))=some (some zpt,6,112))
 (hgd:o.guard=none) (s x:Operand) (ho:o.op=.call ⟨.builtin .append,#[s,x],#[tS,tS]⟩) {base b:Nat} {v:Value} {L:List PV} {p:PV} {k0:Nat} (hs:a.eval s=v) (hx:a.eval x=.slice (some ⟨b,0,none⟩) 1 k0)
 (h:Ln T base w v L) (hbase:base≤w.heap.size) (hL:L.length≤1000000) (hb:w.heap[b]?=some (.cells p.cells.toArray T (0,0)))
 (hK:∀ v' w',Ln T base w' v' (L ++ [p])→w.grownBy w' v.ownBlock→wpList Tryz.prog ops Q rest (a.put o.dst v') w'):wpList Tryz.prog ops Q (o :: rest) a w :=
 wpList_plain hgd fun K hK2=>by
  obtain ⟨v',w',hr,h2,h3⟩:=Qqg (ty:=o.type) (k0:=k0) ht hinfo h hbase hL hb
  exact Qjf s x ho hs hx hr (hK2 _ _ (hK v' w' h2 h3))
def Each (G:World→PV→Rat × Rat→Nat→Prop) (w:World) (L:List PV) (l:List (Rat × Rat)) (k:Nat):Prop :=
 L.length=l.length∧∀ (i:Nat) (p:PV) (u:Rat × Rat),L[i]?=some p→l[i]?=some u→G w p u k
theorem Each.nil {G:World→PV→Rat × Rat→Nat→Prop} {k:Nat}:Each G w [] [] k:=⟨rfl,fun i p u h=>by cases h⟩
theorem Each.push {G:World→PV→Rat × Rat→Nat→Prop} {w w':World} {L:List PV} {l:List (Rat × Rat)} {k:Nat} {p:PV} {u:Rat × Rat} (h:Each G w L l k) (hw:∀ p u,G w p u k→G w' p u k) (hp:G w' p u k):Each G w' (L ++ [p]) (l ++ [u]) k:=by
 refine ⟨by rw [List.length_append,List.length_append,h.1];rfl,fun i q v hq hv=>?_⟩
 rcases Nat.lt_or_ge i L.length with hi | hi
 · rw [List.getElem?_append_left hi] at hq
   rw [List.getElem?_append_left (by rw [← h.1];exact hi)] at hv
   exact hw _ _ (h.2 i q v hq hv)
 · rw [List.getElem?_append_right hi] at hq
   rw [List.getElem?_append_right (by rw [← h.1];exact hi)] at hv
   have:i - L.length=0:=by
    have:=(List.getElem?_eq_some_iff.1 hq).1
    simp at this;omega
   rw [this] at hq
   rw [show i - l.length=0 by rw [← h.1];exact this] at hv
   obtain rfl:p=q:=by simpa using hq
   obtain rfl:u=v:=by simpa using hv
   exact hp
theorem Each.imp {G:World→PV→Rat × Rat→Nat→Prop} {w w':World} {L:List PV} {l:List (Rat × Rat)} {k:Nat} (h:Each G w L l k) (hw:∀ p u,G w p u k→G w' p u k):Each G w' L l k:=⟨h.1,fun i p u hp hu=>hw _ _ (h.2 i p u hp hu)⟩
theorem Each.at_ {G:World→PV→Rat × Rat→Nat→Prop} {L:List PV} {l:List (Rat × Rat)} {k:Nat} (h:Each G w L l k) {i:Nat} (hi:i < L.length):∃ p u,L[i]?=some p∧l[i]?=some u∧G w p u k :=
 ⟨_,_,List.getElem?_eq_getElem hi,List.getElem?_eq_getElem (by rw [← h.1];exact hi),h.2 i _ _ (List.getElem?_eq_getElem hi) (List.getElem?_eq_getElem (by rw [← h.1];exact hi))⟩
theorem Each.below {w w':World} {L:List PV} {l:List (Rat × Rat)} {k:Nat} (h:Each PV.PG w L l k) (hb:Below w.heap.size w w'):Each PV.PG w' L l k:=h.imp fun _ _ hp=>PG.below hp hb
theorem Each.stays {T:TypeId} {base:Nat} {w w':World} {v:Value} {M L:List PV} {l:List (Rat × Rat)} {k:Nat} (h:Each PV.PG w L l k) (hn:Ln T base w v M) (hg:w.grownBy w' v.ownBlock):∀ p u,PV.PG w p u k→PV.PG w' p u k:=fun p u hp=>by
 rcases hn.stays hg with q | ⟨g,cs,hB,_,ho⟩
 · exact PG.below hp q
 · exact PG.box hp hB ho
theorem Ln.under {T:TypeId} {base:Nat} {w0 w w':World} {v:Value} {M:List PV} (hn:Ln T base w v M) (hg:w.grownBy w' v.ownBlock) (hb:Below w0.heap.size w0 w) (hb0:w0.heap.size≤base):Below w0.heap.size w0 w':=by
 rcases hn.stays hg with q | ⟨g,cs,hB,hg2,ho⟩
 · exact Qaj hb q
 · exact Below.only hb (Nat.le_trans hb0 hg2) hb.size ho
def QsV (w:World) (l:List (Rat × Rat)) (k:Nat) (en:Ending) (w':World):Prop :=
 ∃ v L,en=.returned v∧Ln 29 w.heap.size w' v L∧Each PV.PG w' L l k∧Below w.heap.size w w'
end
section
open Go Go.RowKit
structure QV where
 s:Bool
 A:Option Addr
 n:Nat
 c:Nat
 B:Option Addr
 m:Nat
 d:Nat
def QV.cells (p:QV):List Value:=[.bool p.s,.slice p.A p.n p.c,.slice p.B p.m p.d]
def qvs (L:List QV):List Value:=L.flatMap QV.cells
theorem Qqs (p:QV) (L:List QV):qvs (p :: L)=p.cells ++ qvs L:=List.flatMap_cons
def E3 (w:World) (g o:Nat) (x y z:Value):Prop:=g < w.heap.size∧w.cell? ⟨g,o,none⟩=some x∧w.cell? ⟨g,o+1,none⟩=some y∧w.cell? ⟨g,o+2,none⟩=some z
section
variable {w w':World} {g o:Nat} {L:List QV} {x y z:Value}
end
theorem idx_q {g n c i:Nat} (h:i < n) (w:World):(Instr.indexAt 78 (.slice (some ⟨g,0,none⟩) n c) (.int .i64 (i:Int))).run Tryz.prog w=.ok (.pointer (some ⟨g,i*3,none⟩)) w:=by
 have ha:∀ j,(⟨g,0,none⟩:Addr).add j=⟨g,j,none⟩:=fun j=>by unfold Addr.add;split <;> simp_all
 obtain ⟨i0,hi,hz,hs,hby⟩:=info_parts (show (Tryz.prog.info? 27).map (fun i=>(i.zero,i.size,i.bytes))=some (some (.agg #[.bool false,.slice none 0 0,.slice none 0 0]),3,56) by kernel_rfl)
 have h1:(0:Int)≤(i:Int):=by omega
 have h2:(i:Int) < (n:Int):=by omega
 simp [Instr.indexAt,asIntOf,run_underlying Tryz.underlying78,h1,sizeOf,typeInfo,hi,hs,ha]
 exact fun e=>absurd h (by omega)
end
section
open Go Go.RowKit
def Qix (L:List QbU) (F:Value→World→Prop):Prop:=(∀ x w w',F x w→Below w.heap.size w w'→F x w')∧∀ p ∈ L,∀ x w w' g cs,F x w→BoxAt p.T w g cs→Only g w w'→F x w'
theorem Stays.inn {F:Value→World→Prop} (h:Stays F) (L:List QbU):Qix L F:=⟨h.1,fun p _ x w w' g cs=>h.2 p.T x w w' g cs⟩
section
variable {P:Program} {ops:Array Oper} {Q:Exit→Act→World→Prop}
theorem QaB {id:Nat} {a:Act} {w0:World} (l:List Nat) (L:List QbU) (F:Nat→Value→World→Prop)
 (hm:P.follows .mixedOrders=true) (hb:Qmp ops=true) (hl:ops.toList.filterMap (·.dst)=l) (hn:l.Nodup)
 (hL:∀ p ∈ L,BoxIn P ops p) (hT:∀ p ∈ L,∀ q ∈ L,p.tA=q.tA→p=q) (hS:∀ p ∈ L,∀ q ∈ L,p.is=q.is→p=q)
 (hone:∀ (i:Nat) (o:Oper),ops[i]?=some o→o.dst=none→∃ p ∈ L,p.is=i) (hst:∀ t,Qix L (F t))
 (hval:∀ (i:Nat) (o:Oper) (t:Nat) (v:Nat→Value) (w':World),ops[i]?=some o→(∀ p ∈ L,t ≠ p.tA)→o.dst=some t→Below w0.heap.size w0 w' →
  (∀ e ∈ o.after,Region.binds .any e=true→∀ (oe:Oper) (te:Nat),ops[e.on]?=some oe→oe.dst=some te→(∀ p ∈ L,te ≠ p.tA)→F te (v te) w') →
  wpOp P ops Q i (fun a'' w''=>∃ x,a''=(Qam a l v).put (some t) x∧Below w'.heap.size w' w''∧F t x w'') (Qam a l v) w')
 (hstore:∀ p ∈ L,∀ (os:Oper) (v:Nat→Value) (w':World) (g:Nat),ops[p.is]?=some os→Below w0.heap.size w0 w'→v p.tA=.pointer (some ⟨g,0,none⟩)→BoxAt p.T w' g p.zs →
  (∀ e ∈ os.after,Region.binds .any e=true→∀ (oe:Oper) (te:Nat),ops[e.on]?=some oe→oe.dst=some te→(∀ p ∈ L,te ≠ p.tA)→F te (v te) w') →
  os.wp P (Qam a l v) w' (fun a'' w''=>a''=Qam a l v∧Only g w' w''∧∃ cs',BoxAt p.T w'' g cs'∧p.Fst cs' w'') Q)
 (hend:∀ (v:Nat→Value) (w':World),Below w0.heap.size w0 w'→(∀ (i:Nat) (o:Oper) (t:Nat),ops[i]?=some o→o.dst=some t→(∀ p ∈ L,t ≠ p.tA)→F t (v t) w') →
  (∀ p ∈ L,∃ g cs,v p.tA=.pointer (some ⟨g,0,none⟩)∧w0.heap.size≤g∧BoxAt p.T w' g cs∧p.Fst cs w')→(∀ p ∈ L,∀ q ∈ L,p.tA ≠ q.tA→v p.tA ≠ v q.tA)→Q .normal (Qam a l v) w') :
 (Code.region id ops true).wp P Q a w0:=by
 have lt_of:∀ {i:Nat} {o:Oper},ops[i]?=some o→i < ops.size:=fun {i o} h=>by
  rcases Nat.lt_or_ge i ops.size with k | k
  · exact k
  · rw [Array.getElem?_eq_none k] at h;cases h
 have hmem:∀ {i:Nat} {o:Oper} {t:Nat},ops[i]?=some o→o.dst=some t→t ∈ l:=fun {i o t} h d=>by
  rw [← hl];exact List.mem_filterMap.2 ⟨o,List.mem_of_getElem? (by simpa using h),d⟩
 have hinj:∀ {i j:Nat} {oi oj:Oper} {t:Nat},ops[i]?=some oi→ops[j]?=some oj→oi.dst=some t→oj.dst=some t→i=j:=fun {i j oi oj t} h1 h2 d1 d2 =>
  QkQ (l:=ops.toList) (by rw [hl];exact hn) (by simpa using h1) (by simpa using h2) d1 d2
 -- a filling operation is no making one,and none that tells a value
 have his:∀ p ∈ L,∀ (i:Nat) (o:Oper) (t:Nat),ops[i]?=some o→o.dst=some t→p.is ≠ i:=by
  intro p hp i o t ho ht q
  obtain ⟨os,h1,h2,_⟩:=(hL p hp).fill
  subst q
  rw [h1] at ho
  cases ho
  rw [h2] at ht
  cases ht
 refine Qdm l (QqV ops w0 L F) hm hb ?_ ?_ ?_ ?_
 · refine ⟨(Below.refl _ _).drew,?_,?_,?_,?_⟩
   · intro i o t _ _ _ h;exact absurd (show false=true from h) (by decide)
   · intro p _ h;exact absurd (show false=true from h) (by decide)
   · intro p _ h;exact absurd (show false=true from h) (by decide)
   · intro p _ q _ _ h;exact absurd (show false=true from h) (by decide)
 · intro D D' v w hD h
   have ea:∀ p ∈ L,D p.ia=D' p.ia:=fun p hp=>by obtain ⟨oa,h1,_⟩:=(hL p hp).alloc;exact hD _ (lt_of h1)
   have es:∀ p ∈ L,D p.is=D' p.is:=fun p hp=>by obtain ⟨os,h1,_⟩:=(hL p hp).fill;exact hD _ (lt_of h1)
   refine ⟨h.below,fun i o t hi ht hne hd=>h.vals i o t hi ht hne (by rw [hD i (lt_of hi)];exact hd),?_,?_,?_⟩
   · intro p hp;rw [← ea p hp,← es p hp];exact h.box p hp
   · intro p hp;rw [← ea p hp,← es p hp];exact h.after p hp
   · intro p hp q hq;rw [← ea p hp,← ea q hq];exact h.apart p hp q hq
 · intro i o D v w' ho hDi hall J
   cases hd:o.dst with
   | none =>
     obtain ⟨p,hp,rfl⟩:=hone i o ho hd
     obtain ⟨os,h1,h2,hgs,e,he,hbd,hon⟩:=(hL p hp).fill
     rw [h1] at ho
     cases ho
     have hDa:D p.ia=true:=by rw [← hon];exact hall e he hbd
     obtain ⟨g,cs,p1,p2,p3,_,pz⟩:=J.box p hp hDa
     obtain rfl:=pz hDi
     refine Qaa h1 hgs ?_
     refine Oper.wp_mono ?_ (hstore p hp _ v w' g h1 J.below p1 p3 (fun e he hb' oe te h1 h2 h3=>J.vals e.on oe te h1 h2 h3 (hall e he hb')))
     rintro a'' w'' ⟨rfl,ho2,cs',hB,hF⟩
     have nia:∀ q ∈ L,q.ia ≠ p.is:=fun q hq k=>by
      obtain ⟨oa,k1,k2,_⟩:=(hL q hq).alloc
      exact his p hp q.ia oa q.tA k1 k2 k.symm
     refine ⟨v,rfl,Below.only J.below p2 J.below.size ho2,?_,?_,?_,?_⟩
     · intro j oj t hj ht hne hd2
       have hji:j ≠ p.is:=fun q=>his p hp j oj t hj ht q.symm
       rw [Qar _ _ hji] at hd2
       exact (hst t).2 p hp _ _ _ _ _ (J.vals j oj t hj ht hne hd2) p3 ho2
     · intro q hq hDq
       rw [Qar _ _ (nia q hq)] at hDq
       by_cases hpq:q.tA=p.tA
       · obtain rfl:=hT q hq p hp hpq
         exact ⟨g,cs',p1,p2,hB,fun _=>hF,fun k=>by rw [Qbc] at k;cases k⟩
       · obtain ⟨g2,cs2,r1,r2,r3,r4,r5⟩:=J.box q hq hDq
         have hgg:g2 ≠ g:=fun k=>J.apart q hq p hp hpq hDq hDa (by rw [r1,p1,k])
         have hss:q.is ≠ p.is:=fun k=>hpq (by rw [hS q hq p hp k])
         refine ⟨g2,cs2,r1,r2,⟨(ho2.block g2 r3.lt hgg).trans r3.at_,r3.free⟩,fun k=>?_,fun k=>?_⟩
         · rw [Qar _ _ hss] at k
           exact (hL q hq).stays2 _ _ _ _ _ _ (r4 k) p3 ho2
         · rw [Qar _ _ hss] at k
           exact r5 k
     · intro q hq k
       rw [Qar _ _ (nia q hq)]
       by_cases hss:q.is=p.is
       · obtain rfl:=hS q hq p hp hss
         exact hDa
       · rw [Qar _ _ hss] at k
         exact J.after q hq k
     · intro q hq r hr hne k1 k2
       rw [Qar _ _ (nia q hq)] at k1
       rw [Qar _ _ (nia r hr)] at k2
       exact J.apart q hq r hr hne k1 k2
   | some t =>
     have nis:∀ q ∈ L,q.is ≠ i:=fun q hq=>his q hq i o t ho hd
     by_cases hA:∃ p ∈ L,t=p.tA
     · obtain ⟨p,hp,rfl⟩:=hA
       obtain ⟨oa,h1,h2,hga,halloc⟩:=(hL p hp).alloc
       have hii:i=p.ia:=hinj ho h1 hd h2
       subst hii
       rw [h1] at ho
       cases ho
       refine Qaa h1 hga ?_
       unfold Oper.wp
       rw [halloc,Oper.upon_value,h2]
       have hbl:=(Below.refl w'.heap.size w').alloc (Nat.le_refl _) (.cells p.zs p.T)
       have hnew:∀ q ∈ L,q.tA ≠ p.tA→q.ia ≠ p.ia:=fun q hq k r=>by
        obtain ⟨ob,k1,k2,_⟩:=(hL q hq).alloc
        rw [r,h1] at k1
        cases k1
        rw [h2] at k2
        exact k (Option.some.inj k2).symm
       refine ⟨_,Qcr _ _ _ _ _ hn (hmem h1 h2),J.below.trans (hbl.mono J.below.size),?_,?_,?_,?_⟩
       · intro j oj t hj ht hne hd2
         have htp:=hne p hp
         have hji:j ≠ p.ia:=fun q=>htp (by subst q;rw [h1] at hj;cases hj;rw [h2] at ht;cases ht;rfl)
         rw [Qar _ _ hji] at hd2;rw [Qar _ _ htp]
         exact (hst t).1 _ _ _ (J.vals j oj t hj ht hne hd2) hbl
       · intro q hq hDq
         by_cases hqp:q.tA=p.tA
         · obtain rfl:=hT q hq p hp hqp
           refine ⟨w'.heap.size,q.zs,Qbc _ _ _,J.below.size,⟨heap_alloc_new _ _,(hL q hq).free⟩,fun h=>?_,fun _=>rfl⟩
           rw [Qar _ _ (nis q hq)] at h
           have:=J.after q hq h
           rw [hDi] at this
           cases this
         · rw [Qar _ _ (hnew q hq hqp)] at hDq
           obtain ⟨g,cs,r1,r2,r3,r4,r5⟩:=J.box q hq hDq
           refine ⟨g,cs,by rw [Qar _ _ hqp];exact r1,r2,r3.below hbl,fun h=>?_,fun h=>?_⟩
           · rw [Qar _ _ (nis q hq)] at h
             exact (hL q hq).stays _ _ _ (r4 h) hbl
           · rw [Qar _ _ (nis q hq)] at h
             exact r5 h
       · intro q hq h
         rw [Qar _ _ (nis q hq)] at h
         by_cases hqp:q.tA=p.tA
         · obtain rfl:=hT q hq p hp hqp
           rw [Qbc]
         · rw [Qar _ _ (hnew q hq hqp)]
           exact J.after q hq h
       · intro q hq r hr hne k1 k2
         by_cases hqp:q.tA=p.tA
         · obtain rfl:=hT q hq p hp hqp
           have hrp:r.tA ≠ q.tA:=Ne.symm hne
           rw [Qar _ _ (hnew r hr hrp)] at k2
           obtain ⟨g,cs,r1,_,r3,_⟩:=J.box r hr k2
           rw [Qbc,Qar _ _ hrp,r1]
           intro k
           simp only [Value.pointer.injEq,Option.some.injEq,Addr.mk.injEq] at k
           have:=r3.lt
           omega
         · rw [Qar _ _ (hnew q hq hqp)] at k1
           by_cases hrp:r.tA=p.tA
           · obtain rfl:=hT r hr p hp hrp
             obtain ⟨g,cs,r1,_,r3,_⟩:=J.box q hq k1
             rw [Qbc,Qar _ _ hqp,r1]
             intro k
             simp only [Value.pointer.injEq,Option.some.injEq,Addr.mk.injEq] at k
             have:=r3.lt
             omega
           · rw [Qar _ _ (hnew r hr hrp)] at k2
             rw [Qar _ _ hqp,Qar _ _ hrp]
             exact J.apart q hq r hr hne k1 k2
     · have htA:∀ p ∈ L,t ≠ p.tA:=fun p hp k=>hA ⟨p,hp,k⟩
       have nia:∀ q ∈ L,q.ia ≠ i:=fun q hq k=>by
        obtain ⟨oa,k1,k2,_⟩:=(hL q hq).alloc
        rw [k,ho] at k1
        cases k1
        rw [hd] at k2
        cases k2
        exact htA q hq rfl
       refine wpOp_mono ?_ (hval i o t v w' ho htA hd J.below (fun e he hb' oe te h1 h2 h3=>J.vals e.on oe te h1 h2 h3 (hall e he hb')))
       rintro a'' w'' ⟨x,rfl,hbl,hF⟩
       refine ⟨_,Qcr _ _ _ _ _ hn (hmem ho hd),J.below.trans (hbl.mono J.below.size),?_,?_,?_,?_⟩
       · intro j oj t' hj ht hne hd2
         by_cases hji:j=i
         · subst hji
           rw [ho] at hj
           cases hj
           rw [hd] at ht
           cases ht
           rw [Qbc]
           exact hF
         · rw [Qar _ _ hji] at hd2
           have htt:t' ≠ t:=fun q=>hji (by subst q;exact hinj hj ho ht hd)
           rw [Qar _ _ htt]
           exact (hst t').1 _ _ _ (J.vals j oj t' hj ht hne hd2) hbl
       · intro q hq hDq
         rw [Qar _ _ (nia q hq)] at hDq
         obtain ⟨g,cs,r1,r2,r3,r4,r5⟩:=J.box q hq hDq
         refine ⟨g,cs,by rw [Qar _ _ (Ne.symm (htA q hq))];exact r1,r2,r3.below hbl,fun h=>?_,fun h=>?_⟩
         · rw [Qar _ _ (nis q hq)] at h
           exact (hL q hq).stays _ _ _ (r4 h) hbl
         · rw [Qar _ _ (nis q hq)] at h
           exact r5 h
       · intro q hq h
         rw [Qar _ _ (nis q hq)] at h
         rw [Qar _ _ (nia q hq)]
         exact J.after q hq h
       · intro q hq r hr hne k1 k2
         rw [Qar _ _ (nia q hq)] at k1
         rw [Qar _ _ (nia r hr)] at k2
         rw [Qar _ _ (Ne.symm (htA q hq)),Qar _ _ (Ne.symm (htA r hr))]
         exact J.apart q hq r hr hne k1 k2
 · intro D v w' hall J
   refine hend v w' J.below (fun i o t hi ht hne=>J.vals i o t hi ht hne (hall i (lt_of hi))) ?_ ?_
   · intro p hp
     obtain ⟨oa,h1,_⟩:=(hL p hp).alloc
     obtain ⟨os,h2,_⟩:=(hL p hp).fill
     obtain ⟨g,cs,r1,r2,r3,r4,_⟩:=J.box p hp (hall _ (lt_of h1))
     exact ⟨g,cs,r1,r2,r3,r4 (hall _ (lt_of h2))⟩
   · intro p hp q hq hne
     obtain ⟨oa,h1,_⟩:=(hL p hp).alloc
     obtain ⟨ob,h2,_⟩:=(hL q hq).alloc
     exact J.apart p hp q hq hne (hall _ (lt_of h1)) (hall _ (lt_of h2))
end
end
end Go.Proofs.YthbhngeiiabagaaGreat
