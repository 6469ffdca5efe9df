/- SegAt: part 11. -/
import Derived.Test.YtmgklaklnaihpaaGreatKSegAt9
import Derived.Test.YtmgklaklnaihpaaGreatKSegAt10
set_option linter.unusedVariables false
set_option maxRecDepth 100000
set_option maxHeartbeats 16000000
variable {w:Go.World}
variable {s_p t_p:Bool} {A_p B_p E_p F_p:Option Go.Addr} {n_p c_p m_p d_p i_p e_p j_p f_p:Nat}
variable {s_q t_q:Bool} {A_q B_q E_q F_q:Option Go.Addr} {n_q c_q m_q d_q i_q e_q j_q f_q:Nat}
variable {s_r t_r:Bool} {A_r B_r E_r F_r:Option Go.Addr} {n_r c_r m_r d_r i_r e_r j_r f_r:Nat}
variable {s_a:Bool} {A_a B_a:Option Go.Addr} {n_a c_a m_a d_a:Nat}
variable {s_b:Bool} {A_b B_b:Option Go.Addr} {n_b c_b m_b d_b:Nat}
variable {s_v:Bool} {A_v B_v:Option Go.Addr} {n_v c_v m_v d_v:Nat}
namespace Go.Proofs.YtmgklaklnaihpaaGreat
section
open Go Go.RowKit
def B6R (W:World) (g:Nat) (x y z u v t:Value):Prop:=W.heap[g]?=some (.cells #[x,y,z,u,v,t] 60 (0,0))
section
variable {W W':World} {g:Nat} {x y z u v t:Value}
theorem B6R.c0 (h:B6R W g x y z u v t):W.cell? ⟨g,0,none⟩=some x:=by rw [cell_of_row W g 0 _ _ (0,0) h];rfl
theorem B6R.c1 (h:B6R W g x y z u v t):W.cell? ⟨g,1,none⟩=some y:=by rw [cell_of_row W g 1 _ _ (0,0) h];rfl
theorem B6R.c2 (h:B6R W g x y z u v t):W.cell? ⟨g,2,none⟩=some z:=by rw [cell_of_row W g 2 _ _ (0,0) h];rfl
theorem B6R.c3 (h:B6R W g x y z u v t):W.cell? ⟨g,3,none⟩=some u:=by rw [cell_of_row W g 3 _ _ (0,0) h];rfl
theorem B6R.c4 (h:B6R W g x y z u v t):W.cell? ⟨g,4,none⟩=some v:=by rw [cell_of_row W g 4 _ _ (0,0) h];rfl
theorem B6R.c5 (h:B6R W g x y z u v t):W.cell? ⟨g,5,none⟩=some t:=by rw [cell_of_row W g 5 _ _ (0,0) h];rfl
theorem B6R.all (h:B6R W g x y z u v t):W.cell? ⟨g,0,none⟩=some x∧W.cell? ⟨g,1,none⟩=some y∧W.cell? ⟨g,2,none⟩=some z∧W.cell? ⟨g,3,none⟩=some u∧W.cell? ⟨g,4,none⟩=some v∧W.cell? ⟨g,5,none⟩=some t:=⟨h.c0,h.c1,h.c2,h.c3,h.c4,h.c5⟩
theorem B6R.f0 (h:B6R W g x y z u v t):W.frozen? ⟨g,0,none⟩=false:=frozen_of_row W g 0 _ _ h
theorem B6R.f1 (h:B6R W g x y z u v t):W.frozen? ⟨g,1,none⟩=false:=frozen_of_row W g 1 _ _ h
theorem B6R.f2 (h:B6R W g x y z u v t):W.frozen? ⟨g,2,none⟩=false:=frozen_of_row W g 2 _ _ h
theorem B6R.f3 (h:B6R W g x y z u v t):W.frozen? ⟨g,3,none⟩=false:=frozen_of_row W g 3 _ _ h
theorem B6R.f4 (h:B6R W g x y z u v t):W.frozen? ⟨g,4,none⟩=false:=frozen_of_row W g 4 _ _ h
theorem B6R.f5 (h:B6R W g x y z u v t):W.frozen? ⟨g,5,none⟩=false:=frozen_of_row W g 5 _ _ h
theorem B6R.lt (h:B6R W g x y z u v t):g < W.heap.size:=World.block_lt_of_cell? W _ h.c0
theorem B6R.below (h:B6R W g x y z u v t) (hb:Below W.heap.size W W'):B6R W' g x y z u v t:=(hb.block g h.lt).trans h
theorem B6R.alloc (h:B6R W g x y z u v t) (o:Obj):B6R (W.alloc o) g x y z u v t:=(Below.heap_alloc W o g h.lt).trans h
theorem B6R.new' (W:World) (x y z u v t:Value) (g:Nat) (hg:g=W.heap.size):B6R (W.alloc (.cells #[x,y,z,u,v,t] 60)) g x y z u v t:=by subst hg;exact heap_alloc_new W _
end
theorem B6R.set6 {W:World} {g:Nat} {x y z u v t:Value} (h:B6R W g x y z u v t) (a b c d e f:Value):B6R ((((((W.setCell ⟨g,0,none⟩ a).setCell ⟨g,1,none⟩ b).setCell ⟨g,2,none⟩ c).setCell ⟨g,3,none⟩ d).setCell ⟨g,4,none⟩ e).setCell ⟨g,5,none⟩ f) g a b c d e f:=by
 unfold B6R at h ⊢
 simp [World.setCell,Array.getElem?_modify,h]
theorem Rd.off6R {K:IntKind} {W:World} {g:Nat} {s t:Bool} {A A1 A2 A3 A4:Option Addr} {n n1 c1 n2 c2 n3 c3 n4 c4:Nat} {l:List Nat} (hr:Rd K W A n l) (h:B6R W g (.bool s) (.slice A1 n1 c1) (.slice A2 n2 c2) (.bool t) (.slice A3 n3 c3) (.slice A4 n4 c4)):Off A n g:=by
 intro hn ad e hg
 obtain ⟨b,o,eA,hc⟩:=hr.at_ hn
 obtain ⟨x,_,hx⟩:=hc 0 hn
 rw [eA] at e
 cases e
 have hg2:b=g:=hg
 subst hg2
 rw [cell_of_row W b (o+0) _ _ (0,0) h] at hx
 match o,hx with
 | 0,hx=>cases hx
 | 1,hx=>cases hx
 | 2,hx=>cases hx
 | 3,hx=>cases hx
 | 4,hx=>cases hx
 | 5,hx=>cases hx
 | o+6,hx=>cases hx
def RP (w:World) (s:Bool) (A:Option Addr) (n c:Nat) (B:Option Addr) (m d:Nat) (t:Bool) (E:Option Addr) (i e:Nat) (F:Option Addr) (j f:Nat) (x y:Rat) (k:Nat):Prop:=RQ w s A n c B m d x k∧RQ w t E i e F j f y k
def GivesRP (w:World) (x y:Rat) (k:Nat) (en:Ending) (w':World):Prop :=
 ∃ s A n c B m d t E i e F j f,en=.returned (.agg #[.bool s,.slice A n c,.slice B m d,.bool t,.slice E i e,.slice F j f])∧RP w' s A n c B m d t E i e F j f x y k∧Below w.heap.size w w'
section
variable {w w':World} {s t:Bool} {A B E F:Option Addr} {n c m d i e j f k k1:Nat} {x y:Rat}
theorem RP.below (h:RP w s A n c B m d t E i e F j f x y k) (hb:Below w.heap.size w w'):RP w' s A n c B m d t E i e F j f x y k:=⟨h.1.below hb,h.2.below hb⟩
theorem RP.qx (h:RP w s A n c B m d t E i e F j f x y k):RQ w s A n c B m d x k:=h.1
theorem RP.qy (h:RP w s A n c B m d t E i e F j f x y k):RQ w t E i e F j f y k:=h.2
theorem RP.more (h:RP w s A n c B m d t E i e F j f x y k) (hk:k≤k1):RP w s A n c B m d t E i e F j f x y k1:=⟨h.1.more hk,h.2.more hk⟩
theorem RQ.onl {v:Rat} {g:Nat} (h:RQ w s A n c B m d v k) (h1:Off A n g) (h2:Off B m g) (ho:Only g w w'):RQ w' s A n c B m d v k:=⟨h.1.only h1 ho,h.2.only h2 ho⟩
theorem RP.set6 {s0 t0:Bool} {g:Nat} {A1 A2 A3 A4:Option Addr} {n1 c1 n2 c2 n3 c3 n4 c4:Nat} (h:RP w s A n c B m d t E i e F j f x y k) (Z:B6R w g (.bool s0) (.slice A1 n1 c1) (.slice A2 n2 c2) (.bool t0) (.slice A3 n3 c3) (.slice A4 n4 c4)) (a1 a2 a3 a4 a5 a6:Value) :
 RP ((((((w.setCell ⟨g,0,none⟩ a1).setCell ⟨g,1,none⟩ a2).setCell ⟨g,2,none⟩ a3).setCell ⟨g,3,none⟩ a4).setCell ⟨g,4,none⟩ a5).setCell ⟨g,5,none⟩ a6) s A n c B m d t E i e F j f x y k:=by
 have ho:Only g w ((((((w.setCell ⟨g,0,none⟩ a1).setCell ⟨g,1,none⟩ a2).setCell ⟨g,2,none⟩ a3).setCell ⟨g,3,none⟩ a4).setCell ⟨g,4,none⟩ a5).setCell ⟨g,5,none⟩ a6):=((((((Only.refl g w).setCell 0 _).setCell 1 _).setCell 2 _).setCell 3 _).setCell 4 _).setCell 5 _
 exact ⟨h.1.onl (h.1.1.2.1.off6R Z) (h.1.2.1.off6R Z) ho,h.2.onl (h.2.1.2.1.off6R Z) (h.2.2.1.off6R Z) ho⟩
end
theorem mkbx27_11 {w W:World} {x0 x1 x2 x3 x4 x5:Value} (h:(w.alloc (Obj.cells #[x0,x1,x2,x3,x4,x5] 60))=W):Below w.heap.size w W∧B6R W (w.heap.size) x0 x1 x2 x3 x4 x5∧W.heap.size=w.heap.size+1:=by subst h;exact ⟨by exact ((Below.refl _ _).alloc (Nat.le_refl _) _),by exact B6R.new' _ _ _ _ _ _ _ _ rfl,by simp⟩
theorem rof6 (x y:Int) (hx1:-9223372036854775808≤x) (hx2:x < 9223372036854775808) (hy1:-9223372036854775808≤y) (hy2:y < 9223372036854775808) (w:World) :
 Calls Tryz.prog 139 #[.int .i64 x,.int .i64 y] w (GivesRP w (Rat.divInt x 1) (Rat.divInt y 1) 2):=by
 have H1:=Lib.hid hx1;have H2:=Lib.hid hx2;have H3:=Lib.hid hy1;have H4:=Lib.hid hy2;clear hx1 hx2 hy1 hy2
 go_enter Tryz.func139,Tryz.ntmps139
 go_upto_region 1 with (fail)
 generalize hW:World.alloc _ _=W
 obtain ⟨hb,Z,hzW⟩:=mkbx27_11 hW;clear hW
 go_wp2_with (first
  | (go_at_call 180;(with_reducible refine (rof3 x 1 H1.out H2.out (by decide) (by decide) (by decide) _).mono ?_);rintro e w_r ⟨s_r,A_r,n_r,c_r,B_r,m_r,d_r,rfl,r,hh⟩
     (try replace Z:=Z.below hh);replace hb:=bend hb hh)
  | (go_at_call 180;(with_reducible refine (rof3 y 1 H3.out H4.out (by decide) (by decide) (by decide) _).mono ?_);rintro e w_u ⟨s_u,A_u,n_u,c_u,B_u,m_u,d_u,rfl,u,hh⟩
     (try replace Z:=Z.below hh);(try replace r:=r.below hh);replace hb:=bend hb hh;have zg0:=Z.f0;have zg1:=Z.f1;have zg2:=Z.f2;have zg3:=Z.f3;have zg4:=Z.f4;have zg5:=Z.f5;obtain ⟨zc0,zc1,zc2,zc3,zc4,zc5⟩:=Z.all))
 have Z2:=Z.set6 (.bool s_r) (.slice A_r n_r c_r) (.slice B_r m_r d_r) (.bool s_u) (.slice A_u n_u c_u) (.slice B_u m_u d_u)
 obtain ⟨g0,g1,g2,g3,g4,g5⟩:=Z2.all
 refine bodyPost_ret (v:=.agg #[.bool s_r,.slice A_r n_r c_r,.slice B_r m_r d_r,.bool s_u,.slice A_u n_u c_u,.slice B_u m_u d_u]) (by simp [results,Tryz.results139,go_sem,g0,g1,g2,g3,g4,g5]) rfl ?_
 exact ⟨_,_,_,_,_,_,_,_,_,_,_,_,_,_,rfl,(show RP _ _ _ _ _ _ _ _ _ _ _ _ _ _ _ _ _ _ from ⟨r,u⟩).set6 Z _ _ _ _ _ _,below_set6 hb (by omega) _ _ _ _ _ _⟩
theorem mkbx28_11 {w W:World} {x0 x1 x2 x3 x4 x5 x6 x7 x8 x9 x10 x11:Value} (h:((w.alloc (Obj.cells #[x0,x1,x2,x3,x4,x5] 60)).alloc (Obj.cells #[x6,x7,x8,x9,x10,x11] 56))=W):Below w.heap.size w W∧B6R W (w.heap.size) x0 x1 x2 x3 x4 x5∧B6 W (w.heap.size+1) x6 x7 x8 x9 x10 x11∧W.heap.size=w.heap.size+2:=by subst h;exact ⟨by exact (((Below.refl _ _).alloc (Nat.le_refl _) _).alloc (by simp) _),by exact (B6R.new' _ _ _ _ _ _ _ _ rfl).alloc _,by exact B6.new' _ _ _ _ _ _ _ _ (by simp),by simp⟩
theorem rout6 {k:Nat} {x y:Rat} (p:RP w s_p A_p n_p c_p B_p m_p d_p t_p E_p i_p e_p F_p j_p f_p x y k) (hk:k≤100000) (K:Nat) (h1:x.num.natAbs < B64 ^ K) (h2:x.den < B64 ^ K) (h3:y.num.natAbs < B64 ^ K) (h4:y.den < B64 ^ K) :
 Calls Tryz.prog 90 #[.agg #[.bool s_p,.slice A_p n_p c_p,.slice B_p m_p d_p,.bool t_p,.slice E_p i_p e_p,.slice F_p j_p f_p]] w (GivesPt w x y K):=by
 have H1:=Lib.hid h1;have H2:=Lib.hid h2;have H3:=Lib.hid h3;have H4:=Lib.hid h4;clear h1 h2 h3 h4
 go_enter Tryz.func90,Tryz.ntmps90
 go_upto_region 1 with (fail)
 generalize hW:World.alloc _ _=W
 obtain ⟨hb,XA,Z,hzW⟩:=mkbx28_11 hW;clear hW;replace p:=p.below hb
 replace p:=p.below (Below.refl _ _).drew
 replace XA:=XA.below (Below.refl _ _).drew
 replace Z:=Z.below (Below.refl _ _).drew
 replace hb:=hb.drew
 go_region_held3 (fun w'=>w'.cell? ⟨w.heap.size,0,none⟩=some (.bool s_p)∧w'.cell? ⟨w.heap.size,1,none⟩=some (.slice A_p n_p c_p)∧w'.cell? ⟨w.heap.size,2,none⟩=some (.slice B_p m_p d_p)∧w'.cell? ⟨w.heap.size,3,none⟩=some (.bool t_p)∧w'.cell? ⟨w.heap.size,4,none⟩=some (.slice E_p i_p e_p)∧w'.cell? ⟨w.heap.size,5,none⟩=some (.slice F_p j_p f_p))
  (first | with_reducible exact ⟨XA.c0,XA.c1,XA.c2,XA.c3,XA.c4,XA.c5⟩ | with_reducible exact ⟨(set6_cell _ _ _ _ _ _ _ _ _ _ (by omega)).trans XA.c0,(set6_cell _ _ _ _ _ _ _ _ _ _ (by omega)).trans XA.c1,(set6_cell _ _ _ _ _ _ _ _ _ _ (by omega)).trans XA.c2,(set6_cell _ _ _ _ _ _ _ _ _ _ (by omega)).trans XA.c3,(set6_cell _ _ _ _ _ _ _ _ _ _ (by omega)).trans XA.c4,(set6_cell _ _ _ _ _ _ _ _ _ _ (by omega)).trans XA.c5⟩)
  (first
  | (go_at_call 60;(with_reducible refine (rout3g p.qx hk K H1.out H2.out).mono ?_);rintro e w_r ⟨s_r,A_r,n_r,c_r,B_r,m_r,d_r,rfl,r,hh⟩
     (try replace p:=p.below hh);(try replace XA:=XA.below hh);(try replace Z:=Z.below hh);replace hb:=bend hb hh)
  | (go_at_call 60;(with_reducible refine (rout3g p.qy hk K H3.out H4.out).mono ?_);rintro e w_u ⟨s_u,A_u,n_u,c_u,B_u,m_u,d_u,rfl,u,hh⟩
     (try replace p:=p.below hh);(try replace r:=r.below hh);(try replace XA:=XA.below hh);(try replace Z:=Z.below hh);replace hb:=bend hb hh;have zg0:=Z.f0;have zg1:=Z.f1;have zg2:=Z.f2;have zg3:=Z.f3;have zg4:=Z.f4;have zg5:=Z.f5;obtain ⟨zc0,zc1,zc2,zc3,zc4,zc5⟩:=Z.all))
 go_wp2_with fail
 have Z2:=Z.set6 (.bool s_r) (.slice A_r n_r c_r) (.slice B_r m_r d_r) (.bool s_u) (.slice A_u n_u c_u) (.slice B_u m_u d_u)
 obtain ⟨g0,g1,g2,g3,g4,g5⟩:=Z2.all
 refine bodyPost_ret (v:=.agg #[.bool s_r,.slice A_r n_r c_r,.slice B_r m_r d_r,.bool s_u,.slice A_u n_u c_u,.slice B_u m_u d_u]) (by simp [results,Tryz.results90,go_sem,g0,g1,g2,g3,g4,g5]) rfl ?_
 exact ⟨_,_,_,_,_,_,_,_,_,_,_,_,_,_,rfl,(show PG _ _ _ _ _ _ _ _ _ _ _ _ _ _ _ _ _ _ from ⟨r,u⟩).set6 Z _ _ _ _ _ _,below_set6 hb (by omega) _ _ _ _ _ _⟩
theorem int_fits {x:Int} (h1:-9223372036854775808≤x) (h2:x < 9223372036854775808):(Rat.divInt x 1).num.natAbs < B64 ^ 1∧(Rat.divInt x 1).den < B64 ^ 1:=by
 rw [(int_parts x).1,(int_parts x).2,Nat.pow_one]
 have:B64=18446744073709551616:=rfl
 omega
theorem lawP (x y:Int) (hx1:-9223372036854775808≤x) (hx2:x < 9223372036854775808) (hy1:-9223372036854775808≤y) (hy2:y < 9223372036854775808) (w:World) :
 Calls Tryz.prog 82 #[.int .i64 x,.int .i64 y] w (GivesPt w (Rat.divInt x 1) (Rat.divInt y 1) 1):=by
 have HX:=Lib.hid (int_fits hx1 hx2)
 have HY:=Lib.hid (int_fits hy1 hy2)
 have H1:=Lib.hid hx1;have H2:=Lib.hid hx2;have H3:=Lib.hid hy1;have H4:=Lib.hid hy2;clear hx1 hx2 hy1 hy2
 go_enter Tryz.func82,Tryz.ntmps82
 go_upto_region 1 with (fail)
 generalize hW:World.alloc _ _=W
 obtain ⟨hb,Z,hzW⟩:=mkbx15_9 hW;clear hW
 go_wp2_with (first
  | (go_at_call 139;(with_reducible refine (rof6 x y H1.out H2.out H3.out H4.out _).mono ?_);rintro e w_r ⟨s_r,A_r,n_r,c_r,B_r,m_r,d_r,t_r,E_r,i_r,e_r,F_r,j_r,f_r,rfl,r,hh⟩
     (try replace Z:=Z.below hh);replace hb:=bend hb hh)
  | (go_at_call 90;(with_reducible refine (rout6 r (by decide) 1 HX.out.1 HX.out.2 HY.out.1 HY.out.2).mono ?_);rintro e w_u ⟨s_u,A_u,n_u,c_u,B_u,m_u,d_u,t_u,E_u,i_u,e_u,F_u,j_u,f_u,rfl,u,hh⟩
     (try replace Z:=Z.below hh);replace hb:=bend hb hh;have zg0:=Z.f0;have zg1:=Z.f1;have zg2:=Z.f2;have zg3:=Z.f3;have zg4:=Z.f4;have zg5:=Z.f5;obtain ⟨zc0,zc1,zc2,zc3,zc4,zc5⟩:=Z.all))
 have Z2:=Z.set6 (.bool s_u) (.slice A_u n_u c_u) (.slice B_u m_u d_u) (.bool t_u) (.slice E_u i_u e_u) (.slice F_u j_u f_u)
 obtain ⟨g0,g1,g2,g3,g4,g5⟩:=Z2.all
 refine bodyPost_ret (v:=.agg #[.bool s_u,.slice A_u n_u c_u,.slice B_u m_u d_u,.bool t_u,.slice E_u i_u e_u,.slice F_u j_u f_u]) (by simp [results,Tryz.results82,go_sem,g0,g1,g2,g3,g4,g5]) rfl ?_
 exact ⟨s_u,A_u,n_u,c_u,B_u,m_u,d_u,t_u,E_u,i_u,e_u,F_u,j_u,f_u,rfl,u.set6 Z _ _ _ _ _ _,below_set6 hb (by omega) _ _ _ _ _ _⟩
theorem smallpt_f (h:¬ (n_p≤6∧m_p≤6)) :
 Calls Tryz.prog 138 #[.agg #[.bool s_p,.slice A_p n_p c_p,.slice B_p m_p d_p,.bool t_p,.slice E_p i_p e_p,.slice F_p j_p f_p],.int .i64 6] w fun e w'=>e=.returned (.bool false)∧Below w.heap.size w w':=by
 have HL:Hid (decide (n_p≤6∧m_p≤6)=false):=decide_eq_false h
 clear h
 go_enter Tryz.func138,Tryz.ntmps138
 go_wp2_with fail
 generalize hW:World.alloc _ _=W
 obtain ⟨hb,XA,hzW⟩:=mkbx15_9 hW;clear hW;obtain ⟨xa0,xa1,xa2,xa3,xa4,xa5⟩:=XA.all
 go_wp2_with (first
  | (go_at_call 38;(with_reducible refine (small_6 (s:=s_p) (A:=A_p) (n:=n_p) (c:=c_p) (A':=B_p) (n':=m_p) (c':=d_p) _ false HL.out).mono ?_);rintro e w_z ⟨rfl,hh⟩
     (try replace XA:=XA.below hh);replace hb:=bend hb hh;obtain ⟨xa0,xa1,xa2,xa3,xa4,xa5⟩:=XA.all))
 go_ret;exact ⟨rfl,hb⟩
theorem smallpt_t (h:n_p≤6∧m_p≤6) :
 Calls Tryz.prog 138 #[.agg #[.bool s_p,.slice A_p n_p c_p,.slice B_p m_p d_p,.bool t_p,.slice E_p i_p e_p,.slice F_p j_p f_p],.int .i64 6] w fun e w'=>e=.returned (.bool (decide (i_p≤6∧j_p≤6)))∧Below w.heap.size w w':=by
 have HL:Hid (decide (n_p≤6∧m_p≤6)=true):=decide_eq_true h
 obtain ⟨M,hM⟩:∃ M,decide (i_p≤6∧j_p≤6)=M:=⟨_,rfl⟩
 have HM:=Lib.hid hM;rw [hM];clear hM;clear h
 go_enter Tryz.func138,Tryz.ntmps138
 go_wp2_with fail
 generalize hW:World.alloc _ _=W
 obtain ⟨hb,XA,hzW⟩:=mkbx15_9 hW;clear hW;obtain ⟨xa0,xa1,xa2,xa3,xa4,xa5⟩:=XA.all
 go_wp2_with (first
  | (go_at_call 38;(with_reducible refine (small_6 (s:=s_p) (A:=A_p) (n:=n_p) (c:=c_p) (A':=B_p) (n':=m_p) (c':=d_p) _ true HL.out).mono ?_);rintro e w_z ⟨rfl,hh⟩
     (try replace XA:=XA.below hh);replace hb:=bend hb hh;obtain ⟨xa0,xa1,xa2,xa3,xa4,xa5⟩:=XA.all)
  | (go_at_call 38;(with_reducible refine (small_6 (s:=t_p) (A:=E_p) (n:=i_p) (c:=e_p) (A':=F_p) (n':=j_p) (c':=f_p) _ M HM.out).mono ?_);rintro e w_z ⟨rfl,hh⟩
     (try replace XA:=XA.below hh);replace hb:=bend hb hh;obtain ⟨xa0,xa1,xa2,xa3,xa4,xa5⟩:=XA.all))
 go_ret;exact ⟨rfl,hb⟩
theorem smallpt_6 (L:Bool) (hL:decide ((n_p≤6∧m_p≤6)∧i_p≤6∧j_p≤6)=L) :
 Calls Tryz.prog 138 #[.agg #[.bool s_p,.slice A_p n_p c_p,.slice B_p m_p d_p,.bool t_p,.slice E_p i_p e_p,.slice F_p j_p f_p],.int .i64 6] w fun e w'=>e=.returned (.bool L)∧Below w.heap.size w w':=by
 subst hL
 by_cases h:n_p≤6∧m_p≤6
 · have e:decide (i_p≤6∧j_p≤6)=decide ((n_p≤6∧m_p≤6)∧i_p≤6∧j_p≤6):=by simp [h]
   rw [← e];exact smallpt_t h
 · have e:false=decide ((n_p≤6∧m_p≤6)∧i_p≤6∧j_p≤6):=by simp [h]
   rw [← e];exact smallpt_f h
def BL2 (W:World) (g:Nat) (v0:Value) (v1:Value) (v2:Value) (v3:Value) (v4:Value) (v5:Value) (v6:Value) (v7:Value) (v8:Value) (v9:Value) (v10:Value) (v11:Value):Prop:=W.heap[g]?=some (.cells #[v0,v1,v2,v3,v4,v5,v6,v7,v8,v9,v10,v11] 56 (0,0))
section
variable {W W':World} {g:Nat} {v0 v1 v2 v3 v4 v5 v6 v7 v8 v9 v10 v11:Value}
theorem BL2.c0 (h:BL2 W g v0 v1 v2 v3 v4 v5 v6 v7 v8 v9 v10 v11):W.cell? ⟨g,0,none⟩=some v0:=by rw [cell_of_row W g 0 _ _ (0,0) h];rfl
theorem BL2.c1 (h:BL2 W g v0 v1 v2 v3 v4 v5 v6 v7 v8 v9 v10 v11):W.cell? ⟨g,1,none⟩=some v1:=by rw [cell_of_row W g 1 _ _ (0,0) h];rfl
theorem BL2.c2 (h:BL2 W g v0 v1 v2 v3 v4 v5 v6 v7 v8 v9 v10 v11):W.cell? ⟨g,2,none⟩=some v2:=by rw [cell_of_row W g 2 _ _ (0,0) h];rfl
theorem BL2.c3 (h:BL2 W g v0 v1 v2 v3 v4 v5 v6 v7 v8 v9 v10 v11):W.cell? ⟨g,3,none⟩=some v3:=by rw [cell_of_row W g 3 _ _ (0,0) h];rfl
theorem BL2.c4 (h:BL2 W g v0 v1 v2 v3 v4 v5 v6 v7 v8 v9 v10 v11):W.cell? ⟨g,4,none⟩=some v4:=by rw [cell_of_row W g 4 _ _ (0,0) h];rfl
theorem BL2.c5 (h:BL2 W g v0 v1 v2 v3 v4 v5 v6 v7 v8 v9 v10 v11):W.cell? ⟨g,5,none⟩=some v5:=by rw [cell_of_row W g 5 _ _ (0,0) h];rfl
theorem BL2.c6 (h:BL2 W g v0 v1 v2 v3 v4 v5 v6 v7 v8 v9 v10 v11):W.cell? ⟨g,6,none⟩=some v6:=by rw [cell_of_row W g 6 _ _ (0,0) h];rfl
theorem BL2.c7 (h:BL2 W g v0 v1 v2 v3 v4 v5 v6 v7 v8 v9 v10 v11):W.cell? ⟨g,7,none⟩=some v7:=by rw [cell_of_row W g 7 _ _ (0,0) h];rfl
theorem BL2.c8 (h:BL2 W g v0 v1 v2 v3 v4 v5 v6 v7 v8 v9 v10 v11):W.cell? ⟨g,8,none⟩=some v8:=by rw [cell_of_row W g 8 _ _ (0,0) h];rfl
theorem BL2.c9 (h:BL2 W g v0 v1 v2 v3 v4 v5 v6 v7 v8 v9 v10 v11):W.cell? ⟨g,9,none⟩=some v9:=by rw [cell_of_row W g 9 _ _ (0,0) h];rfl
theorem BL2.c10 (h:BL2 W g v0 v1 v2 v3 v4 v5 v6 v7 v8 v9 v10 v11):W.cell? ⟨g,10,none⟩=some v10:=by rw [cell_of_row W g 10 _ _ (0,0) h];rfl
theorem BL2.c11 (h:BL2 W g v0 v1 v2 v3 v4 v5 v6 v7 v8 v9 v10 v11):W.cell? ⟨g,11,none⟩=some v11:=by rw [cell_of_row W g 11 _ _ (0,0) h];rfl
theorem BL2.all (h:BL2 W g v0 v1 v2 v3 v4 v5 v6 v7 v8 v9 v10 v11):W.cell? ⟨g,0,none⟩=some v0∧W.cell? ⟨g,1,none⟩=some v1∧W.cell? ⟨g,2,none⟩=some v2∧W.cell? ⟨g,3,none⟩=some v3∧W.cell? ⟨g,4,none⟩=some v4∧W.cell? ⟨g,5,none⟩=some v5∧W.cell? ⟨g,6,none⟩=some v6∧W.cell? ⟨g,7,none⟩=some v7∧W.cell? ⟨g,8,none⟩=some v8∧W.cell? ⟨g,9,none⟩=some v9∧W.cell? ⟨g,10,none⟩=some v10∧W.cell? ⟨g,11,none⟩=some v11:=⟨h.c0,h.c1,h.c2,h.c3,h.c4,h.c5,h.c6,h.c7,h.c8,h.c9,h.c10,h.c11⟩
theorem BL2.lt (h:BL2 W g v0 v1 v2 v3 v4 v5 v6 v7 v8 v9 v10 v11):g < W.heap.size:=World.block_lt_of_cell? W _ h.c0
theorem BL2.below (h:BL2 W g v0 v1 v2 v3 v4 v5 v6 v7 v8 v9 v10 v11) (hb:Below W.heap.size W W'):BL2 W' g v0 v1 v2 v3 v4 v5 v6 v7 v8 v9 v10 v11:=(hb.block g h.lt).trans h
theorem BL2.alloc (h:BL2 W g v0 v1 v2 v3 v4 v5 v6 v7 v8 v9 v10 v11) (o:Obj):BL2 (W.alloc o) g v0 v1 v2 v3 v4 v5 v6 v7 v8 v9 v10 v11:=(Below.heap_alloc W o g h.lt).trans h
end
theorem BL2.new' (W:World) (v0 v1 v2 v3 v4 v5 v6 v7 v8 v9 v10 v11:Value) (g:Nat) (hg:g=W.heap.size):BL2 (W.alloc (.cells #[v0,v1,v2,v3,v4,v5,v6,v7,v8,v9,v10,v11] 56)) g v0 v1 v2 v3 v4 v5 v6 v7 v8 v9 v10 v11:=by subst hg;exact heap_alloc_new W _
theorem line2_0 {g:Nat} (L:BL2 w g (.bool s_p) (.slice A_p n_p c_p) (.slice B_p m_p d_p) (.bool t_p) (.slice E_p i_p e_p) (.slice F_p j_p f_p) (.bool s_q) (.slice A_q n_q c_q) (.slice B_q m_q d_q) (.bool t_q) (.slice E_q i_q e_q) (.slice F_q j_q f_q)) (h0:decide ((n_p≤6∧m_p≤6)∧i_p≤6∧j_p≤6)=false) :
 Calls Tryz.prog 81 #[.slice (some ⟨g,0,none⟩) 2 2,.int .i64 6] w fun e w'=>e=.returned (.bool false)∧Below w.heap.size w w':=by
 have H0:=Lib.hid h0;clear h0
 have hb:Below w.heap.size w w:=Below.refl _ _
 obtain ⟨l0,l1,l2,l3,l4,l5,l6,l7,l8,l9,l10,l11⟩:=L.all
 go_enter Tryz.func81,Tryz.ntmps81
 go_wp2_with fail
 refine wp_loop_rounds 3 ?_
 rw [rounds_succ]
 go_wp2_with (first
  | (go_at_call 138;(with_reducible refine (smallpt_6 (s_p:=s_p) (A_p:=A_p) (n_p:=n_p) (c_p:=c_p) (B_p:=B_p) (m_p:=m_p) (d_p:=d_p) (t_p:=t_p) (E_p:=E_p) (i_p:=i_p) (e_p:=e_p) (F_p:=F_p) (j_p:=j_p) (f_p:=f_p) false H0.out).mono ?_);rintro e w_z ⟨rfl,hh⟩
     (try replace L:=L.below hh);replace hb:=bend hb hh;obtain ⟨l0,l1,l2,l3,l4,l5,l6,l7,l8,l9,l10,l11⟩:=L.all))
 go_ret;exact ⟨rfl,hb⟩
theorem line2_1 {g:Nat} (L:BL2 w g (.bool s_p) (.slice A_p n_p c_p) (.slice B_p m_p d_p) (.bool t_p) (.slice E_p i_p e_p) (.slice F_p j_p f_p) (.bool s_q) (.slice A_q n_q c_q) (.slice B_q m_q d_q) (.bool t_q) (.slice E_q i_q e_q) (.slice F_q j_q f_q)) (h0:decide ((n_p≤6∧m_p≤6)∧i_p≤6∧j_p≤6)=true) (h1:decide ((n_q≤6∧m_q≤6)∧i_q≤6∧j_q≤6)=false) :
 Calls Tryz.prog 81 #[.slice (some ⟨g,0,none⟩) 2 2,.int .i64 6] w fun e w'=>e=.returned (.bool false)∧Below w.heap.size w w':=by
 have H0:=Lib.hid h0;clear h0;have H1:=Lib.hid h1;clear h1
 have hb:Below w.heap.size w w:=Below.refl _ _
 obtain ⟨l0,l1,l2,l3,l4,l5,l6,l7,l8,l9,l10,l11⟩:=L.all
 go_enter Tryz.func81,Tryz.ntmps81
 go_wp2_with fail
 refine wp_loop_rounds 3 ?_
 rw [rounds_succ]
 go_wp2_with (first
  | (go_at_call 138;(with_reducible refine (smallpt_6 (s_p:=s_p) (A_p:=A_p) (n_p:=n_p) (c_p:=c_p) (B_p:=B_p) (m_p:=m_p) (d_p:=d_p) (t_p:=t_p) (E_p:=E_p) (i_p:=i_p) (e_p:=e_p) (F_p:=F_p) (j_p:=j_p) (f_p:=f_p) true H0.out).mono ?_);rintro e w_z ⟨rfl,hh⟩
     (try replace L:=L.below hh);replace hb:=bend hb hh;obtain ⟨l0,l1,l2,l3,l4,l5,l6,l7,l8,l9,l10,l11⟩:=L.all))
 rw [rounds_succ]
 go_wp2_with (first
  | (go_at_call 138;(with_reducible refine (smallpt_6 (s_p:=s_q) (A_p:=A_q) (n_p:=n_q) (c_p:=c_q) (B_p:=B_q) (m_p:=m_q) (d_p:=d_q) (t_p:=t_q) (E_p:=E_q) (i_p:=i_q) (e_p:=e_q) (F_p:=F_q) (j_p:=j_q) (f_p:=f_q) false H1.out).mono ?_);rintro e w_z ⟨rfl,hh⟩
     (try replace L:=L.below hh);replace hb:=bend hb hh;obtain ⟨l0,l1,l2,l3,l4,l5,l6,l7,l8,l9,l10,l11⟩:=L.all))
 go_ret;exact ⟨rfl,hb⟩
theorem line2_2 {g:Nat} (L:BL2 w g (.bool s_p) (.slice A_p n_p c_p) (.slice B_p m_p d_p) (.bool t_p) (.slice E_p i_p e_p) (.slice F_p j_p f_p) (.bool s_q) (.slice A_q n_q c_q) (.slice B_q m_q d_q) (.bool t_q) (.slice E_q i_q e_q) (.slice F_q j_q f_q)) (h0:decide ((n_p≤6∧m_p≤6)∧i_p≤6∧j_p≤6)=true) (h1:decide ((n_q≤6∧m_q≤6)∧i_q≤6∧j_q≤6)=true) :
 Calls Tryz.prog 81 #[.slice (some ⟨g,0,none⟩) 2 2,.int .i64 6] w fun e w'=>e=.returned (.bool true)∧Below w.heap.size w w':=by
 have H0:=Lib.hid h0;clear h0;have H1:=Lib.hid h1;clear h1
 have hb:Below w.heap.size w w:=Below.refl _ _
 obtain ⟨l0,l1,l2,l3,l4,l5,l6,l7,l8,l9,l10,l11⟩:=L.all
 go_enter Tryz.func81,Tryz.ntmps81
 go_wp2_with fail
 refine wp_loop_rounds 3 ?_
 rw [rounds_succ]
 go_wp2_with (first
  | (go_at_call 138;(with_reducible refine (smallpt_6 (s_p:=s_p) (A_p:=A_p) (n_p:=n_p) (c_p:=c_p) (B_p:=B_p) (m_p:=m_p) (d_p:=d_p) (t_p:=t_p) (E_p:=E_p) (i_p:=i_p) (e_p:=e_p) (F_p:=F_p) (j_p:=j_p) (f_p:=f_p) true H0.out).mono ?_);rintro e w_z ⟨rfl,hh⟩
     (try replace L:=L.below hh);replace hb:=bend hb hh;obtain ⟨l0,l1,l2,l3,l4,l5,l6,l7,l8,l9,l10,l11⟩:=L.all))
 rw [rounds_succ]
 go_wp2_with (first
  | (go_at_call 138;(with_reducible refine (smallpt_6 (s_p:=s_q) (A_p:=A_q) (n_p:=n_q) (c_p:=c_q) (B_p:=B_q) (m_p:=m_q) (d_p:=d_q) (t_p:=t_q) (E_p:=E_q) (i_p:=i_q) (e_p:=e_q) (F_p:=F_q) (j_p:=j_q) (f_p:=f_q) true H1.out).mono ?_);rintro e w_z ⟨rfl,hh⟩
     (try replace L:=L.below hh);replace hb:=bend hb hh;obtain ⟨l0,l1,l2,l3,l4,l5,l6,l7,l8,l9,l10,l11⟩:=L.all))
 rw [rounds_succ]
 go_wp2_with fail
 go_ret;exact ⟨rfl,hb⟩
theorem line2 {g:Nat} (L:BL2 w g (.bool s_p) (.slice A_p n_p c_p) (.slice B_p m_p d_p) (.bool t_p) (.slice E_p i_p e_p) (.slice F_p j_p f_p) (.bool s_q) (.slice A_q n_q c_q) (.slice B_q m_q d_q) (.bool t_q) (.slice E_q i_q e_q) (.slice F_q j_q f_q)) (R:Bool) (hR:decide (((n_p≤6∧m_p≤6)∧i_p≤6∧j_p≤6)∧((n_q≤6∧m_q≤6)∧i_q≤6∧j_q≤6))=R) :
 Calls Tryz.prog 81 #[.slice (some ⟨g,0,none⟩) 2 2,.int .i64 6] w fun e w'=>e=.returned (.bool R)∧Below w.heap.size w w':=by
 subst hR
 by_cases h0:(n_p≤6∧m_p≤6)∧i_p≤6∧j_p≤6
 case neg=>rw [decide_eq_false (fun q=>h0 q.1)];exact line2_0 L  (decide_eq_false h0)
 by_cases h1:(n_q≤6∧m_q≤6)∧i_q≤6∧j_q≤6
 case neg=>rw [decide_eq_false (fun q=>h1 q.2)];exact line2_1 L (decide_eq_true h0) (decide_eq_false h1)
 rw [decide_eq_true ⟨h0,h1⟩];exact line2_2 L (decide_eq_true h0) (decide_eq_true h1)
theorem fair2 {g:Nat} (L:BL2 w g (.bool s_p) (.slice A_p n_p c_p) (.slice B_p m_p d_p) (.bool t_p) (.slice E_p i_p e_p) (.slice F_p j_p f_p) (.bool s_q) (.slice A_q n_q c_q) (.slice B_q m_q d_q) (.bool t_q) (.slice E_q i_q e_q) (.slice F_q j_q f_q)) (R:Bool) (hR:decide (((n_p≤6∧m_p≤6)∧i_p≤6∧j_p≤6)∧((n_q≤6∧m_q≤6)∧i_q≤6∧j_q≤6))=R) :
 Calls Tryz.prog 29 #[.slice (some ⟨g,0,none⟩) 2 2] w fun e w'=>e=.returned (.bool R)∧Below w.heap.size w w':=by
 have HR:=Lib.hid hR;clear hR
 have hb:Below w.heap.size w w:=Below.refl _ _
 go_enter Tryz.func29,Tryz.ntmps29
 go_wp2_with (first
  | (go_at_call 81;(with_reducible refine (line2 L R HR.out).mono ?_);rintro e w_z ⟨rfl,hh⟩
     replace hb:=bend hb hh))
 go_ret;exact ⟨rfl,hb⟩
def BL3 (W:World) (g:Nat) (v0:Value) (v1:Value) (v2:Value) (v3:Value) (v4:Value) (v5:Value) (v6:Value) (v7:Value) (v8:Value) (v9:Value) (v10:Value) (v11:Value) (v12:Value) (v13:Value) (v14:Value) (v15:Value) (v16:Value) (v17:Value):Prop:=W.heap[g]?=some (.cells #[v0,v1,v2,v3,v4,v5,v6,v7,v8,v9,v10,v11,v12,v13,v14,v15,v16,v17] 56 (0,0))
section
variable {W W':World} {g:Nat} {v0 v1 v2 v3 v4 v5 v6 v7 v8 v9 v10 v11 v12 v13 v14 v15 v16 v17:Value}
theorem BL3.c0 (h:BL3 W g v0 v1 v2 v3 v4 v5 v6 v7 v8 v9 v10 v11 v12 v13 v14 v15 v16 v17):W.cell? ⟨g,0,none⟩=some v0:=by rw [cell_of_row W g 0 _ _ (0,0) h];rfl
theorem BL3.c1 (h:BL3 W g v0 v1 v2 v3 v4 v5 v6 v7 v8 v9 v10 v11 v12 v13 v14 v15 v16 v17):W.cell? ⟨g,1,none⟩=some v1:=by rw [cell_of_row W g 1 _ _ (0,0) h];rfl
theorem BL3.c2 (h:BL3 W g v0 v1 v2 v3 v4 v5 v6 v7 v8 v9 v10 v11 v12 v13 v14 v15 v16 v17):W.cell? ⟨g,2,none⟩=some v2:=by rw [cell_of_row W g 2 _ _ (0,0) h];rfl
theorem BL3.c3 (h:BL3 W g v0 v1 v2 v3 v4 v5 v6 v7 v8 v9 v10 v11 v12 v13 v14 v15 v16 v17):W.cell? ⟨g,3,none⟩=some v3:=by rw [cell_of_row W g 3 _ _ (0,0) h];rfl
theorem BL3.c4 (h:BL3 W g v0 v1 v2 v3 v4 v5 v6 v7 v8 v9 v10 v11 v12 v13 v14 v15 v16 v17):W.cell? ⟨g,4,none⟩=some v4:=by rw [cell_of_row W g 4 _ _ (0,0) h];rfl
theorem BL3.c5 (h:BL3 W g v0 v1 v2 v3 v4 v5 v6 v7 v8 v9 v10 v11 v12 v13 v14 v15 v16 v17):W.cell? ⟨g,5,none⟩=some v5:=by rw [cell_of_row W g 5 _ _ (0,0) h];rfl
theorem BL3.c6 (h:BL3 W g v0 v1 v2 v3 v4 v5 v6 v7 v8 v9 v10 v11 v12 v13 v14 v15 v16 v17):W.cell? ⟨g,6,none⟩=some v6:=by rw [cell_of_row W g 6 _ _ (0,0) h];rfl
theorem BL3.c7 (h:BL3 W g v0 v1 v2 v3 v4 v5 v6 v7 v8 v9 v10 v11 v12 v13 v14 v15 v16 v17):W.cell? ⟨g,7,none⟩=some v7:=by rw [cell_of_row W g 7 _ _ (0,0) h];rfl
theorem BL3.c8 (h:BL3 W g v0 v1 v2 v3 v4 v5 v6 v7 v8 v9 v10 v11 v12 v13 v14 v15 v16 v17):W.cell? ⟨g,8,none⟩=some v8:=by rw [cell_of_row W g 8 _ _ (0,0) h];rfl
theorem BL3.c9 (h:BL3 W g v0 v1 v2 v3 v4 v5 v6 v7 v8 v9 v10 v11 v12 v13 v14 v15 v16 v17):W.cell? ⟨g,9,none⟩=some v9:=by rw [cell_of_row W g 9 _ _ (0,0) h];rfl
theorem BL3.c10 (h:BL3 W g v0 v1 v2 v3 v4 v5 v6 v7 v8 v9 v10 v11 v12 v13 v14 v15 v16 v17):W.cell? ⟨g,10,none⟩=some v10:=by rw [cell_of_row W g 10 _ _ (0,0) h];rfl
theorem BL3.c11 (h:BL3 W g v0 v1 v2 v3 v4 v5 v6 v7 v8 v9 v10 v11 v12 v13 v14 v15 v16 v17):W.cell? ⟨g,11,none⟩=some v11:=by rw [cell_of_row W g 11 _ _ (0,0) h];rfl
theorem BL3.all (h:BL3 W g v0 v1 v2 v3 v4 v5 v6 v7 v8 v9 v10 v11 v12 v13 v14 v15 v16 v17):W.cell? ⟨g,0,none⟩=some v0∧W.cell? ⟨g,1,none⟩=some v1∧W.cell? ⟨g,2,none⟩=some v2∧W.cell? ⟨g,3,none⟩=some v3∧W.cell? ⟨g,4,none⟩=some v4∧W.cell? ⟨g,5,none⟩=some v5∧W.cell? ⟨g,6,none⟩=some v6∧W.cell? ⟨g,7,none⟩=some v7∧W.cell? ⟨g,8,none⟩=some v8∧W.cell? ⟨g,9,none⟩=some v9∧W.cell? ⟨g,10,none⟩=some v10∧W.cell? ⟨g,11,none⟩=some v11:=⟨h.c0,h.c1,h.c2,h.c3,h.c4,h.c5,h.c6,h.c7,h.c8,h.c9,h.c10,h.c11⟩
theorem BL3.lt (h:BL3 W g v0 v1 v2 v3 v4 v5 v6 v7 v8 v9 v10 v11 v12 v13 v14 v15 v16 v17):g < W.heap.size:=World.block_lt_of_cell? W _ h.c0
theorem BL3.below (h:BL3 W g v0 v1 v2 v3 v4 v5 v6 v7 v8 v9 v10 v11 v12 v13 v14 v15 v16 v17) (hb:Below W.heap.size W W'):BL3 W' g v0 v1 v2 v3 v4 v5 v6 v7 v8 v9 v10 v11 v12 v13 v14 v15 v16 v17:=(hb.block g h.lt).trans h
theorem BL3.alloc (h:BL3 W g v0 v1 v2 v3 v4 v5 v6 v7 v8 v9 v10 v11 v12 v13 v14 v15 v16 v17) (o:Obj):BL3 (W.alloc o) g v0 v1 v2 v3 v4 v5 v6 v7 v8 v9 v10 v11 v12 v13 v14 v15 v16 v17:=(Below.heap_alloc W o g h.lt).trans h
end
theorem BL3.new' (W:World) (v0 v1 v2 v3 v4 v5 v6 v7 v8 v9 v10 v11 v12 v13 v14 v15 v16 v17:Value) (g:Nat) (hg:g=W.heap.size):BL3 (W.alloc (.cells #[v0,v1,v2,v3,v4,v5,v6,v7,v8,v9,v10,v11,v12,v13,v14,v15,v16,v17] 56)) g v0 v1 v2 v3 v4 v5 v6 v7 v8 v9 v10 v11 v12 v13 v14 v15 v16 v17:=by subst hg;exact heap_alloc_new W _
end
section
open Go Go.RowKit
theorem free6 (s:Bool) (A B:Option Addr) (n c m d:Nat) (t:Bool) (E F:Option Addr) (i e j f:Nat):∀ (x:Nat) (k:IntKind) (v:Int),(#[.bool s,.slice A n c,.slice B m d,.bool t,.slice E i e,.slice F j f]:Array Value)[x]? ≠ some (.int k v):=by
 intro x k v h
 match x,h with
 | 0,h=>cases h
 | 1,h=>cases h
 | 2,h=>cases h
 | 3,h=>cases h
 | 4,h=>cases h
 | 5,h=>cases h
 | x+6,h=>cases h
def VPG (x y:Rat) (k:Nat) (v:Value) (w:World):Prop:=∃ s A n c B m d t E i e F j f,v=.agg #[.bool s,.slice A n c,.slice B m d,.bool t,.slice E i e,.slice F j f]∧PG w s A n c B m d t E i e F j f x y k
theorem PG.box {T:TypeId} {w w':World} {g:Nat} {cs:Array Value} {s t:Bool} {A B E F:Option Addr} {n c m d i e j f:Nat} {x y:Rat} {k:Nat} (h:PG w s A n c B m d t E i e F j f x y k) (Z:BoxAt T w g cs) (ho:Only g w w'):PG w' s A n c B m d t E i e F j f x y k:=⟨h.1.box Z ho,h.2.box Z ho⟩
theorem stays_pg (x y:Rat) (k:Nat):Stays (VPG x y k) :=
 ⟨fun _ _ _ ⟨s,A,n,c,B,m,d,t,E,i,e,F,j,f,h1,h2⟩ hb=>⟨s,A,n,c,B,m,d,t,E,i,e,F,j,f,h1,h2.below hb⟩,fun _ _ _ _ _ _ ⟨s,A,n,c,B,m,d,t,E,i,e,F,j,f,h1,h2⟩ hB ho=>⟨s,A,n,c,B,m,d,t,E,i,e,F,j,f,h1,h2.box hB ho⟩⟩
theorem run_load6 {e1:Operand→Value} {x1:Operand} {d1:Option Tmp} {y1 g:Nat} {pos:String} {af:Array Edge} {a b c d e f:Value} (h:e1 x1=.pointer (some ⟨g,0,none⟩)) (h0:w.cell? ⟨g,0,none⟩=some a) (h1:w.cell? ⟨g,1,none⟩=some b) (h2:w.cell? ⟨g,2,none⟩=some c) (h3:w.cell? ⟨g,3,none⟩=some d) (h4:w.cell? ⟨g,4,none⟩=some e) (h5:w.cell? ⟨g,5,none⟩=some f) :
 (execOp e1 ⟨d1,.load 56 x1,y1,pos,af,none⟩).run Tryz.prog w=.ok (.value (.agg #[a,b,c,d,e,f])) w:=by
 go_simp
theorem run_alloc6 {e1:Operand→Value} {d1:Option Tmp} {y1:Nat} {pos:String} {af:Array Edge} :
 (execOp e1 ⟨d1,.alloc 56,y1,pos,af,none⟩).run Tryz.prog w=.ok (.value (.pointer (some ⟨w.heap.size,0,none⟩))) (w.alloc (.cells #[.bool false,.slice none 0 0,.slice none 0 0,.bool false,.slice none 0 0,.slice none 0 0] 56)):=by
 go_simp
theorem run_store6 {e1:Operand→Value} {x1 z1:Operand} {d1:Option Tmp} {y1 g:Nat} {pos:String} {af:Array Edge} {s t:Bool} {A B E F:Option Addr} {n c m d i e j f:Nat} {v0 v1 v2 v3 v4 v5:Value} (h:e1 x1=.pointer (some ⟨g,0,none⟩)) (hz:e1 z1=.agg #[.bool s,.slice A n c,.slice B m d,.bool t,.slice E i e,.slice F j f]) (Z:B6 w g v0 v1 v2 v3 v4 v5) :
 (execOp e1 ⟨d1,.store 56 x1 z1,y1,pos,af,none⟩).run Tryz.prog w=.ok .skip ((((((w.setCell ⟨g,0,none⟩ (.bool s)).setCell ⟨g,1,none⟩ (.slice A n c)).setCell ⟨g,2,none⟩ (.slice B m d)).setCell ⟨g,3,none⟩ (.bool t)).setCell ⟨g,4,none⟩ (.slice E i e)).setCell ⟨g,5,none⟩ (.slice F j f)):=by
 obtain ⟨c0,c1,c2,c3,c4,c5⟩:=Z.all;have f0:=Z.f0;have f1:=Z.f1;have f2:=Z.f2;have f3:=Z.f3;have f4:=Z.f4;have f5:=Z.f5
 go_simp
theorem store_pg {ac:Act} {x1 z:Operand} {y1 g:Nat} {pos:String} {af:Array Edge} {Q:Exit→Act→World→Prop} {x y:Rat} {k:Nat} (p1:ac.eval x1=.pointer (some ⟨g,0,none⟩)) (h:VPG x y k (ac.eval z) w) (B:BoxAt 56 w g #[.bool false,.slice none 0 0,.slice none 0 0,.bool false,.slice none 0 0,.slice none 0 0]) :
 (⟨none,.store 56 x1 z,y1,pos,af,none⟩:Oper).wp Tryz.prog ac w (fun a'' w''=>a''=ac∧Only g w w''∧∃ cs',BoxAt 56 w'' g cs'∧(fun cs w=>∃ s A n c B m d t E i e F j f,cs=#[.bool s,.slice A n c,.slice B m d,.bool t,.slice E i e,.slice F j f]∧PG w s A n c B m d t E i e F j f x y k) cs' w'') Q:=by
 obtain ⟨s,A,n,c,B1,m,d,t,E,i,e,F,j,f,h1,h2⟩:=h
 have Z:B6 w g (.bool false) (.slice none 0 0) (.slice none 0 0) (.bool false) (.slice none 0 0) (.slice none 0 0):=B.at_
 unfold Oper.wp
 rw [run_store6 p1 h1 Z,Oper.upon_skip]
 have ho:=((((((Only.refl g w).setCell 0 (.bool s)).setCell 1 (.slice A n c)).setCell 2 (.slice B1 m d)).setCell 3 (.bool t)).setCell 4 (.slice E i e)).setCell 5 (.slice F j f)
 exact ⟨put_none ac undef,ho,#[.bool s,.slice A n c,.slice B1 m d,.bool t,.slice E i e,.slice F j f],⟨Z.set6 _ _ _ _ _ _,free6 _ _ _ _ _ _ _ _ _ _ _ _ _ _⟩,s,A,n,c,B1,m,d,t,E,i,e,F,j,f,rfl,h2.box B ho⟩
theorem rc_gesso_pt_Sub {e:Operand→Value} {x0 x1:Operand} {d:Option Tmp} {y:Nat} {pos:String} {af:Array Edge} {u0 u1:Value} (h0:e x0=u0) (h1:e x1=u1) (hf:e (.func 85)=.func (.func 85) #[] #[]) :
 (execOp e ⟨d,.call ⟨.value (.func 85),#[x0,x1],#[56,56]⟩,y,pos,af,none⟩).run Tryz.prog w=.ok (.enter 85 #[u0,u1]) w:=by
 go_simp
def wholeQ (ax ay bx by_:Rat):Rat:=(bx - ax)*(bx - ax)+(by_ - ay)*(by_ - ay)
end
section
theorem txt_one {V d:Nat} (h:0 < d) (h2:d < 10) (hV:V=d):txt V=[UInt8.ofNat (48+d)]:=by
 subst hV
 rw [txt,if_neg (by omega),limbs_small (by omega) h2 (by omega)]
 rfl
end
section
open Go Go.RowKit
theorem qtxt_i {v:Rat} {a:Nat} {l:List UInt8} (hn:v.num=(a:Int)) (hd:v.den=1) (ha:txt a=l):qtxt v=l:=by
 unfold qtxt
 rw [if_pos hd,hn]
 unfold ztxt
 rw [if_neg (by omega),show ((a:Int)).natAbs=a by omega,ha]
end
section
open Go Go.RowKit
theorem QR.of_rd {s:Bool} {A A':Option Addr} {n c n' c' k:Nat} {l l':List Nat} (h:Rd .u64 w A n l) (hL:Lim B64 l) (hnc:n≤c) (h':Rd .u64 w A' n' l') (hL':Lim B64 l') (hnc':n'≤c') (hk:n≤k) (hk':n'≤k) :
 QR w s A n c A' n' c' (mkRat (iv s (val B64 l)) (den1 (val B64 l'))) k:=⟨_,_,ZR.of_rd h hL hnc hk,⟨l',h',hL',rfl,hnc',hk'⟩,rfl⟩
end
section
open Go Go.RowKit
theorem cmp_sub (u v:Rat):cmpQ u v=sgnQ (u - v):=by
 unfold cmpQ sgnQ
 have e1:u - v < 0 ↔ u < v:=by rw [← Rat.not_le,← Rat.not_le,← Rat.le_iff_sub_nonneg]
 have e2:u - v=0 ↔ u=v:=by
  constructor
  · intro h;have:u=(u - v)+v:=by grind
    rw [this,h,Rat.zero_add]
  · intro h;rw [h];grind
 by_cases h1:u < v
 · rw [if_pos h1,if_pos (e1.2 h1)]
 · rw [if_neg h1,if_neg (fun q=>h1 (e1.1 q))]
   by_cases h2:v < u
   · rw [if_pos h2,if_neg (fun q=>by rw [e2.1 q] at h2;exact Rat.lt_irrefl h2)]
   · rw [if_neg h2,if_pos (e2.2 (Rat.le_antisymm (Rat.not_lt.1 h2) (Rat.not_lt.1 h1)))]
end
section
theorem sq_nonneg (a:Rat):0≤a*a:=by
 rcases Rat.le_total (a:=0) (b:=a) with h | h
 · exact Rat.mul_nonneg h h
 · have:=Rat.mul_nonneg (show 0≤-a by grind) (show 0≤-a by grind)
   grind
theorem sq_zero {a:Rat} (h:a*a=0):a=0:=by
 rcases Rat.mul_eq_zero.1 h with q | q <;> exact q
theorem sum_zero2 {a b:Rat} (h:a*a+b*b=0):a=0∧b=0:=by
 have h1:=sq_nonneg a;have h2:=sq_nonneg b
 exact ⟨sq_zero (by grind),sq_zero (by grind)⟩
theorem div_mul_self {x g:Rat} (hg:g ≠ 0):x / g*g=x:=Rat.div_mul_cancel hg
section
variable {f g s c t:Rat}
end
section
variable (px py ax ay bx by_ t:Rat)
theorem whole_nn:0≤wholeQ ax ay bx by_:=by
 unfold wholeQ
 have:=sq_nonneg (bx - ax)
 have:=sq_nonneg (by_ - ay)
 grind
theorem whole_z (h:wholeQ ax ay bx by_=0):ax=bx∧ay=by_:=by
 have:=sum_zero2 h
 exact ⟨by grind,by grind⟩
theorem sgn_nul {v:Rat} (h:sgnQ v=0):v=0:=by
 unfold sgnQ at h
 split at h
 · exact absurd h (by decide)
 · split at h
   · assumption
   · exact absurd h (by decide)
end
end
section
def onS (px py ax ay bx by_:Rat):Prop:=∃ t,0≤t∧t≤1∧px=ax+(bx - ax)*t∧py=ay+(by_ - ay)*t
theorem unit_of {t:Rat} (h:0≤t*(1 - t)):0≤t∧t≤1:=by
 refine ⟨Rat.not_lt.1 fun q=>?_,Rat.not_lt.1 fun q=>?_⟩
 · have:=Rat.mul_pos (show 0 < -t by grind) (show 0 < 1 - t by grind)
   grind
 · have:=Rat.mul_pos (show 0 < t by grind) (show 0 < t - 1 by grind)
   grind
theorem sq_pos' {u:Rat} (h:u ≠ 0):0 < u*u:=by
 have:=sq_nonneg u
 rcases Rat.le_iff_lt_or_eq.1 this with q | q
 · exact q
 · exact absurd (sq_zero q.symm) h
theorem nn_of_mul {x u:Rat} (hu:0 < u) (h:0≤x*u):0≤x:=by
 refine Rat.not_lt.1 fun q=>?_
 have:=Rat.mul_pos (show 0 < -x by grind) hu
 grind
theorem eq_of_mul {x y u:Rat} (hu:u ≠ 0) (h:x*u=y*u):x=y:=by
 have e:(x - y)*u=0:=by grind
 rcases Rat.mul_eq_zero.1 e with q | q
 · grind
 · exact absurd q hu
theorem share_of {p a b:Rat} (hne:a ≠ b) (h:0≤(p - a)*(b - p)):∃ t,0≤t∧t≤1∧p=a+(b - a)*t:=by
 have hu:b - a ≠ 0:=fun q=>hne (by grind)
 have e:(p - a) / (b - a)*(b - a)=p - a:=div_mul_self hu
 generalize (p - a) / (b - a)=t at e
 have h2:0≤t*(1 - t):=by
  refine nn_of_mul (sq_pos' hu) ?_
  have:t*(1 - t)*((b - a)*(b - a))=(p - a)*(b - p):=by
   rw [← e]
   have:b - p=(b - a) - t*(b - a):=by rw [e];grind
   rw [this];grind
  rw [this];exact h
 have:=unit_of h2
 exact ⟨t,this.1,this.2,by grind⟩
section
variable {px py ax ay bx by_ cx cy dx dy:Rat}
theorem on_of (hx:0≤(px - ax)*(bx - px)) (hy:0≤(py - ay)*(by_ - py)) (hc:(bx - ax)*(py - ay)=(by_ - ay)*(px - ax)):onS px py ax ay bx by_:=by
 by_cases h1:ax=bx
 · subst h1
   have e1:px=ax:=by
    have:=sq_nonneg (px - ax)
    have:(px - ax)*(px - ax)=0:=by grind
    have:=sq_zero this
    grind
   by_cases h2:ay=by_
   · subst h2
     have e2:py=ay:=by
      have:=sq_nonneg (py - ay)
      have:(py - ay)*(py - ay)=0:=by grind
      have:=sq_zero this
      grind
     exact ⟨0,Rat.le_refl,by decide,by grind,by grind⟩
   · obtain ⟨t,h0,h1,h3⟩:=share_of h2 hy
     exact ⟨t,h0,h1,by grind,h3⟩
 · obtain ⟨t,h0,h2,h3⟩:=share_of h1 hx
   refine ⟨t,h0,h2,h3,?_⟩
   refine eq_of_mul (u:=bx - ax) (fun q=>h1 (by grind)) ?_
   rw [h3] at hc
   grind
theorem on_in {p a b t:Rat} (h0:0≤t) (h1:t≤1) (h:p=a+(b - a)*t):0≤(p - a)*(b - p):=by
 have e:(p - a)*(b - p)=(b - a)*(b - a)*(t*(1 - t)):=by rw [h];grind
 rw [e]
 exact Rat.mul_nonneg (sq_nonneg _) (Rat.mul_nonneg h0 (by grind))
theorem of_on (h:onS px py ax ay bx by_):0≤(px - ax)*(bx - px)∧0≤(py - ay)*(by_ - py)∧(bx - ax)*(py - ay)=(by_ - ay)*(px - ax):=by
 obtain ⟨t,h0,h1,hx,hy⟩:=h
 exact ⟨on_in h0 h1 hx,on_in h0 h1 hy,by rw [hx,hy];grind⟩
theorem on_back:onS px py bx by_ ax ay ↔ onS px py ax ay bx by_:=by
 constructor <;> (rintro ⟨t,h0,h1,hx,hy⟩;exact ⟨1 - t,by grind,by grind,by grind,by grind⟩)
end
def both (ax ay bx by_ cx cy dx dy x y:Rat):Prop:=onS x y ax ay bx by_∧onS x y cx cy dx dy
def Told (ax ay bx by_ cx cy dx dy:Rat):List (Rat × Rat)→Prop
 | []=>∀ x y,¬ both ax ay bx by_ cx cy dx dy x y
 | [p]=>∀ x y,both ax ay bx by_ cx cy dx dy x y ↔ x=p.1∧y=p.2
 | [p, q] => ¬ (ax = bx ∧ ay = by_) ∧ ∃ s t, s < t ∧ (p.1 = ax + (bx - ax) * s ∧ p.2 = ay + (by_ - ay) * s) ∧ (q.1 = ax + (bx - ax) * t ∧ q.2 = ay + (by_ - ay) * t) ∧
     ∀ x y,both ax ay bx by_ cx cy dx dy x y ↔ ∃ r,s≤r∧r≤t∧x=ax+(bx - ax)*r∧y=ay+(by_ - ay)*r
 | _=>False
theorem line_inj {ax ay bx by_ r s:Rat} (h:¬ (ax=bx∧ay=by_)) (hx:ax+(bx - ax)*r=ax+(bx - ax)*s) (hy:ay+(by_ - ay)*r=ay+(by_ - ay)*s):r=s:=by
 by_cases h1:ax=bx
 · exact eq_of_mul (u:=by_ - ay) (fun q=>h ⟨h1,by grind⟩) (by grind)
 · exact eq_of_mul (u:=bx - ax) (fun q=>h1 (by grind)) (by grind)
section
variable {ax ay bx by_ cx cy dx dy:Rat}
theorem told_mem {l:List (Rat × Rat)} (h:Told ax ay bx by_ cx cy dx dy l) {p:Rat × Rat} (hp:p ∈ l):both ax ay bx by_ cx cy dx dy p.1 p.2:=by
 match l,h with
 | [],_=>cases hp
 | [q],h =>
   simp only [List.mem_cons,List.not_mem_nil,or_false] at hp
   subst hp
   exact (h _ _).2 ⟨rfl,rfl⟩
 | [q,r],⟨_,s,t,hst,hq,hr,h⟩ =>
   simp only [List.mem_cons,List.not_mem_nil,or_false] at hp
   rcases hp with rfl | rfl
   · exact (h _ _).2 ⟨s,Rat.le_refl,Rat.le_of_lt hst,hq.1,hq.2⟩
   · exact (h _ _).2 ⟨t,Rat.le_of_lt hst,Rat.le_refl,hr.1,hr.2⟩
 | _ :: _ :: _ :: _,h=>exact h.elim
theorem told_diff {p q:Rat × Rat} (h:Told ax ay bx by_ cx cy dx dy [p,q]):¬ (p.1=q.1∧p.2=q.2):=by
 obtain ⟨hn,s,t,hst,hp,hq,_⟩:=h
 intro e
 have:s=t:=line_inj hn (by rw [← hp.1,← hq.1,e.1]) (by rw [← hp.2,← hq.2,e.2])
 rw [this] at hst
 exact Rat.lt_irrefl hst
theorem told_len {ax' ay' bx' by' cx' cy' dx' dy':Rat} (hb:∀ x y,both ax ay bx by_ cx cy dx dy x y ↔ both ax' ay' bx' by' cx' cy' dx' dy' x y) {l m:List (Rat × Rat)} (h:Told ax ay bx by_ cx cy dx dy l) (h2:Told ax' ay' bx' by' cx' cy' dx' dy' m):l.length=m.length:=by
 match l,m,h,h2 with
 | [],[],_,_=>rfl
 | [],p :: m,h,h2=>exact absurd ((hb _ _).2 (told_mem h2 (List.mem_cons_self ..))) (h _ _)
 | p :: l,[],h,h2=>exact absurd ((hb _ _).1 (told_mem h (List.mem_cons_self ..))) (h2 _ _)
 | [p],[q],_,_=>rfl
 | [p],[q,r],h,h2 =>
   have e1:=(h _ _).1 ((hb _ _).2 (told_mem h2 (p:=q) (by simp)))
   have e2:=(h _ _).1 ((hb _ _).2 (told_mem h2 (p:=r) (by simp)))
   exact absurd ⟨e1.1.trans e2.1.symm,e1.2.trans e2.2.symm⟩ (told_diff h2)
 | [q,r],[p],h,h2 =>
   have e1:=(h2 _ _).1 ((hb _ _).1 (told_mem h (p:=q) (by simp)))
   have e2:=(h2 _ _).1 ((hb _ _).1 (told_mem h (p:=r) (by simp)))
   exact absurd ⟨e1.1.trans e2.1.symm,e1.2.trans e2.2.symm⟩ (told_diff h)
 | [_,_],[_,_],_,_=>rfl
 | _ :: _ :: _ :: _,_,h,_=>exact h.elim
 | _,_ :: _ :: _ :: _,_,h=>exact h.elim
theorem told_same {cx' cy' dx' dy':Rat} (hb:∀ x y,both ax ay bx by_ cx cy dx dy x y ↔ both ax ay bx by_ cx' cy' dx' dy' x y) {l m:List (Rat × Rat)} (h:Told ax ay bx by_ cx cy dx dy l) (h2:Told ax ay bx by_ cx' cy' dx' dy' m):l=m:=by
 have hl:=told_len hb h h2
 match l,m,h,h2 with
 | [],[],_,_=>rfl
 | [p],[q],h,h2 =>
   have e:=(h2 _ _).1 ((hb _ _).1 (told_mem h (p:=p) (by simp)))
   rw [show p=q from Prod.ext e.1 e.2]
 | [p,q],[p',q'],⟨hn,s,t,hst,hp,hq,hI⟩,⟨_,s',t',hst',hp',hq',hI'⟩ =>
   have key:∀ r,(s≤r∧r≤t) ↔ (s'≤r∧r≤t'):=by
    intro r
    have e:=(hI (ax+(bx - ax)*r) (ay+(by_ - ay)*r)).symm.trans ((hb _ _).trans (hI' _ _))
    constructor
    · intro h
      obtain ⟨r',h1,h2,hx,hy⟩:=e.1 ⟨r,h.1,h.2,rfl,rfl⟩
      rw [line_inj hn hx hy];exact ⟨h1,h2⟩
    · intro h
      obtain ⟨r',h1,h2,hx,hy⟩:=e.2 ⟨r,h.1,h.2,rfl,rfl⟩
      rw [line_inj hn hx hy];exact ⟨h1,h2⟩
   have a1:=(key s).1 ⟨Rat.le_refl,Rat.le_of_lt hst⟩
   have a2:=(key t).1 ⟨Rat.le_of_lt hst,Rat.le_refl⟩
   have a3:=(key s').2 ⟨Rat.le_refl,Rat.le_of_lt hst'⟩
   have a4:=(key t').2 ⟨Rat.le_of_lt hst',Rat.le_refl⟩
   have es:s=s':=Rat.le_antisymm a3.1 a1.1
   have et:t=t':=Rat.le_antisymm a2.2 a4.2
   subst es et
   rw [show p=p' from Prod.ext (hp.1.trans hp'.1.symm) (hp.2.trans hp'.2.symm),show q=q' from Prod.ext (hq.1.trans hq'.1.symm) (hq.2.trans hq'.2.symm)]
 | [],_ :: _,_,_=>cases hl
 | _ :: _,[],_,_=>cases hl
 | [_],_ :: _ :: _,_,_=>simp at hl
 | _ :: _ :: _,[_],_,_=>simp at hl
 | _ :: _ :: _ :: _,_,h,_=>exact h.elim
 | _,_ :: _ :: _ :: _,_,h=>exact h.elim
theorem on_lt {p a b m:Rat} {t:Rat} (h0:0≤t) (h1:t≤1) (h:p=a+(b - a)*t) (ha:a≤m) (hb:b≤m):p≤m:=by
 have e1:=Rat.mul_nonneg (show 0≤m - a by grind) (show 0≤1 - t by grind)
 have e2:=Rat.mul_nonneg (show 0≤m - b by grind) h0
 grind
theorem on_gt {p a b m:Rat} {t:Rat} (h0:0≤t) (h1:t≤1) (h:p=a+(b - a)*t) (ha:m≤a) (hb:m≤b):m≤p:=by
 have e1:=Rat.mul_nonneg (show 0≤a - m by grind) (show 0≤1 - t by grind)
 have e2:=Rat.mul_nonneg (show 0≤b - m by grind) h0
 grind
theorem part_lt {p a b c d s t:Rat} (h0:0≤t) (h1:t≤1) (h:p=a+(b - a)*t) (g0:0≤s) (g1:s≤1) (g:p=c+(d - c)*s) (h2:a < c) (h3:a < d) (h4:b < c) (h5:b < d):False:=by
 by_cases q:a≤b
 · have e1:=on_lt h0 h1 h q Rat.le_refl
   have e2:b < p:=by
    by_cases q2:c≤d
    · have:=on_gt g0 g1 g Rat.le_refl q2;grind
    · have:=on_gt g0 g1 g (m:=d) (by grind) Rat.le_refl;grind
   grind
 · have e1:=on_lt h0 h1 h (m:=a) Rat.le_refl (by grind)
   have e2:a < p:=by
    by_cases q2:c≤d
    · have:=on_gt g0 g1 g Rat.le_refl q2;grind
    · have:=on_gt g0 g1 g (m:=d) (by grind) Rat.le_refl;grind
   grind
def apartQ (a b c d:Rat):Prop:=(a < c∧a < d∧b < c∧b < d) ∨ (c < a∧d < a∧c < b∧d < b)
theorem part_none {p a b c d s t:Rat} (h0:0≤t) (h1:t≤1) (h:p=a+(b - a)*t) (g0:0≤s) (g1:s≤1) (g:p=c+(d - c)*s):¬ apartQ a b c d:=by
 rintro (q | q)
 · exact part_lt h0 h1 h g0 g1 g q.1 q.2.1 q.2.2.1 q.2.2.2
 · exact part_lt g0 g1 g h0 h1 h q.1 q.2.2.1 q.2.1 q.2.2.2
theorem told_apart (h:apartQ ax bx cx dx ∨ apartQ ay by_ cy dy):Told ax ay bx by_ cx cy dx dy []:=by
 rintro x y ⟨⟨t,h0,h1,hx,hy⟩,⟨s,g0,g1,gx,gy⟩⟩
 rcases h with q | q
 · exact part_none h0 h1 hx g0 g1 gx q
 · exact part_none h0 h1 hy g0 g1 gy q
theorem cross_iff {f g x y:Rat} (hk:(bx - ax)*(dy - cy) - (by_ - ay)*(dx - cx) ≠ 0)
 (hf:f*((bx - ax)*(dy - cy) - (by_ - ay)*(dx - cx))=(cx - ax)*(dy - cy) - (cy - ay)*(dx - cx))
 (hg:g*((bx - ax)*(dy - cy) - (by_ - ay)*(dx - cx))=(cx - ax)*(by_ - ay) - (cy - ay)*(bx - ax)) :
 both ax ay bx by_ cx cy dx dy x y ↔ (0≤f∧f≤1)∧(0≤g∧g≤1)∧x=ax+(bx - ax)*f∧y=ay+(by_ - ay)*f:=by
 constructor
 · rintro ⟨⟨t,h0,h1,hx,hy⟩,⟨s,g0,g1,gx,gy⟩⟩
   have e1:(bx - ax)*t - (dx - cx)*s=cx - ax:=by grind
   have e2:(by_ - ay)*t - (dy - cy)*s=cy - ay:=by grind
   have ef:f=t:=eq_of_mul hk (by rw [hf,← e1,← e2];grind)
   have eg:g=s:=eq_of_mul hk (by rw [hg,← e1,← e2];grind)
   rw [ef,eg]
   exact ⟨⟨h0,h1⟩,⟨g0,g1⟩,hx,hy⟩
 · rintro ⟨hf1,hg1,hx,hy⟩
   refine ⟨⟨f,hf1.1,hf1.2,hx,hy⟩,⟨g,hg1.1,hg1.2,?_,?_⟩⟩
   · rw [hx];refine eq_of_mul hk ?_;grind
   · rw [hy];refine eq_of_mul hk ?_;grind
end
noncomputable def pick {α:Type} (K:α→Prop) (l:List α) (p:α):List α:=open Classical in if K p∧p ∉ l then l ++ [p] else l
def Spec1 (K:Rat→Prop):List Rat→Prop
 | []=>∀ x,¬ K x
 | [s]=>∀ x,K x ↔ x=s
 | [s,t]=>s < t∧∀ x,K x ↔ s≤x∧x≤t
 | _=>False
theorem pick_yes {α:Type} {K:α→Prop} {l:List α} {p:α} (h:K p) (h2:p ∉ l):pick K l p=l ++ [p]:=if_pos ⟨h,h2⟩
theorem pick_no {α:Type} {K:α→Prop} {l:List α} {p:α} (h:¬ K p):pick K l p=l:=if_neg (fun q=>h q.1)
theorem pick_old {α:Type} {K:α→Prop} {l:List α} {p:α} (h:p ∈ l):pick K l p=l:=if_neg (fun q=>q.2 h)
def keep1 (g d x:Rat):Prop:=(0≤x∧x≤1)∧((g≤x∧x≤d) ∨ (d≤x∧x≤g))
theorem ends1 {g d:Rat} (h:(g≤d ∨ g≤-d)∧(-g≤d ∨ -g≤-d)):Spec1 (keep1 g d) (pick (keep1 g d) (pick (keep1 g d) (pick (keep1 g d) (pick (keep1 g d) [] 0) g) d) 1):=by
 have e0:keep1 g d 0 ↔ (g≤0∧0≤d) ∨ (d≤0∧0≤g):=by unfold keep1;grind
 have e1:keep1 g d 1 ↔ (g≤1∧1≤d) ∨ (d≤1∧1≤g):=by unfold keep1;grind
 have eg:keep1 g d g ↔ 0≤g∧g≤1:=by unfold keep1;grind
 have ed:keep1 g d d ↔ 0≤d∧d≤1:=by unfold keep1;grind
 by_cases h0:keep1 g d 0 <;> by_cases hg:keep1 g d g <;> by_cases hd:keep1 g d d <;> by_cases h1:keep1 g d 1 <;> by_cases z1:g=0 <;> by_cases z2:d=0 <;> by_cases z3:d=g <;> by_cases z4:g=1 <;> by_cases z5:d=1 <;> first
  | (exfalso;grind)
  | (simp [pick,h0,hg,hd,h1,z1,z2,z3,z4,z5,Spec1];unfold keep1 at *;grind)
section
variable {ax ay bx by_ cx cy dx dy:Rat}
def lineAt (ax ay bx by_ r:Rat):Rat × Rat:=(ax+(bx - ax)*r,ay+(by_ - ay)*r)
theorem lineAt_inj (hn:¬ (ax=bx∧ay=by_)) {r s:Rat} (h:lineAt ax ay bx by_ r=lineAt ax ay bx by_ s):r=s:=line_inj hn (congrArg Prod.fst h) (congrArg Prod.snd h)
theorem mem_map_at (hn:¬ (ax=bx∧ay=by_)) {l:List Rat} {r:Rat}:lineAt ax ay bx by_ r ∈ l.map (lineAt ax ay bx by_) ↔ r ∈ l:=by
 rw [List.mem_map]
 exact ⟨fun ⟨s,h1,h2⟩=>by rw [lineAt_inj hn h2.symm];exact h1,fun h=>⟨r,h,rfl⟩⟩
theorem pick_map (hn:¬ (ax=bx∧ay=by_)) {K1:Rat→Prop} {K2:Rat × Rat→Prop} (hK:∀ r,K2 (lineAt ax ay bx by_ r) ↔ K1 r) (l:List Rat) (r:Rat):pick K2 (l.map (lineAt ax ay bx by_)) (lineAt ax ay bx by_ r)=(pick K1 l r).map (lineAt ax ay bx by_):=by
 by_cases h:K1 r
 · by_cases h2:r ∈ l
   · rw [pick_old h2,pick_old ((mem_map_at hn).2 h2)]
   · rw [pick_yes h h2,pick_yes ((hK r).2 h) (fun q=>h2 ((mem_map_at hn).1 q)),List.map_append];rfl
 · rw [pick_no h,pick_no (fun q=>h ((hK r).1 q))]
theorem spec_told (hn:¬ (ax=bx∧ay=by_)) {K1:Rat→Prop} (hb:∀ x y,both ax ay bx by_ cx cy dx dy x y ↔ ∃ r,K1 r∧(x,y)=lineAt ax ay bx by_ r) {l:List Rat} (h:Spec1 K1 l):Told ax ay bx by_ cx cy dx dy (l.map (lineAt ax ay bx by_)):=by
 match l,h with
 | [],h=>exact fun x y q=>by obtain ⟨r,h1,_⟩:=(hb x y).1 q;exact h r h1
 | [s],h =>
   intro x y
   rw [hb]
   constructor
   · rintro ⟨r,h1,h2⟩
     rw [(h r).1 h1] at h2
     exact ⟨congrArg Prod.fst h2,congrArg Prod.snd h2⟩
   · rintro ⟨h1,h2⟩
     exact ⟨s,(h s).2 rfl,Prod.ext h1 h2⟩
 | [s,t],⟨hst,h⟩ =>
   refine ⟨hn,s,t,hst,⟨rfl,rfl⟩,⟨rfl,rfl⟩,fun x y=>?_⟩
   rw [hb]
   constructor
   · rintro ⟨r,h1,h2⟩
     exact ⟨r,((h r).1 h1).1,((h r).1 h1).2,congrArg Prod.fst h2,congrArg Prod.snd h2⟩
   · rintro ⟨r,h1,h2,h3,h4⟩
     exact ⟨r,(h r).2 ⟨h1,h2⟩,Prod.ext h3 h4⟩
 | _ :: _ :: _ :: _,h=>exact h.elim
theorem on_line {px py:Rat} (hn:¬ (ax=bx∧ay=by_)) (h:(bx - ax)*(py - ay)=(by_ - ay)*(px - ax)):∃ r,px=ax+(bx - ax)*r∧py=ay+(by_ - ay)*r:=by
 by_cases h1:ax=bx
 · have hu:by_ - ay ≠ 0:=fun q=>hn ⟨h1,by grind⟩
   have e:(py - ay) / (by_ - ay)*(by_ - ay)=py - ay:=div_mul_self hu
   refine ⟨(py - ay) / (by_ - ay),?_,by grind⟩
   have:px=ax:=eq_of_mul hu (by subst h1;grind)
   rw [this,h1];grind
 · have hu:bx - ax ≠ 0:=fun q=>h1 (by grind)
   have e:(px - ax) / (bx - ax)*(bx - ax)=px - ax:=div_mul_self hu
   refine ⟨(px - ax) / (bx - ax),by grind,?_⟩
   generalize (px - ax) / (bx - ax)=r at e
   refine eq_of_mul hu ?_
   rw [← e] at h
   grind
theorem both_line {g d:Rat} (hn:¬ (ax=bx∧ay=by_)) (hc:cx=ax+(bx - ax)*g∧cy=ay+(by_ - ay)*g) (hd:dx=ax+(bx - ax)*d∧dy=ay+(by_ - ay)*d) (x y:Rat):both ax ay bx by_ cx cy dx dy x y ↔ ∃ r,keep1 g d r∧(x,y)=lineAt ax ay bx by_ r:=by
 constructor
 · rintro ⟨⟨t,h0,h1,hx,hy⟩,⟨s,g0,g1,gx,gy⟩⟩
   refine ⟨t,⟨⟨h0,h1⟩,?_⟩,Prod.ext hx hy⟩
   have e:t=g+(d - g)*s:=line_inj hn (by rw [← hx,gx,hc.1,hd.1];grind) (by rw [← hy,gy,hc.2,hd.2];grind)
   by_cases q:g≤d
   · exact .inl ⟨on_gt g0 g1 e Rat.le_refl q,on_lt g0 g1 e q Rat.le_refl⟩
   · exact .inr ⟨on_gt g0 g1 e (by grind) Rat.le_refl,on_lt g0 g1 e Rat.le_refl (by grind)⟩
 · rintro ⟨r,⟨⟨h0,h1⟩,hk⟩,e⟩
   have ex:x=ax+(bx - ax)*r:=congrArg Prod.fst e
   have ey:y=ay+(by_ - ay)*r:=congrArg Prod.snd e
   refine ⟨⟨r,h0,h1,ex,ey⟩,?_⟩
   have:∃ s,0≤s∧s≤1∧r=g+(d - g)*s:=by
    by_cases q:g=d
    · exact ⟨0,Rat.le_refl,by decide,by grind⟩
    · refine share_of q ?_
      rcases hk with hk | hk
      · exact Rat.mul_nonneg (by grind) (by grind)
      · have:=Rat.mul_nonneg (show 0≤g - r by grind) (show 0≤r - d by grind);grind
   obtain ⟨s,s0,s1,es⟩:=this
   exact ⟨s,s0,s1,by rw [ex,hc.1,hd.1,es];grind,by rw [ey,hc.2,hd.2,es];grind⟩
def bothP (ax ay bx by_ cx cy dx dy:Rat) (p:Rat × Rat):Prop:=both ax ay bx by_ cx cy dx dy p.1 p.2
theorem both_off (hk:(bx - ax)*(dy - cy) - (by_ - ay)*(dx - cx)=0) (h:¬ (bx - ax)*(cy - ay)=(by_ - ay)*(cx - ax)) (x y:Rat):¬ both ax ay bx by_ cx cy dx dy x y:=by
 rintro ⟨⟨t,h0,h1,hx,hy⟩,⟨s,g0,g1,gx,gy⟩⟩
 apply h
 have e1:cx=ax+(bx - ax)*t - (dx - cx)*s:=by grind
 have e2:cy=ay+(by_ - ay)*t - (dy - cy)*s:=by grind
 have e3:((bx - ax)*(dy - cy) - (by_ - ay)*(dx - cx))*s=0:=by rw [hk,Rat.zero_mul]
 have e4:cx - ax=(bx - ax)*t - (dx - cx)*s:=by grind
 have e5:cy - ay=(by_ - ay)*t - (dy - cy)*s:=by grind
 rw [e4,e5]
 grind
theorem told_ends (hk:(bx - ax)*(dy - cy) - (by_ - ay)*(dx - cx)=0) (hf:farQ ax ay cx cy≤farQ ax ay dx dy) :
 Told ax ay bx by_ cx cy dx dy (pick (bothP ax ay bx by_ cx cy dx dy) (pick (bothP ax ay bx by_ cx cy dx dy) (pick (bothP ax ay bx by_ cx cy dx dy) (pick (bothP ax ay bx by_ cx cy dx dy) [] (ax,ay)) (cx,cy)) (dx,dy)) (bx,by_)):=by
 by_cases hn:ax=bx∧ay=by_
 · obtain ⟨rfl,rfl⟩:=hn
   have hab:∀ x y,both ax ay ax ay cx cy dx dy x y→x=ax∧y=ay:=by
    rintro x y ⟨⟨t,h0,h1,hx,hy⟩,_⟩
    exact ⟨by grind,by grind⟩
   by_cases ha:both ax ay ax ay cx cy dx dy ax ay
   · have st : ∀ p, pick (bothP ax ay ax ay cx cy dx dy) [(ax, ay)] p = [(ax, ay)] := by
       intro p
       by_cases h:bothP ax ay ax ay cx cy dx dy p
       · exact pick_old (by rw [show p=(ax,ay) from Prod.ext (hab _ _ h).1 (hab _ _ h).2];simp)
       · exact pick_no h
     rw [pick_yes (l:=[]) (show bothP ax ay ax ay cx cy dx dy (ax,ay) from ha) (by simp),List.nil_append,st,st,st]
     exact fun x y=>⟨fun h=>hab x y h,fun h=>by rw [h.1,h.2];exact ha⟩
   · have no : ∀ x y, ¬ both ax ay ax ay cx cy dx dy x y := fun x y h => by
       have:=hab x y h
       rw [this.1,this.2] at h
       exact ha h
     have st:∀ p,pick (bothP ax ay ax ay cx cy dx dy) [] p=[]:=fun p=>pick_no (no _ _)
     rw [st,st,st,st]
     exact no
 · by_cases h:(bx - ax)*(cy - ay)=(by_ - ay)*(cx - ax)
   · obtain ⟨g,hg⟩:=on_line (px:=cx) (py:=cy) hn h
     obtain ⟨d,hd⟩:=on_line (px:=dx) (py:=dy) hn (by grind)
     have hb:=both_line hn hg hd
     have hK:∀ r,bothP ax ay bx by_ cx cy dx dy (lineAt ax ay bx by_ r) ↔ keep1 g d r:=by
      intro r
      refine (hb _ _).trans ⟨fun ⟨s,h1,h2⟩=>?_,fun h=>⟨r,h,rfl⟩⟩
      rw [lineAt_inj hn (r:=r) (s:=s) h2];exact h1
     have hw:0 < wholeQ ax ay bx by_:=by
      rcases Rat.le_iff_lt_or_eq.1 (whole_nn ax ay bx by_) with q | q
      · exact q
      · exact absurd (whole_z _ _ _ _ q.symm) hn
     have hgd:g*g≤d*d:=by
      refine Rat.le_of_mul_le_mul_right (c:=wholeQ ax ay bx by_) ?_ hw
      have e1:g*g*wholeQ ax ay bx by_=farQ ax ay cx cy:=by rw [hg.1,hg.2];unfold wholeQ farQ;grind
      have e2:d*d*wholeQ ax ay bx by_=farQ ax ay dx dy:=by rw [hd.1,hd.2];unfold wholeQ farQ;grind
      rw [e1,e2];exact hf
     have habs:(g≤d ∨ g≤-d)∧(-g≤d ∨ -g≤-d):=by
      constructor
      · by_cases q:g≤d
        · exact .inl q
        · refine .inr (Rat.not_lt.1 fun q2=>?_)
          have:=Rat.mul_pos (show 0 < g - d by grind) (show 0 < g+d by grind)
          grind
      · by_cases q:-g≤d
        · exact .inl q
        · refine .inr (Rat.not_lt.1 fun q2=>?_)
          have:=Rat.mul_pos (show 0 < -g - d by grind) (show 0 < -g+d by grind)
          grind
     have e:=spec_told hn hb (ends1 habs)
     have pa:(ax,ay)=lineAt ax ay bx by_ 0:=Prod.ext (by show ax=ax+(bx - ax)*0;grind) (by show ay=ay+(by_ - ay)*0;grind)
     have pb:(bx,by_)=lineAt ax ay bx by_ 1:=Prod.ext (by show bx=ax+(bx - ax)*1;grind) (by show by_=ay+(by_ - ay)*1;grind)
     have pc:(cx,cy)=lineAt ax ay bx by_ g:=Prod.ext hg.1 hg.2
     have pd:(dx,dy)=lineAt ax ay bx by_ d:=Prod.ext hd.1 hd.2
     rw [pa,pb,pc,pd,show ([]:List (Rat × Rat))=[].map (lineAt ax ay bx by_) from rfl,pick_map hn hK,pick_map hn hK,pick_map hn hK,pick_map hn hK]
     exact e
   · have no:=both_off hk h
     have st:∀ p,pick (bothP ax ay bx by_ cx cy dx dy) [] p=[]:=fun p=>pick_no (no _ _)
     rw [st,st,st,st]
     exact no
theorem both_swap (x y:Rat):both ax ay bx by_ cx cy dx dy x y ↔ both ax ay bx by_ dx dy cx cy x y:=by unfold both;rw [on_back (ax:=cx)]
theorem told_by {cx' cy' dx' dy':Rat} (hb:∀ x y,both ax ay bx by_ cx cy dx dy x y ↔ both ax ay bx by_ cx' cy' dx' dy' x y) {l:List (Rat × Rat)} (h:Told ax ay bx by_ cx cy dx dy l):Told ax ay bx by_ cx' cy' dx' dy' l:=by
 match l,h with
 | [],h=>exact fun x y q=>h x y ((hb x y).2 q)
 | [p],h=>exact fun x y=>(hb x y).symm.trans (h x y)
 | [p,q],⟨hn,s,t,hst,h1,h2,h3⟩=>exact ⟨hn,s,t,hst,h1,h2,fun x y=>(hb x y).symm.trans (h3 x y)⟩
 | _ :: _ :: _ :: _,h=>exact h.elim
end
end
section
open Go Go.RowKit
theorem sgn_mul (x y:Rat):0≤sgnQ x*sgnQ y ↔ 0≤x*y:=by
 rcases (show x < 0 ∨ x=0 ∨ 0 < x by rcases Rat.le_total (a:=0) (b:=x) with h | h <;> rcases Rat.le_iff_lt_or_eq.1 h with q | q <;> grind) with h | h | h <;>
 rcases (show y < 0 ∨ y=0 ∨ 0 < y by rcases Rat.le_total (a:=0) (b:=y) with h | h <;> rcases Rat.le_iff_lt_or_eq.1 h with q | q <;> grind) with g | g | g
 · have:=Rat.mul_pos (show 0 < -x by grind) (show 0 < -y by grind)
   rw [show sgnQ x=-1 by unfold sgnQ;rw [if_pos h],show sgnQ y=-1 by unfold sgnQ;rw [if_pos g]]
   exact ⟨fun _=>by grind,fun _=>by decide⟩
 · rw [g,Rat.mul_zero];exact ⟨fun _=>Rat.le_refl,fun _=>by rw [show sgnQ 0=0 from rfl];simp⟩
 · have:=Rat.mul_pos (show 0 < -x by grind) g
   rw [show sgnQ x=-1 by unfold sgnQ;rw [if_pos h],show sgnQ y=1 by unfold sgnQ;rw [if_neg (by grind),if_neg (by grind)]]
   exact ⟨fun e=>absurd e (by decide),fun _=>by grind⟩
 · rw [h,Rat.zero_mul];exact ⟨fun _=>Rat.le_refl,fun _=>by rw [show sgnQ 0=0 from rfl];simp⟩
 · rw [h,Rat.zero_mul];exact ⟨fun _=>Rat.le_refl,fun _=>by rw [show sgnQ 0=0 from rfl];simp⟩
 · rw [h,Rat.zero_mul];exact ⟨fun _=>Rat.le_refl,fun _=>by rw [show sgnQ 0=0 from rfl];simp⟩
 · have:=Rat.mul_pos h (show 0 < -y by grind)
   rw [show sgnQ x=1 by unfold sgnQ;rw [if_neg (by grind),if_neg (by grind)],show sgnQ y=-1 by unfold sgnQ;rw [if_pos g]]
   exact ⟨fun e=>absurd e (by decide),fun _=>by grind⟩
 · rw [g,Rat.mul_zero];exact ⟨fun _=>Rat.le_refl,fun _=>by rw [show sgnQ 0=0 from rfl];simp⟩
 · have:=Rat.mul_pos h g
   rw [show sgnQ x=1 by unfold sgnQ;rw [if_neg (by grind),if_neg (by grind)],show sgnQ y=1 by unfold sgnQ;rw [if_neg (by grind),if_neg (by grind)]]
   exact ⟨fun _=>by grind,fun _=>by decide⟩
def inQ (v a b:Rat):Prop:=0≤(v - a)*(b - v)
instance (v a b:Rat):Decidable (inQ v a b):=inferInstanceAs (Decidable (_≤_))
theorem within_eq (v a b:Rat):decide (0≤IntKind.i64.wrap (cmpQ a v*cmpQ v b))=decide (inQ v a b):=by
 have h1:=cmpQ_abs a v;have h2:=cmpQ_abs v b
 have e:IntKind.i64.wrap (cmpQ a v*cmpQ v b)=cmpQ a v*cmpQ v b:=by
  have a1:cmpQ a v=-1 ∨ cmpQ a v=0 ∨ cmpQ a v=1:=by omega
  have a2:cmpQ v b=-1 ∨ cmpQ v b=0 ∨ cmpQ v b=1:=by omega
  rcases a1 with q | q | q <;> rcases a2 with r | r | r <;> rw [q,r] <;> decide +kernel
 rw [e,cmp_sub,cmp_sub]
 have e2:0≤sgnQ (a - v)*sgnQ (v - b) ↔ inQ v a b:=by
  rw [sgn_mul];unfold inQ
  rw [show (a - v)*(v - b)=(v - a)*(b - v) by grind]
 by_cases h:inQ v a b
 · rw [decide_eq_true h,decide_eq_true (e2.2 h)]
 · rw [decide_eq_false h,decide_eq_false (fun q=>h (e2.1 q))]
theorem within_q {k1 k2 k3:Nat} {xv xa xb:Rat} (v:QR w s_v A_v n_v c_v B_v m_v d_v xv k1) (a:QR w s_a A_a n_a c_a B_a m_a d_a xa k2) (b:QR w s_b A_b n_b c_b B_b m_b d_b xb k3) (h1:k1≤400) (h2:k2≤400) (h3:k3≤400) (g1:1≤k1) (g2:1≤k2) (g3:1≤k3) (R:Bool) (hR:decide (inQ xv xa xb)=R) :
 Calls Tryz.prog 99 #[.agg #[.bool s_v,.slice A_v n_v c_v,.slice B_v m_v d_v],.agg #[.bool s_a,.slice A_a n_a c_a,.slice B_a m_a d_a],.agg #[.bool s_b,.slice A_b n_b c_b,.slice B_b m_b d_b]] w fun e w'=>e=.returned (.bool R)∧Below w.heap.size w w':=by
 rw [← within_eq] at hR
 obtain ⟨K,hK⟩:∃ K,cmpQ xa xv=K:=⟨_,rfl⟩
 obtain ⟨M,hM⟩:∃ M,cmpQ xv xb=M:=⟨_,rfl⟩
 rw [hK,hM] at hR
 have HK:=Lib.hid hK;have HM:=Lib.hid hM;have HR:=Lib.hid hR;clear hK hM hR
 go_enter Tryz.func99,Tryz.ntmps99
 go_upto_region 1 with (fail)
 generalize hW:World.alloc _ _=W
 obtain ⟨hb,XA,XB,XC,hzW⟩:=mkbx13_9 hW;clear hW;replace v:=v.below hb;replace a:=a.below hb;replace b:=b.below hb
 replace v:=v.below (Below.refl _ _).drew
 replace a:=a.below (Below.refl _ _).drew
 replace b:=b.below (Below.refl _ _).drew
 replace XA:=XA.below (Below.refl _ _).drew
 replace XB:=XB.below (Below.refl _ _).drew
 replace XC:=XC.below (Below.refl _ _).drew
 replace hb:=hb.drew
 go_region_held3 (fun w'=>w'.cell? ⟨w.heap.size,0,none⟩=some (.bool s_v)∧w'.cell? ⟨w.heap.size,1,none⟩=some (.slice A_v n_v c_v)∧w'.cell? ⟨w.heap.size,2,none⟩=some (.slice B_v m_v d_v)∧w'.cell? ⟨w.heap.size+1,0,none⟩=some (.bool s_a)∧w'.cell? ⟨w.heap.size+1,1,none⟩=some (.slice A_a n_a c_a)∧w'.cell? ⟨w.heap.size+1,2,none⟩=some (.slice B_a m_a d_a)∧w'.cell? ⟨w.heap.size+1+1,0,none⟩=some (.bool s_b)∧w'.cell? ⟨w.heap.size+1+1,1,none⟩=some (.slice A_b n_b c_b)∧w'.cell? ⟨w.heap.size+1+1,2,none⟩=some (.slice B_b m_b d_b))
  (first | with_reducible exact ⟨XA.c0,XA.c1,XA.c2,XB.c0,XB.c1,XB.c2,XC.c0,XC.c1,XC.c2⟩)
  (first
  | (go_at_call 45;(with_reducible refine (rcmp_q a v h2 h1 (.inl h2) g2 g1).mono ?_);rintro e w_z ⟨rfl,hh⟩
     rw [HK.out];(try replace v:=v.below hh);(try replace a:=a.below hh);(try replace b:=b.below hh);(try replace XA:=XA.below hh);(try replace XB:=XB.below hh);(try replace XC:=XC.below hh);replace hb:=bend hb hh)
  | (go_at_call 45;(with_reducible refine (rcmp_q v b h1 h3 (.inl h1) g1 g3).mono ?_);rintro e w_z ⟨rfl,hh⟩
     rw [HM.out];(try replace v:=v.below hh);(try replace a:=a.below hh);(try replace b:=b.below hh);(try replace XA:=XA.below hh);(try replace XB:=XB.below hh);(try replace XC:=XC.below hh);replace hb:=bend hb hh))
 go_wp2_with fail
 go_ret
 exact ⟨by rw [← HR.out];first | rfl | simp,hb⟩
theorem onS_iff {px py ax ay bx by_:Rat}:onS px py ax ay bx by_ ↔ inQ px ax bx∧inQ py ay by_∧orientQ ax ay bx by_ px py=0:=by
 have e:orientQ ax ay bx by_ px py=0 ↔ (bx - ax)*(py - ay)=(by_ - ay)*(px - ax):=by unfold orientQ;exact cmpQ_nul
 rw [e]
 exact ⟨of_on,fun h=>on_of h.1 h.2.1 h.2.2⟩
theorem on_x {k:Nat} {px py ax ay bx by_:Rat} (p:PR w s_p A_p n_p c_p B_p m_p d_p t_p E_p i_p e_p F_p j_p f_p px py k) (q:PR w s_q A_q n_q c_q B_q m_q d_q t_q E_q i_q e_q F_q j_q f_q ax ay k) (r:PR w s_r A_r n_r c_r B_r m_r d_r t_r E_r i_r e_r F_r j_r f_r bx by_ k) (hk:k≤40) (h1:1≤k) (h:¬ inQ px ax bx) :
 Calls Tryz.prog 36 #[.agg #[.bool s_p,.slice A_p n_p c_p,.slice B_p m_p d_p,.bool t_p,.slice E_p i_p e_p,.slice F_p j_p f_p],.agg #[.bool s_q,.slice A_q n_q c_q,.slice B_q m_q d_q,.bool t_q,.slice E_q i_q e_q,.slice F_q j_q f_q],.agg #[.bool s_r,.slice A_r n_r c_r,.slice B_r m_r d_r,.bool t_r,.slice E_r i_r e_r,.slice F_r j_r f_r]] w fun e w'=>e=.returned (.bool (false))∧Below w.heap.size w w':=by
 have H1:Hid (decide (inQ px ax bx)=false):=decide_eq_false h
 clear h
 go_enter Tryz.func36,Tryz.ntmps36
 go_wp2_with fail
 generalize hW:World.alloc _ _=W
 obtain ⟨hb,XA,XB,XC,hzW⟩:=mkbx16_9 hW;clear hW;replace p:=p.below hb;replace q:=q.below hb;replace r:=r.below hb;obtain ⟨xa0,xa1,xa2,xa3,xa4,xa5⟩:=XA.all;obtain ⟨xb0,xb1,xb2,xb3,xb4,xb5⟩:=XB.all;obtain ⟨xc0,xc1,xc2,xc3,xc4,xc5⟩:=XC.all
 go_wp2_with (first
  | (go_at_call 99;(with_reducible refine (within_q p.qx q.qx r.qx (by omega) (by omega) (by omega) h1 h1 h1 false H1.out).mono ?_);rintro e w_z ⟨rfl,hh⟩
     (try replace p:=p.below hh);(try replace q:=q.below hh);(try replace r:=r.below hh);(try replace XA:=XA.below hh);(try replace XB:=XB.below hh);(try replace XC:=XC.below hh);replace hb:=bend hb hh;obtain ⟨xa0,xa1,xa2,xa3,xa4,xa5⟩:=XA.all;obtain ⟨xb0,xb1,xb2,xb3,xb4,xb5⟩:=XB.all;obtain ⟨xc0,xc1,xc2,xc3,xc4,xc5⟩:=XC.all))
 go_ret;exact ⟨rfl,hb⟩
theorem on_y {k:Nat} {px py ax ay bx by_:Rat} (p:PR w s_p A_p n_p c_p B_p m_p d_p t_p E_p i_p e_p F_p j_p f_p px py k) (q:PR w s_q A_q n_q c_q B_q m_q d_q t_q E_q i_q e_q F_q j_q f_q ax ay k) (r:PR w s_r A_r n_r c_r B_r m_r d_r t_r E_r i_r e_r F_r j_r f_r bx by_ k) (hk:k≤40) (h1:1≤k) (h:inQ px ax bx) (h2:¬ inQ py ay by_) :
 Calls Tryz.prog 36 #[.agg #[.bool s_p,.slice A_p n_p c_p,.slice B_p m_p d_p,.bool t_p,.slice E_p i_p e_p,.slice F_p j_p f_p],.agg #[.bool s_q,.slice A_q n_q c_q,.slice B_q m_q d_q,.bool t_q,.slice E_q i_q e_q,.slice F_q j_q f_q],.agg #[.bool s_r,.slice A_r n_r c_r,.slice B_r m_r d_r,.bool t_r,.slice E_r i_r e_r,.slice F_r j_r f_r]] w fun e w'=>e=.returned (.bool (false))∧Below w.heap.size w w':=by
 have H1:Hid (decide (inQ px ax bx)=true):=decide_eq_true h
 have H2:Hid (decide (inQ py ay by_)=false):=decide_eq_false h2
 clear h h2
 go_enter Tryz.func36,Tryz.ntmps36
 go_wp2_with fail
 generalize hW:World.alloc _ _=W
 obtain ⟨hb,XA,XB,XC,hzW⟩:=mkbx16_9 hW;clear hW;replace p:=p.below hb;replace q:=q.below hb;replace r:=r.below hb;obtain ⟨xa0,xa1,xa2,xa3,xa4,xa5⟩:=XA.all;obtain ⟨xb0,xb1,xb2,xb3,xb4,xb5⟩:=XB.all;obtain ⟨xc0,xc1,xc2,xc3,xc4,xc5⟩:=XC.all
 go_wp2_with (first
  | (go_at_call 99;(with_reducible refine (within_q p.qx q.qx r.qx (by omega) (by omega) (by omega) h1 h1 h1 true H1.out).mono ?_);rintro e w_z ⟨rfl,hh⟩
     (try replace p:=p.below hh);(try replace q:=q.below hh);(try replace r:=r.below hh);(try replace XA:=XA.below hh);(try replace XB:=XB.below hh);(try replace XC:=XC.below hh);replace hb:=bend hb hh;obtain ⟨xa0,xa1,xa2,xa3,xa4,xa5⟩:=XA.all;obtain ⟨xb0,xb1,xb2,xb3,xb4,xb5⟩:=XB.all;obtain ⟨xc0,xc1,xc2,xc3,xc4,xc5⟩:=XC.all)
  | (go_at_call 99;(with_reducible refine (within_q p.qy q.qy r.qy (by omega) (by omega) (by omega) h1 h1 h1 false H2.out).mono ?_);rintro e w_z ⟨rfl,hh⟩
     (try replace p:=p.below hh);(try replace q:=q.below hh);(try replace r:=r.below hh);(try replace XA:=XA.below hh);(try replace XB:=XB.below hh);(try replace XC:=XC.below hh);replace hb:=bend hb hh;obtain ⟨xa0,xa1,xa2,xa3,xa4,xa5⟩:=XA.all;obtain ⟨xb0,xb1,xb2,xb3,xb4,xb5⟩:=XB.all;obtain ⟨xc0,xc1,xc2,xc3,xc4,xc5⟩:=XC.all))
 go_ret;exact ⟨rfl,hb⟩
theorem on_o {k:Nat} {px py ax ay bx by_:Rat} (p:PR w s_p A_p n_p c_p B_p m_p d_p t_p E_p i_p e_p F_p j_p f_p px py k) (q:PR w s_q A_q n_q c_q B_q m_q d_q t_q E_q i_q e_q F_q j_q f_q ax ay k) (r:PR w s_r A_r n_r c_r B_r m_r d_r t_r E_r i_r e_r F_r j_r f_r bx by_ k) (hk:k≤40) (h1:1≤k) (h:inQ px ax bx) (h2:inQ py ay by_) :
 Calls Tryz.prog 36 #[.agg #[.bool s_p,.slice A_p n_p c_p,.slice B_p m_p d_p,.bool t_p,.slice E_p i_p e_p,.slice F_p j_p f_p],.agg #[.bool s_q,.slice A_q n_q c_q,.slice B_q m_q d_q,.bool t_q,.slice E_q i_q e_q,.slice F_q j_q f_q],.agg #[.bool s_r,.slice A_r n_r c_r,.slice B_r m_r d_r,.bool t_r,.slice E_r i_r e_r,.slice F_r j_r f_r]] w fun e w'=>e=.returned (.bool (orientQ ax ay bx by_ px py == 0))∧Below w.heap.size w w':=by
 have H1:Hid (decide (inQ px ax bx)=true):=decide_eq_true h
 have H2:Hid (decide (inQ py ay by_)=true):=decide_eq_true h2
 obtain ⟨K,hK⟩:∃ K,orientQ ax ay bx by_ px py=K:=⟨_,rfl⟩
 rw [hK];have HK:=Lib.hid hK;clear hK;clear h h2
 go_enter Tryz.func36,Tryz.ntmps36
 go_wp2_with fail
 generalize hW:World.alloc _ _=W
 obtain ⟨hb,XA,XB,XC,hzW⟩:=mkbx16_9 hW;clear hW;replace p:=p.below hb;replace q:=q.below hb;replace r:=r.below hb;obtain ⟨xa0,xa1,xa2,xa3,xa4,xa5⟩:=XA.all;obtain ⟨xb0,xb1,xb2,xb3,xb4,xb5⟩:=XB.all;obtain ⟨xc0,xc1,xc2,xc3,xc4,xc5⟩:=XC.all
 go_wp2_with (first
  | (go_at_call 99;(with_reducible refine (within_q p.qx q.qx r.qx (by omega) (by omega) (by omega) h1 h1 h1 true H1.out).mono ?_);rintro e w_z ⟨rfl,hh⟩
     (try replace p:=p.below hh);(try replace q:=q.below hh);(try replace r:=r.below hh);(try replace XA:=XA.below hh);(try replace XB:=XB.below hh);(try replace XC:=XC.below hh);replace hb:=bend hb hh;obtain ⟨xa0,xa1,xa2,xa3,xa4,xa5⟩:=XA.all;obtain ⟨xb0,xb1,xb2,xb3,xb4,xb5⟩:=XB.all;obtain ⟨xc0,xc1,xc2,xc3,xc4,xc5⟩:=XC.all)
  | (go_at_call 99;(with_reducible refine (within_q p.qy q.qy r.qy (by omega) (by omega) (by omega) h1 h1 h1 true H2.out).mono ?_);rintro e w_z ⟨rfl,hh⟩
     (try replace p:=p.below hh);(try replace q:=q.below hh);(try replace r:=r.below hh);(try replace XA:=XA.below hh);(try replace XB:=XB.below hh);(try replace XC:=XC.below hh);replace hb:=bend hb hh;obtain ⟨xa0,xa1,xa2,xa3,xa4,xa5⟩:=XA.all;obtain ⟨xb0,xb1,xb2,xb3,xb4,xb5⟩:=XB.all;obtain ⟨xc0,xc1,xc2,xc3,xc4,xc5⟩:=XC.all)
  | (go_at_call 46;(with_reducible refine (porient_p q r p hk h1).mono ?_);rintro e w_z ⟨rfl,hh⟩
     rw [HK.out];(try replace p:=p.below hh);(try replace q:=q.below hh);(try replace r:=r.below hh);(try replace XA:=XA.below hh);(try replace XB:=XB.below hh);(try replace XC:=XC.below hh);replace hb:=bend hb hh;obtain ⟨xa0,xa1,xa2,xa3,xa4,xa5⟩:=XA.all;obtain ⟨xb0,xb1,xb2,xb3,xb4,xb5⟩:=XB.all;obtain ⟨xc0,xc1,xc2,xc3,xc4,xc5⟩:=XC.all))
 go_ret
 exact ⟨by first | rfl | simp,hb⟩
theorem on_p {k:Nat} {px py ax ay bx by_:Rat} (p:PR w s_p A_p n_p c_p B_p m_p d_p t_p E_p i_p e_p F_p j_p f_p px py k) (q:PR w s_q A_q n_q c_q B_q m_q d_q t_q E_q i_q e_q F_q j_q f_q ax ay k) (r:PR w s_r A_r n_r c_r B_r m_r d_r t_r E_r i_r e_r F_r j_r f_r bx by_ k) (hk:k≤40) (h1:1≤k) (R:Bool) (hR:R=true ↔ onS px py ax ay bx by_) :
 Calls Tryz.prog 36 #[.agg #[.bool s_p,.slice A_p n_p c_p,.slice B_p m_p d_p,.bool t_p,.slice E_p i_p e_p,.slice F_p j_p f_p],.agg #[.bool s_q,.slice A_q n_q c_q,.slice B_q m_q d_q,.bool t_q,.slice E_q i_q e_q,.slice F_q j_q f_q],.agg #[.bool s_r,.slice A_r n_r c_r,.slice B_r m_r d_r,.bool t_r,.slice E_r i_r e_r,.slice F_r j_r f_r]] w fun e w'=>e=.returned (.bool R)∧Below w.heap.size w w':=by
 by_cases h:inQ px ax bx
 · by_cases h2:inQ py ay by_
   · have:=on_o p q r hk h1 h h2
     rwa [show (orientQ ax ay bx by_ px py == 0)=R from by
      rw [Bool.eq_iff_iff,hR,onS_iff,beq_iff_eq];exact ⟨fun e=>⟨h,h2,e⟩,fun e=>e.2.2⟩] at this
   · have:=on_y p q r hk h1 h h2
     rwa [show false=R from by rw [Bool.eq_iff_iff,hR,onS_iff];exact ⟨fun e=>(by cases e),fun e=>absurd e.2.1 h2⟩] at this
 · have:=on_x p q r hk h1 h
   rwa [show false=R from by rw [Bool.eq_iff_iff,hR,onS_iff];exact ⟨fun e=>(by cases e),fun e=>absurd e.1 h⟩] at this
end
section
open Go Go.RowKit
section
variable {W W':World} {g:Nat} {v0 v1 v2 v3 v4 v5 v6 v7 v8 v9 v10 v11 v12 v13 v14 v15 v16 v17:Value}
end
def VK (c:Array Value) (x:Value) (_w:World):Prop:=x=.agg c
theorem stays_k (c:Array Value):Stays (VK c):=⟨fun _ _ _ h _=>h,fun _ _ _ _ _ _ h _ _=>h⟩
theorem tq_range {t:Nat} (ht:t≤255):0≤Rat.divInt (t:Int) 255∧Rat.divInt (t:Int) 255≤1:=by
 have e:Rat.divInt (t:Int) 255=((t:Int):Rat) / ((255:Int):Rat):=by rw [Rat.divInt_eq_div]
 have h0:((0:Int):Rat)≤((t:Int):Rat):=Rat.intCast_le_intCast.2 (by omega)
 have h1:((t:Int):Rat)≤((255:Int):Rat):=Rat.intCast_le_intCast.2 (by omega)
 have h2:((255:Int):Rat)=255:=rfl
 have h4:((0:Int):Rat)=0:=rfl
 rw [e]
 rw [h2] at h1 ⊢
 rw [h4] at h0
 have h3:((t:Int):Rat) / 255*255=((t:Int):Rat):=Rat.div_mul_cancel (by decide)
 constructor <;> grind
end
end Go.Proofs.YtmgklaklnaihpaaGreat
