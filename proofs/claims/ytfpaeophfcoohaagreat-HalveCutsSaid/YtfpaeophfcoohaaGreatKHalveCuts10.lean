/- HalveCuts: part 10. -/
import Derived.Deep.AppendLies
import Derived.Deep.LoopGhost
import Derived.Laws.IdiomRangeMap
import Derived.LoopN
import Derived.WalkMore
import Derived.Test.YtfpaeophfcoohaaGreatKHalveCuts6
import Derived.Test.YtfpaeophfcoohaaGreatKHalveCuts7
import Derived.Test.YtfpaeophfcoohaaGreatKHalveCuts8
import Derived.Test.YtfpaeophfcoohaaGreatKHalveCuts9
set_option linter.unusedVariables false
set_option maxRecDepth 100000
set_option maxHeartbeats 16000000
variable {w:Go.World}
variable {s_p t_p:Bool} {A_p B_p E_p F_p:Option Go.Addr} {n_p c_p m_p d_p i_p e_p j_p f_p:Nat}
namespace Go.Proofs.YtfpaeophfcoohaaGreat
section
open Go Go.RowKit
def B6R (W:World) (g:Nat) (x y z u v t:Value):Prop:=W.heap[g]?=some (.cells #[x,y,z,u,v,t] 51 (0,0))
section
variable {W W':World} {g:Nat} {x y z u v t:Value}
theorem B6R.c0 (h:B6R W g x y z u v t):W.cell? ⟨g,0,none⟩=some x:=by rw [cell_of_row W g 0 _ _ (0,0) h];rfl
theorem B6R.c1 (h:B6R W g x y z u v t):W.cell? ⟨g,1,none⟩=some y:=by rw [cell_of_row W g 1 _ _ (0,0) h];rfl
theorem B6R.c2 (h:B6R W g x y z u v t):W.cell? ⟨g,2,none⟩=some z:=by rw [cell_of_row W g 2 _ _ (0,0) h];rfl
theorem B6R.c3 (h:B6R W g x y z u v t):W.cell? ⟨g,3,none⟩=some u:=by rw [cell_of_row W g 3 _ _ (0,0) h];rfl
theorem B6R.c4 (h:B6R W g x y z u v t):W.cell? ⟨g,4,none⟩=some v:=by rw [cell_of_row W g 4 _ _ (0,0) h];rfl
theorem B6R.c5 (h:B6R W g x y z u v t):W.cell? ⟨g,5,none⟩=some t:=by rw [cell_of_row W g 5 _ _ (0,0) h];rfl
theorem B6R.all (h:B6R W g x y z u v t):W.cell? ⟨g,0,none⟩=some x∧W.cell? ⟨g,1,none⟩=some y∧W.cell? ⟨g,2,none⟩=some z∧W.cell? ⟨g,3,none⟩=some u∧W.cell? ⟨g,4,none⟩=some v∧W.cell? ⟨g,5,none⟩=some t:=⟨h.c0,h.c1,h.c2,h.c3,h.c4,h.c5⟩
theorem B6R.f0 (h:B6R W g x y z u v t):W.frozen? ⟨g,0,none⟩=false:=frozen_of_row W g 0 _ _ h
theorem B6R.f1 (h:B6R W g x y z u v t):W.frozen? ⟨g,1,none⟩=false:=frozen_of_row W g 1 _ _ h
theorem B6R.f2 (h:B6R W g x y z u v t):W.frozen? ⟨g,2,none⟩=false:=frozen_of_row W g 2 _ _ h
theorem B6R.f3 (h:B6R W g x y z u v t):W.frozen? ⟨g,3,none⟩=false:=frozen_of_row W g 3 _ _ h
theorem B6R.f4 (h:B6R W g x y z u v t):W.frozen? ⟨g,4,none⟩=false:=frozen_of_row W g 4 _ _ h
theorem B6R.f5 (h:B6R W g x y z u v t):W.frozen? ⟨g,5,none⟩=false:=frozen_of_row W g 5 _ _ h
theorem B6R.lt (h:B6R W g x y z u v t):g < W.heap.size:=World.block_lt_of_cell? W _ h.c0
theorem B6R.below (h:B6R W g x y z u v t) (hb:Below W.heap.size W W'):B6R W' g x y z u v t:=(hb.block g h.lt).trans h
theorem B6R.alloc (h:B6R W g x y z u v t) (o:Obj):B6R (W.alloc o) g x y z u v t:=(Below.heap_alloc W o g h.lt).trans h
theorem B6R.new' (W:World) (x y z u v t:Value) (g:Nat) (hg:g=W.heap.size):B6R (W.alloc (.cells #[x,y,z,u,v,t] 51)) g x y z u v t:=by subst hg;exact heap_alloc_new W _
end
theorem B6R.set6 {W:World} {g:Nat} {x y z u v t:Value} (h:B6R W g x y z u v t) (a b c d e f:Value):B6R ((((((W.setCell ⟨g,0,none⟩ a).setCell ⟨g,1,none⟩ b).setCell ⟨g,2,none⟩ c).setCell ⟨g,3,none⟩ d).setCell ⟨g,4,none⟩ e).setCell ⟨g,5,none⟩ f) g a b c d e f:=by
 unfold B6R at h ⊢
 simp [World.setCell,Array.getElem?_modify,h]
theorem Rd.off6R {K:IntKind} {W:World} {g:Nat} {s t:Bool} {A A1 A2 A3 A4:Option Addr} {n n1 c1 n2 c2 n3 c3 n4 c4:Nat} {l:List Nat} (hr:Rd K W A n l) (h:B6R W g (.bool s) (.slice A1 n1 c1) (.slice A2 n2 c2) (.bool t) (.slice A3 n3 c3) (.slice A4 n4 c4)):Off A n g:=by
 intro hn ad e hg
 obtain ⟨b,o,eA,hc⟩:=hr.at_ hn
 obtain ⟨x,_,hx⟩:=hc 0 hn
 rw [eA] at e
 cases e
 have hg2:b=g:=hg
 subst hg2
 rw [cell_of_row W b (o+0) _ _ (0,0) h] at hx
 match o,hx with
 | 0,hx=>cases hx
 | 1,hx=>cases hx
 | 2,hx=>cases hx
 | 3,hx=>cases hx
 | 4,hx=>cases hx
 | 5,hx=>cases hx
 | o+6,hx=>cases hx
def RP (w:World) (s:Bool) (A:Option Addr) (n c:Nat) (B:Option Addr) (m d:Nat) (t:Bool) (E:Option Addr) (i e:Nat) (F:Option Addr) (j f:Nat) (x y:Rat) (k:Nat):Prop:=RQ w s A n c B m d x k∧RQ w t E i e F j f y k
def GivesRP (w:World) (x y:Rat) (k:Nat) (en:Ending) (w':World):Prop :=
 ∃ s A n c B m d t E i e F j f,en=.returned (.agg #[.bool s,.slice A n c,.slice B m d,.bool t,.slice E i e,.slice F j f])∧RP w' s A n c B m d t E i e F j f x y k∧Below w.heap.size w w'
section
variable {w w':World} {s t:Bool} {A B E F:Option Addr} {n c m d i e j f k k1:Nat} {x y:Rat}
theorem RP.below (h:RP w s A n c B m d t E i e F j f x y k) (hb:Below w.heap.size w w'):RP w' s A n c B m d t E i e F j f x y k:=⟨h.1.below hb,h.2.below hb⟩
theorem RP.qx (h:RP w s A n c B m d t E i e F j f x y k):RQ w s A n c B m d x k:=h.1
theorem RP.qy (h:RP w s A n c B m d t E i e F j f x y k):RQ w t E i e F j f y k:=h.2
theorem RP.more (h:RP w s A n c B m d t E i e F j f x y k) (hk:k≤k1):RP w s A n c B m d t E i e F j f x y k1:=⟨h.1.more hk,h.2.more hk⟩
theorem RQ.onl {v:Rat} {g:Nat} (h:RQ w s A n c B m d v k) (h1:Off A n g) (h2:Off B m g) (ho:Only g w w'):RQ w' s A n c B m d v k:=⟨h.1.only h1 ho,h.2.only h2 ho⟩
theorem RP.set6 {s0 t0:Bool} {g:Nat} {A1 A2 A3 A4:Option Addr} {n1 c1 n2 c2 n3 c3 n4 c4:Nat} (h:RP w s A n c B m d t E i e F j f x y k) (Z:B6R w g (.bool s0) (.slice A1 n1 c1) (.slice A2 n2 c2) (.bool t0) (.slice A3 n3 c3) (.slice A4 n4 c4)) (a1 a2 a3 a4 a5 a6:Value) :
 RP ((((((w.setCell ⟨g,0,none⟩ a1).setCell ⟨g,1,none⟩ a2).setCell ⟨g,2,none⟩ a3).setCell ⟨g,3,none⟩ a4).setCell ⟨g,4,none⟩ a5).setCell ⟨g,5,none⟩ a6) s A n c B m d t E i e F j f x y k:=by
 have ho:Only g w ((((((w.setCell ⟨g,0,none⟩ a1).setCell ⟨g,1,none⟩ a2).setCell ⟨g,2,none⟩ a3).setCell ⟨g,3,none⟩ a4).setCell ⟨g,4,none⟩ a5).setCell ⟨g,5,none⟩ a6):=((((((Only.refl g w).setCell 0 _).setCell 1 _).setCell 2 _).setCell 3 _).setCell 4 _).setCell 5 _
 exact ⟨h.1.onl (h.1.1.2.1.off6R Z) (h.1.2.1.off6R Z) ho,h.2.onl (h.2.1.2.1.off6R Z) (h.2.2.1.off6R Z) ho⟩
end
theorem mkbx28_10 {w W:World} {x0 x1 x2 x3 x4 x5:Value} (h:(w.alloc (Obj.cells #[x0,x1,x2,x3,x4,x5] 51))=W):Below w.heap.size w W∧B6R W (w.heap.size) x0 x1 x2 x3 x4 x5∧W.heap.size=w.heap.size+1:=by subst h;exact ⟨by exact ((Below.refl _ _).alloc (Nat.le_refl _) _),by exact B6R.new' _ _ _ _ _ _ _ _ rfl,by simp⟩
theorem rof6 (x y:Int) (hx1:-9223372036854775808≤x) (hx2:x < 9223372036854775808) (hy1:-9223372036854775808≤y) (hy2:y < 9223372036854775808) (w:World) :
 Calls Tryz.prog 66 #[.int .i64 x,.int .i64 y] w (GivesRP w (Rat.divInt x 1) (Rat.divInt y 1) 2):=by
 have H1:=Lib.hid hx1;have H2:=Lib.hid hx2;have H3:=Lib.hid hy1;have H4:=Lib.hid hy2;clear hx1 hx2 hy1 hy2
 go_enter Tryz.func66,Tryz.ntmps66
 go_upto_region 1 with (fail)
 generalize hW:World.alloc _ _=W
 obtain ⟨hb,Z,hzW⟩:=mkbx28_10 hW;clear hW
 go_wp2_with (first
  | (go_at_call 42;(with_reducible refine (rof3 x 1 H1.out H2.out (by decide) (by decide) (by decide) _).mono ?_);rintro e w_r ⟨s_r,A_r,n_r,c_r,B_r,m_r,d_r,rfl,r,hh⟩
     (try replace Z:=Z.below hh);replace hb:=bend hb hh)
  | (go_at_call 42;(with_reducible refine (rof3 y 1 H3.out H4.out (by decide) (by decide) (by decide) _).mono ?_);rintro e w_u ⟨s_u,A_u,n_u,c_u,B_u,m_u,d_u,rfl,u,hh⟩
     (try replace Z:=Z.below hh);(try replace r:=r.below hh);replace hb:=bend hb hh;have zg0:=Z.f0;have zg1:=Z.f1;have zg2:=Z.f2;have zg3:=Z.f3;have zg4:=Z.f4;have zg5:=Z.f5;obtain ⟨zc0,zc1,zc2,zc3,zc4,zc5⟩:=Z.all))
 have Z2:=Z.set6 (.bool s_r) (.slice A_r n_r c_r) (.slice B_r m_r d_r) (.bool s_u) (.slice A_u n_u c_u) (.slice B_u m_u d_u)
 obtain ⟨g0,g1,g2,g3,g4,g5⟩:=Z2.all
 refine bodyPost_ret (v:=.agg #[.bool s_r,.slice A_r n_r c_r,.slice B_r m_r d_r,.bool s_u,.slice A_u n_u c_u,.slice B_u m_u d_u]) (by simp [results,Tryz.results66,go_sem,g0,g1,g2,g3,g4,g5]) rfl ?_
 exact ⟨_,_,_,_,_,_,_,_,_,_,_,_,_,_,rfl,(show RP _ _ _ _ _ _ _ _ _ _ _ _ _ _ _ _ _ _ from ⟨r,u⟩).set6 Z _ _ _ _ _ _,below_set6 hb (by omega) _ _ _ _ _ _⟩
theorem mkbx29_10 {w W:World} {x0 x1 x2 x3 x4 x5 x6 x7 x8 x9 x10 x11:Value} (h:((w.alloc (Obj.cells #[x0,x1,x2,x3,x4,x5] 51)).alloc (Obj.cells #[x6,x7,x8,x9,x10,x11] 28))=W):Below w.heap.size w W∧B6R W (w.heap.size) x0 x1 x2 x3 x4 x5∧B6 W (w.heap.size+1) x6 x7 x8 x9 x10 x11∧W.heap.size=w.heap.size+2:=by subst h;exact ⟨by exact (((Below.refl _ _).alloc (Nat.le_refl _) _).alloc (by simp) _),by exact (B6R.new' _ _ _ _ _ _ _ _ rfl).alloc _,by exact B6.new' _ _ _ _ _ _ _ _ (by simp),by simp⟩
theorem rout6 {k:Nat} {x y:Rat} (p:RP w s_p A_p n_p c_p B_p m_p d_p t_p E_p i_p e_p F_p j_p f_p x y k) (hk:k≤100000) (K:Nat) (h1:x.num.natAbs < B64 ^ K) (h2:x.den < B64 ^ K) (h3:y.num.natAbs < B64 ^ K) (h4:y.den < B64 ^ K) :
 Calls Tryz.prog 65 #[.agg #[.bool s_p,.slice A_p n_p c_p,.slice B_p m_p d_p,.bool t_p,.slice E_p i_p e_p,.slice F_p j_p f_p]] w (GivesPt w x y K):=by
 have H1:=Lib.hid h1;have H2:=Lib.hid h2;have H3:=Lib.hid h3;have H4:=Lib.hid h4;clear h1 h2 h3 h4
 go_enter Tryz.func65,Tryz.ntmps65
 go_upto_region 1 with (fail)
 generalize hW:World.alloc _ _=W
 obtain ⟨hb,XA,Z,hzW⟩:=mkbx29_10 hW;clear hW;replace p:=p.below hb
 replace p:=p.below (Below.refl _ _).drew
 replace XA:=XA.below (Below.refl _ _).drew
 replace Z:=Z.below (Below.refl _ _).drew
 replace hb:=hb.drew
 go_region_held3 (fun w'=>w'.cell? ⟨w.heap.size,0,none⟩=some (.bool s_p)∧w'.cell? ⟨w.heap.size,1,none⟩=some (.slice A_p n_p c_p)∧w'.cell? ⟨w.heap.size,2,none⟩=some (.slice B_p m_p d_p)∧w'.cell? ⟨w.heap.size,3,none⟩=some (.bool t_p)∧w'.cell? ⟨w.heap.size,4,none⟩=some (.slice E_p i_p e_p)∧w'.cell? ⟨w.heap.size,5,none⟩=some (.slice F_p j_p f_p))
  (first | with_reducible exact ⟨XA.c0,XA.c1,XA.c2,XA.c3,XA.c4,XA.c5⟩ | with_reducible exact ⟨(set6_cell _ _ _ _ _ _ _ _ _ _ (by omega)).trans XA.c0,(set6_cell _ _ _ _ _ _ _ _ _ _ (by omega)).trans XA.c1,(set6_cell _ _ _ _ _ _ _ _ _ _ (by omega)).trans XA.c2,(set6_cell _ _ _ _ _ _ _ _ _ _ (by omega)).trans XA.c3,(set6_cell _ _ _ _ _ _ _ _ _ _ (by omega)).trans XA.c4,(set6_cell _ _ _ _ _ _ _ _ _ _ (by omega)).trans XA.c5⟩)
  (first
  | (go_at_call 48;(with_reducible refine (rout3g p.qx hk K H1.out H2.out).mono ?_);rintro e w_r ⟨s_r,A_r,n_r,c_r,B_r,m_r,d_r,rfl,r,hh⟩
     (try replace p:=p.below hh);(try replace XA:=XA.below hh);(try replace Z:=Z.below hh);replace hb:=bend hb hh)
  | (go_at_call 48;(with_reducible refine (rout3g p.qy hk K H3.out H4.out).mono ?_);rintro e w_u ⟨s_u,A_u,n_u,c_u,B_u,m_u,d_u,rfl,u,hh⟩
     (try replace p:=p.below hh);(try replace r:=r.below hh);(try replace XA:=XA.below hh);(try replace Z:=Z.below hh);replace hb:=bend hb hh;have zg0:=Z.f0;have zg1:=Z.f1;have zg2:=Z.f2;have zg3:=Z.f3;have zg4:=Z.f4;have zg5:=Z.f5;obtain ⟨zc0,zc1,zc2,zc3,zc4,zc5⟩:=Z.all))
 go_wp2_with fail
 have Z2:=Z.set6 (.bool s_r) (.slice A_r n_r c_r) (.slice B_r m_r d_r) (.bool s_u) (.slice A_u n_u c_u) (.slice B_u m_u d_u)
 obtain ⟨g0,g1,g2,g3,g4,g5⟩:=Z2.all
 refine bodyPost_ret (v:=.agg #[.bool s_r,.slice A_r n_r c_r,.slice B_r m_r d_r,.bool s_u,.slice A_u n_u c_u,.slice B_u m_u d_u]) (by simp [results,Tryz.results65,go_sem,g0,g1,g2,g3,g4,g5]) rfl ?_
 exact ⟨_,_,_,_,_,_,_,_,_,_,_,_,_,_,rfl,(show PG _ _ _ _ _ _ _ _ _ _ _ _ _ _ _ _ _ _ from ⟨r,u⟩).set6 Z _ _ _ _ _ _,below_set6 hb (by omega) _ _ _ _ _ _⟩
theorem int_fits {x:Int} (h1:-9223372036854775808≤x) (h2:x < 9223372036854775808):(Rat.divInt x 1).num.natAbs < B64 ^ 1∧(Rat.divInt x 1).den < B64 ^ 1:=by
 rw [(int_parts x).1,(int_parts x).2,Nat.pow_one]
 have:B64=18446744073709551616:=rfl
 omega
theorem lawP (x y:Int) (hx1:-9223372036854775808≤x) (hx2:x < 9223372036854775808) (hy1:-9223372036854775808≤y) (hy2:y < 9223372036854775808) (w:World) :
 Calls Tryz.prog 32 #[.int .i64 x,.int .i64 y] w (GivesPt w (Rat.divInt x 1) (Rat.divInt y 1) 1):=by
 have HX:=Lib.hid (int_fits hx1 hx2)
 have HY:=Lib.hid (int_fits hy1 hy2)
 have H1:=Lib.hid hx1;have H2:=Lib.hid hx2;have H3:=Lib.hid hy1;have H4:=Lib.hid hy2;clear hx1 hx2 hy1 hy2
 go_enter Tryz.func32,Tryz.ntmps32
 go_upto_region 1 with (fail)
 generalize hW:World.alloc _ _=W
 obtain ⟨hb,Z,hzW⟩:=mkbx17_8 hW;clear hW
 go_wp2_with (first
  | (go_at_call 66;(with_reducible refine (rof6 x y H1.out H2.out H3.out H4.out _).mono ?_);rintro e w_r ⟨s_r,A_r,n_r,c_r,B_r,m_r,d_r,t_r,E_r,i_r,e_r,F_r,j_r,f_r,rfl,r,hh⟩
     (try replace Z:=Z.below hh);replace hb:=bend hb hh)
  | (go_at_call 65;(with_reducible refine (rout6 r (by decide) 1 HX.out.1 HX.out.2 HY.out.1 HY.out.2).mono ?_);rintro e w_u ⟨s_u,A_u,n_u,c_u,B_u,m_u,d_u,t_u,E_u,i_u,e_u,F_u,j_u,f_u,rfl,u,hh⟩
     (try replace Z:=Z.below hh);replace hb:=bend hb hh;have zg0:=Z.f0;have zg1:=Z.f1;have zg2:=Z.f2;have zg3:=Z.f3;have zg4:=Z.f4;have zg5:=Z.f5;obtain ⟨zc0,zc1,zc2,zc3,zc4,zc5⟩:=Z.all))
 have Z2:=Z.set6 (.bool s_u) (.slice A_u n_u c_u) (.slice B_u m_u d_u) (.bool t_u) (.slice E_u i_u e_u) (.slice F_u j_u f_u)
 obtain ⟨g0,g1,g2,g3,g4,g5⟩:=Z2.all
 refine bodyPost_ret (v:=.agg #[.bool s_u,.slice A_u n_u c_u,.slice B_u m_u d_u,.bool t_u,.slice E_u i_u e_u,.slice F_u j_u f_u]) (by simp [results,Tryz.results32,go_sem,g0,g1,g2,g3,g4,g5]) rfl ?_
 exact ⟨s_u,A_u,n_u,c_u,B_u,m_u,d_u,t_u,E_u,i_u,e_u,F_u,j_u,f_u,rfl,u.set6 Z _ _ _ _ _ _,below_set6 hb (by omega) _ _ _ _ _ _⟩
def BL2 (W:World) (g:Nat) (v0:Value) (v1:Value) (v2:Value) (v3:Value) (v4:Value) (v5:Value) (v6:Value) (v7:Value) (v8:Value) (v9:Value) (v10:Value) (v11:Value):Prop:=W.heap[g]?=some (.cells #[v0,v1,v2,v3,v4,v5,v6,v7,v8,v9,v10,v11] 28 (0,0))
section
variable {W W':World} {g:Nat} {v0 v1 v2 v3 v4 v5 v6 v7 v8 v9 v10 v11:Value}
theorem BL2.c0 (h:BL2 W g v0 v1 v2 v3 v4 v5 v6 v7 v8 v9 v10 v11):W.cell? ⟨g,0,none⟩=some v0:=by rw [cell_of_row W g 0 _ _ (0,0) h];rfl
theorem BL2.c1 (h:BL2 W g v0 v1 v2 v3 v4 v5 v6 v7 v8 v9 v10 v11):W.cell? ⟨g,1,none⟩=some v1:=by rw [cell_of_row W g 1 _ _ (0,0) h];rfl
theorem BL2.c2 (h:BL2 W g v0 v1 v2 v3 v4 v5 v6 v7 v8 v9 v10 v11):W.cell? ⟨g,2,none⟩=some v2:=by rw [cell_of_row W g 2 _ _ (0,0) h];rfl
theorem BL2.c3 (h:BL2 W g v0 v1 v2 v3 v4 v5 v6 v7 v8 v9 v10 v11):W.cell? ⟨g,3,none⟩=some v3:=by rw [cell_of_row W g 3 _ _ (0,0) h];rfl
theorem BL2.c4 (h:BL2 W g v0 v1 v2 v3 v4 v5 v6 v7 v8 v9 v10 v11):W.cell? ⟨g,4,none⟩=some v4:=by rw [cell_of_row W g 4 _ _ (0,0) h];rfl
theorem BL2.c5 (h:BL2 W g v0 v1 v2 v3 v4 v5 v6 v7 v8 v9 v10 v11):W.cell? ⟨g,5,none⟩=some v5:=by rw [cell_of_row W g 5 _ _ (0,0) h];rfl
theorem BL2.c6 (h:BL2 W g v0 v1 v2 v3 v4 v5 v6 v7 v8 v9 v10 v11):W.cell? ⟨g,6,none⟩=some v6:=by rw [cell_of_row W g 6 _ _ (0,0) h];rfl
theorem BL2.c7 (h:BL2 W g v0 v1 v2 v3 v4 v5 v6 v7 v8 v9 v10 v11):W.cell? ⟨g,7,none⟩=some v7:=by rw [cell_of_row W g 7 _ _ (0,0) h];rfl
theorem BL2.c8 (h:BL2 W g v0 v1 v2 v3 v4 v5 v6 v7 v8 v9 v10 v11):W.cell? ⟨g,8,none⟩=some v8:=by rw [cell_of_row W g 8 _ _ (0,0) h];rfl
theorem BL2.c9 (h:BL2 W g v0 v1 v2 v3 v4 v5 v6 v7 v8 v9 v10 v11):W.cell? ⟨g,9,none⟩=some v9:=by rw [cell_of_row W g 9 _ _ (0,0) h];rfl
theorem BL2.c10 (h:BL2 W g v0 v1 v2 v3 v4 v5 v6 v7 v8 v9 v10 v11):W.cell? ⟨g,10,none⟩=some v10:=by rw [cell_of_row W g 10 _ _ (0,0) h];rfl
theorem BL2.all (h:BL2 W g v0 v1 v2 v3 v4 v5 v6 v7 v8 v9 v10 v11):W.cell? ⟨g,0,none⟩=some v0∧W.cell? ⟨g,1,none⟩=some v1∧W.cell? ⟨g,2,none⟩=some v2∧W.cell? ⟨g,3,none⟩=some v3∧W.cell? ⟨g,4,none⟩=some v4∧W.cell? ⟨g,5,none⟩=some v5∧W.cell? ⟨g,6,none⟩=some v6∧W.cell? ⟨g,7,none⟩=some v7∧W.cell? ⟨g,8,none⟩=some v8∧W.cell? ⟨g,9,none⟩=some v9∧W.cell? ⟨g,10,none⟩=some v10:=⟨h.c0,h.c1,h.c2,h.c3,h.c4,h.c5,h.c6,h.c7,h.c8,h.c9,h.c10⟩
theorem BL2.lt (h:BL2 W g v0 v1 v2 v3 v4 v5 v6 v7 v8 v9 v10 v11):g < W.heap.size:=World.block_lt_of_cell? W _ h.c0
theorem BL2.below (h:BL2 W g v0 v1 v2 v3 v4 v5 v6 v7 v8 v9 v10 v11) (hb:Below W.heap.size W W'):BL2 W' g v0 v1 v2 v3 v4 v5 v6 v7 v8 v9 v10 v11:=(hb.block g h.lt).trans h
theorem BL2.alloc (h:BL2 W g v0 v1 v2 v3 v4 v5 v6 v7 v8 v9 v10 v11) (o:Obj):BL2 (W.alloc o) g v0 v1 v2 v3 v4 v5 v6 v7 v8 v9 v10 v11:=(Below.heap_alloc W o g h.lt).trans h
end
theorem BL2.new' (W:World) (v0 v1 v2 v3 v4 v5 v6 v7 v8 v9 v10 v11:Value) (g:Nat) (hg:g=W.heap.size):BL2 (W.alloc (.cells #[v0,v1,v2,v3,v4,v5,v6,v7,v8,v9,v10,v11] 28)) g v0 v1 v2 v3 v4 v5 v6 v7 v8 v9 v10 v11:=by subst hg;exact heap_alloc_new W _
def BL3 (W:World) (g:Nat) (v0:Value) (v1:Value) (v2:Value) (v3:Value) (v4:Value) (v5:Value) (v6:Value) (v7:Value) (v8:Value) (v9:Value) (v10:Value) (v11:Value) (v12:Value) (v13:Value) (v14:Value) (v15:Value) (v16:Value) (v17:Value):Prop:=W.heap[g]?=some (.cells #[v0,v1,v2,v3,v4,v5,v6,v7,v8,v9,v10,v11,v12,v13,v14,v15,v16,v17] 28 (0,0))
section
variable {W W':World} {g:Nat} {v0 v1 v2 v3 v4 v5 v6 v7 v8 v9 v10 v11 v12 v13 v14 v15 v16 v17:Value}
theorem BL3.c0 (h:BL3 W g v0 v1 v2 v3 v4 v5 v6 v7 v8 v9 v10 v11 v12 v13 v14 v15 v16 v17):W.cell? ⟨g,0,none⟩=some v0:=by rw [cell_of_row W g 0 _ _ (0,0) h];rfl
theorem BL3.c1 (h:BL3 W g v0 v1 v2 v3 v4 v5 v6 v7 v8 v9 v10 v11 v12 v13 v14 v15 v16 v17):W.cell? ⟨g,1,none⟩=some v1:=by rw [cell_of_row W g 1 _ _ (0,0) h];rfl
theorem BL3.c2 (h:BL3 W g v0 v1 v2 v3 v4 v5 v6 v7 v8 v9 v10 v11 v12 v13 v14 v15 v16 v17):W.cell? ⟨g,2,none⟩=some v2:=by rw [cell_of_row W g 2 _ _ (0,0) h];rfl
theorem BL3.c3 (h:BL3 W g v0 v1 v2 v3 v4 v5 v6 v7 v8 v9 v10 v11 v12 v13 v14 v15 v16 v17):W.cell? ⟨g,3,none⟩=some v3:=by rw [cell_of_row W g 3 _ _ (0,0) h];rfl
theorem BL3.c4 (h:BL3 W g v0 v1 v2 v3 v4 v5 v6 v7 v8 v9 v10 v11 v12 v13 v14 v15 v16 v17):W.cell? ⟨g,4,none⟩=some v4:=by rw [cell_of_row W g 4 _ _ (0,0) h];rfl
theorem BL3.c5 (h:BL3 W g v0 v1 v2 v3 v4 v5 v6 v7 v8 v9 v10 v11 v12 v13 v14 v15 v16 v17):W.cell? ⟨g,5,none⟩=some v5:=by rw [cell_of_row W g 5 _ _ (0,0) h];rfl
theorem BL3.c6 (h:BL3 W g v0 v1 v2 v3 v4 v5 v6 v7 v8 v9 v10 v11 v12 v13 v14 v15 v16 v17):W.cell? ⟨g,6,none⟩=some v6:=by rw [cell_of_row W g 6 _ _ (0,0) h];rfl
theorem BL3.c7 (h:BL3 W g v0 v1 v2 v3 v4 v5 v6 v7 v8 v9 v10 v11 v12 v13 v14 v15 v16 v17):W.cell? ⟨g,7,none⟩=some v7:=by rw [cell_of_row W g 7 _ _ (0,0) h];rfl
theorem BL3.c8 (h:BL3 W g v0 v1 v2 v3 v4 v5 v6 v7 v8 v9 v10 v11 v12 v13 v14 v15 v16 v17):W.cell? ⟨g,8,none⟩=some v8:=by rw [cell_of_row W g 8 _ _ (0,0) h];rfl
theorem BL3.c9 (h:BL3 W g v0 v1 v2 v3 v4 v5 v6 v7 v8 v9 v10 v11 v12 v13 v14 v15 v16 v17):W.cell? ⟨g,9,none⟩=some v9:=by rw [cell_of_row W g 9 _ _ (0,0) h];rfl
theorem BL3.c10 (h:BL3 W g v0 v1 v2 v3 v4 v5 v6 v7 v8 v9 v10 v11 v12 v13 v14 v15 v16 v17):W.cell? ⟨g,10,none⟩=some v10:=by rw [cell_of_row W g 10 _ _ (0,0) h];rfl
theorem BL3.c15 (h:BL3 W g v0 v1 v2 v3 v4 v5 v6 v7 v8 v9 v10 v11 v12 v13 v14 v15 v16 v17):W.cell? ⟨g,15,none⟩=some v15:=by rw [cell_of_row W g 15 _ _ (0,0) h];rfl
theorem BL3.lt (h:BL3 W g v0 v1 v2 v3 v4 v5 v6 v7 v8 v9 v10 v11 v12 v13 v14 v15 v16 v17):g < W.heap.size:=World.block_lt_of_cell? W _ h.c0
theorem BL3.below (h:BL3 W g v0 v1 v2 v3 v4 v5 v6 v7 v8 v9 v10 v11 v12 v13 v14 v15 v16 v17) (hb:Below W.heap.size W W'):BL3 W' g v0 v1 v2 v3 v4 v5 v6 v7 v8 v9 v10 v11 v12 v13 v14 v15 v16 v17:=(hb.block g h.lt).trans h
theorem BL3.alloc (h:BL3 W g v0 v1 v2 v3 v4 v5 v6 v7 v8 v9 v10 v11 v12 v13 v14 v15 v16 v17) (o:Obj):BL3 (W.alloc o) g v0 v1 v2 v3 v4 v5 v6 v7 v8 v9 v10 v11 v12 v13 v14 v15 v16 v17:=(Below.heap_alloc W o g h.lt).trans h
end
theorem BL3.new' (W:World) (v0 v1 v2 v3 v4 v5 v6 v7 v8 v9 v10 v11 v12 v13 v14 v15 v16 v17:Value) (g:Nat) (hg:g=W.heap.size):BL3 (W.alloc (.cells #[v0,v1,v2,v3,v4,v5,v6,v7,v8,v9,v10,v11,v12,v13,v14,v15,v16,v17] 28)) g v0 v1 v2 v3 v4 v5 v6 v7 v8 v9 v10 v11 v12 v13 v14 v15 v16 v17:=by subst hg;exact heap_alloc_new W _
end
section
open Go Go.RowKit
def VPG (x y:Rat) (k:Nat) (v:Value) (w:World):Prop:=∃ s A n c B m d t E i e F j f,v=.agg #[.bool s,.slice A n c,.slice B m d,.bool t,.slice E i e,.slice F j f]∧PG w s A n c B m d t E i e F j f x y k
theorem PG.box {T:TypeId} {w w':World} {g:Nat} {cs:Array Value} {s t:Bool} {A B E F:Option Addr} {n c m d i e j f:Nat} {x y:Rat} {k:Nat} (h:PG w s A n c B m d t E i e F j f x y k) (Z:BoxAt T w g cs) (ho:Only g w w'):PG w' s A n c B m d t E i e F j f x y k:=⟨h.1.box Z ho,h.2.box Z ho⟩
theorem stays_pg (x y:Rat) (k:Nat):Stays (VPG x y k) :=
 ⟨fun _ _ _ ⟨s,A,n,c,B,m,d,t,E,i,e,F,j,f,h1,h2⟩ hb=>⟨s,A,n,c,B,m,d,t,E,i,e,F,j,f,h1,h2.below hb⟩,fun _ _ _ _ _ _ ⟨s,A,n,c,B,m,d,t,E,i,e,F,j,f,h1,h2⟩ hB ho=>⟨s,A,n,c,B,m,d,t,E,i,e,F,j,f,h1,h2.box hB ho⟩⟩
theorem rc_gesso_rat_Div {e:Operand→Value} {x0 x1:Operand} {d:Option Tmp} {y:Nat} {pos:String} {af:Array Edge} {u0 u1:Value} (h0:e x0=u0) (h1:e x1=u1) (hf:e (.func 62)=.func (.func 62) #[] #[]) :
 (execOp e ⟨d,.call ⟨.value (.func 62),#[x0,x1],#[26,26]⟩,y,pos,af,none⟩).run Tryz.prog w=.ok (.enter 62 #[u0,u1]) w:=by
 go_simp
end
section
open Go Go.RowKit
theorem QR.of_rd {s:Bool} {A A':Option Addr} {n c n' c' k:Nat} {l l':List Nat} (h:Rd .u64 w A n l) (hL:Lim B64 l) (hnc:n≤c) (h':Rd .u64 w A' n' l') (hL':Lim B64 l') (hnc':n'≤c') (hk:n≤k) (hk':n'≤k) :
 QR w s A n c A' n' c' (mkRat (iv s (val B64 l)) (den1 (val B64 l'))) k:=⟨_,_,ZR.of_rd h hL hnc hk,⟨l',h',hL',rfl,hnc',hk'⟩,rfl⟩
end
section
section
variable {px py ax ay bx by_ cx cy dx dy:Rat}
end
section
variable {ax ay bx by_ cx cy dx dy:Rat}
end
noncomputable def pick {α:Type} (K:α→Prop) (l:List α) (p:α):List α:=open Classical in if K p∧p ∉ l then l ++ [p] else l
section
variable {ax ay bx by_ cx cy dx dy:Rat}
end
end
section
open Go Go.RowKit
def inSQ (v a b:Rat):Prop:=0≤(v - a)*(b - v)
instance (v a b:Rat):Decidable (inSQ v a b):=inferInstanceAs (Decidable (_≤_))
end
section
open Go Go.RowKit
theorem qr_zero (w:World):QR w false none 0 0 none 0 0 0 1:=by
 refine ⟨0,0,⟨[],⟨rfl,fun h=>absurd h (by decide)⟩,Lim.nil,rfl,Nat.le_refl _,by decide,by decide⟩,⟨[],⟨rfl,fun h=>absurd h (by decide)⟩,Lim.nil,rfl,Nat.le_refl _,by decide⟩,by decide +kernel⟩
end
section
open Go Go.RowKit
structure QV where
 s:Bool
 A:Option Addr
 n:Nat
 c:Nat
 B:Option Addr
 m:Nat
 d:Nat
def QV.cells (p:QV):List Value:=[.bool p.s,.slice p.A p.n p.c,.slice p.B p.m p.d]
def qvs (L:List QV):List Value:=L.flatMap QV.cells
theorem qvs_cons (p:QV) (L:List QV):qvs (p :: L)=p.cells ++ qvs L:=List.flatMap_cons
theorem qvs_get {L:List QV} {i:Nat} {p:QV} (h:L[i]?=some p) {j:Nat} (hj:j < 3):(qvs L)[i*3+j]?=p.cells[j]?:=by
 induction L generalizing i with
 | nil=>cases h
 | cons q L ih =>
   rw [qvs_cons]
   match i with
   | 0 =>
     obtain rfl:q=p:=by simpa using h
     rw [List.getElem?_append_left (show 0*3+j < q.cells.length by show _ < 3;omega)]
     congr 1;omega
   | i+1 =>
     rw [List.getElem?_append_right (show q.cells.length≤(i+1)*3+j by show 3≤_;omega)]
     rw [show (i+1)*3+j - q.cells.length=i*3+j by show (i+1)*3+j - 3=_;omega]
     exact ih h
def SlQ (w:World) (g:Nat) (L:List QV):Prop:=w.heap[g]?=some (.cells (qvs L).toArray 26 (0,0))
def E3 (w:World) (g o:Nat) (x y z:Value):Prop:=g < w.heap.size∧w.cell? ⟨g,o,none⟩=some x∧w.cell? ⟨g,o+1,none⟩=some y∧w.cell? ⟨g,o+2,none⟩=some z
section
variable {w w':World} {g o:Nat} {L:List QV} {x y z:Value}
theorem SlQ.lt (h:SlQ w g L):g < w.heap.size:=by
 rcases Nat.lt_or_ge g w.heap.size with q | q
 · exact q
 · unfold SlQ at h;rw [Array.getElem?_eq_none q] at h;cases h
theorem SlQ.below (h:SlQ w g L) (hb:Below w.heap.size w w'):SlQ w' g L:=(hb.block g h.lt).trans h
theorem E3.below (h:E3 w g o x y z) (hb:Below w.heap.size w w'):E3 w' g o x y z :=
 ⟨Nat.lt_of_lt_of_le h.1 hb.size,(hb.cell (p:=⟨g,o,none⟩) h.1).trans h.2.1,(hb.cell (p:=⟨g,o+1,none⟩) h.1).trans h.2.2.1,(hb.cell (p:=⟨g,o+2,none⟩) h.1).trans h.2.2.2⟩
theorem E3.c0 (h:E3 w g o x y z):w.cell? ⟨g,o,none⟩=some x:=h.2.1
theorem E3.c1 (h:E3 w g o x y z):w.cell? ⟨g,o+1,none⟩=some y:=h.2.2.1
theorem E3.c2 (h:E3 w g o x y z):w.cell? ⟨g,o+2,none⟩=some z:=h.2.2.2
theorem E3.all (h:E3 w g o x y z):w.cell? ⟨g,o,none⟩=some x∧w.cell? ⟨g,o+1,none⟩=some y∧w.cell? ⟨g,o+2,none⟩=some z:=⟨h.c0,h.c1,h.c2⟩
theorem SlQ.at_ (h:SlQ w g L) {i:Nat} {p:QV} (hi:L[i]?=some p):E3 w g (i*3) (.bool p.s) (.slice p.A p.n p.c) (.slice p.B p.m p.d):=by
 have key:∀ j,j < 3→w.cell? ⟨g,i*3+j,none⟩=p.cells[j]?:=fun j hj=>by
  rw [cell_of_row w g (i*3+j) _ _ (0,0) h,← qvs_get hi hj];simp
 exact ⟨h.lt,key 0 (by decide),key 1 (by decide),key 2 (by decide)⟩
end
theorem rats_same {s t:Bool} {A A' B B':Option Addr} {n c n' c' m d m' d' k k2:Nat} {v:Rat} (p:QG w s A n c A' n' c' v k) (q:QG w t B m d B' m' d' v k2) (hk:k≤100000) :
 Calls Tryz.prog 47 #[.agg #[.bool s,.slice A n c,.slice A' n' c'],.agg #[.bool t,.slice B m d,.slice B' m' d']] w fun e w'=>e=.returned (.bool true)∧Below w.heap.size w w':=by
 obtain ⟨⟨h1,h2,h3,h4⟩,⟨g2,g3,g4⟩⟩:=p
 obtain ⟨⟨e1,e2,_,_⟩,⟨f2,_,_⟩⟩:=q
 have hm:(100000:Nat)≤maxLen:=by unfold maxLen;omega
 exact rats_any h2 g2 e2 f2 (by omega) (by omega) true (by rw [h1,e1];simp)
end
section
open Go Go.RowKit
theorem RP.box {T:TypeId} {w w':World} {g:Nat} {cs:Array Value} {s t:Bool} {A B E F:Option Addr} {n c m d i e j f:Nat} {x y:Rat} {k:Nat} (h:RP w s A n c B m d t E i e F j f x y k) (Z:BoxAt T w g cs) (ho:Only g w w'):RP w' s A n c B m d t E i e F j f x y k:=⟨h.1.box Z ho,h.2.box Z ho⟩
end
section
open Go Go.RowKit
def StaysIn (L:List BoxOp) (F:Value→World→Prop):Prop:=(∀ x w w',F x w→Below w.heap.size w w'→F x w')∧∀ p ∈ L,∀ x w w' g cs,F x w→BoxAt p.T w g cs→Only g w w'→F x w'
theorem Stays.inn {F:Value→World→Prop} (h:Stays F) (L:List BoxOp):StaysIn L F:=⟨h.1,fun p _ x w w' g cs=>h.2 p.T x w w' g cs⟩
section
variable {P:Program} {ops:Array Oper} {Q:Exit→Act→World→Prop}
theorem wp_region_flowsT {id:Nat} {a:Act} {w0:World} (l:List Nat) (L:List BoxOp) (F:Nat→Value→World→Prop)
 (hm:P.follows .mixedOrders=true) (hb:backB ops=true) (hl:ops.toList.filterMap (·.dst)=l) (hn:l.Nodup)
 (hL:∀ p ∈ L,BoxIn P ops p) (hT:∀ p ∈ L,∀ q ∈ L,p.tA=q.tA→p=q) (hS:∀ p ∈ L,∀ q ∈ L,p.is=q.is→p=q)
 (hone:∀ (i:Nat) (o:Oper),ops[i]?=some o→o.dst=none→∃ p ∈ L,p.is=i) (hst:∀ t,StaysIn L (F t))
 (hval:∀ (i:Nat) (o:Oper) (t:Nat) (v:Nat→Value) (w':World),ops[i]?=some o→(∀ p ∈ L,t ≠ p.tA)→o.dst=some t→Below w0.heap.size w0 w' →
  (∀ e ∈ o.after,Region.binds .any e=true→∀ (oe:Oper) (te:Nat),ops[e.on]?=some oe→oe.dst=some te→(∀ p ∈ L,te ≠ p.tA)→F te (v te) w') →
  wpOp P ops Q i (fun a'' w''=>∃ x,a''=(putAll a l v).put (some t) x∧Below w'.heap.size w' w''∧F t x w'') (putAll a l v) w')
 (hstore:∀ p ∈ L,∀ (os:Oper) (v:Nat→Value) (w':World) (g:Nat),ops[p.is]?=some os→Below w0.heap.size w0 w'→v p.tA=.pointer (some ⟨g,0,none⟩)→BoxAt p.T w' g p.zs →
  (∀ e ∈ os.after,Region.binds .any e=true→∀ (oe:Oper) (te:Nat),ops[e.on]?=some oe→oe.dst=some te→(∀ p ∈ L,te ≠ p.tA)→F te (v te) w') →
  os.wp P (putAll a l v) w' (fun a'' w''=>a''=putAll a l v∧Only g w' w''∧∃ cs',BoxAt p.T w'' g cs'∧p.Fst cs' w'') Q)
 (hend:∀ (v:Nat→Value) (w':World),Below w0.heap.size w0 w'→(∀ (i:Nat) (o:Oper) (t:Nat),ops[i]?=some o→o.dst=some t→(∀ p ∈ L,t ≠ p.tA)→F t (v t) w') →
  (∀ p ∈ L,∃ g cs,v p.tA=.pointer (some ⟨g,0,none⟩)∧w0.heap.size≤g∧BoxAt p.T w' g cs∧p.Fst cs w')→(∀ p ∈ L,∀ q ∈ L,p.tA ≠ q.tA→v p.tA ≠ v q.tA)→Q .normal (putAll a l v) w') :
 (Code.region id ops true).wp P Q a w0:=by
 have lt_of:∀ {i:Nat} {o:Oper},ops[i]?=some o→i < ops.size:=fun {i o} h=>by
  rcases Nat.lt_or_ge i ops.size with k | k
  · exact k
  · rw [Array.getElem?_eq_none k] at h;cases h
 have hmem:∀ {i:Nat} {o:Oper} {t:Nat},ops[i]?=some o→o.dst=some t→t ∈ l:=fun {i o t} h d=>by
  rw [← hl];exact List.mem_filterMap.2 ⟨o,List.mem_of_getElem? (by simpa using h),d⟩
 have hinj:∀ {i j:Nat} {oi oj:Oper} {t:Nat},ops[i]?=some oi→ops[j]?=some oj→oi.dst=some t→oj.dst=some t→i=j:=fun {i j oi oj t} h1 h2 d1 d2 =>
  once_of (l:=ops.toList) (by rw [hl];exact hn) (by simpa using h1) (by simpa using h2) d1 d2
 -- a filling operation is no making one,and none that tells a value
 have his:∀ p ∈ L,∀ (i:Nat) (o:Oper) (t:Nat),ops[i]?=some o→o.dst=some t→p.is ≠ i:=by
  intro p hp i o t ho ht q
  obtain ⟨os,h1,h2,_⟩:=(hL p hp).fill
  subst q
  rw [h1] at ho
  cases ho
  rw [h2] at ht
  cases ht
 refine wp_region_inv l (JFlows ops w0 L F) hm hb ?_ ?_ ?_ ?_
 · refine ⟨(Below.refl _ _).drew,?_,?_,?_,?_⟩
   · intro i o t _ _ _ h;exact absurd (show false=true from h) (by decide)
   · intro p _ h;exact absurd (show false=true from h) (by decide)
   · intro p _ h;exact absurd (show false=true from h) (by decide)
   · intro p _ q _ _ h;exact absurd (show false=true from h) (by decide)
 · intro D D' v w hD h
   have ea:∀ p ∈ L,D p.ia=D' p.ia:=fun p hp=>by obtain ⟨oa,h1,_⟩:=(hL p hp).alloc;exact hD _ (lt_of h1)
   have es:∀ p ∈ L,D p.is=D' p.is:=fun p hp=>by obtain ⟨os,h1,_⟩:=(hL p hp).fill;exact hD _ (lt_of h1)
   refine ⟨h.below,fun i o t hi ht hne hd=>h.vals i o t hi ht hne (by rw [hD i (lt_of hi)];exact hd),?_,?_,?_⟩
   · intro p hp;rw [← ea p hp,← es p hp];exact h.box p hp
   · intro p hp;rw [← ea p hp,← es p hp];exact h.after p hp
   · intro p hp q hq;rw [← ea p hp,← ea q hq];exact h.apart p hp q hq
 · intro i o D v w' ho hDi hall J
   cases hd:o.dst with
   | none =>
     obtain ⟨p,hp,rfl⟩:=hone i o ho hd
     obtain ⟨os,h1,h2,hgs,e,he,hbd,hon⟩:=(hL p hp).fill
     rw [h1] at ho
     cases ho
     have hDa:D p.ia=true:=by rw [← hon];exact hall e he hbd
     obtain ⟨g,cs,p1,p2,p3,_,pz⟩:=J.box p hp hDa
     obtain rfl:=pz hDi
     refine wpOp_plain' h1 hgs ?_
     refine Oper.wp_mono ?_ (hstore p hp _ v w' g h1 J.below p1 p3 (fun e he hb' oe te h1 h2 h3=>J.vals e.on oe te h1 h2 h3 (hall e he hb')))
     rintro a'' w'' ⟨rfl,ho2,cs',hB,hF⟩
     have nia:∀ q ∈ L,q.ia ≠ p.is:=fun q hq k=>by
      obtain ⟨oa,k1,k2,_⟩:=(hL q hq).alloc
      exact his p hp q.ia oa q.tA k1 k2 k.symm
     refine ⟨v,rfl,Below.only J.below p2 J.below.size ho2,?_,?_,?_,?_⟩
     · intro j oj t hj ht hne hd2
       have hji:j ≠ p.is:=fun q=>his p hp j oj t hj ht q.symm
       rw [upd_ne _ _ hji] at hd2
       exact (hst t).2 p hp _ _ _ _ _ (J.vals j oj t hj ht hne hd2) p3 ho2
     · intro q hq hDq
       rw [upd_ne _ _ (nia q hq)] at hDq
       by_cases hpq:q.tA=p.tA
       · obtain rfl:=hT q hq p hp hpq
         exact ⟨g,cs',p1,p2,hB,fun _=>hF,fun k=>by rw [upd_same] at k;cases k⟩
       · obtain ⟨g2,cs2,r1,r2,r3,r4,r5⟩:=J.box q hq hDq
         have hgg:g2 ≠ g:=fun k=>J.apart q hq p hp hpq hDq hDa (by rw [r1,p1,k])
         have hss:q.is ≠ p.is:=fun k=>hpq (by rw [hS q hq p hp k])
         refine ⟨g2,cs2,r1,r2,⟨(ho2.block g2 r3.lt hgg).trans r3.at_,r3.free⟩,fun k=>?_,fun k=>?_⟩
         · rw [upd_ne _ _ hss] at k
           exact (hL q hq).stays2 _ _ _ _ _ _ (r4 k) p3 ho2
         · rw [upd_ne _ _ hss] at k
           exact r5 k
     · intro q hq k
       rw [upd_ne _ _ (nia q hq)]
       by_cases hss:q.is=p.is
       · obtain rfl:=hS q hq p hp hss
         exact hDa
       · rw [upd_ne _ _ hss] at k
         exact J.after q hq k
     · intro q hq r hr hne k1 k2
       rw [upd_ne _ _ (nia q hq)] at k1
       rw [upd_ne _ _ (nia r hr)] at k2
       exact J.apart q hq r hr hne k1 k2
   | some t =>
     have nis:∀ q ∈ L,q.is ≠ i:=fun q hq=>his q hq i o t ho hd
     by_cases hA:∃ p ∈ L,t=p.tA
     · obtain ⟨p,hp,rfl⟩:=hA
       obtain ⟨oa,h1,h2,hga,halloc⟩:=(hL p hp).alloc
       have hii:i=p.ia:=hinj ho h1 hd h2
       subst hii
       rw [h1] at ho
       cases ho
       refine wpOp_plain' h1 hga ?_
       unfold Oper.wp
       rw [halloc,Oper.upon_value,h2]
       have hbl:=(Below.refl w'.heap.size w').alloc (Nat.le_refl _) (.cells p.zs p.T)
       have hnew:∀ q ∈ L,q.tA ≠ p.tA→q.ia ≠ p.ia:=fun q hq k r=>by
        obtain ⟨ob,k1,k2,_⟩:=(hL q hq).alloc
        rw [r,h1] at k1
        cases k1
        rw [h2] at k2
        exact k (Option.some.inj k2).symm
       refine ⟨_,putAll_put _ _ _ _ _ hn (hmem h1 h2),J.below.trans (hbl.mono J.below.size),?_,?_,?_,?_⟩
       · intro j oj t hj ht hne hd2
         have htp:=hne p hp
         have hji:j ≠ p.ia:=fun q=>htp (by subst q;rw [h1] at hj;cases hj;rw [h2] at ht;cases ht;rfl)
         rw [upd_ne _ _ hji] at hd2;rw [upd_ne _ _ htp]
         exact (hst t).1 _ _ _ (J.vals j oj t hj ht hne hd2) hbl
       · intro q hq hDq
         by_cases hqp:q.tA=p.tA
         · obtain rfl:=hT q hq p hp hqp
           refine ⟨w'.heap.size,q.zs,upd_same _ _ _,J.below.size,⟨heap_alloc_new _ _,(hL q hq).free⟩,fun h=>?_,fun _=>rfl⟩
           rw [upd_ne _ _ (nis q hq)] at h
           have:=J.after q hq h
           rw [hDi] at this
           cases this
         · rw [upd_ne _ _ (hnew q hq hqp)] at hDq
           obtain ⟨g,cs,r1,r2,r3,r4,r5⟩:=J.box q hq hDq
           refine ⟨g,cs,by rw [upd_ne _ _ hqp];exact r1,r2,r3.below hbl,fun h=>?_,fun h=>?_⟩
           · rw [upd_ne _ _ (nis q hq)] at h
             exact (hL q hq).stays _ _ _ (r4 h) hbl
           · rw [upd_ne _ _ (nis q hq)] at h
             exact r5 h
       · intro q hq h
         rw [upd_ne _ _ (nis q hq)] at h
         by_cases hqp:q.tA=p.tA
         · obtain rfl:=hT q hq p hp hqp
           rw [upd_same]
         · rw [upd_ne _ _ (hnew q hq hqp)]
           exact J.after q hq h
       · intro q hq r hr hne k1 k2
         by_cases hqp:q.tA=p.tA
         · obtain rfl:=hT q hq p hp hqp
           have hrp:r.tA ≠ q.tA:=Ne.symm hne
           rw [upd_ne _ _ (hnew r hr hrp)] at k2
           obtain ⟨g,cs,r1,_,r3,_⟩:=J.box r hr k2
           rw [upd_same,upd_ne _ _ hrp,r1]
           intro k
           simp only [Value.pointer.injEq,Option.some.injEq,Addr.mk.injEq] at k
           have:=r3.lt
           omega
         · rw [upd_ne _ _ (hnew q hq hqp)] at k1
           by_cases hrp:r.tA=p.tA
           · obtain rfl:=hT r hr p hp hrp
             obtain ⟨g,cs,r1,_,r3,_⟩:=J.box q hq k1
             rw [upd_same,upd_ne _ _ hqp,r1]
             intro k
             simp only [Value.pointer.injEq,Option.some.injEq,Addr.mk.injEq] at k
             have:=r3.lt
             omega
           · rw [upd_ne _ _ (hnew r hr hrp)] at k2
             rw [upd_ne _ _ hqp,upd_ne _ _ hrp]
             exact J.apart q hq r hr hne k1 k2
     · have htA:∀ p ∈ L,t ≠ p.tA:=fun p hp k=>hA ⟨p,hp,k⟩
       have nia:∀ q ∈ L,q.ia ≠ i:=fun q hq k=>by
        obtain ⟨oa,k1,k2,_⟩:=(hL q hq).alloc
        rw [k,ho] at k1
        cases k1
        rw [hd] at k2
        cases k2
        exact htA q hq rfl
       refine wpOp_mono ?_ (hval i o t v w' ho htA hd J.below (fun e he hb' oe te h1 h2 h3=>J.vals e.on oe te h1 h2 h3 (hall e he hb')))
       rintro a'' w'' ⟨x,rfl,hbl,hF⟩
       refine ⟨_,putAll_put _ _ _ _ _ hn (hmem ho hd),J.below.trans (hbl.mono J.below.size),?_,?_,?_,?_⟩
       · intro j oj t' hj ht hne hd2
         by_cases hji:j=i
         · subst hji
           rw [ho] at hj
           cases hj
           rw [hd] at ht
           cases ht
           rw [upd_same]
           exact hF
         · rw [upd_ne _ _ hji] at hd2
           have htt:t' ≠ t:=fun q=>hji (by subst q;exact hinj hj ho ht hd)
           rw [upd_ne _ _ htt]
           exact (hst t').1 _ _ _ (J.vals j oj t' hj ht hne hd2) hbl
       · intro q hq hDq
         rw [upd_ne _ _ (nia q hq)] at hDq
         obtain ⟨g,cs,r1,r2,r3,r4,r5⟩:=J.box q hq hDq
         refine ⟨g,cs,by rw [upd_ne _ _ (Ne.symm (htA q hq))];exact r1,r2,r3.below hbl,fun h=>?_,fun h=>?_⟩
         · rw [upd_ne _ _ (nis q hq)] at h
           exact (hL q hq).stays _ _ _ (r4 h) hbl
         · rw [upd_ne _ _ (nis q hq)] at h
           exact r5 h
       · intro q hq h
         rw [upd_ne _ _ (nis q hq)] at h
         rw [upd_ne _ _ (nia q hq)]
         exact J.after q hq h
       · intro q hq r hr hne k1 k2
         rw [upd_ne _ _ (nia q hq)] at k1
         rw [upd_ne _ _ (nia r hr)] at k2
         rw [upd_ne _ _ (Ne.symm (htA q hq)),upd_ne _ _ (Ne.symm (htA r hr))]
         exact J.apart q hq r hr hne k1 k2
 · intro D v w' hall J
   refine hend v w' J.below (fun i o t hi ht hne=>J.vals i o t hi ht hne (hall i (lt_of hi))) ?_ ?_
   · intro p hp
     obtain ⟨oa,h1,_⟩:=(hL p hp).alloc
     obtain ⟨os,h2,_⟩:=(hL p hp).fill
     obtain ⟨g,cs,r1,r2,r3,r4,_⟩:=J.box p hp (hall _ (lt_of h1))
     exact ⟨g,cs,r1,r2,r3,r4 (hall _ (lt_of h2))⟩
   · intro p hp q hq hne
     obtain ⟨oa,h1,_⟩:=(hL p hp).alloc
     obtain ⟨ob,h2,_⟩:=(hL q hq).alloc
     exact J.apart p hp q hq hne (hall _ (lt_of h1)) (hall _ (lt_of h2))
end
end
section
open Go Go.RowKit
structure MV where
 a:QV
 b:QV
 c:QV
 d:QV
 e:QV
 f:QV
structure AM where
 a:Rat
 b:Rat
 c:Rat
 d:Rat
 e:Rat
 f:Rat
def AM.ax (m:AM) (x y:Rat):Rat:=m.a*x+m.c*y+m.e
def AM.ay (m:AM) (x y:Rat):Rat:=m.b*x+m.d*y+m.f
def AM.dx (m:AM) (x y:Rat):Rat:=m.a*x+m.c*y
def AM.dy (m:AM) (x y:Rat):Rat:=m.b*x+m.d*y
def AM.det (m:AM):Rat:=m.a*m.d - m.b*m.c
def B18 (W:World) (g:Nat) (v0 v1 v2 v3 v4 v5 v6 v7 v8 v9 v10 v11 v12 v13 v14 v15 v16 v17:Value):Prop:=W.heap[g]?=some (.cells #[v0,v1,v2,v3,v4,v5,v6,v7,v8,v9,v10,v11,v12,v13,v14,v15,v16,v17] 33 (0,0))
section
variable {W W':World} {g:Nat} {v0 v1 v2 v3 v4 v5 v6 v7 v8 v9 v10 v11 v12 v13 v14 v15 v16 v17:Value}
theorem B18.c0 (h:B18 W g v0 v1 v2 v3 v4 v5 v6 v7 v8 v9 v10 v11 v12 v13 v14 v15 v16 v17):W.cell? ⟨g,0,none⟩=some v0:=by rw [cell_of_row W g 0 _ _ (0,0) h];rfl
theorem B18.c1 (h:B18 W g v0 v1 v2 v3 v4 v5 v6 v7 v8 v9 v10 v11 v12 v13 v14 v15 v16 v17):W.cell? ⟨g,1,none⟩=some v1:=by rw [cell_of_row W g 1 _ _ (0,0) h];rfl
theorem B18.c2 (h:B18 W g v0 v1 v2 v3 v4 v5 v6 v7 v8 v9 v10 v11 v12 v13 v14 v15 v16 v17):W.cell? ⟨g,2,none⟩=some v2:=by rw [cell_of_row W g 2 _ _ (0,0) h];rfl
theorem B18.c3 (h:B18 W g v0 v1 v2 v3 v4 v5 v6 v7 v8 v9 v10 v11 v12 v13 v14 v15 v16 v17):W.cell? ⟨g,3,none⟩=some v3:=by rw [cell_of_row W g 3 _ _ (0,0) h];rfl
theorem B18.c4 (h:B18 W g v0 v1 v2 v3 v4 v5 v6 v7 v8 v9 v10 v11 v12 v13 v14 v15 v16 v17):W.cell? ⟨g,4,none⟩=some v4:=by rw [cell_of_row W g 4 _ _ (0,0) h];rfl
theorem B18.c5 (h:B18 W g v0 v1 v2 v3 v4 v5 v6 v7 v8 v9 v10 v11 v12 v13 v14 v15 v16 v17):W.cell? ⟨g,5,none⟩=some v5:=by rw [cell_of_row W g 5 _ _ (0,0) h];rfl
theorem B18.c6 (h:B18 W g v0 v1 v2 v3 v4 v5 v6 v7 v8 v9 v10 v11 v12 v13 v14 v15 v16 v17):W.cell? ⟨g,6,none⟩=some v6:=by rw [cell_of_row W g 6 _ _ (0,0) h];rfl
theorem B18.c7 (h:B18 W g v0 v1 v2 v3 v4 v5 v6 v7 v8 v9 v10 v11 v12 v13 v14 v15 v16 v17):W.cell? ⟨g,7,none⟩=some v7:=by rw [cell_of_row W g 7 _ _ (0,0) h];rfl
theorem B18.c8 (h:B18 W g v0 v1 v2 v3 v4 v5 v6 v7 v8 v9 v10 v11 v12 v13 v14 v15 v16 v17):W.cell? ⟨g,8,none⟩=some v8:=by rw [cell_of_row W g 8 _ _ (0,0) h];rfl
theorem B18.c9 (h:B18 W g v0 v1 v2 v3 v4 v5 v6 v7 v8 v9 v10 v11 v12 v13 v14 v15 v16 v17):W.cell? ⟨g,9,none⟩=some v9:=by rw [cell_of_row W g 9 _ _ (0,0) h];rfl
theorem B18.c10 (h:B18 W g v0 v1 v2 v3 v4 v5 v6 v7 v8 v9 v10 v11 v12 v13 v14 v15 v16 v17):W.cell? ⟨g,10,none⟩=some v10:=by rw [cell_of_row W g 10 _ _ (0,0) h];rfl
theorem B18.c15 (h:B18 W g v0 v1 v2 v3 v4 v5 v6 v7 v8 v9 v10 v11 v12 v13 v14 v15 v16 v17):W.cell? ⟨g,15,none⟩=some v15:=by rw [cell_of_row W g 15 _ _ (0,0) h];rfl
theorem B18.f0 (h:B18 W g v0 v1 v2 v3 v4 v5 v6 v7 v8 v9 v10 v11 v12 v13 v14 v15 v16 v17):W.frozen? ⟨g,0,none⟩=false:=frozen_of_row W g 0 _ _ h
theorem B18.f1 (h:B18 W g v0 v1 v2 v3 v4 v5 v6 v7 v8 v9 v10 v11 v12 v13 v14 v15 v16 v17):W.frozen? ⟨g,1,none⟩=false:=frozen_of_row W g 1 _ _ h
theorem B18.f2 (h:B18 W g v0 v1 v2 v3 v4 v5 v6 v7 v8 v9 v10 v11 v12 v13 v14 v15 v16 v17):W.frozen? ⟨g,2,none⟩=false:=frozen_of_row W g 2 _ _ h
theorem B18.f3 (h:B18 W g v0 v1 v2 v3 v4 v5 v6 v7 v8 v9 v10 v11 v12 v13 v14 v15 v16 v17):W.frozen? ⟨g,3,none⟩=false:=frozen_of_row W g 3 _ _ h
theorem B18.f4 (h:B18 W g v0 v1 v2 v3 v4 v5 v6 v7 v8 v9 v10 v11 v12 v13 v14 v15 v16 v17):W.frozen? ⟨g,4,none⟩=false:=frozen_of_row W g 4 _ _ h
theorem B18.f5 (h:B18 W g v0 v1 v2 v3 v4 v5 v6 v7 v8 v9 v10 v11 v12 v13 v14 v15 v16 v17):W.frozen? ⟨g,5,none⟩=false:=frozen_of_row W g 5 _ _ h
theorem B18.f6 (h:B18 W g v0 v1 v2 v3 v4 v5 v6 v7 v8 v9 v10 v11 v12 v13 v14 v15 v16 v17):W.frozen? ⟨g,6,none⟩=false:=frozen_of_row W g 6 _ _ h
theorem B18.f7 (h:B18 W g v0 v1 v2 v3 v4 v5 v6 v7 v8 v9 v10 v11 v12 v13 v14 v15 v16 v17):W.frozen? ⟨g,7,none⟩=false:=frozen_of_row W g 7 _ _ h
theorem B18.f8 (h:B18 W g v0 v1 v2 v3 v4 v5 v6 v7 v8 v9 v10 v11 v12 v13 v14 v15 v16 v17):W.frozen? ⟨g,8,none⟩=false:=frozen_of_row W g 8 _ _ h
theorem B18.f9 (h:B18 W g v0 v1 v2 v3 v4 v5 v6 v7 v8 v9 v10 v11 v12 v13 v14 v15 v16 v17):W.frozen? ⟨g,9,none⟩=false:=frozen_of_row W g 9 _ _ h
theorem B18.f10 (h:B18 W g v0 v1 v2 v3 v4 v5 v6 v7 v8 v9 v10 v11 v12 v13 v14 v15 v16 v17):W.frozen? ⟨g,10,none⟩=false:=frozen_of_row W g 10 _ _ h
theorem B18.f11 (h:B18 W g v0 v1 v2 v3 v4 v5 v6 v7 v8 v9 v10 v11 v12 v13 v14 v15 v16 v17):W.frozen? ⟨g,11,none⟩=false:=frozen_of_row W g 11 _ _ h
theorem B18.f12 (h:B18 W g v0 v1 v2 v3 v4 v5 v6 v7 v8 v9 v10 v11 v12 v13 v14 v15 v16 v17):W.frozen? ⟨g,12,none⟩=false:=frozen_of_row W g 12 _ _ h
theorem B18.f13 (h:B18 W g v0 v1 v2 v3 v4 v5 v6 v7 v8 v9 v10 v11 v12 v13 v14 v15 v16 v17):W.frozen? ⟨g,13,none⟩=false:=frozen_of_row W g 13 _ _ h
theorem B18.f14 (h:B18 W g v0 v1 v2 v3 v4 v5 v6 v7 v8 v9 v10 v11 v12 v13 v14 v15 v16 v17):W.frozen? ⟨g,14,none⟩=false:=frozen_of_row W g 14 _ _ h
theorem B18.f15 (h:B18 W g v0 v1 v2 v3 v4 v5 v6 v7 v8 v9 v10 v11 v12 v13 v14 v15 v16 v17):W.frozen? ⟨g,15,none⟩=false:=frozen_of_row W g 15 _ _ h
theorem B18.lt (h:B18 W g v0 v1 v2 v3 v4 v5 v6 v7 v8 v9 v10 v11 v12 v13 v14 v15 v16 v17):g < W.heap.size:=World.block_lt_of_cell? W _ h.c0
theorem B18.below (h:B18 W g v0 v1 v2 v3 v4 v5 v6 v7 v8 v9 v10 v11 v12 v13 v14 v15 v16 v17) (hb:Below W.heap.size W W'):B18 W' g v0 v1 v2 v3 v4 v5 v6 v7 v8 v9 v10 v11 v12 v13 v14 v15 v16 v17:=(hb.block g h.lt).trans h
theorem B18.alloc (h:B18 W g v0 v1 v2 v3 v4 v5 v6 v7 v8 v9 v10 v11 v12 v13 v14 v15 v16 v17) (o:Obj):B18 (W.alloc o) g v0 v1 v2 v3 v4 v5 v6 v7 v8 v9 v10 v11 v12 v13 v14 v15 v16 v17:=(Below.heap_alloc W o g h.lt).trans h
theorem B18.new' (W:World) (v0 v1 v2 v3 v4 v5 v6 v7 v8 v9 v10 v11 v12 v13 v14 v15 v16 v17:Value) (g:Nat) (hg:g=W.heap.size):B18 (W.alloc (.cells #[v0,v1,v2,v3,v4,v5,v6,v7,v8,v9,v10,v11,v12,v13,v14,v15,v16,v17] 33)) g v0 v1 v2 v3 v4 v5 v6 v7 v8 v9 v10 v11 v12 v13 v14 v15 v16 v17:=by subst hg;exact heap_alloc_new W _
theorem B18.restm {k:Nat} (h:B18 W g v0 v1 v2 v3 v4 v5 v6 v7 v8 v9 v10 v11 v12 v13 v14 v15 v16 v17) (hne:g ≠ k) (ho:Only k W W'):B18 W' g v0 v1 v2 v3 v4 v5 v6 v7 v8 v9 v10 v11 v12 v13 v14 v15 v16 v17:=(ho.block g h.lt hne).trans h
def LVM (a:Addr):Sem Value:=loadVar 33 a
theorem open_LVM (a:Addr):loadVar 33 a=LVM a:=rfl
def STM (a:Addr) (v:Value):Sem Unit:=storeVar 33 a v
theorem open_STM (a:Addr) (v:Value):storeVar 33 a v=STM a v:=rfl
theorem B18.ld (h:B18 W g v0 v1 v2 v3 v4 v5 v6 v7 v8 v9 v10 v11 v12 v13 v14 v15 v16 v17):(LVM ⟨g,0,none⟩).run Tryz.prog W=.ok (.agg #[v0,v1,v2,v3,v4,v5,v6,v7,v8,v9,v10,v11,v12,v13,v14,v15,v16,v17]) W :=
 run_loadVar_row W g _ _ _ (0,0) _ h Tryz.underlying33 rfl (by kernel_rfl)
theorem B18.st (h:B18 W g v0 v1 v2 v3 v4 v5 v6 v7 v8 v9 v10 v11 v12 v13 v14 v15 v16 v17) (a0 a1 a2 a3 a4 a5 a6 a7 a8 a9 a10 a11 a12 a13 a14 a15 a16 a17:Value) (h1:∀ v ∈ [a0,a1,a2,a3,a4,a5,a6,a7,a8,a9,a10,a11,a12,a13,a14,a15,a16,a17],v.oneCell'=true):(STM ⟨g,0,none⟩ (.agg #[a0,a1,a2,a3,a4,a5,a6,a7,a8,a9,a10,a11,a12,a13,a14,a15,a16,a17])).run Tryz.prog W=.ok () ((((((((((((((((((W.setCell ⟨g,0,none⟩ a0).setCell ⟨g,1,none⟩ a1).setCell ⟨g,2,none⟩ a2).setCell ⟨g,3,none⟩ a3).setCell ⟨g,4,none⟩ a4).setCell ⟨g,5,none⟩ a5).setCell ⟨g,6,none⟩ a6).setCell ⟨g,7,none⟩ a7).setCell ⟨g,8,none⟩ a8).setCell ⟨g,9,none⟩ a9).setCell ⟨g,10,none⟩ a10).setCell ⟨g,11,none⟩ a11).setCell ⟨g,12,none⟩ a12).setCell ⟨g,13,none⟩ a13).setCell ⟨g,14,none⟩ a14).setCell ⟨g,15,none⟩ a15).setCell ⟨g,16,none⟩ a16).setCell ⟨g,17,none⟩ a17):=by
 have hc:(storeCells ⟨g,0,none⟩ [a0,a1,a2,a3,a4,a5,a6,a7,a8,a9,a10,a11,a12,a13,a14,a15,a16,a17] 0).run Tryz.prog W=.ok () ((((((((((((((((((W.setCell ⟨g,0,none⟩ a0).setCell ⟨g,1,none⟩ a1).setCell ⟨g,2,none⟩ a2).setCell ⟨g,3,none⟩ a3).setCell ⟨g,4,none⟩ a4).setCell ⟨g,5,none⟩ a5).setCell ⟨g,6,none⟩ a6).setCell ⟨g,7,none⟩ a7).setCell ⟨g,8,none⟩ a8).setCell ⟨g,9,none⟩ a9).setCell ⟨g,10,none⟩ a10).setCell ⟨g,11,none⟩ a11).setCell ⟨g,12,none⟩ a12).setCell ⟨g,13,none⟩ a13).setCell ⟨g,14,none⟩ a14).setCell ⟨g,15,none⟩ a15).setCell ⟨g,16,none⟩ a16).setCell ⟨g,17,none⟩ a17) :=
  run_storeCells_cells g 0 [a0,a1,a2,a3,a4,a5,a6,a7,a8,a9,a10,a11,a12,a13,a14,a15,a16,a17] 0 W (fun j hj=>by rw [cell_of_row W g _ _ _ (0,0) h];simp only [List.length_cons,List.length_nil] at hj;simp;omega) (fun j _=>frozen_of_row W g _ _ _ h) h1
 have hz:(sizeOf 33).run Tryz.prog W=.ok 18 W:=by
  have hi:(Tryz.prog.info? 33).map (·.size)=some 18:=by kernel_rfl
  cases hq:Tryz.prog.info? 33 with
  | none=>simp [hq] at hi
  | some i=>simp [hq] at hi;simp [sizeOf,typeInfo,hq,hi]
 unfold STM storeVar
 simp only [Sem.run_bind,hz,Result.andThen_ok]
 exact hc
end
def B18R (W:World) (g:Nat) (v0 v1 v2 v3 v4 v5 v6 v7 v8 v9 v10 v11 v12 v13 v14 v15 v16 v17:Value):Prop:=W.heap[g]?=some (.cells #[v0,v1,v2,v3,v4,v5,v6,v7,v8,v9,v10,v11,v12,v13,v14,v15,v16,v17] 54 (0,0))
section
variable {W W':World} {g:Nat} {v0 v1 v2 v3 v4 v5 v6 v7 v8 v9 v10 v11 v12 v13 v14 v15 v16 v17:Value}
theorem B18R.c0 (h:B18R W g v0 v1 v2 v3 v4 v5 v6 v7 v8 v9 v10 v11 v12 v13 v14 v15 v16 v17):W.cell? ⟨g,0,none⟩=some v0:=by rw [cell_of_row W g 0 _ _ (0,0) h];rfl
theorem B18R.c1 (h:B18R W g v0 v1 v2 v3 v4 v5 v6 v7 v8 v9 v10 v11 v12 v13 v14 v15 v16 v17):W.cell? ⟨g,1,none⟩=some v1:=by rw [cell_of_row W g 1 _ _ (0,0) h];rfl
theorem B18R.c2 (h:B18R W g v0 v1 v2 v3 v4 v5 v6 v7 v8 v9 v10 v11 v12 v13 v14 v15 v16 v17):W.cell? ⟨g,2,none⟩=some v2:=by rw [cell_of_row W g 2 _ _ (0,0) h];rfl
theorem B18R.c3 (h:B18R W g v0 v1 v2 v3 v4 v5 v6 v7 v8 v9 v10 v11 v12 v13 v14 v15 v16 v17):W.cell? ⟨g,3,none⟩=some v3:=by rw [cell_of_row W g 3 _ _ (0,0) h];rfl
theorem B18R.c4 (h:B18R W g v0 v1 v2 v3 v4 v5 v6 v7 v8 v9 v10 v11 v12 v13 v14 v15 v16 v17):W.cell? ⟨g,4,none⟩=some v4:=by rw [cell_of_row W g 4 _ _ (0,0) h];rfl
theorem B18R.c5 (h:B18R W g v0 v1 v2 v3 v4 v5 v6 v7 v8 v9 v10 v11 v12 v13 v14 v15 v16 v17):W.cell? ⟨g,5,none⟩=some v5:=by rw [cell_of_row W g 5 _ _ (0,0) h];rfl
theorem B18R.c6 (h:B18R W g v0 v1 v2 v3 v4 v5 v6 v7 v8 v9 v10 v11 v12 v13 v14 v15 v16 v17):W.cell? ⟨g,6,none⟩=some v6:=by rw [cell_of_row W g 6 _ _ (0,0) h];rfl
theorem B18R.c7 (h:B18R W g v0 v1 v2 v3 v4 v5 v6 v7 v8 v9 v10 v11 v12 v13 v14 v15 v16 v17):W.cell? ⟨g,7,none⟩=some v7:=by rw [cell_of_row W g 7 _ _ (0,0) h];rfl
theorem B18R.c8 (h:B18R W g v0 v1 v2 v3 v4 v5 v6 v7 v8 v9 v10 v11 v12 v13 v14 v15 v16 v17):W.cell? ⟨g,8,none⟩=some v8:=by rw [cell_of_row W g 8 _ _ (0,0) h];rfl
theorem B18R.c9 (h:B18R W g v0 v1 v2 v3 v4 v5 v6 v7 v8 v9 v10 v11 v12 v13 v14 v15 v16 v17):W.cell? ⟨g,9,none⟩=some v9:=by rw [cell_of_row W g 9 _ _ (0,0) h];rfl
theorem B18R.c10 (h:B18R W g v0 v1 v2 v3 v4 v5 v6 v7 v8 v9 v10 v11 v12 v13 v14 v15 v16 v17):W.cell? ⟨g,10,none⟩=some v10:=by rw [cell_of_row W g 10 _ _ (0,0) h];rfl
theorem B18R.c15 (h:B18R W g v0 v1 v2 v3 v4 v5 v6 v7 v8 v9 v10 v11 v12 v13 v14 v15 v16 v17):W.cell? ⟨g,15,none⟩=some v15:=by rw [cell_of_row W g 15 _ _ (0,0) h];rfl
theorem B18R.f0 (h:B18R W g v0 v1 v2 v3 v4 v5 v6 v7 v8 v9 v10 v11 v12 v13 v14 v15 v16 v17):W.frozen? ⟨g,0,none⟩=false:=frozen_of_row W g 0 _ _ h
theorem B18R.f1 (h:B18R W g v0 v1 v2 v3 v4 v5 v6 v7 v8 v9 v10 v11 v12 v13 v14 v15 v16 v17):W.frozen? ⟨g,1,none⟩=false:=frozen_of_row W g 1 _ _ h
theorem B18R.f2 (h:B18R W g v0 v1 v2 v3 v4 v5 v6 v7 v8 v9 v10 v11 v12 v13 v14 v15 v16 v17):W.frozen? ⟨g,2,none⟩=false:=frozen_of_row W g 2 _ _ h
theorem B18R.f3 (h:B18R W g v0 v1 v2 v3 v4 v5 v6 v7 v8 v9 v10 v11 v12 v13 v14 v15 v16 v17):W.frozen? ⟨g,3,none⟩=false:=frozen_of_row W g 3 _ _ h
theorem B18R.f4 (h:B18R W g v0 v1 v2 v3 v4 v5 v6 v7 v8 v9 v10 v11 v12 v13 v14 v15 v16 v17):W.frozen? ⟨g,4,none⟩=false:=frozen_of_row W g 4 _ _ h
theorem B18R.f5 (h:B18R W g v0 v1 v2 v3 v4 v5 v6 v7 v8 v9 v10 v11 v12 v13 v14 v15 v16 v17):W.frozen? ⟨g,5,none⟩=false:=frozen_of_row W g 5 _ _ h
theorem B18R.f6 (h:B18R W g v0 v1 v2 v3 v4 v5 v6 v7 v8 v9 v10 v11 v12 v13 v14 v15 v16 v17):W.frozen? ⟨g,6,none⟩=false:=frozen_of_row W g 6 _ _ h
theorem B18R.f7 (h:B18R W g v0 v1 v2 v3 v4 v5 v6 v7 v8 v9 v10 v11 v12 v13 v14 v15 v16 v17):W.frozen? ⟨g,7,none⟩=false:=frozen_of_row W g 7 _ _ h
theorem B18R.f8 (h:B18R W g v0 v1 v2 v3 v4 v5 v6 v7 v8 v9 v10 v11 v12 v13 v14 v15 v16 v17):W.frozen? ⟨g,8,none⟩=false:=frozen_of_row W g 8 _ _ h
theorem B18R.f9 (h:B18R W g v0 v1 v2 v3 v4 v5 v6 v7 v8 v9 v10 v11 v12 v13 v14 v15 v16 v17):W.frozen? ⟨g,9,none⟩=false:=frozen_of_row W g 9 _ _ h
theorem B18R.f10 (h:B18R W g v0 v1 v2 v3 v4 v5 v6 v7 v8 v9 v10 v11 v12 v13 v14 v15 v16 v17):W.frozen? ⟨g,10,none⟩=false:=frozen_of_row W g 10 _ _ h
theorem B18R.f11 (h:B18R W g v0 v1 v2 v3 v4 v5 v6 v7 v8 v9 v10 v11 v12 v13 v14 v15 v16 v17):W.frozen? ⟨g,11,none⟩=false:=frozen_of_row W g 11 _ _ h
theorem B18R.f12 (h:B18R W g v0 v1 v2 v3 v4 v5 v6 v7 v8 v9 v10 v11 v12 v13 v14 v15 v16 v17):W.frozen? ⟨g,12,none⟩=false:=frozen_of_row W g 12 _ _ h
theorem B18R.f13 (h:B18R W g v0 v1 v2 v3 v4 v5 v6 v7 v8 v9 v10 v11 v12 v13 v14 v15 v16 v17):W.frozen? ⟨g,13,none⟩=false:=frozen_of_row W g 13 _ _ h
theorem B18R.f14 (h:B18R W g v0 v1 v2 v3 v4 v5 v6 v7 v8 v9 v10 v11 v12 v13 v14 v15 v16 v17):W.frozen? ⟨g,14,none⟩=false:=frozen_of_row W g 14 _ _ h
theorem B18R.f15 (h:B18R W g v0 v1 v2 v3 v4 v5 v6 v7 v8 v9 v10 v11 v12 v13 v14 v15 v16 v17):W.frozen? ⟨g,15,none⟩=false:=frozen_of_row W g 15 _ _ h
theorem B18R.lt (h:B18R W g v0 v1 v2 v3 v4 v5 v6 v7 v8 v9 v10 v11 v12 v13 v14 v15 v16 v17):g < W.heap.size:=World.block_lt_of_cell? W _ h.c0
theorem B18R.below (h:B18R W g v0 v1 v2 v3 v4 v5 v6 v7 v8 v9 v10 v11 v12 v13 v14 v15 v16 v17) (hb:Below W.heap.size W W'):B18R W' g v0 v1 v2 v3 v4 v5 v6 v7 v8 v9 v10 v11 v12 v13 v14 v15 v16 v17:=(hb.block g h.lt).trans h
theorem B18R.alloc (h:B18R W g v0 v1 v2 v3 v4 v5 v6 v7 v8 v9 v10 v11 v12 v13 v14 v15 v16 v17) (o:Obj):B18R (W.alloc o) g v0 v1 v2 v3 v4 v5 v6 v7 v8 v9 v10 v11 v12 v13 v14 v15 v16 v17:=(Below.heap_alloc W o g h.lt).trans h
theorem B18R.new' (W:World) (v0 v1 v2 v3 v4 v5 v6 v7 v8 v9 v10 v11 v12 v13 v14 v15 v16 v17:Value) (g:Nat) (hg:g=W.heap.size):B18R (W.alloc (.cells #[v0,v1,v2,v3,v4,v5,v6,v7,v8,v9,v10,v11,v12,v13,v14,v15,v16,v17] 54)) g v0 v1 v2 v3 v4 v5 v6 v7 v8 v9 v10 v11 v12 v13 v14 v15 v16 v17:=by subst hg;exact heap_alloc_new W _
theorem B18R.restm {k:Nat} (h:B18R W g v0 v1 v2 v3 v4 v5 v6 v7 v8 v9 v10 v11 v12 v13 v14 v15 v16 v17) (hne:g ≠ k) (ho:Only k W W'):B18R W' g v0 v1 v2 v3 v4 v5 v6 v7 v8 v9 v10 v11 v12 v13 v14 v15 v16 v17:=(ho.block g h.lt hne).trans h
def LVN (a:Addr):Sem Value:=loadVar 54 a
theorem open_LVN (a:Addr):loadVar 54 a=LVN a:=rfl
def STN (a:Addr) (v:Value):Sem Unit:=storeVar 54 a v
theorem open_STN (a:Addr) (v:Value):storeVar 54 a v=STN a v:=rfl
theorem B18R.ld (h:B18R W g v0 v1 v2 v3 v4 v5 v6 v7 v8 v9 v10 v11 v12 v13 v14 v15 v16 v17):(LVN ⟨g,0,none⟩).run Tryz.prog W=.ok (.agg #[v0,v1,v2,v3,v4,v5,v6,v7,v8,v9,v10,v11,v12,v13,v14,v15,v16,v17]) W :=
 run_loadVar_row W g _ _ _ (0,0) _ h Tryz.underlying54 rfl (by kernel_rfl)
theorem B18R.st (h:B18R W g v0 v1 v2 v3 v4 v5 v6 v7 v8 v9 v10 v11 v12 v13 v14 v15 v16 v17) (a0 a1 a2 a3 a4 a5 a6 a7 a8 a9 a10 a11 a12 a13 a14 a15 a16 a17:Value) (h1:∀ v ∈ [a0,a1,a2,a3,a4,a5,a6,a7,a8,a9,a10,a11,a12,a13,a14,a15,a16,a17],v.oneCell'=true):(STN ⟨g,0,none⟩ (.agg #[a0,a1,a2,a3,a4,a5,a6,a7,a8,a9,a10,a11,a12,a13,a14,a15,a16,a17])).run Tryz.prog W=.ok () ((((((((((((((((((W.setCell ⟨g,0,none⟩ a0).setCell ⟨g,1,none⟩ a1).setCell ⟨g,2,none⟩ a2).setCell ⟨g,3,none⟩ a3).setCell ⟨g,4,none⟩ a4).setCell ⟨g,5,none⟩ a5).setCell ⟨g,6,none⟩ a6).setCell ⟨g,7,none⟩ a7).setCell ⟨g,8,none⟩ a8).setCell ⟨g,9,none⟩ a9).setCell ⟨g,10,none⟩ a10).setCell ⟨g,11,none⟩ a11).setCell ⟨g,12,none⟩ a12).setCell ⟨g,13,none⟩ a13).setCell ⟨g,14,none⟩ a14).setCell ⟨g,15,none⟩ a15).setCell ⟨g,16,none⟩ a16).setCell ⟨g,17,none⟩ a17):=by
 have hc:(storeCells ⟨g,0,none⟩ [a0,a1,a2,a3,a4,a5,a6,a7,a8,a9,a10,a11,a12,a13,a14,a15,a16,a17] 0).run Tryz.prog W=.ok () ((((((((((((((((((W.setCell ⟨g,0,none⟩ a0).setCell ⟨g,1,none⟩ a1).setCell ⟨g,2,none⟩ a2).setCell ⟨g,3,none⟩ a3).setCell ⟨g,4,none⟩ a4).setCell ⟨g,5,none⟩ a5).setCell ⟨g,6,none⟩ a6).setCell ⟨g,7,none⟩ a7).setCell ⟨g,8,none⟩ a8).setCell ⟨g,9,none⟩ a9).setCell ⟨g,10,none⟩ a10).setCell ⟨g,11,none⟩ a11).setCell ⟨g,12,none⟩ a12).setCell ⟨g,13,none⟩ a13).setCell ⟨g,14,none⟩ a14).setCell ⟨g,15,none⟩ a15).setCell ⟨g,16,none⟩ a16).setCell ⟨g,17,none⟩ a17) :=
  run_storeCells_cells g 0 [a0,a1,a2,a3,a4,a5,a6,a7,a8,a9,a10,a11,a12,a13,a14,a15,a16,a17] 0 W (fun j hj=>by rw [cell_of_row W g _ _ _ (0,0) h];simp only [List.length_cons,List.length_nil] at hj;simp;omega) (fun j _=>frozen_of_row W g _ _ _ h) h1
 have hz:(sizeOf 54).run Tryz.prog W=.ok 18 W:=by
  have hi:(Tryz.prog.info? 54).map (·.size)=some 18:=by kernel_rfl
  cases hq:Tryz.prog.info? 54 with
  | none=>simp [hq] at hi
  | some i=>simp [hq] at hi;simp [sizeOf,typeInfo,hq,hi]
 unfold STN storeVar
 simp only [Sem.run_bind,hz,Result.andThen_ok]
 exact hc
end
def MR (w:World) (m:MV) (v:AM) (k l:Nat):Prop:=PR w m.a.s m.a.A m.a.n m.a.c m.a.B m.a.m m.a.d m.b.s m.b.A m.b.n m.b.c m.b.B m.b.m m.b.d v.a v.b k∧PR w m.c.s m.c.A m.c.n m.c.c m.c.B m.c.m m.c.d m.d.s m.d.A m.d.n m.d.c m.d.B m.d.m m.d.d v.c v.d k∧PR w m.e.s m.e.A m.e.n m.e.c m.e.B m.e.m m.e.d m.f.s m.f.A m.f.n m.f.c m.f.B m.f.m m.f.d v.e v.f l
def MG (w:World) (m:MV) (v:AM) (k l:Nat):Prop:=PG w m.a.s m.a.A m.a.n m.a.c m.a.B m.a.m m.a.d m.b.s m.b.A m.b.n m.b.c m.b.B m.b.m m.b.d v.a v.b k∧PG w m.c.s m.c.A m.c.n m.c.c m.c.B m.c.m m.c.d m.d.s m.d.A m.d.n m.d.c m.d.B m.d.m m.d.d v.c v.d k∧PG w m.e.s m.e.A m.e.n m.e.c m.e.B m.e.m m.e.d m.f.s m.f.A m.f.n m.f.c m.f.B m.f.m m.f.d v.e v.f l
def RM (w:World) (m:MV) (v:AM) (k l:Nat):Prop:=RP w m.a.s m.a.A m.a.n m.a.c m.a.B m.a.m m.a.d m.b.s m.b.A m.b.n m.b.c m.b.B m.b.m m.b.d v.a v.b k∧RP w m.c.s m.c.A m.c.n m.c.c m.c.B m.c.m m.c.d m.d.s m.d.A m.d.n m.d.c m.d.B m.d.m m.d.d v.c v.d k∧RP w m.e.s m.e.A m.e.n m.e.c m.e.B m.e.m m.e.d m.f.s m.f.A m.f.n m.f.c m.f.B m.f.m m.f.d v.e v.f l
section
variable {w w':World} {m:MV} {v:AM} {k l k1 l1:Nat}
theorem MR.below (h:MR w m v k l) (hb:Below w.heap.size w w'):MR w' m v k l:=⟨h.1.below hb,h.2.1.below hb,h.2.2.below hb⟩
theorem MG.below (h:MG w m v k l) (hb:Below w.heap.size w w'):MG w' m v k l:=⟨h.1.below hb,h.2.1.below hb,h.2.2.below hb⟩
theorem RM.below (h:RM w m v k l) (hb:Below w.heap.size w w'):RM w' m v k l:=⟨h.1.below hb,h.2.1.below hb,h.2.2.below hb⟩
theorem MG.more (h:MG w m v k l) (hk:k≤k1) (hl:l≤l1):MG w m v k1 l1:=⟨h.1.more hk,h.2.1.more hk,h.2.2.more hl⟩
theorem MR.more (h:MR w m v k l) (hk:k≤k1) (hl:l≤l1):MR w m v k1 l1:=⟨h.1.more hk,h.2.1.more hk,h.2.2.more hl⟩
end
attribute [local go_sem ↓] open_LVM open_STM open_LVN open_STN
theorem MG.box {T:TypeId} {w w':World} {g:Nat} {cs:Array Value} {u:MV} {v:AM} {k l:Nat} (h:MG w u v k l) (Z:BoxAt T w g cs) (ho:Only g w w'):MG w' u v k l:=⟨⟨h.1.1.box Z ho,h.1.2.box Z ho⟩,⟨h.2.1.1.box Z ho,h.2.1.2.box Z ho⟩,⟨h.2.2.1.box Z ho,h.2.2.2.box Z ho⟩⟩
theorem RM.box {T:TypeId} {w w':World} {g:Nat} {cs:Array Value} {u:MV} {v:AM} {k l:Nat} (h:RM w u v k l) (Z:BoxAt T w g cs) (ho:Only g w w'):RM w' u v k l:=⟨⟨h.1.1.box Z ho,h.1.2.box Z ho⟩,⟨h.2.1.1.box Z ho,h.2.1.2.box Z ho⟩,⟨h.2.2.1.box Z ho,h.2.2.2.box Z ho⟩⟩
def QV.zero:QV:=⟨false,none,0,0,none,0,0⟩
def MU (w:World) (m:MV) (v:AM) (k _l:Nat):Prop:=PG w m.a.s m.a.A m.a.n m.a.c m.a.B m.a.m m.a.d m.b.s m.b.A m.b.n m.b.c m.b.B m.b.m m.b.d v.a v.b k∧PG w m.c.s m.c.A m.c.n m.c.c m.c.B m.c.m m.c.d m.d.s m.d.A m.d.n m.d.c m.d.B m.d.m m.d.d v.c v.d k∧m.e=QV.zero∧m.f=QV.zero∧v.e=0∧v.f=0
section
variable {w w':World} {m:MV} {v:AM} {k l:Nat}
theorem MU.below (h:MU w m v k l) (hb:Below w.heap.size w w'):MU w' m v k l:=⟨h.1.below hb,h.2.1.below hb,h.2.2⟩
theorem MU.box {T:TypeId} {g:Nat} {cs:Array Value} (h:MU w m v k l) (Z:BoxAt T w g cs) (ho:Only g w w'):MU w' m v k l:=⟨⟨h.1.1.box Z ho,h.1.2.box Z ho⟩,⟨h.2.1.1.box Z ho,h.2.1.2.box Z ho⟩,h.2.2⟩
end
theorem B6.restm {W W':World} {g k:Nat} {x y z u v t:Value} (h:B6 W g x y z u v t) (hne:g ≠ k) (ho:Only k W W'):B6 W' g x y z u v t:=(ho.block g h.lt hne).trans h
theorem B6R.restm {W W':World} {g k:Nat} {x y z u v t:Value} (h:B6R W g x y z u v t) (hne:g ≠ k) (ho:Only k W W'):B6R W' g x y z u v t:=(ho.block g h.lt hne).trans h
theorem B3.restm {W W':World} {g k:Nat} {x y z:Value} (h:B3 W g x y z) (hne:g ≠ k) (ho:Only k W W'):B3 W' g x y z:=(ho.block g h.lt hne).trans h
theorem B3R.restm {W W':World} {g k:Nat} {x y z:Value} (h:B3R W g x y z) (hne:g ≠ k) (ho:Only k W W'):B3R W' g x y z:=(ho.block g h.lt hne).trans h
end
section
theorem castN (a:Nat):((a:Int):Rat)=(a:Rat):=rfl
theorem natCast_mul' (a b:Nat):((a*b:Nat):Rat)=(a:Rat)*(b:Rat):=by
 rw [← castN,← castN,← castN,Int.natCast_mul,Rat.intCast_mul]
def upQ (v:Rat) (k:Nat):Rat:=v*((4 ^ k:Nat):Rat)
def inQ (R k:Nat):Rat:=Rat.divInt (R:Int) ((2 ^ k:Nat):Int)
theorem two_pos (k:Nat):(0:Rat) < ((2 ^ k:Nat):Rat):=by
 have h:(0:Int) < ((2 ^ k:Nat):Int):=by have:=Nat.two_pow_pos k;omega
 rw [← castN];exact Rat.intCast_lt_intCast.2 h
theorem two_ne (k:Nat):((2 ^ k:Nat):Rat) ≠ 0:=fun h=>by
 have:=two_pos k;rw [h] at this;exact Rat.lt_irrefl this
theorem inQ_eq (R k:Nat):inQ R k*((2 ^ k:Nat):Rat)=(R:Rat):=by
 unfold inQ
 have h:=two_ne k
 rw [← castN (2 ^ k),← castN R,← int1,← int1,Rat.divInt_mul_divInt,Int.mul_one,Rat.divInt_eq_divInt_iff (by have:=Nat.two_pow_pos k;omega) (by decide)]
 simp
theorem four_two (k:Nat):((4 ^ k:Nat):Rat)=((2 ^ k:Nat):Rat)*((2 ^ k:Nat):Rat):=by
 rw [← natCast_mul',← Nat.mul_pow]
theorem four_pos (k:Nat):(0:Rat) < ((4 ^ k:Nat):Rat):=by rw [four_two];exact Rat.mul_pos (two_pos k) (two_pos k)
theorem inQ_sq (R k:Nat):upQ (inQ R k*inQ R k) k=((R*R:Nat):Rat):=by
 unfold upQ
 rw [four_two,natCast_mul',← inQ_eq R k]
 grind
theorem upQ_le {a b:Rat} (k:Nat):upQ a k≤upQ b k ↔ a≤b:=by
 unfold upQ
 constructor
 · exact fun h=>Rat.le_of_mul_le_mul_right h (four_pos k)
 · exact fun h=>Rat.mul_le_mul_of_nonneg_right h (Rat.le_of_lt (four_pos k))
theorem upQ_nonneg {v:Rat} (hv:0≤v) (k:Nat):0≤upQ v k:=Rat.mul_nonneg hv (Rat.le_of_lt (four_pos k))
theorem floor_nn {v:Rat} (hv:0≤v):0≤v.floor:=Rat.le_floor_iff.2 (by simpa using hv)
theorem ceil_nn {v:Rat} (hv:0≤v):0≤v.ceil:=by
 have h:=Rat.le_trans hv (@Rat.le_ceil v)
 have:((0:Int):Rat)≤(v.ceil:Rat):=h
 exact Rat.intCast_le_intCast.1 this
def IsLow (v:Rat) (k R:Nat):Prop:=IsRoot (upQ v k).floor.natAbs R
def IsHigh (v:Rat) (k H:Nat):Prop:=∃ R,IsRoot (upQ v k).ceil.natAbs R∧H=if R*R=(upQ v k).ceil.natAbs then R else R+1
theorem IsLow.le {v:Rat} {k R:Nat} (hv:0≤v) (h:IsLow v k R):inQ R k*inQ R k≤v:=by
 rw [← upQ_le k,inQ_sq]
 have h1:((R*R:Nat):Int)≤(upQ v k).floor:=by have:=h.1;have:=floor_nn (upQ_nonneg hv k);omega
 rw [← castN];exact Rat.le_floor_iff.1 h1
theorem IsHigh.ge {v:Rat} {k H:Nat} (hv:0≤v) (h:IsHigh v k H):v≤inQ H k*inQ H k:=by
 rw [← upQ_le k,inQ_sq]
 obtain ⟨R,h1,h2⟩:=h
 have h0:=ceil_nn (upQ_nonneg hv k)
 have h3:(upQ v k).ceil≤((H*H:Nat):Int):=by
  split at h2
  · rename_i e;subst h2;omega
  · subst h2;have:=h1.2;omega
 rw [← castN];exact Rat.le_trans Rat.le_ceil (Rat.intCast_le_intCast.2 h3)
end
section
open Go Go.RowKit
def fromQ (v u:Int):Rat:=if u < 1 then Rat.divInt 0 1 else Rat.divInt v u
end
section
open Go Go.RowKit
attribute [local go_sem ↓] open_LVM open_STM open_LVN open_STN
def BV6 (W:World) (g:Nat) (v0 v1 v2 v3 v4 v5:Value):Prop:=W.heap[g]?=some (.cells #[v0,v1,v2,v3,v4,v5] 29 (0,0))
section
variable {W W':World} {g:Nat} {v0 v1 v2 v3 v4 v5:Value}
theorem BV6.c0 (h:BV6 W g v0 v1 v2 v3 v4 v5):W.cell? ⟨g,0,none⟩=some v0:=by rw [cell_of_row W g 0 _ _ (0,0) h];rfl
theorem BV6.c1 (h:BV6 W g v0 v1 v2 v3 v4 v5):W.cell? ⟨g,1,none⟩=some v1:=by rw [cell_of_row W g 1 _ _ (0,0) h];rfl
theorem BV6.c2 (h:BV6 W g v0 v1 v2 v3 v4 v5):W.cell? ⟨g,2,none⟩=some v2:=by rw [cell_of_row W g 2 _ _ (0,0) h];rfl
theorem BV6.c3 (h:BV6 W g v0 v1 v2 v3 v4 v5):W.cell? ⟨g,3,none⟩=some v3:=by rw [cell_of_row W g 3 _ _ (0,0) h];rfl
theorem BV6.c4 (h:BV6 W g v0 v1 v2 v3 v4 v5):W.cell? ⟨g,4,none⟩=some v4:=by rw [cell_of_row W g 4 _ _ (0,0) h];rfl
theorem BV6.c5 (h:BV6 W g v0 v1 v2 v3 v4 v5):W.cell? ⟨g,5,none⟩=some v5:=by rw [cell_of_row W g 5 _ _ (0,0) h];rfl
theorem BV6.all (h:BV6 W g v0 v1 v2 v3 v4 v5):W.cell? ⟨g,0,none⟩=some v0∧W.cell? ⟨g,1,none⟩=some v1∧W.cell? ⟨g,2,none⟩=some v2∧W.cell? ⟨g,3,none⟩=some v3∧W.cell? ⟨g,4,none⟩=some v4∧W.cell? ⟨g,5,none⟩=some v5:=⟨h.c0,h.c1,h.c2,h.c3,h.c4,h.c5⟩
theorem BV6.lt (h:BV6 W g v0 v1 v2 v3 v4 v5):g < W.heap.size:=World.block_lt_of_cell? W _ h.c0
theorem BV6.below (h:BV6 W g v0 v1 v2 v3 v4 v5) (hb:Below W.heap.size W W'):BV6 W' g v0 v1 v2 v3 v4 v5:=(hb.block g h.lt).trans h
theorem BV6.alloc (h:BV6 W g v0 v1 v2 v3 v4 v5) (o:Obj):BV6 (W.alloc o) g v0 v1 v2 v3 v4 v5:=(Below.heap_alloc W o g h.lt).trans h
theorem BV6.restm {k:Nat} (h:BV6 W g v0 v1 v2 v3 v4 v5) (hne:g ≠ k) (ho:Only k W W'):BV6 W' g v0 v1 v2 v3 v4 v5:=(ho.block g h.lt hne).trans h
theorem BV6.new' (W:World) (v0 v1 v2 v3 v4 v5:Value) (g:Nat) (hg:g=W.heap.size):BV6 (W.alloc (.cells #[v0,v1,v2,v3,v4,v5] 29)) g v0 v1 v2 v3 v4 v5:=by subst hg;exact heap_alloc_new W _
end
def AM.one:AM:=⟨Rat.divInt 1 1,Rat.divInt 0 1,Rat.divInt 0 1,Rat.divInt 1 1,Rat.divInt 0 1,Rat.divInt 0 1⟩
def AM.of (x0 x1 x2 x3 x4 x5:Int):AM:=⟨fromQ x0 65536,fromQ x1 65536,fromQ x2 65536,fromQ x3 65536,fromQ x4 64,fromQ x5 64⟩
def AM.sab (v u:AM):Bool:=decide (v.a=u.a∧v.b=u.b)
def AM.scd (v u:AM):Bool:=decide (v.c=u.c∧v.d=u.d)
def AM.sef (v u:AM):Bool:=decide (v.e=u.e∧v.f=u.f)
def AM.same (v u:AM):Bool:=(v.sab u && v.scd u) && v.sef u
end
section
open Go Go.RowKit
structure PV where
 s:Bool
 A:Option Addr
 n:Nat
 c:Nat
 B:Option Addr
 m:Nat
 d:Nat
 t:Bool
 E:Option Addr
 i:Nat
 e:Nat
 F:Option Addr
 j:Nat
 f:Nat
def PV.cells (p:PV):List Value:=[.bool p.s,.slice p.A p.n p.c,.slice p.B p.m p.d,.bool p.t,.slice p.E p.i p.e,.slice p.F p.j p.f]
def PV.PG (w:World) (p:PV) (u:Rat × Rat) (k:Nat):Prop:=Go.Proofs.YtfpaeophfcoohaaGreat.PG w p.s p.A p.n p.c p.B p.m p.d p.t p.E p.i p.e p.F p.j p.f u.1 u.2 k
def PV.PR (w:World) (p:PV) (u:Rat × Rat) (k:Nat):Prop:=Go.Proofs.YtfpaeophfcoohaaGreat.PR w p.s p.A p.n p.c p.B p.m p.d p.t p.E p.i p.e p.F p.j p.f u.1 u.2 k
def PV.RP (w:World) (p:PV) (u:Rat × Rat) (k:Nat):Prop:=Go.Proofs.YtfpaeophfcoohaaGreat.RP w p.s p.A p.n p.c p.B p.m p.d p.t p.E p.i p.e p.F p.j p.f u.1 u.2 k
def pvs (L:List PV):List Value:=L.flatMap PV.cells
theorem pvs_cons (p:PV) (L:List PV):pvs (p :: L)=p.cells ++ pvs L:=List.flatMap_cons
theorem pvs_length (L:List PV):(pvs L).length=L.length*6:=by
 induction L with
 | nil=>rfl
 | cons p L ih=>rw [pvs_cons,List.length_append,ih,List.length_cons];show 6+_=_;omega
theorem pvs_get {L:List PV} {i:Nat} {p:PV} (h:L[i]?=some p) {j:Nat} (hj:j < 6):(pvs L)[i*6+j]?=p.cells[j]?:=by
 induction L generalizing i with
 | nil=>cases h
 | cons q L ih =>
   rw [pvs_cons]
   match i with
   | 0 =>
     obtain rfl:q=p:=by simpa using h
     rw [List.getElem?_append_left (show 0*6+j < q.cells.length by show _ < 6;omega)]
     congr 1;omega
   | i+1 =>
     rw [List.getElem?_append_right (show q.cells.length≤(i+1)*6+j by show 6≤_;omega)]
     rw [show (i+1)*6+j - q.cells.length=i*6+j by show (i+1)*6+j - 6=_;omega]
     exact ih h
theorem pvs_free (L:List PV):∀ u ∈ pvs L,∀ (k:IntKind) (x:Int),u ≠ .int k x:=by
 intro u hu k x
 obtain ⟨p,_,hp⟩:=List.mem_flatMap.1 hu
 simp only [PV.cells,List.mem_cons,List.not_mem_nil,or_false] at hp
 rcases hp with rfl | rfl | rfl | rfl | rfl | rfl <;> exact fun e=>by cases e
structure Ln (T:TypeId) (base:Nat) (w:World) (v:Value) (L:List PV):Prop where
 own:w.ownsRow base T 6 v L.length (pvs L)
 free:∀ g,v.ownBlock=some g→∃ cs,BoxAt T w g cs
section
variable {T:TypeId} {base:Nat} {w w':World} {v:Value} {L:List PV}
theorem Ln.nil (T:TypeId) (base:Nat) (w:World):Ln T base w (.slice none 0 0) []:=⟨World.ownsRow_nil w base T 6,fun g h=>by cases h⟩
theorem Ln.kept (h:Ln T base w v L) (hb:∀ g,v.ownBlock=some g→w'.heap[g]?=w.heap[g]?):Ln T base w' v L:=by
 refine ⟨⟨h.own.1,?_⟩,fun g hg=>?_⟩
 · rcases h.own.2 with hn | ⟨g,cap,cur,rfl,h1,h2,h3⟩
   · exact .inl hn
   · exact .inr ⟨g,cap,cur,rfl,h1,(hb g rfl).trans h2,h3⟩
 · obtain ⟨cs,hc⟩:=h.free g hg
   exact ⟨cs,(hb g hg).trans hc.at_,hc.free⟩
theorem Ln.below (h:Ln T base w v L) (hb:Below w.heap.size w w'):Ln T base w' v L:=h.kept fun g hg=>by
 obtain ⟨cs,hc⟩:=h.free g hg
 exact hb.block g hc.lt
theorem Ln.base_le {b:Nat} (h:Ln T base w v L) (hb:b≤base):Ln T b w v L:=by
 refine ⟨⟨h.own.1,?_⟩,h.free⟩
 rcases h.own.2 with hn | ⟨g,cap,cur,rfl,h1,h2⟩
 · exact .inl hn
 · exact .inr ⟨g,cap,cur,rfl,Nat.le_trans hb h1,h2⟩
theorem Ln.lit (w:World) (L:List PV) (hb:base≤w.heap.size) (hL:L.length≤1000000):Ln T base (w.alloc (.cells (pvs L).toArray T)) (.slice (some ⟨w.heap.size,0,none⟩) L.length L.length) L:=by
 refine ⟨⟨pvs_length L,.inr ⟨w.heap.size,L.length,_,rfl,hb,heap_alloc_new w _,Nat.le_refl _,by unfold maxLen;omega,?_,?_⟩⟩,fun g hg=>?_⟩
 · simp [pvs_length]
 · simp [← pvs_length]
 · obtain rfl:w.heap.size=g:=by simpa [Value.ownBlock] using hg
   refine ⟨(pvs L).toArray,heap_alloc_new w _,fun i k x e=>?_⟩
   rw [List.getElem?_toArray] at e
   exact pvs_free L _ (List.mem_of_getElem? e) k x rfl
theorem Ln.form (h:Ln T base w v L):∃ A c,v=.slice A L.length c∧L.length≤c∧(A=none→c=0):=by
 rcases h.own.2 with ⟨rfl,hn⟩ | ⟨g,cap,cur,rfl,_,_,h3,_⟩
 · exact ⟨none,0,by rw [hn],by omega,fun _=>rfl⟩
 · exact ⟨_,cap,rfl,h3,fun e=>by cases e⟩
theorem Ln.at_ (h:Ln T base w v L) {i:Nat} {p:PV} (hi:L[i]?=some p):∃ g c,v=.slice (some ⟨g,0,none⟩) L.length c∧i < L.length∧base≤g∧g < w.heap.size ∧
 w.cell? ⟨g,i*6,none⟩=some (.bool p.s)∧w.cell? ⟨g,i*6+1,none⟩=some (.slice p.A p.n p.c)∧w.cell? ⟨g,i*6+2,none⟩=some (.slice p.B p.m p.d) ∧
 w.cell? ⟨g,i*6+3,none⟩=some (.bool p.t)∧w.cell? ⟨g,i*6+4,none⟩=some (.slice p.E p.i p.e)∧w.cell? ⟨g,i*6+5,none⟩=some (.slice p.F p.j p.f):=by
 have hlt:i < L.length:=(List.getElem?_eq_some_iff.1 hi).1
 rcases h.own.2 with ⟨_,hn⟩ | ⟨g,cap,cur,hv,hb,hg,_⟩
 · omega
 · have hc:=h.own.cells (g:=g) (by rw [hv];rfl)
   have ha:∀ j,(⟨g,0,none⟩:Addr).add j=⟨g,j,none⟩:=fun j=>by unfold Addr.add;split <;> simp_all
   have key:∀ j,j < 6→∀ u,p.cells[j]?=some u→w.cell? ⟨g,i*6+j,none⟩=some u:=fun j hj u hu=>by
    have:=hc (i*6+j) u ((pvs_get hi hj).trans hu)
    rwa [ha] at this
   have hlt2:g < w.heap.size:=by
    rcases Nat.lt_or_ge g w.heap.size with q | q
    · exact q
    · rw [Array.getElem?_eq_none q] at hg;cases hg
   exact ⟨g,cap,hv,hlt,hb,hlt2,key 0 (by decide) _ rfl,key 1 (by decide) _ rfl,key 2 (by decide) _ rfl,key 3 (by decide) _ rfl,key 4 (by decide) _ rfl,key 5 (by decide) _ rfl⟩
end
theorem Ln.stays {T:TypeId} {base:Nat} {w w':World} {v:Value} {L:List PV} (h:Ln T base w v L) (hg:w.grownBy w' v.ownBlock):Below w.heap.size w w' ∨ ∃ g cs,BoxAt T w g cs∧base≤g∧Only g w w':=by
 cases hv:v.ownBlock with
 | none =>
   rw [hv] at hg
   exact .inl ((Below.refl _ _).grown hg (Nat.le_refl _) (fun k e=>by cases e))
 | some g =>
   rw [hv] at hg
   obtain ⟨cs,hc⟩:=h.free g hv
   refine .inr ⟨g,cs,hc,(h.own.lt g hv).1,⟨hg.os,hg.tape,hg.output,hg.size,fun k hk hn=>hg.block k hk (fun e=>hn (by injection e))⟩⟩
end
section
open Go Go.RowKit
section
variable {w w':World} {s t:Bool} {A B E F:Option Addr} {n c m d i e j f k:Nat} {x y:Rat}
theorem PR.box {T:TypeId} {g:Nat} {cs:Array Value} (h:PR w s A n c B m d t E i e F j f x y k) (Z:BoxAt T w g cs) (ho:Only g w w'):PR w' s A n c B m d t E i e F j f x y k:=⟨h.1.box Z ho,h.2.box Z ho⟩
theorem B6.rest {g k:Nat} {x y z u v t:Value} (h:B6 w g x y z u v t) (hne:g ≠ k) (ho:Only k w w'):B6 w' g x y z u v t:=(ho.block g h.lt hne).trans h
end
theorem Ln.of {T:TypeId} {base g n c:Nat} {L:List PV} (h:Ln T base w (.slice (some ⟨g,0,none⟩) n c) L) {i:Nat} {p:PV} (hi:L[i]?=some p):i < n∧g < w.heap.size ∧
 w.cell? ⟨g,i*6,none⟩=some (.bool p.s)∧w.cell? ⟨g,i*6+1,none⟩=some (.slice p.A p.n p.c)∧w.cell? ⟨g,i*6+2,none⟩=some (.slice p.B p.m p.d) ∧
 w.cell? ⟨g,i*6+3,none⟩=some (.bool p.t)∧w.cell? ⟨g,i*6+4,none⟩=some (.slice p.E p.i p.e)∧w.cell? ⟨g,i*6+5,none⟩=some (.slice p.F p.j p.f):=by
 obtain ⟨g',c',hv,h1,_,h2,h3⟩:=h.at_ hi
 have e:g'=g∧n=L.length:=by
  simp only [Value.slice.injEq,Option.some.injEq,Addr.mk.injEq] at hv
  exact ⟨hv.1.1.symm,hv.2.1⟩
 obtain ⟨rfl,hn⟩:=e
 exact ⟨hn ▸ h1,h2,h3⟩
theorem wp_append_at {P:Program} {o:Oper} {a:Act} {K:Act→World→Prop} {Q:Exit→Act→World→Prop} {w w':World} {t:TypeId} (s x:Operand) {v u v':Value} (ho:o.op=.call ⟨.builtin .append,#[s,x],#[t,t]⟩) (hs:a.eval s=v) (hx:a.eval x=u)
 (hr:(Builtin.append_ #[t,t] o.type #[v,u]).run P w=.ok v' w') (hK:K (a.put o.dst v') w'):o.wp P a w K Q:=by
 unfold Oper.wp execOp
 simp only [ho,resolve,invoke,builtin,Sem.run_bind,Sem.run_pure,Result.andThen_ok,List.map_toArray,List.map_cons,List.map_nil,hs,hx,hr]
 exact hK
def Each (G:World→PV→Rat × Rat→Nat→Prop) (w:World) (L:List PV) (l:List (Rat × Rat)) (k:Nat):Prop :=
 L.length=l.length∧∀ (i:Nat) (p:PV) (u:Rat × Rat),L[i]?=some p→l[i]?=some u→G w p u k
theorem Each.nil {G:World→PV→Rat × Rat→Nat→Prop} {k:Nat}:Each G w [] [] k:=⟨rfl,fun i p u h=>by cases h⟩
theorem Each.push {G:World→PV→Rat × Rat→Nat→Prop} {w w':World} {L:List PV} {l:List (Rat × Rat)} {k:Nat} {p:PV} {u:Rat × Rat} (h:Each G w L l k) (hw:∀ p u,G w p u k→G w' p u k) (hp:G w' p u k):Each G w' (L ++ [p]) (l ++ [u]) k:=by
 refine ⟨by rw [List.length_append,List.length_append,h.1];rfl,fun i q v hq hv=>?_⟩
 rcases Nat.lt_or_ge i L.length with hi | hi
 · rw [List.getElem?_append_left hi] at hq
   rw [List.getElem?_append_left (by rw [← h.1];exact hi)] at hv
   exact hw _ _ (h.2 i q v hq hv)
 · rw [List.getElem?_append_right hi] at hq
   rw [List.getElem?_append_right (by rw [← h.1];exact hi)] at hv
   have:i - L.length=0:=by
    have:=(List.getElem?_eq_some_iff.1 hq).1
    simp at this;omega
   rw [this] at hq
   rw [show i - l.length=0 by rw [← h.1];exact this] at hv
   obtain rfl:p=q:=by simpa using hq
   obtain rfl:u=v:=by simpa using hv
   exact hp
theorem Each.imp {G:World→PV→Rat × Rat→Nat→Prop} {w w':World} {L:List PV} {l:List (Rat × Rat)} {k:Nat} (h:Each G w L l k) (hw:∀ p u,G w p u k→G w' p u k):Each G w' L l k:=⟨h.1,fun i p u hp hu=>hw _ _ (h.2 i p u hp hu)⟩
theorem Each.at_ {G:World→PV→Rat × Rat→Nat→Prop} {L:List PV} {l:List (Rat × Rat)} {k:Nat} (h:Each G w L l k) {i:Nat} (hi:i < L.length):∃ p u,L[i]?=some p∧l[i]?=some u∧G w p u k :=
 ⟨_,_,List.getElem?_eq_getElem hi,List.getElem?_eq_getElem (by rw [← h.1];exact hi),h.2 i _ _ (List.getElem?_eq_getElem hi) (List.getElem?_eq_getElem (by rw [← h.1];exact hi))⟩
theorem Each.below {w w':World} {L:List PV} {l:List (Rat × Rat)} {k:Nat} (h:Each PV.PG w L l k) (hb:Below w.heap.size w w'):Each PV.PG w' L l k:=h.imp fun _ _ hp=>PG.below hp hb
theorem Each.stays {T:TypeId} {base:Nat} {w w':World} {v:Value} {M L:List PV} {l:List (Rat × Rat)} {k:Nat} (h:Each PV.PG w L l k) (hn:Ln T base w v M) (hg:w.grownBy w' v.ownBlock):∀ p u,PV.PG w p u k→PV.PG w' p u k:=fun p u hp=>by
 rcases hn.stays hg with q | ⟨g,cs,hB,_,ho⟩
 · exact PG.below hp q
 · exact PG.box hp hB ho
theorem Ln.under {T:TypeId} {base:Nat} {w0 w w':World} {v:Value} {M:List PV} (hn:Ln T base w v M) (hg:w.grownBy w' v.ownBlock) (hb:Below w0.heap.size w0 w) (hb0:w0.heap.size≤base):Below w0.heap.size w0 w':=by
 rcases hn.stays hg with q | ⟨g,cs,hB,hg2,ho⟩
 · exact bend hb q
 · exact Below.only hb (Nat.le_trans hb0 hg2) hb.size ho
def GivesLn (w:World) (l:List (Rat × Rat)) (k:Nat) (en:Ending) (w':World):Prop :=
 ∃ v L,en=.returned v∧Ln 28 w.heap.size w' v L∧Each PV.PG w' L l k∧Below w.heap.size w w'
end
section
open Go Go.RowKit
structure CV where
 p:PV
 q:QV
def CV.cells (x:CV):List Value:=x.p.cells ++ x.q.cells
theorem qvs_append (L M:List QV):qvs (L ++ M)=qvs L ++ qvs M:=List.flatMap_append
theorem rows_length {α:Type} {f:α→List Value} {m:Nat} (hf:∀ x,(f x).length=m) (L:List α):(L.flatMap f).length=L.length*m:=by
 induction L with
 | nil=>simp
 | cons p L ih=>rw [List.flatMap_cons,List.length_append,ih,hf,List.length_cons,Nat.succ_mul];omega
theorem rows_get {α:Type} {f:α→List Value} {m:Nat} (hf:∀ x,(f x).length=m) {L:List α} {i:Nat} {p:α} (h:L[i]?=some p) {j:Nat} (hj:j < m):(L.flatMap f)[i*m+j]?=(f p)[j]?:=by
 induction L generalizing i with
 | nil=>cases h
 | cons q L ih =>
   rw [List.flatMap_cons]
   match i with
   | 0 =>
     obtain rfl:q=p:=by simpa using h
     rw [Nat.zero_mul,Nat.zero_add,List.getElem?_append_left (by rw [hf];exact hj)]
   | i+1 =>
     rw [Nat.succ_mul,List.getElem?_append_right (by rw [hf];omega),hf,show i*m+m+j - m=i*m+j by omega]
     exact ih h
theorem pvc_len (p:PV):p.cells.length=6:=rfl
theorem qvc_len (p:QV):p.cells.length=3:=rfl
def SV (w:World) (A:Option Addr) (vs:List Value):Prop:=0 < vs.length→∃ g o,A=some ⟨g,o,none⟩∧g < w.heap.size∧∀ j u,vs[j]?=some u→w.cell? ⟨g,o+j,none⟩=some u
theorem SV.nil (w:World) (A:Option Addr):SV w A []:=fun h=>absurd h (by simp)
theorem SV.below {w w':World} {A:Option Addr} {vs:List Value} (h:SV w A vs) (hb:Below w.heap.size w w'):SV w' A vs:=fun hn=>by
 obtain ⟨g,o,e,h1,h2⟩:=h hn
 exact ⟨g,o,e,Nat.lt_of_lt_of_le h1 hb.size,fun j u hu=>(hb.cell (p:=⟨g,o+j,none⟩) h1).trans (h2 j u hu)⟩
theorem SV.lt {A:Option Addr} {vs:List Value} (h:SV w A vs) {g o:Nat} (e:A=some ⟨g,o,none⟩) (hn:0 < vs.length):g < w.heap.size:=by
 obtain ⟨g2,o2,e2,h1,_⟩:=h hn
 rw [e] at e2;cases e2;exact h1
def E6x (w:World) (g o:Nat) (p:PV):Prop:=g < w.heap.size∧w.cell? ⟨g,o,none⟩=some (.bool p.s)∧w.cell? ⟨g,o+1,none⟩=some (.slice p.A p.n p.c)∧w.cell? ⟨g,o+2,none⟩=some (.slice p.B p.m p.d)∧w.cell? ⟨g,o+3,none⟩=some (.bool p.t)∧w.cell? ⟨g,o+4,none⟩=some (.slice p.E p.i p.e)∧w.cell? ⟨g,o+5,none⟩=some (.slice p.F p.j p.f)
section
variable {w w':World} {g o k:Nat} {p:PV}
theorem E6x.lt (h:E6x w g o p):g < w.heap.size:=h.1
theorem E6x.c0 (h:E6x w g o p):w.cell? ⟨g,o,none⟩=some (.bool p.s):=h.2.1
theorem E6x.c1 (h:E6x w g o p):w.cell? ⟨g,o+1,none⟩=some (.slice p.A p.n p.c):=h.2.2.1
theorem E6x.c2 (h:E6x w g o p):w.cell? ⟨g,o+2,none⟩=some (.slice p.B p.m p.d):=h.2.2.2.1
theorem E6x.c3 (h:E6x w g o p):w.cell? ⟨g,o+3,none⟩=some (.bool p.t):=h.2.2.2.2.1
theorem E6x.c4 (h:E6x w g o p):w.cell? ⟨g,o+4,none⟩=some (.slice p.E p.i p.e):=h.2.2.2.2.2.1
theorem E6x.c5 (h:E6x w g o p):w.cell? ⟨g,o+5,none⟩=some (.slice p.F p.j p.f):=h.2.2.2.2.2.2
theorem E6x.all (h:E6x w g o p):w.cell? ⟨g,o,none⟩=some (.bool p.s)∧w.cell? ⟨g,o+1,none⟩=some (.slice p.A p.n p.c)∧w.cell? ⟨g,o+2,none⟩=some (.slice p.B p.m p.d)∧w.cell? ⟨g,o+3,none⟩=some (.bool p.t)∧w.cell? ⟨g,o+4,none⟩=some (.slice p.E p.i p.e)∧w.cell? ⟨g,o+5,none⟩=some (.slice p.F p.j p.f):=⟨h.c0,h.c1,h.c2,h.c3,h.c4,h.c5⟩
theorem E6x.below (h:E6x w g o p) (hb:Below w.heap.size w w'):E6x w' g o p:=⟨Nat.lt_of_lt_of_le h.1 hb.size,(hb.cell (p:=⟨g,o,none⟩) h.1).trans h.c0,(hb.cell (p:=⟨g,o+1,none⟩) h.1).trans h.c1,(hb.cell (p:=⟨g,o+2,none⟩) h.1).trans h.c2,(hb.cell (p:=⟨g,o+3,none⟩) h.1).trans h.c3,(hb.cell (p:=⟨g,o+4,none⟩) h.1).trans h.c4,(hb.cell (p:=⟨g,o+5,none⟩) h.1).trans h.c5⟩
theorem E6x.rest (h:E6x w g o p) (hne:g ≠ k) (ho:Only k w w'):E6x w' g o p:=⟨Nat.lt_of_lt_of_le h.1 ho.size,(World.cell?_of_block (a:=⟨g,o,none⟩) (ho.block g h.1 hne)).trans h.c0,(World.cell?_of_block (a:=⟨g,o+1,none⟩) (ho.block g h.1 hne)).trans h.c1,(World.cell?_of_block (a:=⟨g,o+2,none⟩) (ho.block g h.1 hne)).trans h.c2,(World.cell?_of_block (a:=⟨g,o+3,none⟩) (ho.block g h.1 hne)).trans h.c3,(World.cell?_of_block (a:=⟨g,o+4,none⟩) (ho.block g h.1 hne)).trans h.c4,(World.cell?_of_block (a:=⟨g,o+5,none⟩) (ho.block g h.1 hne)).trans h.c5⟩
end
theorem SV.pt {A:Option Addr} {L:List PV} (h:SV w A (pvs L)) {i:Nat} {p:PV} (hi:L[i]?=some p):∃ g o,(∀ (n c:Nat) (w':World),i < n→(Instr.indexAt 83 (.slice A n c) (.int .i64 (i:Int))).run Tryz.prog w'=.ok (.pointer (some ⟨g,o,none⟩)) w')∧E6x w g o p∧∃ o0,A=some ⟨g,o0,none⟩:=by
 have hl:=(List.getElem?_eq_some_iff.1 hi).1
 obtain ⟨g,o,e,h1,h2⟩:=h (by rw [show (pvs L).length=L.length*6 from rows_length pvc_len L];omega)
 have key:∀ j,j < 6→∀ u,p.cells[j]?=some u→w.cell? ⟨g,o+i*6+j,none⟩=some u:=fun j hj u hu=>by
  rw [Nat.add_assoc];exact h2 _ u ((rows_get pvc_len hi hj).trans hu)
 refine ⟨g,o+i*6,fun n c w' hn=>?_,⟨h1,key 0 (by decide) _ rfl,key 1 (by decide) _ rfl,key 2 (by decide) _ rfl,key 3 (by decide) _ rfl,key 4 (by decide) _ rfl,key 5 (by decide) _ rfl⟩,o,e⟩
 subst e
 have ha:∀ j,(⟨g,o,none⟩:Addr).add j=⟨g,o+j,none⟩:=fun j=>by unfold Addr.add;split <;> simp_all
 obtain ⟨i0,hi0,hz,hs,hby⟩:=info_parts (show (Tryz.prog.info? 28).map (fun i=>(i.zero,i.size,i.bytes))=some (some (.agg #[.bool false,.slice none 0 0,.slice none 0 0,.bool false,.slice none 0 0,.slice none 0 0]),6,112) by kernel_rfl)
 have k1:(0:Int)≤(i:Int):=by omega
 have k2:(i:Int) < (n:Int):=by omega
 simp [Instr.indexAt,asIntOf,run_underlying Tryz.underlying83,k1,sizeOf,typeInfo,hi0,hs,ha]
 exact fun e=>absurd hn (by omega)
def E3x (w:World) (g o:Nat) (p:QV):Prop:=g < w.heap.size∧w.cell? ⟨g,o,none⟩=some (.bool p.s)∧w.cell? ⟨g,o+1,none⟩=some (.slice p.A p.n p.c)∧w.cell? ⟨g,o+2,none⟩=some (.slice p.B p.m p.d)
section
variable {w w':World} {g o k:Nat} {p:QV}
theorem E3x.lt (h:E3x w g o p):g < w.heap.size:=h.1
theorem E3x.c0 (h:E3x w g o p):w.cell? ⟨g,o,none⟩=some (.bool p.s):=h.2.1
theorem E3x.c1 (h:E3x w g o p):w.cell? ⟨g,o+1,none⟩=some (.slice p.A p.n p.c):=h.2.2.1
theorem E3x.c2 (h:E3x w g o p):w.cell? ⟨g,o+2,none⟩=some (.slice p.B p.m p.d):=h.2.2.2
theorem E3x.all (h:E3x w g o p):w.cell? ⟨g,o,none⟩=some (.bool p.s)∧w.cell? ⟨g,o+1,none⟩=some (.slice p.A p.n p.c)∧w.cell? ⟨g,o+2,none⟩=some (.slice p.B p.m p.d):=⟨h.c0,h.c1,h.c2⟩
theorem E3x.below (h:E3x w g o p) (hb:Below w.heap.size w w'):E3x w' g o p:=⟨Nat.lt_of_lt_of_le h.1 hb.size,(hb.cell (p:=⟨g,o,none⟩) h.1).trans h.c0,(hb.cell (p:=⟨g,o+1,none⟩) h.1).trans h.c1,(hb.cell (p:=⟨g,o+2,none⟩) h.1).trans h.c2⟩
theorem E3x.rest (h:E3x w g o p) (hne:g ≠ k) (ho:Only k w w'):E3x w' g o p:=⟨Nat.lt_of_lt_of_le h.1 ho.size,(World.cell?_of_block (a:=⟨g,o,none⟩) (ho.block g h.1 hne)).trans h.c0,(World.cell?_of_block (a:=⟨g,o+1,none⟩) (ho.block g h.1 hne)).trans h.c1,(World.cell?_of_block (a:=⟨g,o+2,none⟩) (ho.block g h.1 hne)).trans h.c2⟩
end
def E9x (w:World) (g o:Nat) (p:CV):Prop:=g < w.heap.size∧w.cell? ⟨g,o,none⟩=some (.bool p.p.s)∧w.cell? ⟨g,o+1,none⟩=some (.slice p.p.A p.p.n p.p.c)∧w.cell? ⟨g,o+2,none⟩=some (.slice p.p.B p.p.m p.p.d)∧w.cell? ⟨g,o+3,none⟩=some (.bool p.p.t)∧w.cell? ⟨g,o+4,none⟩=some (.slice p.p.E p.p.i p.p.e)∧w.cell? ⟨g,o+5,none⟩=some (.slice p.p.F p.p.j p.p.f)∧w.cell? ⟨g,o+6,none⟩=some (.bool p.q.s)∧w.cell? ⟨g,o+7,none⟩=some (.slice p.q.A p.q.n p.q.c)∧w.cell? ⟨g,o+8,none⟩=some (.slice p.q.B p.q.m p.q.d)
section
variable {w w':World} {g o k:Nat} {p:CV}
theorem E9x.lt (h:E9x w g o p):g < w.heap.size:=h.1
theorem E9x.c0 (h:E9x w g o p):w.cell? ⟨g,o,none⟩=some (.bool p.p.s):=h.2.1
theorem E9x.c1 (h:E9x w g o p):w.cell? ⟨g,o+1,none⟩=some (.slice p.p.A p.p.n p.p.c):=h.2.2.1
theorem E9x.c2 (h:E9x w g o p):w.cell? ⟨g,o+2,none⟩=some (.slice p.p.B p.p.m p.p.d):=h.2.2.2.1
theorem E9x.c3 (h:E9x w g o p):w.cell? ⟨g,o+3,none⟩=some (.bool p.p.t):=h.2.2.2.2.1
theorem E9x.c4 (h:E9x w g o p):w.cell? ⟨g,o+4,none⟩=some (.slice p.p.E p.p.i p.p.e):=h.2.2.2.2.2.1
theorem E9x.c5 (h:E9x w g o p):w.cell? ⟨g,o+5,none⟩=some (.slice p.p.F p.p.j p.p.f):=h.2.2.2.2.2.2.1
theorem E9x.c6 (h:E9x w g o p):w.cell? ⟨g,o+6,none⟩=some (.bool p.q.s):=h.2.2.2.2.2.2.2.1
theorem E9x.c7 (h:E9x w g o p):w.cell? ⟨g,o+7,none⟩=some (.slice p.q.A p.q.n p.q.c):=h.2.2.2.2.2.2.2.2.1
theorem E9x.c8 (h:E9x w g o p):w.cell? ⟨g,o+8,none⟩=some (.slice p.q.B p.q.m p.q.d):=h.2.2.2.2.2.2.2.2.2
theorem E9x.all (h:E9x w g o p):w.cell? ⟨g,o,none⟩=some (.bool p.p.s)∧w.cell? ⟨g,o+1,none⟩=some (.slice p.p.A p.p.n p.p.c)∧w.cell? ⟨g,o+2,none⟩=some (.slice p.p.B p.p.m p.p.d)∧w.cell? ⟨g,o+3,none⟩=some (.bool p.p.t)∧w.cell? ⟨g,o+4,none⟩=some (.slice p.p.E p.p.i p.p.e)∧w.cell? ⟨g,o+5,none⟩=some (.slice p.p.F p.p.j p.p.f)∧w.cell? ⟨g,o+6,none⟩=some (.bool p.q.s)∧w.cell? ⟨g,o+7,none⟩=some (.slice p.q.A p.q.n p.q.c)∧w.cell? ⟨g,o+8,none⟩=some (.slice p.q.B p.q.m p.q.d):=⟨h.c0,h.c1,h.c2,h.c3,h.c4,h.c5,h.c6,h.c7,h.c8⟩
theorem E9x.below (h:E9x w g o p) (hb:Below w.heap.size w w'):E9x w' g o p:=⟨Nat.lt_of_lt_of_le h.1 hb.size,(hb.cell (p:=⟨g,o,none⟩) h.1).trans h.c0,(hb.cell (p:=⟨g,o+1,none⟩) h.1).trans h.c1,(hb.cell (p:=⟨g,o+2,none⟩) h.1).trans h.c2,(hb.cell (p:=⟨g,o+3,none⟩) h.1).trans h.c3,(hb.cell (p:=⟨g,o+4,none⟩) h.1).trans h.c4,(hb.cell (p:=⟨g,o+5,none⟩) h.1).trans h.c5,(hb.cell (p:=⟨g,o+6,none⟩) h.1).trans h.c6,(hb.cell (p:=⟨g,o+7,none⟩) h.1).trans h.c7,(hb.cell (p:=⟨g,o+8,none⟩) h.1).trans h.c8⟩
theorem E9x.rest (h:E9x w g o p) (hne:g ≠ k) (ho:Only k w w'):E9x w' g o p:=⟨Nat.lt_of_lt_of_le h.1 ho.size,(World.cell?_of_block (a:=⟨g,o,none⟩) (ho.block g h.1 hne)).trans h.c0,(World.cell?_of_block (a:=⟨g,o+1,none⟩) (ho.block g h.1 hne)).trans h.c1,(World.cell?_of_block (a:=⟨g,o+2,none⟩) (ho.block g h.1 hne)).trans h.c2,(World.cell?_of_block (a:=⟨g,o+3,none⟩) (ho.block g h.1 hne)).trans h.c3,(World.cell?_of_block (a:=⟨g,o+4,none⟩) (ho.block g h.1 hne)).trans h.c4,(World.cell?_of_block (a:=⟨g,o+5,none⟩) (ho.block g h.1 hne)).trans h.c5,(World.cell?_of_block (a:=⟨g,o+6,none⟩) (ho.block g h.1 hne)).trans h.c6,(World.cell?_of_block (a:=⟨g,o+7,none⟩) (ho.block g h.1 hne)).trans h.c7,(World.cell?_of_block (a:=⟨g,o+8,none⟩) (ho.block g h.1 hne)).trans h.c8⟩
end
def RowB (T:TypeId) (w:World) (g:Nat) (vs:List Value):Prop:=∃ cs,BoxAt T w g cs∧vs.length≤cs.size∧∀ (j:Nat) (u:Value),vs[j]?=some u→cs[j]?=some u
section
variable {T:TypeId} {w w':World} {g k:Nat} {vs:List Value} {cs:Array Value}
theorem RowB.below (h:RowB T w g vs) (hb:Below w.heap.size w w'):RowB T w' g vs:=by
 obtain ⟨cs,h1,h2⟩:=h;exact ⟨cs,h1.below hb,h2⟩
theorem RowB.rest (h:RowB T w g vs) (hne:g ≠ k) (ho:Only k w w'):RowB T w' g vs:=by
 obtain ⟨cs,h1,h2⟩:=h;exact ⟨cs,⟨(ho.block g h1.lt hne).trans h1.at_,h1.free⟩,h2⟩
theorem RowB.sv (h:RowB T w g vs):SV w (some ⟨g,0,none⟩) vs:=fun _=>by
 obtain ⟨cs,h1,h2,h3⟩:=h
 refine ⟨g,0,rfl,h1.lt,fun j u hu=>?_⟩
 rw [Nat.zero_add,cell_of_row w g j _ _ (0,0) h1.at_];exact h3 j u hu
theorem BoxAt.sv (h:BoxAt T w g vs.toArray):SV w (some ⟨g,0,none⟩) vs:=fun _=>⟨g,0,rfl,h.lt,fun j u hu=>by
 rw [Nat.zero_add,cell_of_row w g j _ _ (0,0) h.at_];simpa using hu⟩
theorem BoxAt.ne {T':TypeId} {cs':Array Value} (h:BoxAt T w g cs) (h':BoxAt T' w k cs') (hne:T ≠ T' ∨ cs.size ≠ cs'.size):g ≠ k:=by
 rintro rfl
 have e:=h.at_.symm.trans h'.at_
 simp only [Option.some.injEq,Obj.cells.injEq] at e
 rcases hne with q | q
 · exact q e.2.1
 · exact q (by rw [e.1])
end
def SNr (T:TypeId) (base n:Nat) (vs:List Value) (w:World) (A:Option Addr):Prop:=0 < n→∃ g,A=some ⟨g,0,none⟩∧base≤g∧RowB T w g vs
theorem SNr.below {T:TypeId} {base n:Nat} {vs:List Value} {w w':World} {A:Option Addr} (h:SNr T base n vs w A) (hb:Below w.heap.size w w'):SNr T base n vs w' A:=fun hn=>by
 obtain ⟨g,e,h1,h2⟩:=h hn;exact ⟨g,e,h1,h2.below hb⟩
theorem SNr.sv {T:TypeId} {base n:Nat} {vs:List Value} {A:Option Addr} (h:SNr T base n vs w A) (hn:0 < n):SV w A vs:=by
 obtain ⟨g,rfl,_,h2⟩:=h hn;exact h2.sv
theorem made_rows {α:Type} {f:α→List Value} {m:Nat} (hf:∀ x,(f x).length=m) (z:α) (n:Nat):madeCells (f z).toArray (n*m)=((List.replicate n z).flatMap f).toArray:=by
 rcases Nat.eq_zero_or_pos m with hm | hm
 · subst hm
   apply Array.ext' ;simp only
   have h1:(List.replicate n z).flatMap f=[]:=List.eq_nil_of_length_eq_zero (by rw [rows_length hf,Nat.mul_zero])
   rw [h1]
   simp [madeCells]
 apply Array.ext
 · rw [size_madeCells,List.size_toArray,rows_length hf,List.length_replicate]
 · intro j h1 h2
   rw [size_madeCells] at h1
   obtain ⟨a,b,hb,rfl⟩:∃ a b,b < m∧j=a*m+b:=⟨j / m,j % m,Nat.mod_lt _ hm,by rw [Nat.mul_comm];exact (Nat.div_add_mod j m).symm⟩
   have ha:a < n:=Nat.lt_of_mul_lt_mul_right (Nat.lt_of_le_of_lt (Nat.le_add_right _ _) h1)
   have e:=rows_get hf (L:=List.replicate n z) (i:=a) (p:=z) (by rw [List.getElem?_replicate,if_pos ha]) hb
   rw [List.getElem?_eq_getElem (by simpa using h2)] at e
   have hb2:b < (f z).length:=by rw [hf];exact hb
   rw [List.getElem?_eq_getElem hb2] at e
   have e2:((List.replicate n z).flatMap f).toArray[a*m+b]=(f z)[b]:=by rw [List.getElem_toArray];exact Option.some.inj e
   rw [e2]
   simp only [madeCells,Array.getElem_map,Array.getElem_range,List.size_toArray,hf]
   rw [show (a*m+b) % m=b by rw [Nat.add_comm,Nat.add_mul_mod_self_right,Nat.mod_eq_of_lt hb]]
   simp [hb2]
theorem arr_free {vs:List Value} (h:∀ u ∈ vs,∀ (k:IntKind) (x:Int),u ≠ .int k x) (i:Nat) (k:IntKind) (x:Int):vs.toArray[i]? ≠ some (Value.int k x):=fun e=>by
 rw [List.getElem?_toArray] at e
 exact h _ (List.mem_of_getElem? e) k x rfl
end
section
structure AH where
 x:Rat
 y:Rat
 w:Rat
def mixQ (a b t:Rat):Rat:=a+(b - a)*t
def AH.mix (p q:AH) (t:Rat):AH:=⟨mixQ p.x q.x t,mixQ p.y q.y t,mixQ p.w q.w t⟩
theorem mixQ_pos {a b t:Rat} (ha:0 < a) (hb:0 < b) (h0:0≤t) (h1:t≤1):0 < mixQ a b t:=by
 have e:mixQ a b t=a*(1 - t)+b*t:=by unfold mixQ;grind
 rw [e]
 by_cases q:t≤0
 · obtain rfl:t=0:=Rat.le_antisymm q h0
   grind
 · have:=Rat.mul_pos hb (show 0 < t by grind)
   have:=Rat.mul_nonneg (show 0≤a by grind) (show 0≤1 - t by grind)
   grind
def AH.px (p:AH):Rat:=p.x*(1 / p.w)
def AH.py (p:AH):Rat:=p.y*(1 / p.w)
theorem AH.eq {p q:AH} (h1:p.x=q.x) (h2:p.y=q.y) (h3:p.w=q.w):p=q:=by cases p;cases q;simp_all
end
end Go.Proofs.YtfpaeophfcoohaaGreat
