/- AreaHalves: part 19. -/
import Derived.Test.YtlogpjeoapeojaaGreatKAreaHalves12
import Derived.Test.YtlogpjeoapeojaaGreatKAreaHalves14
import Derived.Test.YtlogpjeoapeojaaGreatKAreaHalves15
import Derived.Test.YtlogpjeoapeojaaGreatKAreaHalves16
import Derived.Test.YtlogpjeoapeojaaGreatKAreaHalves17
import Derived.Test.YtlogpjeoapeojaaGreatKAreaHalves18
set_option linter.unusedVariables false
set_option maxRecDepth 100000
set_option maxHeartbeats 16000000
variable {w:Go.World}
variable {s_a t_a:Bool} {A_a B_a E_a F_a:Option Go.Addr} {n_a c_a m_a d_a i_a e_a j_a f_a:Nat}
variable {s_b t_b:Bool} {A_b B_b E_b F_b:Option Go.Addr} {n_b c_b m_b d_b i_b e_b j_b f_b:Nat}
namespace Go.Proofs.YtlogpjeoapeojaaGreat
section
open Go Go.RowKit
def IsBoxQ (l:List (Rat × Rat)) (x0 y0 x1 y1:Rat):Prop :=
 (∃ (i:Nat) (u:Rat × Rat),l[i]?=some u∧u.1=x0)∧(∃ (i:Nat) (u:Rat × Rat),l[i]?=some u∧u.2=y0)∧(∃ (i:Nat) (u:Rat × Rat),l[i]?=some u∧u.1=x1)∧(∃ (i:Nat) (u:Rat × Rat),l[i]?=some u∧u.2=y1) ∧
 ∀ (i:Nat) (u:Rat × Rat),l[i]?=some u→x0≤u.1∧y0≤u.2∧u.1≤x1∧u.2≤y1
def GivesBox (w:World) (l:List (Rat × Rat)) (k:Nat) (en:Ending) (w':World):Prop :=
 ∃ (x0 y0 x1 y1:Rat) (p q:PV),IsBoxQ l x0 y0 x1 y1∧en=.returned (.tuple #[.agg #[.bool p.s,.slice p.A p.n p.c,.slice p.B p.m p.d,.bool p.t,.slice p.E p.i p.e,.slice p.F p.j p.f],.agg #[.bool q.s,.slice q.A q.n q.c,.slice q.B q.m q.d,.bool q.t,.slice q.E q.i q.e,.slice q.F q.j q.f],.bool true])∧PV.PG w' p (x0,y0) (k+1+1)∧PV.PG w' q (x1,y1) (k+1+1)∧Below w.heap.size w w'
theorem box_p {A:Option Addr} {n c k:Nat} {L:List PV} {l:List (Rat × Rat)} (hL:SV w A (pvs L)) (hE:Each PV.PR w L l k) (hn:L.length=n) (h0:0 < n) (hm:n≤1000) (hnc:n≤c) (h1:1≤k) (hk:k≤300) :
 Calls Tryz.prog 11 #[.slice A n c] w (GivesBox w l k):=by
 have E0:=Lib.hid hE;have HL0:=Lib.hid hL
 have h4:¬ n=0:=by omega
 have hfl0:∀ (s t:Bool) (A B E F:Option Addr) (n c m d i e j f:Nat) (w:World),(Instr.field 29 (.agg #[.bool s,.slice A n c,.slice B m d,.bool t,.slice E i e,.slice F j f]) 0).run Tryz.prog w=.ok (.agg #[.bool s,.slice A n c,.slice B m d]) w:=fun _ _ _ _ _ _ _ _ _ _ _ _ _ _ _=>by kernel_rfl
 have hfl1:∀ (s t:Bool) (A B E F:Option Addr) (n c m d i e j f:Nat) (w:World),(Instr.field 29 (.agg #[.bool s,.slice A n c,.slice B m d,.bool t,.slice E i e,.slice F j f]) 1).run Tryz.prog w=.ok (.agg #[.bool t,.slice E i e,.slice F j f]) w:=fun _ _ _ _ _ _ _ _ _ _ _ _ _ _ _=>by kernel_rfl
 go_enter Tryz.func11,Tryz.ntmps11
 go_upto_region 1 with (fail)
 generalize hW:World.alloc _ _=W
 obtain ⟨hb,Y,Z,hzW⟩:=mkbx24_10 hW;clear hW;have yf0:=Y.f0;have yc0:=Y.c0;have zf0:=Z.f0;have zc0:=Z.c0;have yf1:=Y.f1;have yc1:=Y.c1;have zf1:=Z.f1;have zc1:=Z.c1;have yf2:=Y.f2;have yc2:=Y.c2;have zf2:=Z.f2;have zc2:=Z.c2;have yf3:=Y.f3;have yc3:=Y.c3;have zf3:=Z.f3;have zc3:=Z.c3;have yf4:=Y.f4;have yc4:=Y.c4;have zf4:=Z.f4;have zc4:=Z.c4;have yf5:=Y.f5;have yc5:=Y.c5;have zf5:=Z.f5;have zc5:=Z.c5
 go_upto_region 4 with (first
  | (go_at_call 36;(with_reducible refine (min_byX (HL0.out.below hb) (Each.belowP E0.out hb) hn h0 hm hnc h1 (by omega)).mono ?_);rintro e w_p ⟨jp,⟨s_p,A_p,n_p,c_p,B_p,m_p,d_p,t_p,E_p,i_p,e_p,F_p,j_p,f_p⟩,vp,hjp,hvp,hbp,rfl,hh⟩
     replace hb:=bend hb hh;replace Y:=Y.below hh;replace Z:=Z.below hh;have yf0:=Y.f0;have yc0:=Y.c0;have zf0:=Z.f0;have zc0:=Z.c0;have yf1:=Y.f1;have yc1:=Y.c1;have zf1:=Z.f1;have zc1:=Z.c1;have yf2:=Y.f2;have yc2:=Y.c2;have zf2:=Z.f2;have zc2:=Z.c2;have yf3:=Y.f3;have yc3:=Y.c3;have zf3:=Z.f3;have zc3:=Z.c3;have yf4:=Y.f4;have yc4:=Y.c4;have zf4:=Z.f4;have zc4:=Z.c4;have yf5:=Y.f5;have yc5:=Y.c5;have zf5:=Z.f5;have zc5:=Z.c5)
  | (go_at_call 36;(with_reducible refine (min_byY (HL0.out.below hb) (Each.belowP E0.out hb) hn h0 hm hnc h1 (by omega)).mono ?_);rintro e w_q ⟨jq,⟨s_q,A_q,n_q,c_q,B_q,m_q,d_q,t_q,E_q,i_q,e_q,F_q,j_q,f_q⟩,vq,hjq,hvq,hbq,rfl,hh⟩
     replace hb:=bend hb hh;replace Y:=Y.below hh;replace Z:=Z.below hh;have yf0:=Y.f0;have yc0:=Y.c0;have zf0:=Z.f0;have zc0:=Z.c0;have yf1:=Y.f1;have yc1:=Y.c1;have zf1:=Z.f1;have zc1:=Z.c1;have yf2:=Y.f2;have yc2:=Y.c2;have zf2:=Z.f2;have zc2:=Z.c2;have yf3:=Y.f3;have yc3:=Y.c3;have zf3:=Z.f3;have zc3:=Z.c3;have yf4:=Y.f4;have yc4:=Y.c4;have zf4:=Z.f4;have zc4:=Z.c4;have yf5:=Y.f5;have yc5:=Y.c5;have zf5:=Z.f5;have zc5:=Z.c5))
 have hoY:=only6 w_q w.heap.size (.bool s_p) (.slice A_p n_p c_p) (.slice B_p m_p d_p) (.bool t_q) (.slice E_q i_q e_q) (.slice F_q j_q f_q)
 have Y2:=Y.set6 (.bool s_p) (.slice A_p n_p c_p) (.slice B_p m_p d_p) (.bool t_q) (.slice E_q i_q e_q) (.slice F_q j_q f_q)
 have Z2:B6 _ _ (.bool false) (.slice none 0 0) (.slice none 0 0) (.bool false) (.slice none 0 0) (.slice none 0 0):=Z.rest (by omega) hoY
 replace hb:=Below.only hb (Nat.le_refl _) hb.size hoY
 clear hoY yf0 yc0 zf0 zc0 yf1 yc1 zf1 zc1 yf2 yc2 zf2 zc2 yf3 yc3 zf3 zc3 yf4 yc4 zf4 zc4 yf5 yc5 zf5 zc5;clear Y Z
 generalize ((((((w_q.setCell ⟨w.heap.size,0,none⟩ (.bool s_p)).setCell ⟨w.heap.size,1,none⟩ (.slice A_p n_p c_p)).setCell ⟨w.heap.size,2,none⟩ (.slice B_p m_p d_p)).setCell ⟨w.heap.size,3,none⟩ (.bool t_q)).setCell ⟨w.heap.size,4,none⟩ (.slice E_q i_q e_q)).setCell ⟨w.heap.size,5,none⟩ (.slice F_q j_q f_q))=W3 at *
 have Y:=Y2;have Z:=Z2;clear Y2 Z2;have yf0:=Y.f0;have yc0:=Y.c0;have zf0:=Z.f0;have zc0:=Z.c0;have yf1:=Y.f1;have yc1:=Y.c1;have zf1:=Z.f1;have zc1:=Z.c1;have yf2:=Y.f2;have yc2:=Y.c2;have zf2:=Z.f2;have zc2:=Z.c2;have yf3:=Y.f3;have yc3:=Y.c3;have zf3:=Z.f3;have zc3:=Z.c3;have yf4:=Y.f4;have yc4:=Y.c4;have zf4:=Z.f4;have zc4:=Z.c4;have yf5:=Y.f5;have yc5:=Y.c5;have zf5:=Z.f5;have zc5:=Z.c5
 go_upto_region 5 with (first
  | (go_at_call 39;(with_reducible refine (max_byX (HL0.out.below hb) (Each.belowP E0.out hb) hn h0 hm hnc h1 (by omega)).mono ?_);rintro e w_r ⟨jr,⟨s_r,A_r,n_r,c_r,B_r,m_r,d_r,t_r,E_r,i_r,e_r,F_r,j_r,f_r⟩,vr,hjr,hvr,hbr,rfl,hh⟩
     replace hb:=bend hb hh;replace Y:=Y.below hh;replace Z:=Z.below hh;have yf0:=Y.f0;have yc0:=Y.c0;have zf0:=Z.f0;have zc0:=Z.c0;have yf1:=Y.f1;have yc1:=Y.c1;have zf1:=Z.f1;have zc1:=Z.c1;have yf2:=Y.f2;have yc2:=Y.c2;have zf2:=Z.f2;have zc2:=Z.c2;have yf3:=Y.f3;have yc3:=Y.c3;have zf3:=Z.f3;have zc3:=Z.c3;have yf4:=Y.f4;have yc4:=Y.c4;have zf4:=Z.f4;have zc4:=Z.c4;have yf5:=Y.f5;have yc5:=Y.c5;have zf5:=Z.f5;have zc5:=Z.c5)
  | (go_at_call 39;(with_reducible refine (max_byY (HL0.out.below hb) (Each.belowP E0.out hb) hn h0 hm hnc h1 (by omega)).mono ?_);rintro e w_u ⟨ju,⟨s_u,A_u,n_u,c_u,B_u,m_u,d_u,t_u,E_u,i_u,e_u,F_u,j_u,f_u⟩,vu,hju,hvu,hbu,rfl,hh⟩
     replace hb:=bend hb hh;replace Y:=Y.below hh;replace Z:=Z.below hh;have yf0:=Y.f0;have yc0:=Y.c0;have zf0:=Z.f0;have zc0:=Z.c0;have yf1:=Y.f1;have yc1:=Y.c1;have zf1:=Z.f1;have zc1:=Z.c1;have yf2:=Y.f2;have yc2:=Y.c2;have zf2:=Z.f2;have zc2:=Z.c2;have yf3:=Y.f3;have yc3:=Y.c3;have zf3:=Z.f3;have zc3:=Z.c3;have yf4:=Y.f4;have yc4:=Y.c4;have zf4:=Z.f4;have zc4:=Z.c4;have yf5:=Y.f5;have yc5:=Y.c5;have zf5:=Z.f5;have zc5:=Z.c5))
 have hoZ:=only6 w_u (w.heap.size+1) (.bool s_r) (.slice A_r n_r c_r) (.slice B_r m_r d_r) (.bool t_u) (.slice E_u i_u e_u) (.slice F_u j_u f_u)
 have Z2:=Z.set6 (.bool s_r) (.slice A_r n_r c_r) (.slice B_r m_r d_r) (.bool t_u) (.slice E_u i_u e_u) (.slice F_u j_u f_u)
 have Y2:B6 _ _ (.bool s_p) (.slice A_p n_p c_p) (.slice B_p m_p d_p) (.bool t_q) (.slice E_q i_q e_q) (.slice F_q j_q f_q):=Y.rest (by omega) hoZ
 replace hb:=Below.only hb (by omega) hb.size hoZ
 clear hoZ yf0 yc0 zf0 zc0 yf1 yc1 zf1 zc1 yf2 yc2 zf2 zc2 yf3 yc3 zf3 zc3 yf4 yc4 zf4 zc4 yf5 yc5 zf5 zc5;clear Y Z
 generalize ((((((w_u.setCell ⟨w.heap.size+1,0,none⟩ (.bool s_r)).setCell ⟨w.heap.size+1,1,none⟩ (.slice A_r n_r c_r)).setCell ⟨w.heap.size+1,2,none⟩ (.slice B_r m_r d_r)).setCell ⟨w.heap.size+1,3,none⟩ (.bool t_u)).setCell ⟨w.heap.size+1,4,none⟩ (.slice E_u i_u e_u)).setCell ⟨w.heap.size+1,5,none⟩ (.slice F_u j_u f_u))=W4 at *
 have Y:=Y2;have Z:=Z2;clear Y2 Z2
 have Ep:=PR.below (E0.out.2 _ _ _ hjp hvp) hb
 have Eq:=PR.below (E0.out.2 _ _ _ hjq hvq) hb
 have Er:=PR.below (E0.out.2 _ _ _ hjr hvr) hb
 have Eu:=PR.below (E0.out.2 _ _ _ hju hvu) hb
 have HBX:Hid (IsBoxQ l vp.1 vq.2 vr.1 vu.2):=⟨⟨_,_,hvp,rfl⟩,⟨_,_,hvq,rfl⟩,⟨_,_,hvr,rfl⟩,⟨_,_,hvu,rfl⟩,fun i u h=>⟨hbp i u h,hbq i u h,hbr i u h,hbu i u h⟩⟩
 have pl:PR W4 s_p A_p n_p c_p B_p m_p d_p t_q E_q i_q e_q F_q j_q f_q vp.1 vq.2 k:=⟨Ep.1,Eq.2⟩
 have ph:PR W4 s_r A_r n_r c_r B_r m_r d_r t_u E_u i_u e_u F_u j_u f_u vr.1 vu.2 k:=⟨Er.1,Eu.2⟩
 clear hbp hbq hbr hbu hjp hjq hjr hju Ep Eq Er Eu hvp hvq hvr hvu
 generalize vp.1=x0 at *
 generalize vq.2=y0 at *
 generalize vr.1=x1 at *
 generalize vu.2=y1 at *
 replace pl:=pl.below (Below.refl _ _).drew
 replace ph:=ph.below (Below.refl _ _).drew
 replace Y:=Y.below (Below.refl _ _).drew
 replace Z:=Z.below (Below.refl _ _).drew
 replace hb:=hb.drew;have yf0:=Y.f0;have yc0:=Y.c0;have zf0:=Z.f0;have zc0:=Z.c0;have yf1:=Y.f1;have yc1:=Y.c1;have zf1:=Z.f1;have zc1:=Z.c1;have yf2:=Y.f2;have yc2:=Y.c2;have zf2:=Z.f2;have zc2:=Z.c2;have yf3:=Y.f3;have yc3:=Y.c3;have zf3:=Z.f3;have zc3:=Z.c3;have yf4:=Y.f4;have yc4:=Y.c4;have zf4:=Z.f4;have zc4:=Z.c4;have yf5:=Y.f5;have yc5:=Y.c5;have zf5:=Z.f5;have zc5:=Z.c5
 go_region_with (first
  | (go_at_call 40;(with_reducible refine (afresh_p pl hk h1).mono ?_);rintro e w_v ⟨s_v,A_v,n_v,c_v,B_v,m_v,d_v,t_v,E_v,i_v,e_v,F_v,j_v,f_v,rfl,v,hh⟩
     (try replace pl:=pl.below hh);(try replace ph:=ph.below hh);(try replace Y:=Y.below hh);(try replace Z:=Z.below hh);(try replace x:=x.below hh);replace hb:=bend hb hh;have yf0:=Y.f0;have yc0:=Y.c0;have zf0:=Z.f0;have zc0:=Z.c0;have yf1:=Y.f1;have yc1:=Y.c1;have zf1:=Z.f1;have zc1:=Z.c1;have yf2:=Y.f2;have yc2:=Y.c2;have zf2:=Z.f2;have zc2:=Z.c2;have yf3:=Y.f3;have yc3:=Y.c3;have zf3:=Z.f3;have zc3:=Z.c3;have yf4:=Y.f4;have yc4:=Y.c4;have zf4:=Z.f4;have zc4:=Z.c4;have yf5:=Y.f5;have yc5:=Y.c5;have zf5:=Z.f5;have zc5:=Z.c5)
  | (go_at_call 40;(with_reducible refine (afresh_p ph hk h1).mono ?_);rintro e w_x ⟨s_x,A_x,n_x,c_x,B_x,m_x,d_x,t_x,E_x,i_x,e_x,F_x,j_x,f_x,rfl,x,hh⟩
     (try replace pl:=pl.below hh);(try replace ph:=ph.below hh);(try replace Y:=Y.below hh);(try replace Z:=Z.below hh);(try replace v:=v.below hh);replace hb:=bend hb hh;have yf0:=Y.f0;have yc0:=Y.c0;have zf0:=Z.f0;have zc0:=Z.c0;have yf1:=Y.f1;have yc1:=Y.c1;have zf1:=Z.f1;have zc1:=Z.c1;have yf2:=Y.f2;have yc2:=Y.c2;have zf2:=Z.f2;have zc2:=Z.c2;have yf3:=Y.f3;have yc3:=Y.c3;have zf3:=Z.f3;have zc3:=Z.c3;have yf4:=Y.f4;have yc4:=Y.c4;have zf4:=Z.f4;have zc4:=Z.c4;have yf5:=Y.f5;have yc5:=Y.c5;have zf5:=Z.f5;have zc5:=Z.c5))
 all_goals go_wp2_with fail
 all_goals have hoY:=only6 w_x w.heap.size (.bool s_v) (.slice A_v n_v c_v) (.slice B_v m_v d_v) (.bool t_v) (.slice E_v i_v e_v) (.slice F_v j_v f_v)
 all_goals have Y2:=Y.set6 (.bool s_v) (.slice A_v n_v c_v) (.slice B_v m_v d_v) (.bool t_v) (.slice E_v i_v e_v) (.slice F_v j_v f_v)
 all_goals have Z1:=Z.rest (by omega) hoY
 all_goals have Z2:=B6.set6 Z1 (.bool s_x) (.slice A_x n_x c_x) (.slice B_x m_x d_x) (.bool t_x) (.slice E_x i_x e_x) (.slice F_x j_x f_x)
 all_goals have hoZ:=only6 ((((((w_x.setCell ⟨w.heap.size,0,none⟩ (.bool s_v)).setCell ⟨w.heap.size,1,none⟩ (.slice A_v n_v c_v)).setCell ⟨w.heap.size,2,none⟩ (.slice B_v m_v d_v)).setCell ⟨w.heap.size,3,none⟩ (.bool t_v)).setCell ⟨w.heap.size,4,none⟩ (.slice E_v i_v e_v)).setCell ⟨w.heap.size,5,none⟩ (.slice F_v j_v f_v)) (w.heap.size+1) (.bool s_x) (.slice A_x n_x c_x) (.slice B_x m_x d_x) (.bool t_x) (.slice E_x i_x e_x) (.slice F_x j_x f_x)
 all_goals have Y3:=Y2.rest (by omega) hoZ
 all_goals replace hb:=below_set6 (below_set6 hb (Nat.le_refl _) (.bool s_v) (.slice A_v n_v c_v) (.slice B_v m_v d_v) (.bool t_v) (.slice E_v i_v e_v) (.slice F_v j_v f_v)) (show w.heap.size≤w.heap.size+1 by omega) (.bool s_x) (.slice A_x n_x c_x) (.slice B_x m_x d_x) (.bool t_x) (.slice E_x i_x e_x) (.slice F_x j_x f_x)
 all_goals replace v:=PG.box (PG.box v (box_of Y) hoY) (box_of Z1) hoZ
 all_goals replace x:=PG.box (PG.box x (box_of Y) hoY) (box_of Z1) hoZ
 all_goals clear yf0 yc0 zf0 zc0 yf1 yc1 zf1 zc1 yf2 yc2 zf2 zc2 yf3 yc3 zf3 zc3 yf4 yc4 zf4 zc4 yf5 yc5 zf5 zc5 hoY hoZ Z1 Y2 Y Z pl ph
 all_goals generalize ((((((((((((w_x.setCell ⟨w.heap.size,0,none⟩ (.bool s_v)).setCell ⟨w.heap.size,1,none⟩ (.slice A_v n_v c_v)).setCell ⟨w.heap.size,2,none⟩ (.slice B_v m_v d_v)).setCell ⟨w.heap.size,3,none⟩ (.bool t_v)).setCell ⟨w.heap.size,4,none⟩ (.slice E_v i_v e_v)).setCell ⟨w.heap.size,5,none⟩ (.slice F_v j_v f_v)).setCell ⟨w.heap.size+1,0,none⟩ (.bool s_x)).setCell ⟨w.heap.size+1,1,none⟩ (.slice A_x n_x c_x)).setCell ⟨w.heap.size+1,2,none⟩ (.slice B_x m_x d_x)).setCell ⟨w.heap.size+1,3,none⟩ (.bool t_x)).setCell ⟨w.heap.size+1,4,none⟩ (.slice E_x i_x e_x)).setCell ⟨w.heap.size+1,5,none⟩ (.slice F_x j_x f_x))=W5 at *
 all_goals have gy0:=B6.c0 Y3
 all_goals have gz0:=B6.c0 Z2
 all_goals have gy1:=B6.c1 Y3
 all_goals have gz1:=B6.c1 Z2
 all_goals have gy2:=B6.c2 Y3
 all_goals have gz2:=B6.c2 Z2
 all_goals have gy3:=B6.c3 Y3
 all_goals have gz3:=B6.c3 Z2
 all_goals have gy4:=B6.c4 Y3
 all_goals have gz4:=B6.c4 Z2
 all_goals have gy5:=B6.c5 Y3
 all_goals have gz5:=B6.c5 Z2
 all_goals refine bodyPost_ret (v:=.tuple #[.agg #[.bool s_v,.slice A_v n_v c_v,.slice B_v m_v d_v,.bool t_v,.slice E_v i_v e_v,.slice F_v j_v f_v],.agg #[.bool s_x,.slice A_x n_x c_x,.slice B_x m_x d_x,.bool t_x,.slice E_x i_x e_x,.slice F_x j_x f_x],.bool true]) (by simp [results,Tryz.results11,go_sem,gy0,gz0,gy1,gz1,gy2,gz2,gy3,gz3,gy4,gz4,gy5,gz5]) rfl ?_
 all_goals exact ⟨x0,y0,x1,y1,(PV.mk s_v A_v n_v c_v B_v m_v d_v t_v E_v i_v e_v F_v j_v f_v),(PV.mk s_x A_x n_x c_x B_x m_x d_x t_x E_x i_x e_x F_x j_x f_x),HBX.out,rfl,v,x,hb⟩
end
section
open Go Go.RowKit
theorem QG.fit {s:Bool} {A B:Option Addr} {n c m d K k:Nat} {v:Rat} (h:QG w s A n c B m d v K) (h1:v.num.natAbs < B64 ^ k) (h2:v.den < B64 ^ k):QG w s A n c B m d v k:=by
 obtain ⟨⟨a1,a2,a3,_⟩,⟨b1,b2,_⟩⟩:=h
 refine ⟨⟨a1,a2,a3,?_⟩,⟨b1,b2,?_⟩⟩
 · rw [← a2.1];exact length_limbs_le B64_two h1
 · rw [← b1.1];exact length_limbs_le B64_two h2
theorem Each.fit {L:List PV} {l:List (Rat × Rat)} {K k:Nat} (h:Each PV.PG w L l K) (hB:BL k l):Each PV.PG w L l k :=
 ⟨h.1,fun i p u hp hu=>by
  have h2:=h.2 i p u hp hu
  have hb:=hB u (List.mem_of_getElem? hu)
  exact ⟨QG.fit h2.1 hb.1 hb.2.1,QG.fit h2.2 hb.2.2.1 hb.2.2.2⟩⟩
theorem Each.pr {L:List PV} {l:List (Rat × Rat)} {k:Nat} (h:Each PV.PG w L l k):Each PV.PR w L l k:=⟨h.1,fun i p u hp hu=>PG.pr (h.2 i p u hp hu)⟩
theorem Ln.sv {T:TypeId} {base:Nat} {A:Option Addr} {n c:Nat} {L:List PV} (h:Ln T base w (.slice A n c) L):SV w A (pvs L):=fun hn=>by
 have hl:0 < L.length:=by rw [show (pvs L).length=L.length*6 from rows_length pvc_len L] at hn;omega
 obtain ⟨g,c2,hv,_,_,hg,_⟩:=h.at_ (List.getElem?_eq_getElem hl)
 simp only [Value.slice.injEq] at hv
 refine ⟨g,0,hv.1,hg,fun j u hu=>?_⟩
 have:=h.own.cells (g:=g) (by rw [hv.1];rfl) j u hu
 rwa [add_at] at this
def hasB (l:List (Rat × Rat)) (px py:Rat):Bool:=decide (3≤l.length) && (List.range (l.length+1)).all fun i=>match (ringL l)[i]?,(ringL l)[i+1]? with | some u,some v=>decide (0≤orientQ u.1 u.2 v.1 v.2 px py) | _,_=>true
theorem hasB_iff (l:List (Rat × Rat)) (px py:Rat):hasB l px py=true ↔ HasQ l px py:=by
 unfold hasB HasQ
 rw [Bool.and_eq_true,decide_eq_true_iff,List.all_eq_true]
 refine and_congr Iff.rfl ⟨fun h i u v hu hv=>?_,fun h i _=>?_⟩
 · have hi : i < l.length + 1 := by
     have h7:=(List.getElem?_eq_some_iff.1 hu).1
     unfold ringL at h7;rw [List.length_append,List.length_take] at h7;omega
   have:=h i (List.mem_range.2 hi)
   rw [hu,hv] at this
   exact of_decide_eq_true this
 · split
   · rename_i u v hu hv;exact decide_eq_true (h i u v hu hv)
   · rfl
def convB (l:List (Rat × Rat)):Bool:=((List.range (l.length+1)).all fun i=>match (ringL (waysL l))[i]?,(ringL (waysL l))[i+1]? with | some u,some v=>decide (LeftV u.1 u.2 v.1 v.2) | _,_=>true) && decide (lowsW (ringL (waysL l)) l.length=1)
theorem convB_iff (l:List (Rat × Rat)):convB l=true ↔ ConvQ l:=by
 unfold convB ConvQ
 rw [Bool.and_eq_true,decide_eq_true_iff,List.all_eq_true]
 refine and_congr ⟨fun h i u v hu hv=>?_,fun h i _=>?_⟩ Iff.rfl
 · have hi : i < l.length + 1 := by
     have h7:=(List.getElem?_eq_some_iff.1 hu).1
     have h8:=waysL_len l
     unfold ringL at h7;rw [List.length_append,List.length_take] at h7;omega
   have:=h i (List.mem_range.2 hi)
   rw [hu,hv] at this
   exact of_decide_eq_true this
 · split
   · rename_i u v hu hv;exact decide_eq_true (h i u v hu hv)
   · rfl
theorem isBox_one {l:List (Rat × Rat)} {a b c d a' b' c' d':Rat} (h:IsBoxQ l a b c d) (g:IsBoxQ l a' b' c' d'):a=a'∧b=b'∧c=c'∧d=d':=by
 obtain ⟨⟨i1,u1,e1,rfl⟩,⟨i2,u2,e2,rfl⟩,⟨i3,u3,e3,rfl⟩,⟨i4,u4,e4,rfl⟩,h5⟩:=h
 obtain ⟨⟨j1,v1,f1,rfl⟩,⟨j2,v2,f2,rfl⟩,⟨j3,v3,f3,rfl⟩,⟨j4,v4,f4,rfl⟩,g5⟩:=g
 have a1:=h5 _ _ f1;have a2:=h5 _ _ f2;have a3:=h5 _ _ f3;have a4:=h5 _ _ f4;have b1:=g5 _ _ e1;have b2:=g5 _ _ e2;have b3:=g5 _ _ e3;have b4:=g5 _ _ e4
 exact ⟨by grind,by grind,by grind,by grind⟩
def sqL:List (Rat × Rat):=[(Rat.divInt 0 1,Rat.divInt 0 1),(Rat.divInt 2 1,Rat.divInt 0 1),(Rat.divInt 2 1,Rat.divInt 2 1),(Rat.divInt 0 1,Rat.divInt 2 1)]
def sqH:List (Rat × Rat):=[(Rat.divInt 0 1,Rat.divInt 0 1),(Rat.divInt 2 1,Rat.divInt 2 1),(Rat.divInt 0 1,Rat.divInt 2 1)]
theorem wk8_half:halfQ (asideP (Rat.divInt 0 1) (Rat.divInt 0 1) (Rat.divInt 2 1) (Rat.divInt 2 1)) sqL=sqH:=by decide +kernel
theorem wk8_box:IsBoxQ sqL (Rat.divInt 0 1) (Rat.divInt 0 1) (Rat.divInt 2 1) (Rat.divInt 2 1):=by
 refine ⟨⟨0,_,rfl,rfl⟩,⟨0,_,rfl,rfl⟩,⟨1,_,rfl,rfl⟩,⟨2,_,rfl,rfl⟩,fun i u hu=>?_⟩
 match i,hu with
 | 0,hu=>cases hu;decide +kernel
 | 1,hu=>cases hu;decide +kernel
 | 2,hu=>cases hu;decide +kernel
 | 3,hu=>cases hu;decide +kernel
 | i+4,hu=>cases hu
theorem wk8_bl:BL 1 sqH:=by
 intro u hu
 simp only [sqH,List.mem_cons,List.not_mem_nil,or_false] at hu
 rcases hu with rfl | rfl | rfl <;> decide +kernel
theorem wk8_t4:(⟨(qtxt (areaQ sqL)).toArray⟩:ByteArray)=⟨#[52]⟩:=by
 rw [show areaQ sqL=Rat.divInt 4 1 by decide +kernel,qtxt_i (a:=4) (by decide +kernel) (by decide +kernel) (txt_one (d:=4) (by decide) (by decide) rfl)];rfl
theorem wk8_t2:(⟨(qtxt (areaQ sqH)).toArray⟩:ByteArray)=⟨#[50]⟩:=by
 rw [show areaQ sqH=Rat.divInt 2 1 by decide +kernel,qtxt_i (a:=2) (by decide +kernel) (by decide +kernel) (txt_one (d:=2) (by decide) (by decide) rfl)];rfl
theorem wk8_conv:true=true ↔ ConvQ sqL:=by
 rw [← convB_iff];exact ⟨fun _=>by decide +kernel,fun _=>rfl⟩
theorem wk8_has1:true=true ↔ HasQ sqL (Rat.divInt 1 1) (Rat.divInt 1 1):=by
 rw [← hasB_iff];exact ⟨fun _=>by decide +kernel,fun _=>rfl⟩
theorem wk8_has2:false=true ↔ HasQ sqL (Rat.divInt 3 1) (Rat.divInt 1 1):=by
 rw [← hasB_iff];exact ⟨fun h=>by (cases h),fun h=>absurd h (by decide +kernel)⟩
theorem wk8_s0:decide (Rat.divInt 0 1=Rat.divInt 0 1∧Rat.divInt 0 1=Rat.divInt 0 1)=true:=by decide +kernel
theorem wk8_s2:decide (Rat.divInt 2 1=Rat.divInt 2 1∧Rat.divInt 2 1=Rat.divInt 2 1)=true:=by decide +kernel
theorem areawakes_any (w:World):Calls Tryz.prog 8 #[] w fun e w'=>e=.returned (.bool true)∧Below w.heap.size w w':=by
 have hb:Below w.heap.size w w:=Below.refl _ _
 go_enter Tryz.func8,Tryz.ntmps8
 go_upto_region 3 with (first
  | (go_at_call 32;(with_reducible refine (lawP 0 0 (by decide) (by decide) (by decide) (by decide) _).mono ?_);rintro e w_p1 ⟨s_p1,A_p1,n_p1,c_p1,B_p1,m_p1,d_p1,t_p1,E_p1,i_p1,e_p1,F_p1,j_p1,f_p1,rfl,p1,hh⟩
     replace hb:=bend hb hh)
  | (go_at_call 32;(with_reducible refine (lawP 2 0 (by decide) (by decide) (by decide) (by decide) _).mono ?_);rintro e w_p2 ⟨s_p2,A_p2,n_p2,c_p2,B_p2,m_p2,d_p2,t_p2,E_p2,i_p2,e_p2,F_p2,j_p2,f_p2,rfl,p2,hh⟩
     (try replace p1:=p1.below hh);replace hb:=bend hb hh)
  | (go_at_call 32;(with_reducible refine (lawP 2 2 (by decide) (by decide) (by decide) (by decide) _).mono ?_);rintro e w_p3 ⟨s_p3,A_p3,n_p3,c_p3,B_p3,m_p3,d_p3,t_p3,E_p3,i_p3,e_p3,F_p3,j_p3,f_p3,rfl,p3,hh⟩
     (try replace p1:=p1.below hh);(try replace p2:=p2.below hh);replace hb:=bend hb hh)
  | (go_at_call 32;(with_reducible refine (lawP 0 2 (by decide) (by decide) (by decide) (by decide) _).mono ?_);rintro e w_p4 ⟨s_p4,A_p4,n_p4,c_p4,B_p4,m_p4,d_p4,t_p4,E_p4,i_p4,e_p4,F_p4,j_p4,f_p4,rfl,p4,hh⟩
     (try replace p1:=p1.below hh);(try replace p2:=p2.below hh);(try replace p3:=p3.below hh);replace hb:=bend hb hh))
 have hBL:BoxAt 29 (w_p4.alloc (Obj.cells #[Value.bool s_p1,Value.slice A_p1 n_p1 c_p1,Value.slice B_p1 m_p1 d_p1,Value.bool t_p1,Value.slice E_p1 i_p1 e_p1,Value.slice F_p1 j_p1 f_p1,Value.bool s_p2,Value.slice A_p2 n_p2 c_p2,Value.slice B_p2 m_p2 d_p2,Value.bool t_p2,Value.slice E_p2 i_p2 e_p2,Value.slice F_p2 j_p2 f_p2,Value.bool s_p3,Value.slice A_p3 n_p3 c_p3,Value.slice B_p3 m_p3 d_p3,Value.bool t_p3,Value.slice E_p3 i_p3 e_p3,Value.slice F_p3 j_p3 f_p3,Value.bool s_p4,Value.slice A_p4 n_p4 c_p4,Value.slice B_p4 m_p4 d_p4,Value.bool t_p4,Value.slice E_p4 i_p4 e_p4,Value.slice F_p4 j_p4 f_p4] 29)) w_p4.heap.size (pvs [(PV.mk s_p1 A_p1 n_p1 c_p1 B_p1 m_p1 d_p1 t_p1 E_p1 i_p1 e_p1 F_p1 j_p1 f_p1),(PV.mk s_p2 A_p2 n_p2 c_p2 B_p2 m_p2 d_p2 t_p2 E_p2 i_p2 e_p2 F_p2 j_p2 f_p2),(PV.mk s_p3 A_p3 n_p3 c_p3 B_p3 m_p3 d_p3 t_p3 E_p3 i_p3 e_p3 F_p3 j_p3 f_p3),(PV.mk s_p4 A_p4 n_p4 c_p4 B_p4 m_p4 d_p4 t_p4 E_p4 i_p4 e_p4 F_p4 j_p4 f_p4)]).toArray:=⟨heap_alloc_new w_p4 _,arr_free (pvs_free _)⟩
 have hh:Below w_p4.heap.size w_p4 (w_p4.alloc (Obj.cells #[Value.bool s_p1,Value.slice A_p1 n_p1 c_p1,Value.slice B_p1 m_p1 d_p1,Value.bool t_p1,Value.slice E_p1 i_p1 e_p1,Value.slice F_p1 j_p1 f_p1,Value.bool s_p2,Value.slice A_p2 n_p2 c_p2,Value.slice B_p2 m_p2 d_p2,Value.bool t_p2,Value.slice E_p2 i_p2 e_p2,Value.slice F_p2 j_p2 f_p2,Value.bool s_p3,Value.slice A_p3 n_p3 c_p3,Value.slice B_p3 m_p3 d_p3,Value.bool t_p3,Value.slice E_p3 i_p3 e_p3,Value.slice F_p3 j_p3 f_p3,Value.bool s_p4,Value.slice A_p4 n_p4 c_p4,Value.slice B_p4 m_p4 d_p4,Value.bool t_p4,Value.slice E_p4 i_p4 e_p4,Value.slice F_p4 j_p4 f_p4] 29)):=(Below.refl _ _).alloc (Nat.le_refl _) _
 replace p1:=p1.below hh;replace p2:=p2.below hh;replace p3:=p3.below hh;replace p4:=p4.below hh;replace hb:=bend hb hh
 have hEL:Each PV.PG (w_p4.alloc (Obj.cells #[Value.bool s_p1,Value.slice A_p1 n_p1 c_p1,Value.slice B_p1 m_p1 d_p1,Value.bool t_p1,Value.slice E_p1 i_p1 e_p1,Value.slice F_p1 j_p1 f_p1,Value.bool s_p2,Value.slice A_p2 n_p2 c_p2,Value.slice B_p2 m_p2 d_p2,Value.bool t_p2,Value.slice E_p2 i_p2 e_p2,Value.slice F_p2 j_p2 f_p2,Value.bool s_p3,Value.slice A_p3 n_p3 c_p3,Value.slice B_p3 m_p3 d_p3,Value.bool t_p3,Value.slice E_p3 i_p3 e_p3,Value.slice F_p3 j_p3 f_p3,Value.bool s_p4,Value.slice A_p4 n_p4 c_p4,Value.slice B_p4 m_p4 d_p4,Value.bool t_p4,Value.slice E_p4 i_p4 e_p4,Value.slice F_p4 j_p4 f_p4] 29)) [(PV.mk s_p1 A_p1 n_p1 c_p1 B_p1 m_p1 d_p1 t_p1 E_p1 i_p1 e_p1 F_p1 j_p1 f_p1),(PV.mk s_p2 A_p2 n_p2 c_p2 B_p2 m_p2 d_p2 t_p2 E_p2 i_p2 e_p2 F_p2 j_p2 f_p2),(PV.mk s_p3 A_p3 n_p3 c_p3 B_p3 m_p3 d_p3 t_p3 E_p3 i_p3 e_p3 F_p3 j_p3 f_p3),(PV.mk s_p4 A_p4 n_p4 c_p4 B_p4 m_p4 d_p4 t_p4 E_p4 i_p4 e_p4 F_p4 j_p4 f_p4)] sqL 1:=⟨rfl,fun i p u hp hu=>by
  match i,hp,hu with
  | 0,hp,hu=>cases hp;cases hu;exact p1
  | 1,hp,hu=>cases hp;cases hu;exact p2
  | 2,hp,hu=>cases hp;cases hu;exact p3
  | 3,hp,hu=>cases hp;cases hu;exact p4
  | i+4,hp,hu=>cases hp⟩
 have hSL:=hBL.sv
 have hLn:[(PV.mk s_p1 A_p1 n_p1 c_p1 B_p1 m_p1 d_p1 t_p1 E_p1 i_p1 e_p1 F_p1 j_p1 f_p1),(PV.mk s_p2 A_p2 n_p2 c_p2 B_p2 m_p2 d_p2 t_p2 E_p2 i_p2 e_p2 F_p2 j_p2 f_p2),(PV.mk s_p3 A_p3 n_p3 c_p3 B_p3 m_p3 d_p3 t_p3 E_p3 i_p3 e_p3 F_p3 j_p3 f_p3),(PV.mk s_p4 A_p4 n_p4 c_p4 B_p4 m_p4 d_p4 t_p4 E_p4 i_p4 e_p4 F_p4 j_p4 f_p4)].length=4:=rfl
 clear p1 p2 p3 p4 hBL hh
 generalize (w_p4.alloc (Obj.cells #[Value.bool s_p1,Value.slice A_p1 n_p1 c_p1,Value.slice B_p1 m_p1 d_p1,Value.bool t_p1,Value.slice E_p1 i_p1 e_p1,Value.slice F_p1 j_p1 f_p1,Value.bool s_p2,Value.slice A_p2 n_p2 c_p2,Value.slice B_p2 m_p2 d_p2,Value.bool t_p2,Value.slice E_p2 i_p2 e_p2,Value.slice F_p2 j_p2 f_p2,Value.bool s_p3,Value.slice A_p3 n_p3 c_p3,Value.slice B_p3 m_p3 d_p3,Value.bool t_p3,Value.slice E_p3 i_p3 e_p3,Value.slice F_p3 j_p3 f_p3,Value.bool s_p4,Value.slice A_p4 n_p4 c_p4,Value.slice B_p4 m_p4 d_p4,Value.bool t_p4,Value.slice E_p4 i_p4 e_p4,Value.slice F_p4 j_p4 f_p4] 29))=W1 at *
 generalize w_p4.heap.size=gL at *
 generalize [(PV.mk s_p1 A_p1 n_p1 c_p1 B_p1 m_p1 d_p1 t_p1 E_p1 i_p1 e_p1 F_p1 j_p1 f_p1),(PV.mk s_p2 A_p2 n_p2 c_p2 B_p2 m_p2 d_p2 t_p2 E_p2 i_p2 e_p2 F_p2 j_p2 f_p2),(PV.mk s_p3 A_p3 n_p3 c_p3 B_p3 m_p3 d_p3 t_p3 E_p3 i_p3 e_p3 F_p3 j_p3 f_p3),(PV.mk s_p4 A_p4 n_p4 c_p4 B_p4 m_p4 d_p4 t_p4 E_p4 i_p4 e_p4 F_p4 j_p4 f_p4)]=LL at *
 go_upto_region 4 with (first
  | (go_at_call 32;(with_reducible refine (lawP 0 0 (by decide) (by decide) (by decide) (by decide) _).mono ?_);rintro e w_p1 ⟨s_p1,A_p1,n_p1,c_p1,B_p1,m_p1,d_p1,t_p1,E_p1,i_p1,e_p1,F_p1,j_p1,f_p1,rfl,p1,hh⟩
     (try replace hSL:=hSL.below hh);(try replace hEL:=hEL.below hh);replace hb:=bend hb hh)
  | (go_at_call 32;(with_reducible refine (lawP 2 2 (by decide) (by decide) (by decide) (by decide) _).mono ?_);rintro e w_p2 ⟨s_p2,A_p2,n_p2,c_p2,B_p2,m_p2,d_p2,t_p2,E_p2,i_p2,e_p2,F_p2,j_p2,f_p2,rfl,p2,hh⟩
     (try replace hSL:=hSL.below hh);(try replace hEL:=hEL.below hh);(try replace p1:=p1.below hh);replace hb:=bend hb hh)
  | (go_at_call 23;(with_reducible refine (half_p (k:=1) (k2:=1) (ka:=13) hSL (Each.pr hEL) p1.pr p2.pr hLn (by decide) (by decide) (by decide) (by decide) (by decide) (by decide) (by decide) (by decide)).mono ?_);rintro e w_h ⟨v_h,M,rfl,hLh,hEh,hh⟩
     (try replace hSL:=hSL.below hh);(try replace hEL:=hEL.below hh);replace hb:=bend hb hh;clear p1 p2))
 rw [wk8_half] at hEh;have hEH:=Each.fit hEh wk8_bl
 obtain ⟨A_h,c_h,rfl,hch,_⟩:=hLh.form
 have hMn:M.length=3:=hEh.1
 rw [hMn] at hLh hch ⊢
 have hSH:=hLh.sv;clear hEh hLh
 go_upto_region 5 with (first
  | (go_at_call 11;(with_reducible refine (box_p hSL (Each.pr hEL) hLn (by decide) (by decide) (by decide) (by decide) (by decide)).mono ?_);rintro e w_b ⟨x0,y0,x1,y1,⟨s_p,A_p,n_p,c_p,B_p,m_p,d_p,t_p,E_p,i_p,e_p,F_p,j_p,f_p⟩,⟨s_q,A_q,n_q,c_q,B_q,m_q,d_q,t_q,E_q,i_q,e_q,F_q,j_q,f_q⟩,hbx,rfl,p,q,hh⟩
     (try replace hSL:=hSL.below hh);(try replace hEL:=hEL.below hh);(try replace hSH:=hSH.below hh);(try replace hEH:=hEH.below hh);replace hb:=bend hb hh
     obtain ⟨rfl,rfl,rfl,rfl⟩:=isBox_one hbx wk8_box
     replace p:PG w_b s_p A_p n_p c_p B_p m_p d_p t_p E_p i_p e_p F_p j_p f_p (Rat.divInt 0 1) (Rat.divInt 0 1) 3:=p
     replace q:PG w_b s_q A_q n_q c_q B_q m_q d_q t_q E_q i_q e_q F_q j_q f_q (Rat.divInt 2 1) (Rat.divInt 2 1) 3:=q
     clear hbx))
 generalize hW:World.alloc _ _=W2
 obtain ⟨hh,XA,XB,hzW2⟩:=mkbx24_10 hW;clear hW;(try replace hSL:=hSL.below hh);(try replace hEL:=hEL.below hh);(try replace hSH:=hSH.below hh);(try replace hEH:=hEH.below hh);(try replace p:=p.below hh);(try replace q:=q.below hh);replace hb:=bend hb hh
 replace hSL:=hSL.below (Below.refl _ _).drew
 replace hEL:=hEL.below (Below.refl _ _).drew
 replace hSH:=hSH.below (Below.refl _ _).drew
 replace hEH:=hEH.below (Below.refl _ _).drew
 replace p:=p.below (Below.refl _ _).drew
 replace q:=q.below (Below.refl _ _).drew
 replace XA:=XA.below (Below.refl _ _).drew
 replace XB:=XB.below (Below.refl _ _).drew
 replace hb:=hb.drew
 go_region_held3 (fun w'=>w'.cell? ⟨w_b.heap.size,0,none⟩=some (.bool s_p)∧w'.cell? ⟨w_b.heap.size,1,none⟩=some (.slice A_p n_p c_p)∧w'.cell? ⟨w_b.heap.size,2,none⟩=some (.slice B_p m_p d_p)∧w'.cell? ⟨w_b.heap.size,3,none⟩=some (.bool t_p)∧w'.cell? ⟨w_b.heap.size,4,none⟩=some (.slice E_p i_p e_p)∧w'.cell? ⟨w_b.heap.size,5,none⟩=some (.slice F_p j_p f_p)∧w'.cell? ⟨w_b.heap.size+1,0,none⟩=some (.bool s_q)∧w'.cell? ⟨w_b.heap.size+1,1,none⟩=some (.slice A_q n_q c_q)∧w'.cell? ⟨w_b.heap.size+1,2,none⟩=some (.slice B_q m_q d_q)∧w'.cell? ⟨w_b.heap.size+1,3,none⟩=some (.bool t_q)∧w'.cell? ⟨w_b.heap.size+1,4,none⟩=some (.slice E_q i_q e_q)∧w'.cell? ⟨w_b.heap.size+1,5,none⟩=some (.slice F_q j_q f_q))
  (first | with_reducible exact ⟨XA.c0,XA.c1,XA.c2,XA.c3,XA.c4,XA.c5,XB.c0,XB.c1,XB.c2,XB.c3,XB.c4,XB.c5⟩)
  (first
  | (go_at_call 15;(with_reducible refine (area_p hSL (Each.pr hEL) hLn (by decide) (by decide) (by decide) (by decide) (by decide)).mono ?_);rintro e w_a ⟨s_a,A_a,n_a,c_a,B_a,m_a,d_a,rfl,a,hh⟩
     (try replace hSL:=hSL.below hh);(try replace hEL:=hEL.below hh);(try replace hSH:=hSH.below hh);(try replace hEH:=hEH.below hh);(try replace p:=p.below hh);(try replace q:=q.below hh);(try replace XA:=XA.below hh);(try replace XB:=XB.below hh);replace hb:=bend hb hh)
  | (go_at_call 15;(with_reducible refine (area_p hSH (Each.pr hEH) hMn (by decide) hch (by decide) (by decide) (by decide)).mono ?_);rintro e w_r ⟨s_r,A_r,n_r,c_r,B_r,m_r,d_r,rfl,r,hh⟩
     (try replace hSL:=hSL.below hh);(try replace hEL:=hEL.below hh);(try replace hSH:=hSH.below hh);(try replace hEH:=hEH.below hh);(try replace p:=p.below hh);(try replace q:=q.below hh);(try replace XA:=XA.below hh);(try replace XB:=XB.below hh);replace hb:=bend hb hh)
  | (go_at_call 33;(with_reducible refine (rtext_q a.qr (by decide) (by decide)).mono ?_);rintro e w_z ⟨rfl,hh⟩
     rw [wk8_t4];(try replace hSL:=hSL.below hh);(try replace hEL:=hEL.below hh);(try replace hSH:=hSH.below hh);(try replace hEH:=hEH.below hh);(try replace p:=p.below hh);(try replace q:=q.below hh);(try replace XA:=XA.below hh);(try replace XB:=XB.below hh);replace hb:=bend hb hh;clear a)
  | (go_at_call 33;(with_reducible refine (rtext_q r.qr (by decide) (by decide)).mono ?_);rintro e w_z ⟨rfl,hh⟩
     rw [wk8_t2];(try replace hSL:=hSL.below hh);(try replace hEL:=hEL.below hh);(try replace hSH:=hSH.below hh);(try replace hEH:=hEH.below hh);(try replace p:=p.below hh);(try replace q:=q.below hh);(try replace XA:=XA.below hh);(try replace XB:=XB.below hh);replace hb:=bend hb hh;clear r)
  | (go_at_call 17;(with_reducible refine (convex_p hSL (Each.pr hEL) hLn (by decide) (by decide) (by decide) (by decide) true wk8_conv).mono ?_);rintro e w_z ⟨rfl,hh⟩
     (try replace hSL:=hSL.below hh);(try replace hEL:=hEL.below hh);(try replace hSH:=hSH.below hh);(try replace hEH:=hEH.below hh);(try replace p:=p.below hh);(try replace q:=q.below hh);(try replace XA:=XA.below hh);(try replace XB:=XB.below hh);replace hb:=bend hb hh)
  | (go_at_call 32;(with_reducible refine (lawP 1 1 (by decide) (by decide) (by decide) (by decide) _).mono ?_);rintro e w_t1 ⟨s_t1,A_t1,n_t1,c_t1,B_t1,m_t1,d_t1,t_t1,E_t1,i_t1,e_t1,F_t1,j_t1,f_t1,rfl,t1,hh⟩
     (try replace hSL:=hSL.below hh);(try replace hEL:=hEL.below hh);(try replace hSH:=hSH.below hh);(try replace hEH:=hEH.below hh);(try replace p:=p.below hh);(try replace q:=q.below hh);(try replace XA:=XA.below hh);(try replace XB:=XB.below hh);replace hb:=bend hb hh)
  | (go_at_call 32;(with_reducible refine (lawP 3 1 (by decide) (by decide) (by decide) (by decide) _).mono ?_);rintro e w_t2 ⟨s_t2,A_t2,n_t2,c_t2,B_t2,m_t2,d_t2,t_t2,E_t2,i_t2,e_t2,F_t2,j_t2,f_t2,rfl,t2,hh⟩
     (try replace hSL:=hSL.below hh);(try replace hEL:=hEL.below hh);(try replace hSH:=hSH.below hh);(try replace hEH:=hEH.below hh);(try replace p:=p.below hh);(try replace q:=q.below hh);(try replace XA:=XA.below hh);(try replace XB:=XB.below hh);replace hb:=bend hb hh)
  | (go_at_call 32;(with_reducible refine (lawP 0 0 (by decide) (by decide) (by decide) (by decide) _).mono ?_);rintro e w_t3 ⟨s_t3,A_t3,n_t3,c_t3,B_t3,m_t3,d_t3,t_t3,E_t3,i_t3,e_t3,F_t3,j_t3,f_t3,rfl,t3,hh⟩
     (try replace hSL:=hSL.below hh);(try replace hEL:=hEL.below hh);(try replace hSH:=hSH.below hh);(try replace hEH:=hEH.below hh);(try replace p:=p.below hh);(try replace q:=q.below hh);(try replace XA:=XA.below hh);(try replace XB:=XB.below hh);replace hb:=bend hb hh)
  | (go_at_call 32;(with_reducible refine (lawP 2 2 (by decide) (by decide) (by decide) (by decide) _).mono ?_);rintro e w_t4 ⟨s_t4,A_t4,n_t4,c_t4,B_t4,m_t4,d_t4,t_t4,E_t4,i_t4,e_t4,F_t4,j_t4,f_t4,rfl,t4,hh⟩
     (try replace hSL:=hSL.below hh);(try replace hEL:=hEL.below hh);(try replace hSH:=hSH.below hh);(try replace hEH:=hEH.below hh);(try replace p:=p.below hh);(try replace q:=q.below hh);(try replace XA:=XA.below hh);(try replace XB:=XB.below hh);replace hb:=bend hb hh)
  | (go_at_call 19;(with_reducible refine (has_p hSL (Each.pr hEL) t1.pr hLn (by decide) (by decide) (by decide) (by decide) true wk8_has1).mono ?_);rintro e w_z ⟨rfl,hh⟩
     (try replace hSL:=hSL.below hh);(try replace hEL:=hEL.below hh);(try replace hSH:=hSH.below hh);(try replace hEH:=hEH.below hh);(try replace p:=p.below hh);(try replace q:=q.below hh);(try replace XA:=XA.below hh);(try replace XB:=XB.below hh);replace hb:=bend hb hh;clear t1)
  | (go_at_call 19;(with_reducible refine (has_p hSL (Each.pr hEL) t2.pr hLn (by decide) (by decide) (by decide) (by decide) false wk8_has2).mono ?_);rintro e w_z ⟨rfl,hh⟩
     (try replace hSL:=hSL.below hh);(try replace hEL:=hEL.below hh);(try replace hSH:=hSH.below hh);(try replace hEH:=hEH.below hh);(try replace p:=p.below hh);(try replace q:=q.below hh);(try replace XA:=XA.below hh);(try replace XB:=XB.below hh);replace hb:=bend hb hh;clear t2)
  | (go_at_call 34;(with_reducible refine (psame_p p.pr t3.pr (by decide) (by decide) (by decide) (by decide) true wk8_s0).mono ?_);rintro e w_z ⟨rfl,hh⟩
     (try replace hSL:=hSL.below hh);(try replace hEL:=hEL.below hh);(try replace hSH:=hSH.below hh);(try replace hEH:=hEH.below hh);(try replace p:=p.below hh);(try replace q:=q.below hh);(try replace XA:=XA.below hh);(try replace XB:=XB.below hh);replace hb:=bend hb hh;clear t3)
  | (go_at_call 34;(with_reducible refine (psame_p q.pr t4.pr (by decide) (by decide) (by decide) (by decide) true wk8_s2).mono ?_);rintro e w_z ⟨rfl,hh⟩
     (try replace hSL:=hSL.below hh);(try replace hEL:=hEL.below hh);(try replace hSH:=hSH.below hh);(try replace hEH:=hEH.below hh);(try replace p:=p.below hh);(try replace q:=q.below hh);(try replace XA:=XA.below hh);(try replace XB:=XB.below hh);replace hb:=bend hb hh;clear t4))
 go_wp2_with fail
 go_ret;exact ⟨rfl,hb⟩
end
section
open Go Go.RowKit
structure LV where
 s:Bool
 a:List Nat
 b:List Nat
 t:Bool
 c:List Nat
 d:List Nat
def PV.Lims (w:World) (p:PV) (q:LV):Prop:=p.s=q.s∧p.t=q.t∧(Rd .u64 w p.A p.n q.a∧p.n≤p.c)∧(Rd .u64 w p.B p.m q.b∧p.m≤p.d)∧(Rd .u64 w p.E p.i q.c∧p.i≤p.e)∧(Rd .u64 w p.F p.j q.d∧p.j≤p.f)
theorem PV.Lims.below {w w':World} {p:PV} {q:LV} (h:p.Lims w q) (hb:Below w.heap.size w w'):p.Lims w' q :=
 ⟨h.1,h.2.1,⟨h.2.2.1.1.below hb,h.2.2.1.2⟩,⟨h.2.2.2.1.1.below hb,h.2.2.2.1.2⟩,⟨h.2.2.2.2.1.1.below hb,h.2.2.2.2.1.2⟩,⟨h.2.2.2.2.2.1.below hb,h.2.2.2.2.2.2⟩⟩
theorem PV.Lims.box {T:TypeId} {g:Nat} {cs:Array Value} {w w':World} {p:PV} {q:LV} (h:p.Lims w q) (B:BoxAt T w g cs) (ho:Only g w w'):p.Lims w' q :=
 ⟨h.1,h.2.1,⟨h.2.2.1.1.only (B.offx h.2.2.1.1) ho,h.2.2.1.2⟩,⟨h.2.2.2.1.1.only (B.offx h.2.2.2.1.1) ho,h.2.2.2.1.2⟩,⟨h.2.2.2.2.1.1.only (B.offx h.2.2.2.2.1.1) ho,h.2.2.2.2.1.2⟩,⟨h.2.2.2.2.2.1.only (B.offx h.2.2.2.2.2.1) ho,h.2.2.2.2.2.2⟩⟩
def EachL (w:World) (L:List PV) (l:List LV):Prop:=L.length=l.length∧∀ (i:Nat) (p:PV) (q:LV),L[i]?=some p→l[i]?=some q→p.Lims w q
theorem EachL.nil:EachL w [] []:=⟨rfl,fun i p u h=>by cases h⟩
theorem EachL.imp {w w':World} {L:List PV} {l:List LV} (h:EachL w L l) (hw:∀ (p:PV) (q:LV),p.Lims w q→p.Lims w' q):EachL w' L l:=⟨h.1,fun i p u hp hu=>hw _ _ (h.2 i p u hp hu)⟩
theorem EachL.below {w w':World} {L:List PV} {l:List LV} (h:EachL w L l) (hb:Below w.heap.size w w'):EachL w' L l:=h.imp fun _ _ hp=>hp.below hb
theorem EachL.at_ {L:List PV} {l:List LV} (h:EachL w L l) {i:Nat} (hi:i < L.length):∃ p q,L[i]?=some p∧l[i]?=some q∧p.Lims w q :=
 ⟨_,_,List.getElem?_eq_getElem hi,List.getElem?_eq_getElem (by rw [← h.1];exact hi),h.2 i _ _ (List.getElem?_eq_getElem hi) (List.getElem?_eq_getElem (by rw [← h.1];exact hi))⟩
theorem EachL.push {w w':World} {L:List PV} {l:List LV} {p:PV} {q:LV} (h:EachL w L l) (hw:∀ (p:PV) (q:LV),p.Lims w q→p.Lims w' q) (hp:p.Lims w' q):EachL w' (L ++ [p]) (l ++ [q]):=by
 refine ⟨by rw [List.length_append,List.length_append,h.1];rfl,fun i r v hr hv=>?_⟩
 rcases Nat.lt_or_ge i L.length with hi | hi
 · rw [List.getElem?_append_left hi] at hr
   rw [List.getElem?_append_left (by rw [← h.1];exact hi)] at hv
   exact hw _ _ (h.2 i r v hr hv)
 · rw [List.getElem?_append_right hi] at hr
   rw [List.getElem?_append_right (by rw [← h.1];exact hi),← h.1] at hv
   match i - L.length,hr,hv with
   | 0,hr,hv=>cases hr;cases hv;exact hp
   | j+1,hr,hv=>cases hr
theorem EachL.take {M:List PV} {l:List LV} {m:Nat} {P:PV} {u:LV} (hu:l[m]?=some u) (h:EachL w (M ++ [P]) (l.take m ++ [u])):EachL w (M ++ [P]) (l.take (m+1)):=by
 obtain ⟨hm,hv⟩:=List.getElem?_eq_some_iff.1 hu
 rwa [List.take_succ_eq_append_getElem hm,hv]
theorem lims_stay {T:TypeId} {base:Nat} {w w':World} {v:Value} {M:List PV} (hn:Ln T base w v M) (hg:w.grownBy w' v.ownBlock):∀ (p:PV) (q:LV),p.Lims w q→p.Lims w' q:=fun p q hp=>by
 rcases hn.stays hg with h | ⟨g,cs,hB,_,ho⟩
 · exact hp.below h
 · exact hp.box hB ho
def PV.Nils (p:PV):Prop:=(p.A=none→p.c=0)∧(p.B=none→p.d=0)∧(p.E=none→p.e=0)∧(p.F=none→p.f=0)
def GivesLL (w:World) (l:List LV) (en:Ending) (w':World):Prop :=
 ∃ v L,en=.returned v∧Ln 29 w.heap.size w' v L∧EachL w' L l∧Below w.heap.size w w'
theorem raw_lims {p:PV} (h:p.Raw w):∃ q,p.Lims w q∧Lim B64 q.a∧Lim B64 q.b∧Lim B64 q.c∧Lim B64 q.d∧p.Nils:=by
 obtain ⟨z1,z2,z3,z4,h1,h2,h3,h4⟩:=h
 obtain ⟨l1,r1,t1,e1,_⟩:=h1.rd
 obtain ⟨l2,r2,t2,e2,_⟩:=h2.rd
 obtain ⟨l3,r3,t3,e3,_⟩:=h3.rd
 obtain ⟨l4,r4,t4,e4,_⟩:=h4.rd
 exact ⟨⟨p.s,l1,l2,p.t,l3,l4⟩,⟨rfl,rfl,⟨r1,e1⟩,⟨r2,e2⟩,⟨r3,e3⟩,⟨r4,e4⟩⟩,t1,t2,t3,t4,h1.nil,h2.nil,h3.nil,h4.nil⟩
theorem klinL {A:Option Addr} {n c:Nat} {L:List PV} {l:List LV} (hL:SV w A (pvs L)) (hE:EachL w L l) (hz:∀ p ∈ L,p.Nils) (hs:∀ p ∈ L,p.small 100000) (hn:L.length=n) (hm:n≤1000) :
 Calls Tryz.prog 10 #[.slice A n c] w (GivesLL w l):=by
 have HN:=Lib.hid hn
 have HLl:Hid (l.length=n):=hE.1.symm.trans hn
 have HL9:=Lib.hid hL;have E9:=Lib.hid hE;have HZ:=Lib.hid hz;have HS:=Lib.hid hs;clear hL hE hn hz hs
 go_enter Tryz.func10,Tryz.ntmps10
 go_wp2_with fail
 go_loopg [3,4] n (fun gk out ix wr=>∃ (M:List PV) (m:Nat),Hid (gk+m=n)∧ix=.int .i64 (m:Int)∧Ln 29 w.heap.size wr out M∧Hid (EachL wr M (l.take m))∧Below w.heap.size w wr)
 case atStart=>exact ⟨[],0,Nat.add_zero _,rfl,Ln.nil _ _ _,EachL.nil,Below.refl _ _⟩
 case round =>
  obtain ⟨M,m,HG,rfl,LT,HQ,hB⟩:=hrel
  by_cases hmn:m < n
  · obtain ⟨P,u,hP1,hu1,p0⟩:=(E9.out.below hB).at_ (i:=m) (by rw [HN.out];exact hmn)
    obtain ⟨g0,o0,hix0,EP,_⟩:=(HL9.out.below hB).pt hP1
    have hixa:∀ w',(Instr.indexAt 22 (.slice A n c) (.int .i64 (m:Int))).run Tryz.prog w'=.ok (.pointer (some ⟨g0,o0,none⟩)) w':=fun w'=>hix0 n c w' hmn
    have hlt:(m:Int) < (n:Int):=by omega
    have hwr:IntKind.i64.wrap ((m:Int)+1)=(m:Int)+1:=IntWalk.i64_in _ (by omega)
    have HU:=Lib.hid hu1
    have hMl:M.length≤1000000:=by have:=HQ.out.1;rw [List.length_take] at this;omega
    have HZ1:=Lib.hid (HZ.out P (List.mem_of_getElem? hP1))
    have HS1:=Lib.hid (HS.out P (List.mem_of_getElem? hP1))
    obtain ⟨s_x,A_x,n_x,c_x,B_x,m_x,d_x,t_x,E_x,i_x,e_x,F_x,j_x,f_x⟩:=P
    obtain ⟨sq,la,lb,tq,lc,ld⟩:=u
    obtain ⟨rfl,rfl,pa,pb,pc,pd⟩:=p0
    have PA:=Lib.hid pa;have PB:=Lib.hid pb;have PC:=Lib.hid pc;have PD:=Lib.hid pd;obtain ⟨e0,e1,e2,e3,e4,e5⟩:=EP.all
    simp only at e0 e1 e2 e3 e4 e5
    have hb:=hB;have HMN:=Lib.hid hmn;clear hP1 hu1 hix0 hmn pa pb pc pd
    go_wp2_with (first
     | (go_at_call 35;(refine (keepPt_any PA.out.1 PB.out.1 PC.out.1 PD.out.1 HZ1.out.1 HZ1.out.2.1 HZ1.out.2.2.1 HZ1.out.2.2.2 ⟨HS1.out.1.1,HS1.out.1.2,HS1.out.2.1,HS1.out.2.2⟩).mono ?_);rintro e w_y ⟨A_y,n_y,c_y,B_y,m_y,d_y,E_y,i_y,e_y,F_y,j_y,f_y,rfl,ya,yb,yc,yd,hh⟩
        have Y:((PV.mk s_x A_y n_y c_y B_y m_y d_y t_x E_y i_y e_y F_y j_y f_y)).Lims w_y ⟨s_x,la,lb,t_x,lc,ld⟩:=⟨rfl,rfl,ya,yb,yc,yd⟩
        have Y9:=Lib.hid Y;clear Y ya yb yc yd;replace LT:=LT.below hh
        replace HQ:=Lib.hid (EachL.below HQ.out hh)
        replace hb:=bend hb hh)
     | (at_builtin
        have hal:Below w_y.heap.size w_y (w_y.alloc (Obj.cells #[Value.bool s_x,Value.slice A_y n_y c_y,Value.slice B_y m_y d_y,Value.bool t_x,Value.slice E_y i_y e_y,Value.slice F_y j_y f_y] 29)):=(Below.refl _ _).alloc (Nat.le_refl _) _
        refine wpList_push Tryz.underlying22 info_pt rfl (.tmp 11) (.tmp 17) rfl (p:=(PV.mk s_x A_y n_y c_y B_y m_y d_y t_x E_y i_y e_y F_y j_y f_y)) (k0:=1) (b:=w_y.heap.size) rfl rfl (LT.below hal) (Nat.le_trans hb.size hal.size) hMl (heap_alloc_new w_y _) ?_
        intro v3 w3 hn3 hg3))
    have hE3:=EachL.below HQ.out hal;have hp3:=Y9.out.below hal
    have hst:=lims_stay (LT.below hal) hg3
    have hB9:=Ln.under (LT.below hal) hg3 (bend hb hal) (Nat.le_refl _)
    go_roundg (gk - 1)
    case measure=>have:=HG.out;have:=HMN.out;omega
    case rel=>exact ⟨_,m+1,by have:=HG.out;have:=HMN.out;show _=_;omega,by go_num,hn3,EachL.take HU.out (EachL.push hE3 hst (hst _ _ hp3)),hB9⟩
  · have hlt:¬ (m:Int) < (n:Int):=by omega
    have HQ2:Hid (EachL wr M l):=by
     have h:=HQ.out
     rwa [List.take_of_length_le (by rw [HLl.out];omega)] at h
    clear hmn
    go_wp2_with fail
    (try rw [Exit.noGoto_ret])
    go_ret
    exact ⟨_,M,rfl,LT,HQ2.out,hB⟩
theorem pts_lims {P Q:PV} {v:LV} (h:P.Lims w v) (h2:Q.Lims w v) (hs:P.small 100000) :
 Calls Tryz.prog 43 #[.agg #[.bool P.s,.slice P.A P.n P.c,.slice P.B P.m P.d,.bool P.t,.slice P.E P.i P.e,.slice P.F P.j P.f],.agg #[.bool Q.s,.slice Q.A Q.n Q.c,.slice Q.B Q.m Q.d,.bool Q.t,.slice Q.E Q.i Q.e,.slice Q.F Q.j Q.f]] w fun e w'=>e=.returned (.bool true)∧Below w.heap.size w w':=by
 obtain ⟨s1,t1,a1,b1,c1,d1⟩:=h
 obtain ⟨s2,t2,a2,b2,c2,d2⟩:=h2
 have M:100000≤maxLen:=by decide
 refine (pts_t (s_p:=P.s) (s_q:=Q.s) a1.1 b1.1 c1.1 d1.1 a2.1 b2.1 c2.1 d2.1 ⟨Nat.le_trans hs.1.1 M,Nat.le_trans hs.1.2 M,Nat.le_trans hs.2.1 M,Nat.le_trans hs.2.2 M⟩ (by rw [s1,s2];simp)).mono ?_
 rintro e w' ⟨rfl,hh⟩
 exact ⟨by rw [t1,t2];simp,hh⟩
theorem lines_lims {A B:Option Addr} {n c d:Nat} {La Lb:List PV} {l:List LV} (hA:SV w A (pvs La)) (hB0:SV w B (pvs Lb)) (ea:EachL w La l) (eb:EachL w Lb l) (hs:∀ p ∈ La,p.small 100000) (hn:La.length=n) (hm:n≤1000) :
 Calls Tryz.prog 22 #[.slice A n c,.slice B n d] w fun e w'=>e=.returned (.bool true)∧Below w.heap.size w w':=by
 have H1:=Lib.hid hn
 have H2:Hid (Lb.length=n):=eb.1.trans (ea.1.symm.trans hn)
 have HA:=Lib.hid hA;have HB:=Lib.hid hB0;have EA:=Lib.hid ea;have EB:=Lib.hid eb;have HS:=Lib.hid hs;clear hn hA hB0 ea eb hs
 go_enter Tryz.func22,Tryz.ntmps22
 go_wp2_with fail
 go_loopg [5] n (fun gk ix wr=>∃ m:Nat,Hid (gk+m=n)∧ix=.int .i64 (m:Int)∧Below w.heap.size w wr)
 case atStart=>exact ⟨0,Nat.add_zero _,rfl,Below.refl _ _⟩
 case round =>
  obtain ⟨m,HG,rfl,hB⟩:=hrel
  by_cases hmn:m < n
  · have HMN:=Lib.hid hmn
    obtain ⟨P,u,hP,hu,x⟩:=(EA.out.below hB).at_ (i:=m) (by rw [H1.out];exact hmn)
    obtain ⟨Q,u2,hQ,hu2,y⟩:=(EB.out.below hB).at_ (i:=m) (by rw [H2.out];exact hmn)
    obtain rfl:u=u2:=Option.some.inj (hu.symm.trans hu2)
    obtain ⟨g0,o0,hix0,EP,_⟩:=(HA.out.below hB).pt hP
    obtain ⟨g1,o1,hix1,EQ,_⟩:=(HB.out.below hB).pt hQ
    have hixa:∀ w',(Instr.indexAt 22 (.slice A n c) (.int .i64 (m:Int))).run Tryz.prog w'=.ok (.pointer (some ⟨g0,o0,none⟩)) w':=fun w'=>hix0 n c w' hmn
    have hixb:∀ w',(Instr.indexAt 22 (.slice B n d) (.int .i64 (m:Int))).run Tryz.prog w'=.ok (.pointer (some ⟨g1,o1,none⟩)) w':=fun w'=>hix1 n d w' hmn
    have hlt:(m:Int) < (n:Int):=by omega
    have hwr:IntKind.i64.wrap ((m:Int)+1)=(m:Int)+1:=IntWalk.i64_in _ (by omega)
    have HS1:=Lib.hid (HS.out P (List.mem_of_getElem? hP))
    have X:=Lib.hid x;have Y:=Lib.hid y;have hb:=hB;clear hP hQ hu hu2 hix0 hix1 hmn x y
    go_upto_region 6 with (fail)
    replace X:=Lib.hid (X.out.below (Below.refl _ _).drew)
    replace Y:=Lib.hid (Y.out.below (Below.refl _ _).drew)
    replace EP:=EP.below (Below.refl _ _).drew
    replace EQ:=EQ.below (Below.refl _ _).drew
    replace hb:=hb.drew
    go_region_held3 (fun w'=>w'.cell? ⟨g0,o0,none⟩=some (.bool P.s)∧w'.cell? ⟨g0,o0+1,none⟩=some (.slice P.A P.n P.c)∧w'.cell? ⟨g0,o0+2,none⟩=some (.slice P.B P.m P.d)∧w'.cell? ⟨g0,o0+3,none⟩=some (.bool P.t)∧w'.cell? ⟨g0,o0+4,none⟩=some (.slice P.E P.i P.e)∧w'.cell? ⟨g0,o0+5,none⟩=some (.slice P.F P.j P.f)∧w'.cell? ⟨g1,o1,none⟩=some (.bool Q.s)∧w'.cell? ⟨g1,o1+1,none⟩=some (.slice Q.A Q.n Q.c)∧w'.cell? ⟨g1,o1+2,none⟩=some (.slice Q.B Q.m Q.d)∧w'.cell? ⟨g1,o1+3,none⟩=some (.bool Q.t)∧w'.cell? ⟨g1,o1+4,none⟩=some (.slice Q.E Q.i Q.e)∧w'.cell? ⟨g1,o1+5,none⟩=some (.slice Q.F Q.j Q.f))
     (first | with_reducible exact ⟨EP.c0,EP.c1,EP.c2,EP.c3,EP.c4,EP.c5,EQ.c0,EQ.c1,EQ.c2,EQ.c3,EQ.c4,EQ.c5⟩)
     (first
     | (go_at_call 43;(with_reducible refine (pts_lims X.out Y.out HS1.out).mono ?_);rintro e w_z ⟨rfl,hh⟩
        (try replace EP:=EP.below hh);(try replace EQ:=EQ.below hh);replace hb:=bend hb hh))
    go_wp2_with fail
    go_roundg (gk - 1)
    case measure=>have:=HG.out;have:=HMN.out;omega
    case rel=>exact ⟨m+1,by have:=HG.out;have:=HMN.out;show _=_;omega,by go_num,hb⟩
  · have hlt:¬ (m:Int) < (n:Int):=by omega
    clear hmn
    go_wp2_with fail
    go_ret
    exact ⟨rfl,hB⟩
end
section
open Go Go.RowKit
theorem fair8h_t {A:Option Addr} {n c N:Nat} {NI:Int} (hNI:NI=(N:Int)) {L:List PV} (hL:SV w A (pvs L)) (hn:L.length=n) (hm:N≤100000) (hnc:n≤c) (hN:n≤N) (h:∀ p ∈ L,p.small 4) :
 Calls Tryz.prog 6 #[.slice A n c,.int .i64 NI] w fun e w'=>e=.returned (.bool true)∧Below w.heap.size w w':=fair8_y hNI hL hn hm hnc hN true ⟨fun _=>h,fun _=>rfl⟩
theorem fair8h_f {A:Option Addr} {n c N:Nat} {NI:Int} (hNI:NI=(N:Int)) {L:List PV} (hL:SV w A (pvs L)) (hn:L.length=n) (hm:N≤100000) (hnc:n≤c) (hN:n≤N) (h:¬ ∀ p ∈ L,p.small 4) :
 Calls Tryz.prog 6 #[.slice A n c,.int .i64 NI] w fun e w'=>e=.returned (.bool false)∧Below w.heap.size w w':=fair8_y hNI hL hn hm hnc hN false ⟨fun e=>by (cases e),fun e=>absurd e h⟩
def LV.ok (q:LV):Prop:=(Lim B64 q.a∧Lim B64 q.b∧Lim B64 q.c∧Lim B64 q.d)∧(q.a.length≤4∧q.b.length≤4)∧q.c.length≤4∧q.d.length≤4
def LV.val (q:LV):Rat × Rat:=(mkRat (iv q.s (Go.Proofs.YtlogpjeoapeojaaGreat.val B64 q.a)) (den1 (Go.Proofs.YtlogpjeoapeojaaGreat.val B64 q.b)),mkRat (iv q.t (Go.Proofs.YtlogpjeoapeojaaGreat.val B64 q.c)) (den1 (Go.Proofs.YtlogpjeoapeojaaGreat.val B64 q.d)))
theorem PV.Lims.pr {p:PV} {q:LV} (h:p.Lims w q) (ho:q.ok):p.PR w q.val 4:=by
 obtain ⟨h1,h2,⟨ra,ea⟩,⟨rb,eb⟩,⟨rc,ec⟩,⟨rd,ed⟩⟩:=h
 obtain ⟨⟨la,lb,lc,ld⟩,⟨na,nb⟩,nc,nd⟩:=ho
 have xa:=ra.1;have xb:=rb.1;have xc:=rc.1;have xd:=rd.1
 obtain ⟨s,A,n,c,B,m,d,t,E,i,e,F,j,f⟩:=p
 obtain rfl:s=q.s:=h1
 obtain rfl:t=q.t:=h2
 exact ⟨QR.of_rd ra la ea rb lb eb (Nat.le_trans (Nat.le_of_eq xa.symm) na) (Nat.le_trans (Nat.le_of_eq xb.symm) nb),QR.of_rd rc lc ec rd ld ed (Nat.le_trans (Nat.le_of_eq xc.symm) nc) (Nat.le_trans (Nat.le_of_eq xd.symm) nd)⟩
theorem EachL.pr {L:List PV} {l:List LV} (h:EachL w L l) (ho:∀ q ∈ l,q.ok):Each PV.PR w L (l.map LV.val) 4 :=
 ⟨by rw [List.length_map];exact h.1,fun i p u hp hu=>by
  rw [List.getElem?_map] at hu
  cases hq:l[i]? with
  | none=>rw [hq] at hu;cases hu
  | some q =>
    rw [hq] at hu
    obtain rfl:q.val=u:=by simpa using hu
    exact (h.2 i p q hp hq).pr (ho q (List.mem_of_getElem? hq))⟩
theorem lims_each:∀ {L:List PV},(∀ q ∈ L,q.Raw w)→(∀ q ∈ L,q.small 4)→∃ l:List LV,EachL w L l∧(∀ q ∈ l,q.ok)∧∀ p ∈ L,p.Nils
 | [],_,_=>⟨[],EachL.nil,(fun q h=>by cases h),(fun q h=>by cases h)⟩
 | p :: L,hR,hS=>by
   obtain ⟨l,h1,h2,h3⟩:=lims_each (L:=L) (fun q h=>hR q (List.mem_cons_of_mem _ h)) (fun q h=>hS q (List.mem_cons_of_mem _ h))
   obtain ⟨q,g1,ga,gb,gc,gd,g3⟩:=raw_lims (hR p (List.mem_cons_self ..))
   have hs:=hS p (List.mem_cons_self ..)
   have xa:=g1.2.2.1.1.1;have xb:=g1.2.2.2.1.1.1;have xc:=g1.2.2.2.2.1.1.1;have xd:=g1.2.2.2.2.2.1.1
   unfold PV.small at hs
   refine ⟨q :: l,⟨by rw [List.length_cons,List.length_cons,h1.1],fun i r v hr hv=>?_⟩,fun v hv=>?_,fun v hv=>?_⟩
   · match i,hr,hv with
     | 0,hr,hv=>cases hr;cases hv;exact g1
     | i+1,hr,hv=>exact h1.2 i r v hr hv
   · rcases List.mem_cons.1 hv with rfl | hv
     · exact ⟨⟨ga,gb,gc,gd⟩,⟨by omega,by omega⟩,by omega,by omega⟩
     · exact h2 v hv
   · rcases List.mem_cons.1 hv with rfl | hv
     · exact g3
     · exact h3 v hv
theorem halfStep_len (f:Rat × Rat→Rat) (u v:Rat × Rat):(halfStep f u v).length≤2:=by
 unfold halfStep;rw [List.length_append];split <;> split <;> simp
theorem halfUpto_len (f:Rat × Rat→Rat) (r:List (Rat × Rat)):∀ m,(halfUpto f r m).length≤2*m
 | 0=>by simp [halfUpto]
 | m+1=>by
   have h1:=halfUpto_len f r m
   have h2:=halfStep_len f (r.getD m (0,0)) (r.getD (m+1) (0,0))
   rw [halfUpto,List.length_append];omega
theorem small_up {L:List PV} (h:∀ p ∈ L,p.small 4):∀ p ∈ L,p.small 100000:=fun p hp=>by
 have:=h p hp
 unfold PV.small at this ⊢
 omega
theorem EachL.small {L:List PV} {l:List LV} (h:EachL w L l) (ho:∀ q ∈ l,q.ok):∀ p ∈ L,p.small 100000:=fun p hp=>by
 obtain ⟨i,hi⟩:=List.getElem?_of_mem hp
 have hlt:=(List.getElem?_eq_some_iff.1 hi).1
 obtain ⟨p2,q,h1,h2,h3⟩:=h.at_ hlt
 rw [hi] at h1
 cases h1
 have hq:=ho q (List.mem_of_getElem? h2)
 have xa:=h3.2.2.1.1.1;have xb:=h3.2.2.2.1.1.1;have xc:=h3.2.2.2.2.1.1.1;have xd:=h3.2.2.2.2.2.1.1
 obtain ⟨_,⟨na,nb⟩,nc,nd⟩:=hq
 unfold PV.small
 omega
theorem halves_1 {A:Option Addr} {n c:Nat} {L:List PV} (hL:SV w A (pvs L)) (hn:L.length=n) (hnc:n≤c) (h:¬ n≤12) :
 Calls Tryz.prog 4 #[.slice A n c,.agg #[.bool s_a,.slice A_a n_a c_a,.slice B_a m_a d_a,.bool t_a,.slice E_a i_a e_a,.slice F_a j_a f_a],.agg #[.bool s_b,.slice A_b n_b c_b,.slice B_b m_b d_b,.bool t_b,.slice E_b i_b e_b,.slice F_b j_b f_b]] w fun e w'=>e=.returned (.bool true)∧Below w.heap.size w w':=by
 have H12:Hid ((12:Int)=((12:Nat):Int)):=rfl
 have HN12:=Lib.hid h;clear h
 go_enter Tryz.func4,Tryz.ntmps4
 go_upto_region 1 with (fail)
 generalize hW:World.alloc _ _=W
 obtain ⟨hb,XA,XB,hzW⟩:=mkbx24_10 hW;clear hW;replace hL:=hL.below hb
 go_wp2_with (first
  | (go_at_call 6;(with_reducible refine (fair8_n H12.out hL hn hnc HN12.out).mono ?_);rintro e w_z ⟨rfl,hh⟩
     replace hb:=bend hb hh)
  | (go_at_call 8;(with_reducible refine (areawakes_any _).mono ?_);rintro e w_z ⟨rfl,hh⟩
     replace hb:=bend hb hh))
 go_ret;exact ⟨rfl,hb⟩
theorem halves_2 {A:Option Addr} {n c:Nat} {L:List PV} (hL:SV w A (pvs L)) (hn:L.length=n) (hnc:n≤c) (h:n≤12) (h2:¬ ∀ q ∈ L,q.small 4) :
 Calls Tryz.prog 4 #[.slice A n c,.agg #[.bool s_a,.slice A_a n_a c_a,.slice B_a m_a d_a,.bool t_a,.slice E_a i_a e_a,.slice F_a j_a f_a],.agg #[.bool s_b,.slice A_b n_b c_b,.slice B_b m_b d_b,.bool t_b,.slice E_b i_b e_b,.slice F_b j_b f_b]] w fun e w'=>e=.returned (.bool true)∧Below w.heap.size w w':=by
 have H12:Hid ((12:Int)=((12:Nat):Int)):=rfl
 go_enter Tryz.func4,Tryz.ntmps4
 go_upto_region 1 with (fail)
 generalize hW:World.alloc _ _=W
 obtain ⟨hb,XA,XB,hzW⟩:=mkbx24_10 hW;clear hW;replace hL:=hL.below hb
 go_wp2_with (first
  | (go_at_call 6;(with_reducible refine (fair8h_f H12.out hL hn (by decide) hnc h h2).mono ?_);rintro e w_z ⟨rfl,hh⟩
     replace hb:=bend hb hh)
  | (go_at_call 8;(with_reducible refine (areawakes_any _).mono ?_);rintro e w_z ⟨rfl,hh⟩
     replace hb:=bend hb hh))
 go_ret;exact ⟨rfl,hb⟩
theorem halves_3 {A:Option Addr} {n c:Nat} {L:List PV} (hL:SV w A (pvs L)) (hn:L.length=n) (hnc:n≤c) (h:n≤12) (h2:∀ q ∈ L,q.small 4) (h3:¬ (((n_a≤6∧m_a≤6)∧i_a≤6∧j_a≤6)∧((n_b≤6∧m_b≤6)∧i_b≤6∧j_b≤6))) :
 Calls Tryz.prog 4 #[.slice A n c,.agg #[.bool s_a,.slice A_a n_a c_a,.slice B_a m_a d_a,.bool t_a,.slice E_a i_a e_a,.slice F_a j_a f_a],.agg #[.bool s_b,.slice A_b n_b c_b,.slice B_b m_b d_b,.bool t_b,.slice E_b i_b e_b,.slice F_b j_b f_b]] w fun e w'=>e=.returned (.bool true)∧Below w.heap.size w w':=by
 have H12:Hid ((12:Int)=((12:Nat):Int)):=rfl
 have HL:Hid (decide (((n_a≤6∧m_a≤6)∧i_a≤6∧j_a≤6)∧((n_b≤6∧m_b≤6)∧i_b≤6∧j_b≤6))=false):=decide_eq_false h3
 clear h3
 go_enter Tryz.func4,Tryz.ntmps4
 go_upto_region 1 with (fail)
 generalize hW:World.alloc _ _=W
 obtain ⟨hb,XA,XB,hzW⟩:=mkbx24_10 hW;clear hW;replace hL:=hL.below hb
 go_wp2_with (first
  | (go_at_call 6;(with_reducible refine (fair8h_t H12.out hL hn (by decide) hnc h h2).mono ?_);rintro e w_z ⟨rfl,hh⟩
     (try replace XA:=XA.below hh);(try replace XB:=XB.below hh);replace hb:=bend hb hh;obtain ⟨xa0,xa1,xa2,xa3,xa4,xa5⟩:=XA.all;obtain ⟨xb0,xb1,xb2,xb3,xb4,xb5⟩:=XB.all
     have ha:Below w_z.heap.size w_z (w_z.alloc (.cells #[.bool s_a,.slice A_a n_a c_a,.slice B_a m_a d_a,.bool t_a,.slice E_a i_a e_a,.slice F_a j_a f_a,.bool s_b,.slice A_b n_b c_b,.slice B_b m_b d_b,.bool t_b,.slice E_b i_b e_b,.slice F_b j_b f_b] 29)):=(Below.refl _ _).alloc (Nat.le_refl _) _
     have XL:=BL2.new' w_z (.bool s_a) (.slice A_a n_a c_a) (.slice B_a m_a d_a) (.bool t_a) (.slice E_a i_a e_a) (.slice F_a j_a f_a) (.bool s_b) (.slice A_b n_b c_b) (.slice B_b m_b d_b) (.bool t_b) (.slice E_b i_b e_b) (.slice F_b j_b f_b) _ rfl
     replace XA:=XA.below ha;replace XB:=XB.below ha;replace hb:=bend hb ha;clear ha)
  | (go_at_call 7;(with_reducible refine (fair2 XL false HL.out).mono ?_);rintro e w_y ⟨rfl,hh⟩
     replace hb:=bend hb hh;clear XL)
  | (go_at_call 8;(with_reducible refine (areawakes_any _).mono ?_);rintro e w_z ⟨rfl,hh⟩
     replace hb:=bend hb hh))
 go_ret;exact ⟨rfl,hb⟩
theorem halves_ne {A:Option Addr} {n c:Nat} {L:List PV} {l:List LV} {ax ay bx by_:Rat} (hL:SV w A (pvs L)) (hn:L.length=n) (hnc:n≤c) (hE:EachL w L l) (ho:∀ q ∈ l,q.ok) (hz:∀ p ∈ L,p.Nils) (a:PR w s_a A_a n_a c_a B_a m_a d_a t_a E_a i_a e_a F_a j_a f_a ax ay 6) (b:PR w s_b A_b n_b c_b B_b m_b d_b t_b E_b i_b e_b F_b j_b f_b bx by_ 6) (h:n≤12) (h2:∀ q ∈ L,q.small 4) (h3:(((n_a≤6∧m_a≤6)∧i_a≤6∧j_a≤6)∧((n_b≤6∧m_b≤6)∧i_b≤6∧j_b≤6))) (h4:¬ (ax=bx∧ay=by_)) :
 Calls Tryz.prog 4 #[.slice A n c,.agg #[.bool s_a,.slice A_a n_a c_a,.slice B_a m_a d_a,.bool t_a,.slice E_a i_a e_a,.slice F_a j_a f_a],.agg #[.bool s_b,.slice A_b n_b c_b,.slice B_b m_b d_b,.bool t_b,.slice E_b i_b e_b,.slice F_b j_b f_b]] w fun e w'=>e=.returned (.bool true)∧Below w.heap.size w w':=by
 have H12:Hid ((12:Int)=((12:Nat):Int)):=rfl
 have HL:Hid (decide (((n_a≤6∧m_a≤6)∧i_a≤6∧j_a≤6)∧((n_b≤6∧m_b≤6)∧i_b≤6∧j_b≤6))=true):=decide_eq_true h3
 have HD:Hid (decide (ax=bx∧ay=by_)=false):=decide_eq_false h4
 clear h3
 have HNl:Hid (l.length=n):=hE.1.symm.trans hn
 have HN:=Lib.hid hn;have H1:=Lib.hid h;have H2:=Lib.hid h2;have HO:=Lib.hid ho;have HNc:=Lib.hid hnc;have HZ:=Lib.hid hz;have S9:=Lib.hid hL;have E9:=Lib.hid hE
 have P9:Hid (Each PV.PR w L (l.map LV.val) 4):=hE.pr ho
 have A9:=Lib.hid a;have B9:=Lib.hid b
 have HW:Hid ((halfQ (asideP ax ay bx by_) (l.map LV.val)).length≤1000):=by
  show _≤_
  unfold halfQ
  have:=halfUpto_len (asideP ax ay bx by_) (ringL (l.map LV.val)) (l.map LV.val).length
  rw [List.length_map,HNl.out] at this ⊢
  omega
 obtain ⟨K,hK⟩:=bl_ex (halfQ (asideP ax ay bx by_) (l.map LV.val))
 have HK:=Lib.hid hK;clear hK h4 hL hE ho hz a b h h2 hn hnc
 go_enter Tryz.func4,Tryz.ntmps4
 go_upto_region 1 with (fail)
 generalize hW:World.alloc _ _=W
 obtain ⟨hb,XA,XB,hzW⟩:=mkbx24_10 hW;clear hW
 go_upto_region 3 with (first
  | (go_at_call 6;(with_reducible refine (fair8h_t H12.out (S9.out.below hb) HN.out (by decide) HNc.out H1.out H2.out).mono ?_);rintro e w_z ⟨rfl,hh⟩
     (try replace XA:=XA.below hh);(try replace XB:=XB.below hh);replace hb:=bend hb hh;obtain ⟨xa0,xa1,xa2,xa3,xa4,xa5⟩:=XA.all;obtain ⟨xb0,xb1,xb2,xb3,xb4,xb5⟩:=XB.all
     have ha:Below w_z.heap.size w_z (w_z.alloc (.cells #[.bool s_a,.slice A_a n_a c_a,.slice B_a m_a d_a,.bool t_a,.slice E_a i_a e_a,.slice F_a j_a f_a,.bool s_b,.slice A_b n_b c_b,.slice B_b m_b d_b,.bool t_b,.slice E_b i_b e_b,.slice F_b j_b f_b] 29)):=(Below.refl _ _).alloc (Nat.le_refl _) _
     have XL:=BL2.new' w_z (.bool s_a) (.slice A_a n_a c_a) (.slice B_a m_a d_a) (.bool t_a) (.slice E_a i_a e_a) (.slice F_a j_a f_a) (.bool s_b) (.slice A_b n_b c_b) (.slice B_b m_b d_b) (.bool t_b) (.slice E_b i_b e_b) (.slice F_b j_b f_b) _ rfl
     replace XA:=XA.below ha;replace XB:=XB.below ha;replace hb:=bend hb ha;clear ha)
  | (go_at_call 7;(with_reducible refine (fair2 XL true HL.out).mono ?_);rintro e w_y ⟨rfl,hh⟩
     (try replace XA:=XA.below hh);(try replace XB:=XB.below hh);replace hb:=bend hb hh;clear XL xa0 xb0 xa1 xb1 xa2 xb2 xa3 xb3 xa4 xb4 xa5 xb5))
 go_upto_region 5 with (first
  | (go_at_call 10;(with_reducible refine (klinL (S9.out.below hb) (E9.out.below hb) HZ.out (small_up H2.out) HN.out (Nat.le_trans H1.out (by decide))).mono ?_);rintro e w_i ⟨v_i,Li,rfl,iL,iE,hh⟩
     obtain ⟨A_i,c_i,rfl,hci,hzi⟩:=iL.form
     have hLi:Li.length=n:=iE.1.trans HNl.out
     rw [hLi] at iL hci ⊢
     have iS:=Ln.sv iL;have HLi:=Lib.hid hLi;have HCi:=Lib.hid hci;clear hzi hLi hci;replace XA:=XA.below hh;replace XB:=XB.below hh;replace hb:=bend hb hh;obtain ⟨xa0,xa1,xa2,xa3,xa4,xa5⟩:=XA.all;obtain ⟨xb0,xb1,xb2,xb3,xb4,xb5⟩:=XB.all)
  | (go_at_call 23;(with_reducible refine (half_p (ka:=(6+6+1+(4+6+1)+(6+6+1+(4+6+1))+1)) iS (iE.pr HO.out) (PR.below A9.out hb) (PR.below B9.out hb) HLi.out (Nat.le_trans H1.out (by decide)) HCi.out (by decide) (by decide) (by decide) (by decide) rfl (by decide)).mono ?_);rintro e w_h ⟨v_h,Lh,rfl,hL9,hE9,hh⟩
     replace iL:=iL.below hh;replace iE:=iE.below hh;replace XA:=XA.below hh;replace XB:=XB.below hh;replace hb:=bend hb hh))
 clear iS xa0 xb0 xa1 xb1 xa2 xb2 xa3 xb3 xa4 xb4 xa5 xb5;replace hE9:=Lib.hid hE9;replace iE:=Lib.hid iE
 replace iL:=iL.below (Below.refl _ _).drew
 replace hL9:=hL9.below (Below.refl _ _).drew
 replace XA:=XA.below (Below.refl _ _).drew
 replace XB:=XB.below (Below.refl _ _).drew
 replace hE9:=Lib.hid (Each.below hE9.out (Below.refl _ _).drew)
 replace iE:=Lib.hid (EachL.below iE.out (Below.refl _ _).drew)
 replace hb:=hb.drew
 go_region_held3 (fun w'=>w'.cell? ⟨w.heap.size,0,none⟩=some (.bool s_a)∧w'.cell? ⟨w.heap.size,1,none⟩=some (.slice A_a n_a c_a)∧w'.cell? ⟨w.heap.size,2,none⟩=some (.slice B_a m_a d_a)∧w'.cell? ⟨w.heap.size,3,none⟩=some (.bool t_a)∧w'.cell? ⟨w.heap.size,4,none⟩=some (.slice E_a i_a e_a)∧w'.cell? ⟨w.heap.size,5,none⟩=some (.slice F_a j_a f_a)∧w'.cell? ⟨w.heap.size+1,0,none⟩=some (.bool s_b)∧w'.cell? ⟨w.heap.size+1,1,none⟩=some (.slice A_b n_b c_b)∧w'.cell? ⟨w.heap.size+1,2,none⟩=some (.slice B_b m_b d_b)∧w'.cell? ⟨w.heap.size+1,3,none⟩=some (.bool t_b)∧w'.cell? ⟨w.heap.size+1,4,none⟩=some (.slice E_b i_b e_b)∧w'.cell? ⟨w.heap.size+1,5,none⟩=some (.slice F_b j_b f_b))
  (first | with_reducible exact ⟨XA.c0,XA.c1,XA.c2,XA.c3,XA.c4,XA.c5,XB.c0,XB.c1,XB.c2,XB.c3,XB.c4,XB.c5⟩)
  (first
  | (go_at_call 9;(with_reducible refine (rins (S9.out.below hb) (Each.belowP P9.out hb) HN.out (Nat.le_trans H1.out (by decide)) (by decide) (by decide)).mono ?_);rintro e w_s ⟨v_s,Ls,rfl,sL,sE,hh⟩
     (try replace iL:=iL.below hh);(try replace hL9:=hL9.below hh);(try replace XA:=XA.below hh);(try replace XB:=XB.below hh);(try replace sL:=sL.below hh);(try replace oL:=oL.below hh);(try replace g:=g.below hh);(try replace j:=j.below hh)
     try replace hE9:=Lib.hid (Each.below hE9.out hh)
     try replace iE:=Lib.hid (EachL.below iE.out hh)
     try replace sE:=Lib.hid (Each.belowR sE.out hh)
     try replace oE:=Lib.hid (Each.belowR oE.out hh)
     replace hb:=bend hb hh
     obtain ⟨A_s,c_s,rfl,_,_⟩:=sL.form
     have sN:Ls.length=n:=by have:=sE.1;rw [List.length_map,HNl.out] at this;exact this
     rw [sN] at sL ⊢
     have HsN:=Lib.hid sN;clear sN;replace sE:=Lib.hid sE)
  | (go_at_call 21;(with_reducible refine (rin6 (PR.below A9.out hb) (by decide) (by decide)).mono ?_);rintro e w_g ⟨s_g,A_g,n_g,c_g,B_g,m_g,d_g,t_g,E_g,i_g,e_g,F_g,j_g,f_g,rfl,g,hh⟩
     (try replace iL:=iL.below hh);(try replace hL9:=hL9.below hh);(try replace XA:=XA.below hh);(try replace XB:=XB.below hh);(try replace sL:=sL.below hh);(try replace oL:=oL.below hh);(try replace g:=g.below hh);(try replace j:=j.below hh)
     try replace hE9:=Lib.hid (Each.below hE9.out hh)
     try replace iE:=Lib.hid (EachL.below iE.out hh)
     try replace sE:=Lib.hid (Each.belowR sE.out hh)
     try replace oE:=Lib.hid (Each.belowR oE.out hh)
     replace hb:=bend hb hh)
  | (go_at_call 21;(with_reducible refine (rin6 (PR.below B9.out hb) (by decide) (by decide)).mono ?_);rintro e w_j ⟨s_j,A_j,n_j,c_j,B_j,m_j,d_j,t_j,E_j,i_j,e_j,F_j,j_j,f_j,rfl,j,hh⟩
     (try replace iL:=iL.below hh);(try replace hL9:=hL9.below hh);(try replace XA:=XA.below hh);(try replace XB:=XB.below hh);(try replace sL:=sL.below hh);(try replace oL:=oL.below hh);(try replace g:=g.below hh);(try replace j:=j.below hh)
     try replace hE9:=Lib.hid (Each.below hE9.out hh)
     try replace iE:=Lib.hid (EachL.below iE.out hh)
     try replace sE:=Lib.hid (Each.belowR sE.out hh)
     try replace oE:=Lib.hid (Each.belowR oE.out hh)
     replace hb:=bend hb hh)
  | (go_at_call 25;(with_reducible refine (rhalf_ne (Ln.sv sL) sE.out g j HsN.out (Nat.le_trans H1.out (by decide)) (by decide) (by decide) HD.out).mono ?_);rintro e w_o ⟨v_o,Lo,rfl,oL,oE,hh⟩
     (try replace iL:=iL.below hh);(try replace hL9:=hL9.below hh);(try replace XA:=XA.below hh);(try replace XB:=XB.below hh);(try replace sL:=sL.below hh);(try replace oL:=oL.below hh);(try replace g:=g.below hh);(try replace j:=j.below hh)
     try replace hE9:=Lib.hid (Each.below hE9.out hh)
     try replace iE:=Lib.hid (EachL.below iE.out hh)
     try replace sE:=Lib.hid (Each.belowR sE.out hh)
     try replace oE:=Lib.hid (Each.belowR oE.out hh)
     replace hb:=bend hb hh;replace oE:=Lib.hid oE;clear sL sE g j)
  | (go_at_call 24;(with_reducible refine (routs oL oE.out (by decide) HK.out HW.out).mono ?_);rintro e w_u ⟨v_u,Lu,rfl,uL,uE,hh⟩
     (try replace iL:=iL.below hh);(try replace hL9:=hL9.below hh);(try replace XA:=XA.below hh);(try replace XB:=XB.below hh);(try replace sL:=sL.below hh);(try replace oL:=oL.below hh);(try replace g:=g.below hh);(try replace j:=j.below hh)
     try replace hE9:=Lib.hid (Each.below hE9.out hh)
     try replace iE:=Lib.hid (EachL.below iE.out hh)
     try replace sE:=Lib.hid (Each.belowR sE.out hh)
     try replace oE:=Lib.hid (Each.belowR oE.out hh)
     replace hb:=bend hb hh;have UE:=Lib.hid uE;clear uE oL oE)
  | (go_at_call 22;(with_reducible refine (lines_same hL9 uL hE9.out UE.out (by decide) (Nat.le_trans HW.out (by decide))).mono ?_);rintro e w_c ⟨rfl,hh⟩
     (try replace iL:=iL.below hh);(try replace hL9:=hL9.below hh);(try replace XA:=XA.below hh);(try replace XB:=XB.below hh);(try replace sL:=sL.below hh);(try replace oL:=oL.below hh);(try replace g:=g.below hh);(try replace j:=j.below hh)
     try replace hE9:=Lib.hid (Each.below hE9.out hh)
     try replace iE:=Lib.hid (EachL.below iE.out hh)
     try replace sE:=Lib.hid (Each.belowR sE.out hh)
     try replace oE:=Lib.hid (Each.belowR oE.out hh)
     replace hb:=bend hb hh;clear uL UE hL9 hE9)
  | (go_at_call 22;(with_reducible refine (lines_lims (Ln.sv iL) (S9.out.below hb) iE.out (E9.out.below hb) (EachL.small iE.out HO.out) HLi.out (Nat.le_trans H1.out (by decide))).mono ?_);rintro e w_d ⟨rfl,hh⟩
     (try replace iL:=iL.below hh);(try replace hL9:=hL9.below hh);(try replace XA:=XA.below hh);(try replace XB:=XB.below hh);(try replace sL:=sL.below hh);(try replace oL:=oL.below hh);(try replace g:=g.below hh);(try replace j:=j.below hh)
     try replace hE9:=Lib.hid (Each.below hE9.out hh)
     try replace iE:=Lib.hid (EachL.below iE.out hh)
     try replace sE:=Lib.hid (Each.belowR sE.out hh)
     try replace oE:=Lib.hid (Each.belowR oE.out hh)
     replace hb:=bend hb hh)
  | (go_at_call 8;(with_reducible refine (areawakes_any _).mono ?_);rintro e w_e ⟨rfl,hh⟩
     (try replace iL:=iL.below hh);(try replace hL9:=hL9.below hh);(try replace XA:=XA.below hh);(try replace XB:=XB.below hh);(try replace sL:=sL.below hh);(try replace oL:=oL.below hh);(try replace g:=g.below hh);(try replace j:=j.below hh)
     try replace hE9:=Lib.hid (Each.below hE9.out hh)
     try replace iE:=Lib.hid (EachL.below iE.out hh)
     try replace sE:=Lib.hid (Each.belowR sE.out hh)
     try replace oE:=Lib.hid (Each.belowR oE.out hh)
     replace hb:=bend hb hh))
 go_wp2_with fail
 go_ret;exact ⟨rfl,hb⟩
theorem halves_eq {A:Option Addr} {n c:Nat} {L:List PV} {l:List LV} {ax ay bx by_:Rat} (hL:SV w A (pvs L)) (hn:L.length=n) (hnc:n≤c) (hE:EachL w L l) (ho:∀ q ∈ l,q.ok) (hz:∀ p ∈ L,p.Nils) (a:PR w s_a A_a n_a c_a B_a m_a d_a t_a E_a i_a e_a F_a j_a f_a ax ay 6) (b:PR w s_b A_b n_b c_b B_b m_b d_b t_b E_b i_b e_b F_b j_b f_b bx by_ 6) (h:n≤12) (h2:∀ q ∈ L,q.small 4) (h3:(((n_a≤6∧m_a≤6)∧i_a≤6∧j_a≤6)∧((n_b≤6∧m_b≤6)∧i_b≤6∧j_b≤6))) (h4:ax=bx∧ay=by_) :
 Calls Tryz.prog 4 #[.slice A n c,.agg #[.bool s_a,.slice A_a n_a c_a,.slice B_a m_a d_a,.bool t_a,.slice E_a i_a e_a,.slice F_a j_a f_a],.agg #[.bool s_b,.slice A_b n_b c_b,.slice B_b m_b d_b,.bool t_b,.slice E_b i_b e_b,.slice F_b j_b f_b]] w fun e w'=>e=.returned (.bool true)∧Below w.heap.size w w':=by
 have H12:Hid ((12:Int)=((12:Nat):Int)):=rfl
 have HL:Hid (decide (((n_a≤6∧m_a≤6)∧i_a≤6∧j_a≤6)∧((n_b≤6∧m_b≤6)∧i_b≤6∧j_b≤6))=true):=decide_eq_true h3
 have HD:Hid (decide (ax=bx∧ay=by_)=true):=decide_eq_true h4
 clear h3
 have HNl:Hid (l.length=n):=hE.1.symm.trans hn
 have HN:=Lib.hid hn;have H1:=Lib.hid h;have H2:=Lib.hid h2;have HO:=Lib.hid ho;have HNc:=Lib.hid hnc;have HZ:=Lib.hid hz;have S9:=Lib.hid hL;have E9:=Lib.hid hE
 have P9:Hid (Each PV.PR w L (l.map LV.val) 4):=hE.pr ho
 have A9:=Lib.hid a;have B9:=Lib.hid b
 have HV:Hid (halfQ (asideP ax ay bx by_) (l.map LV.val)=l.map LV.val):=by show _=_;rw [← h4.1,← h4.2];exact half_same _ _ _
 have HW:Hid ((l.map LV.val).length≤1000):=by
  show _≤_
  rw [List.length_map,HNl.out];omega
 obtain ⟨K,hK⟩:=bl_ex (l.map LV.val)
 have HK:=Lib.hid hK;clear hK h4 hL hE ho hz a b h h2 hn hnc
 go_enter Tryz.func4,Tryz.ntmps4
 go_upto_region 1 with (fail)
 generalize hW:World.alloc _ _=W
 obtain ⟨hb,XA,XB,hzW⟩:=mkbx24_10 hW;clear hW
 go_upto_region 3 with (first
  | (go_at_call 6;(with_reducible refine (fair8h_t H12.out (S9.out.below hb) HN.out (by decide) HNc.out H1.out H2.out).mono ?_);rintro e w_z ⟨rfl,hh⟩
     (try replace XA:=XA.below hh);(try replace XB:=XB.below hh);replace hb:=bend hb hh;obtain ⟨xa0,xa1,xa2,xa3,xa4,xa5⟩:=XA.all;obtain ⟨xb0,xb1,xb2,xb3,xb4,xb5⟩:=XB.all
     have ha:Below w_z.heap.size w_z (w_z.alloc (.cells #[.bool s_a,.slice A_a n_a c_a,.slice B_a m_a d_a,.bool t_a,.slice E_a i_a e_a,.slice F_a j_a f_a,.bool s_b,.slice A_b n_b c_b,.slice B_b m_b d_b,.bool t_b,.slice E_b i_b e_b,.slice F_b j_b f_b] 29)):=(Below.refl _ _).alloc (Nat.le_refl _) _
     have XL:=BL2.new' w_z (.bool s_a) (.slice A_a n_a c_a) (.slice B_a m_a d_a) (.bool t_a) (.slice E_a i_a e_a) (.slice F_a j_a f_a) (.bool s_b) (.slice A_b n_b c_b) (.slice B_b m_b d_b) (.bool t_b) (.slice E_b i_b e_b) (.slice F_b j_b f_b) _ rfl
     replace XA:=XA.below ha;replace XB:=XB.below ha;replace hb:=bend hb ha;clear ha)
  | (go_at_call 7;(with_reducible refine (fair2 XL true HL.out).mono ?_);rintro e w_y ⟨rfl,hh⟩
     (try replace XA:=XA.below hh);(try replace XB:=XB.below hh);replace hb:=bend hb hh;clear XL xa0 xb0 xa1 xb1 xa2 xb2 xa3 xb3 xa4 xb4 xa5 xb5))
 go_upto_region 5 with (first
  | (go_at_call 10;(with_reducible refine (klinL (S9.out.below hb) (E9.out.below hb) HZ.out (small_up H2.out) HN.out (Nat.le_trans H1.out (by decide))).mono ?_);rintro e w_i ⟨v_i,Li,rfl,iL,iE,hh⟩
     obtain ⟨A_i,c_i,rfl,hci,hzi⟩:=iL.form
     have hLi:Li.length=n:=iE.1.trans HNl.out
     rw [hLi] at iL hci ⊢
     have iS:=Ln.sv iL;have HLi:=Lib.hid hLi;have HCi:=Lib.hid hci;clear hzi hLi hci;replace XA:=XA.below hh;replace XB:=XB.below hh;replace hb:=bend hb hh;obtain ⟨xa0,xa1,xa2,xa3,xa4,xa5⟩:=XA.all;obtain ⟨xb0,xb1,xb2,xb3,xb4,xb5⟩:=XB.all)
  | (go_at_call 23;(with_reducible refine (half_p (ka:=(6+6+1+(4+6+1)+(6+6+1+(4+6+1))+1)) iS (iE.pr HO.out) (PR.below A9.out hb) (PR.below B9.out hb) HLi.out (Nat.le_trans H1.out (by decide)) HCi.out (by decide) (by decide) (by decide) (by decide) rfl (by decide)).mono ?_);rintro e w_h ⟨v_h,Lh,rfl,hL9,hE9,hh⟩
     replace iL:=iL.below hh;replace iE:=iE.below hh;replace XA:=XA.below hh;replace XB:=XB.below hh;replace hb:=bend hb hh))
 clear iS xa0 xb0 xa1 xb1 xa2 xb2 xa3 xb3 xa4 xb4 xa5 xb5;rw [HV.out] at hE9;replace hE9:=Lib.hid hE9;replace iE:=Lib.hid iE
 replace iL:=iL.below (Below.refl _ _).drew
 replace hL9:=hL9.below (Below.refl _ _).drew
 replace XA:=XA.below (Below.refl _ _).drew
 replace XB:=XB.below (Below.refl _ _).drew
 replace hE9:=Lib.hid (Each.below hE9.out (Below.refl _ _).drew)
 replace iE:=Lib.hid (EachL.below iE.out (Below.refl _ _).drew)
 replace hb:=hb.drew
 go_region_held3 (fun w'=>w'.cell? ⟨w.heap.size,0,none⟩=some (.bool s_a)∧w'.cell? ⟨w.heap.size,1,none⟩=some (.slice A_a n_a c_a)∧w'.cell? ⟨w.heap.size,2,none⟩=some (.slice B_a m_a d_a)∧w'.cell? ⟨w.heap.size,3,none⟩=some (.bool t_a)∧w'.cell? ⟨w.heap.size,4,none⟩=some (.slice E_a i_a e_a)∧w'.cell? ⟨w.heap.size,5,none⟩=some (.slice F_a j_a f_a)∧w'.cell? ⟨w.heap.size+1,0,none⟩=some (.bool s_b)∧w'.cell? ⟨w.heap.size+1,1,none⟩=some (.slice A_b n_b c_b)∧w'.cell? ⟨w.heap.size+1,2,none⟩=some (.slice B_b m_b d_b)∧w'.cell? ⟨w.heap.size+1,3,none⟩=some (.bool t_b)∧w'.cell? ⟨w.heap.size+1,4,none⟩=some (.slice E_b i_b e_b)∧w'.cell? ⟨w.heap.size+1,5,none⟩=some (.slice F_b j_b f_b))
  (first | with_reducible exact ⟨XA.c0,XA.c1,XA.c2,XA.c3,XA.c4,XA.c5,XB.c0,XB.c1,XB.c2,XB.c3,XB.c4,XB.c5⟩)
  (first
  | (go_at_call 9;(with_reducible refine (rins (S9.out.below hb) (Each.belowP P9.out hb) HN.out (Nat.le_trans H1.out (by decide)) (by decide) (by decide)).mono ?_);rintro e w_s ⟨v_s,Ls,rfl,sL,sE,hh⟩
     (try replace iL:=iL.below hh);(try replace hL9:=hL9.below hh);(try replace XA:=XA.below hh);(try replace XB:=XB.below hh);(try replace sL:=sL.below hh);(try replace oL:=oL.below hh);(try replace g:=g.below hh);(try replace j:=j.below hh)
     try replace hE9:=Lib.hid (Each.below hE9.out hh)
     try replace iE:=Lib.hid (EachL.below iE.out hh)
     try replace sE:=Lib.hid (Each.belowR sE.out hh)
     try replace oE:=Lib.hid (Each.belowR oE.out hh)
     replace hb:=bend hb hh
     obtain ⟨A_s,c_s,rfl,_,_⟩:=sL.form
     have sN:Ls.length=n:=by have:=sE.1;rw [List.length_map,HNl.out] at this;exact this
     rw [sN] at sL ⊢
     have HsN:=Lib.hid sN;clear sN;replace sE:=Lib.hid sE)
  | (go_at_call 21;(with_reducible refine (rin6 (PR.below A9.out hb) (by decide) (by decide)).mono ?_);rintro e w_g ⟨s_g,A_g,n_g,c_g,B_g,m_g,d_g,t_g,E_g,i_g,e_g,F_g,j_g,f_g,rfl,g,hh⟩
     (try replace iL:=iL.below hh);(try replace hL9:=hL9.below hh);(try replace XA:=XA.below hh);(try replace XB:=XB.below hh);(try replace sL:=sL.below hh);(try replace oL:=oL.below hh);(try replace g:=g.below hh);(try replace j:=j.below hh)
     try replace hE9:=Lib.hid (Each.below hE9.out hh)
     try replace iE:=Lib.hid (EachL.below iE.out hh)
     try replace sE:=Lib.hid (Each.belowR sE.out hh)
     try replace oE:=Lib.hid (Each.belowR oE.out hh)
     replace hb:=bend hb hh)
  | (go_at_call 21;(with_reducible refine (rin6 (PR.below B9.out hb) (by decide) (by decide)).mono ?_);rintro e w_j ⟨s_j,A_j,n_j,c_j,B_j,m_j,d_j,t_j,E_j,i_j,e_j,F_j,j_j,f_j,rfl,j,hh⟩
     (try replace iL:=iL.below hh);(try replace hL9:=hL9.below hh);(try replace XA:=XA.below hh);(try replace XB:=XB.below hh);(try replace sL:=sL.below hh);(try replace oL:=oL.below hh);(try replace g:=g.below hh);(try replace j:=j.below hh)
     try replace hE9:=Lib.hid (Each.below hE9.out hh)
     try replace iE:=Lib.hid (EachL.below iE.out hh)
     try replace sE:=Lib.hid (Each.belowR sE.out hh)
     try replace oE:=Lib.hid (Each.belowR oE.out hh)
     replace hb:=bend hb hh)
  | (go_at_call 25;(with_reducible refine (rhalf_eq (Ln.sv sL) sE.out g j HsN.out (Nat.le_trans H1.out (by decide)) (by decide) HD.out).mono ?_);rintro e w_o ⟨v_o,Lo,rfl,oL,oE,hh⟩
     (try replace iL:=iL.below hh);(try replace hL9:=hL9.below hh);(try replace XA:=XA.below hh);(try replace XB:=XB.below hh);(try replace sL:=sL.below hh);(try replace oL:=oL.below hh);(try replace g:=g.below hh);(try replace j:=j.below hh)
     try replace hE9:=Lib.hid (Each.below hE9.out hh)
     try replace iE:=Lib.hid (EachL.below iE.out hh)
     try replace sE:=Lib.hid (Each.belowR sE.out hh)
     try replace oE:=Lib.hid (Each.belowR oE.out hh)
     replace hb:=bend hb hh;replace oE:=Lib.hid oE;clear sL sE g j)
  | (go_at_call 24;(with_reducible refine (routs oL oE.out (by decide) HK.out HW.out).mono ?_);rintro e w_u ⟨v_u,Lu,rfl,uL,uE,hh⟩
     (try replace iL:=iL.below hh);(try replace hL9:=hL9.below hh);(try replace XA:=XA.below hh);(try replace XB:=XB.below hh);(try replace sL:=sL.below hh);(try replace oL:=oL.below hh);(try replace g:=g.below hh);(try replace j:=j.below hh)
     try replace hE9:=Lib.hid (Each.below hE9.out hh)
     try replace iE:=Lib.hid (EachL.below iE.out hh)
     try replace sE:=Lib.hid (Each.belowR sE.out hh)
     try replace oE:=Lib.hid (Each.belowR oE.out hh)
     replace hb:=bend hb hh;have UE:=Lib.hid uE;clear uE oL oE)
  | (go_at_call 22;(with_reducible refine (lines_same hL9 uL hE9.out UE.out (by decide) (Nat.le_trans HW.out (by decide))).mono ?_);rintro e w_c ⟨rfl,hh⟩
     (try replace iL:=iL.below hh);(try replace hL9:=hL9.below hh);(try replace XA:=XA.below hh);(try replace XB:=XB.below hh);(try replace sL:=sL.below hh);(try replace oL:=oL.below hh);(try replace g:=g.below hh);(try replace j:=j.below hh)
     try replace hE9:=Lib.hid (Each.below hE9.out hh)
     try replace iE:=Lib.hid (EachL.below iE.out hh)
     try replace sE:=Lib.hid (Each.belowR sE.out hh)
     try replace oE:=Lib.hid (Each.belowR oE.out hh)
     replace hb:=bend hb hh;clear uL UE hL9 hE9)
  | (go_at_call 22;(with_reducible refine (lines_lims (Ln.sv iL) (S9.out.below hb) iE.out (E9.out.below hb) (EachL.small iE.out HO.out) HLi.out (Nat.le_trans H1.out (by decide))).mono ?_);rintro e w_d ⟨rfl,hh⟩
     (try replace iL:=iL.below hh);(try replace hL9:=hL9.below hh);(try replace XA:=XA.below hh);(try replace XB:=XB.below hh);(try replace sL:=sL.below hh);(try replace oL:=oL.below hh);(try replace g:=g.below hh);(try replace j:=j.below hh)
     try replace hE9:=Lib.hid (Each.below hE9.out hh)
     try replace iE:=Lib.hid (EachL.below iE.out hh)
     try replace sE:=Lib.hid (Each.belowR sE.out hh)
     try replace oE:=Lib.hid (Each.belowR oE.out hh)
     replace hb:=bend hb hh)
  | (go_at_call 8;(with_reducible refine (areawakes_any _).mono ?_);rintro e w_e ⟨rfl,hh⟩
     (try replace iL:=iL.below hh);(try replace hL9:=hL9.below hh);(try replace XA:=XA.below hh);(try replace XB:=XB.below hh);(try replace sL:=sL.below hh);(try replace oL:=oL.below hh);(try replace g:=g.below hh);(try replace j:=j.below hh)
     try replace hE9:=Lib.hid (Each.below hE9.out hh)
     try replace iE:=Lib.hid (EachL.below iE.out hh)
     try replace sE:=Lib.hid (Each.belowR sE.out hh)
     try replace oE:=Lib.hid (Each.belowR oE.out hh)
     replace hb:=bend hb hh))
 go_wp2_with fail
 go_ret;exact ⟨rfl,hb⟩
theorem law_halves {A:Option Addr} {n c:Nat} {L:List PV} {laa lba lca lda:List Nat} {lab lbb lcb ldb:List Nat} (hL:SV w A (pvs L)) (hn:L.length=n) (hnc:n≤c) (hR:∀ q ∈ L,q.Raw w) (aa:Rd .u64 w A_a n_a laa) (ba:Rd .u64 w B_a m_a lba) (ua:Rd .u64 w E_a i_a lca) (va:Rd .u64 w F_a j_a lda) (taa:Lim B64 laa) (tba:Lim B64 lba) (tca:Lim B64 lca) (tda:Lim B64 lda) (caa:n_a≤c_a) (cba:m_a≤d_a) (cca:i_a≤e_a) (cda:j_a≤f_a) (ab:Rd .u64 w A_b n_b lab) (bb:Rd .u64 w B_b m_b lbb) (ub:Rd .u64 w E_b i_b lcb) (vb:Rd .u64 w F_b j_b ldb) (tab:Lim B64 lab) (tbb:Lim B64 lbb) (tcb:Lim B64 lcb) (tdb:Lim B64 ldb) (cab:n_b≤c_b) (cbb:m_b≤d_b) (ccb:i_b≤e_b) (cdb:j_b≤f_b) :
 Calls Tryz.prog 4 #[.slice A n c,.agg #[.bool s_a,.slice A_a n_a c_a,.slice B_a m_a d_a,.bool t_a,.slice E_a i_a e_a,.slice F_a j_a f_a],.agg #[.bool s_b,.slice A_b n_b c_b,.slice B_b m_b d_b,.bool t_b,.slice E_b i_b e_b,.slice F_b j_b f_b]] w fun e w'=>e=.returned (.bool true)∧Below w.heap.size w w':=by
 by_cases h:n≤12
 · by_cases h2:∀ q ∈ L,q.small 4
   · by_cases h3:(((n_a≤6∧m_a≤6)∧i_a≤6∧j_a≤6)∧((n_b≤6∧m_b≤6)∧i_b≤6∧j_b≤6))
     · obtain ⟨l,hE,ho,hz⟩:=lims_each hR h2
       have a:PR w s_a A_a n_a c_a B_a m_a d_a t_a E_a i_a e_a F_a j_a f_a (mkRat (iv s_a (val B64 laa)) (den1 (val B64 lba))) (mkRat (iv t_a (val B64 lca)) (den1 (val B64 lda))) 6:=⟨QR.of_rd aa taa caa ba tba cba h3.1.1.1 h3.1.1.2,QR.of_rd ua tca cca va tda cda h3.1.2.1 h3.1.2.2⟩
       have b:PR w s_b A_b n_b c_b B_b m_b d_b t_b E_b i_b e_b F_b j_b f_b (mkRat (iv s_b (val B64 lab)) (den1 (val B64 lbb))) (mkRat (iv t_b (val B64 lcb)) (den1 (val B64 ldb))) 6:=⟨QR.of_rd ab tab cab bb tbb cbb h3.2.1.1 h3.2.1.2,QR.of_rd ub tcb ccb vb tdb cdb h3.2.2.1 h3.2.2.2⟩
       by_cases h4:mkRat (iv s_a (val B64 laa)) (den1 (val B64 lba))=mkRat (iv s_b (val B64 lab)) (den1 (val B64 lbb))∧mkRat (iv t_a (val B64 lca)) (den1 (val B64 lda))=mkRat (iv t_b (val B64 lcb)) (den1 (val B64 ldb))
       · exact halves_eq hL hn hnc hE ho hz a b h h2 h3 h4
       · exact halves_ne hL hn hnc hE ho hz a b h h2 h3 h4
     · exact halves_3 hL hn hnc h h2 h3
   · exact halves_2 hL hn hnc h h2
 · exact halves_1 hL hn hnc h
end
end Go.Proofs.YtlogpjeoapeojaaGreat
