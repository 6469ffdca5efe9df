/- CurveOf: part 16. -/
import Derived.Test.YtfpaeophfcoohaaGreatKCurveOf11
import Derived.Test.YtfpaeophfcoohaaGreatKCurveOf13
import Derived.Test.YtfpaeophfcoohaaGreatKCurveOf15
set_option linter.unusedVariables false
set_option maxRecDepth 100000
set_option maxHeartbeats 16000000
variable {w:Go.World}
variable {s_p t_p:Bool} {A_p B_p E_p F_p:Option Go.Addr} {n_p c_p m_p d_p i_p e_p j_p f_p:Nat}
variable {s_q t_q:Bool} {A_q B_q E_q F_q:Option Go.Addr} {n_q c_q m_q d_q i_q e_q j_q f_q:Nat}
variable {s_r t_r:Bool} {A_r B_r E_r F_r:Option Go.Addr} {n_r c_r m_r d_r i_r e_r j_r f_r:Nat}
namespace Go.Proofs.YtfpaeophfcoohaaGreat
section
open Go Go.RowKit
attribute [local go_sem ↓] open_LVM open_STM open_LVN open_STN
attribute [local go_sem ↓] open_LVH open_STH open_LVJ open_STJ
theorem mkbx48_16 {w W:World} {x0 x1 x2 x3 x4 x5 x6 x7 x8 x9 x10 x11 x12 x13 x14 x15 x16 x17:Value} (h:(((w.alloc (Obj.cells #[x0,x1,x2,x3,x4,x5] 51)).alloc (Obj.cells #[x6,x7,x8] 49)).alloc (Obj.cells #[x9,x10,x11,x12,x13,x14,x15,x16,x17] 96))=W):Below w.heap.size w W∧B6R W (w.heap.size) x0 x1 x2 x3 x4 x5∧B3R W (w.heap.size+1) x6 x7 x8∧BJ W (w.heap.size+1+1) x9 x10 x11 x12 x13 x14 x15 x16 x17∧W.heap.size=w.heap.size+3:=by subst h;exact ⟨by exact ((((Below.refl _ _).alloc (Nat.le_refl _) _).alloc (by simp) _).alloc (by simp;omega) _),by exact ((B6R.new' _ _ _ _ _ _ _ _ rfl).alloc _).alloc _,by exact (B3R.new' _ _ _ _ _ (by simp)).alloc _,by exact BJ.new' _ _ _ _ _ _ _ _ _ _ _ (by simp),by simp⟩
theorem rweighed13 {k kt:Nat} {x y vt:Rat} {s:Bool} {A A':Option Addr} {n c n' c':Nat} (p:RP w s_p A_p n_p c_p B_p m_p d_p t_p E_p i_p e_p F_p j_p f_p x y k) (t:RQ w s A n c A' n' c' vt kt) (hk:k≤9000) (ht:kt≤1000) :
 Calls Tryz.prog 43 #[.agg #[.bool s_p,.slice A_p n_p c_p,.slice B_p m_p d_p,.bool t_p,.slice E_p i_p e_p,.slice F_p j_p f_p],.agg #[.bool s,.slice A n c,.slice A' n' c']] w (GivesRH w ⟨x*vt,y*vt,vt⟩ (k+kt)):=by
 go_enter Tryz.func43,Tryz.ntmps43
 go_upto_region 1 with (fail)
 generalize hW:World.alloc _ _=W
 obtain ⟨hb,XA,XT,Z,hzW⟩:=mkbx48_16 hW;clear hW;replace p:=p.below hb;replace t:=t.below hb
 replace p:=p.below (Below.refl _ _).drew
 replace t:=t.below (Below.refl _ _).drew
 replace XA:=XA.below (Below.refl _ _).drew
 replace XT:=XT.below (Below.refl _ _).drew
 replace Z:=Z.below (Below.refl _ _).drew
 replace hb:=hb.drew
 go_region_held3 (fun w'=>w'.cell? ⟨w.heap.size,0,none⟩=some (.bool s_p)∧w'.cell? ⟨w.heap.size,1,none⟩=some (.slice A_p n_p c_p)∧w'.cell? ⟨w.heap.size,2,none⟩=some (.slice B_p m_p d_p)∧w'.cell? ⟨w.heap.size,3,none⟩=some (.bool t_p)∧w'.cell? ⟨w.heap.size,4,none⟩=some (.slice E_p i_p e_p)∧w'.cell? ⟨w.heap.size,5,none⟩=some (.slice F_p j_p f_p)∧w'.cell? ⟨w.heap.size+1,0,none⟩=some (.bool s)∧w'.cell? ⟨w.heap.size+1,1,none⟩=some (.slice A n c)∧w'.cell? ⟨w.heap.size+1,2,none⟩=some (.slice A' n' c'))
  (first | with_reducible exact ⟨XA.c0,XA.c1,XA.c2,XA.c3,XA.c4,XA.c5,XT.c0,XT.c1,XT.c2⟩ | with_reducible exact ⟨(XA.restm (by omega) (only_set9 _ _ _ _ _ _ _ _ _ _ _)).c0,(XA.restm (by omega) (only_set9 _ _ _ _ _ _ _ _ _ _ _)).c1,(XA.restm (by omega) (only_set9 _ _ _ _ _ _ _ _ _ _ _)).c2,(XA.restm (by omega) (only_set9 _ _ _ _ _ _ _ _ _ _ _)).c3,(XA.restm (by omega) (only_set9 _ _ _ _ _ _ _ _ _ _ _)).c4,(XA.restm (by omega) (only_set9 _ _ _ _ _ _ _ _ _ _ _)).c5,(XT.restm (by omega) (only_set9 _ _ _ _ _ _ _ _ _ _ _)).c0,(XT.restm (by omega) (only_set9 _ _ _ _ _ _ _ _ _ _ _)).c1,(XT.restm (by omega) (only_set9 _ _ _ _ _ _ _ _ _ _ _)).c2⟩)
  (first
  | (go_at_call 79;(with_reducible refine (rmul3 p.qx t (by omega) (by omega)).mono ?_);rintro e w_r1 ⟨s_r1,A_r1,n_r1,c_r1,B_r1,m_r1,d_r1,rfl,r1,hh⟩
     (try replace p:=p.below hh);(try replace t:=t.below hh);(try replace XA:=XA.below hh);(try replace XT:=XT.below hh);(try replace Z:=Z.below hh);(try replace r2:=r2.below hh);replace hb:=bend hb hh)
  | (go_at_call 79;(with_reducible refine (rmul3 p.qy t (by omega) (by omega)).mono ?_);rintro e w_r2 ⟨s_r2,A_r2,n_r2,c_r2,B_r2,m_r2,d_r2,rfl,r2,hh⟩
     (try replace p:=p.below hh);(try replace t:=t.below hh);(try replace XA:=XA.below hh);(try replace XT:=XT.below hh);(try replace Z:=Z.below hh);(try replace r1:=r1.below hh);replace hb:=bend hb hh
     have zst:=Z.st (.bool s_r1) (.slice A_r1 n_r1 c_r1) (.slice B_r1 m_r1 d_r1) (.bool s_r2) (.slice A_r2 n_r2 c_r2) (.slice B_r2 m_r2 d_r2) (.bool s) (.slice A n c) (.slice A' n' c') (by simp [Value.oneCell'])))
 go_wp2_with fail
 have t2:=t.more (show kt≤k+kt by omega)
 have Z2:=Z.set9 (.bool s_r1) (.slice A_r1 n_r1 c_r1) (.slice B_r1 m_r1 d_r1) (.bool s_r2) (.slice A_r2 n_r2 c_r2) (.slice B_r2 m_r2 d_r2) (.bool s) (.slice A n c) (.slice A' n' c')
 have gl:=Z2.ld
 refine bodyPost_ret (v:=.agg #[.bool s_r1,.slice A_r1 n_r1 c_r1,.slice B_r1 m_r1 d_r1,.bool s_r2,.slice A_r2 n_r2 c_r2,.slice B_r2 m_r2 d_r2,.bool s,.slice A n c,.slice A' n' c']) (res_J Tryz.results43 _ _ (by simp) gl) rfl ?_
 exact ⟨⟨⟨s_r1,A_r1,n_r1,c_r1,B_r1,m_r1,d_r1⟩,⟨s_r2,A_r2,n_r2,c_r2,B_r2,m_r2,d_r2⟩,⟨s,A,n,c,A',n',c'⟩⟩,rfl,RH.set9 (h:=⟨⟨s_r1,A_r1,n_r1,c_r1,B_r1,m_r1,d_r1⟩,⟨s_r2,A_r2,n_r2,c_r2,B_r2,m_r2,d_r2⟩,⟨s,A,n,c,A',n',c'⟩⟩) (v:=⟨x*vt,y*vt,vt⟩) ⟨r1,r2,t2⟩ Z _ _ _ _ _ _ _ _ _,below_set9 hb (by omega) _ _ _ _ _ _ _ _ _⟩
theorem rp_of {s t:Bool} {A B E F:Option Addr} {n c m d i e j f k:Nat} {x y:Rat} (r:RQ w s A n c B m d x k) (u:RQ w t E i e F j f y k):RP w s A n c B m d t E i e F j f x y k:=⟨r,u⟩
theorem i64In.lo {x:Int} (h:i64In x):-9223372036854775808≤x:=h.1
theorem i64In.hi {x:Int} (h:i64In x):x < 9223372036854775808:=h.2
theorem mkbx49_16 {w W:World} {x0 x1 x2 x3 x4 x5 x6 x7 x8 x9 x10 x11 x12 x13 x14 x15 x16 x17 x18 x19 x20 x21 x22 x23:Value} (h:((w.alloc (Obj.cells #[x0,x1,x2,x3,x4,x5,x6,x7,x8,x9,x10,x11,x12,x13,x14,x15,x16,x17] 54)).alloc (Obj.cells #[x18,x19,x20,x21,x22,x23] 51))=W):Below w.heap.size w W∧B18R W (w.heap.size) x0 x1 x2 x3 x4 x5 x6 x7 x8 x9 x10 x11 x12 x13 x14 x15 x16 x17∧B6R W (w.heap.size+1) x18 x19 x20 x21 x22 x23∧W.heap.size=w.heap.size+2:=by subst h;exact ⟨by exact (((Below.refl _ _).alloc (Nat.le_refl _) _).alloc (by simp) _),by exact (B18R.new' _ _ _ _ _ _ _ _ _ _ _ _ _ _ _ _ _ _ _ _ rfl).alloc _,by exact B6R.new' _ _ _ _ _ _ _ _ (by simp),by simp⟩
theorem rat64 {k l:Nat} {v:AM} {m:MV} (x y:Int) (hx:i64In x) (hy:i64In y) (M:RM w m v k l) (hk:k≤3000) (hl:l≤9000) :
 Calls Tryz.prog 45 #[.agg #[.bool m.a.s,.slice m.a.A m.a.n m.a.c,.slice m.a.B m.a.m m.a.d,.bool m.b.s,.slice m.b.A m.b.n m.b.c,.slice m.b.B m.b.m m.b.d,.bool m.c.s,.slice m.c.A m.c.n m.c.c,.slice m.c.B m.c.m m.c.d,.bool m.d.s,.slice m.d.A m.d.n m.d.c,.slice m.d.B m.d.m m.d.d,.bool m.e.s,.slice m.e.A m.e.n m.e.c,.slice m.e.B m.e.m m.e.d,.bool m.f.s,.slice m.f.A m.f.n m.f.c,.slice m.f.B m.f.m m.f.d],.int .i64 x,.int .i64 y] w (GivesRP w (v.ax (Rat.divInt x 64) (Rat.divInt y 64)) (v.ay (Rat.divInt x 64) (Rat.divInt y 64)) (k+2+(k+2)+1+l+1)):=by
 have Hx:=Lib.hid hx;have Hy:=Lib.hid hy;clear hx hy
 go_enter Tryz.func45,Tryz.ntmps45
 go_upto_region 1 with (fail)
 generalize hW:World.alloc _ _=W
 obtain ⟨hb,XA,Z,hzW⟩:=mkbx49_16 hW;clear hW;replace M:=M.below hb
 replace M:=M.below (Below.refl _ _).drew
 replace XA:=XA.below (Below.refl _ _).drew
 replace Z:=Z.below (Below.refl _ _).drew
 replace hb:=hb.drew
 go_region_held3 (fun w'=>(LVN ⟨w.heap.size,0,none⟩).run Tryz.prog w'=.ok (.agg #[.bool m.a.s,.slice m.a.A m.a.n m.a.c,.slice m.a.B m.a.m m.a.d,.bool m.b.s,.slice m.b.A m.b.n m.b.c,.slice m.b.B m.b.m m.b.d,.bool m.c.s,.slice m.c.A m.c.n m.c.c,.slice m.c.B m.c.m m.c.d,.bool m.d.s,.slice m.d.A m.d.n m.d.c,.slice m.d.B m.d.m m.d.d,.bool m.e.s,.slice m.e.A m.e.n m.e.c,.slice m.e.B m.e.m m.e.d,.bool m.f.s,.slice m.f.A m.f.n m.f.c,.slice m.f.B m.f.m m.f.d]) w')
  (first | with_reducible exact XA.ld | with_reducible exact (XA.restm (by omega) (only_set6 _ _ _ _ _ _ _ _)).ld)
  (first
  | (go_at_call 42;(with_reducible refine (rof3 x 64 Hx.out.lo Hx.out.hi (by decide) (by decide) (by decide) _).mono ?_);rintro e w_r ⟨s_r,A_r,n_r,c_r,B_r,m_r,d_r,rfl,r,hh⟩
     (try replace M:=M.below hh);(try replace XA:=XA.below hh);(try replace Z:=Z.below hh);(try replace u:=u.below hh);(try replace q:=q.below hh);replace hb:=bend hb hh)
  | (go_at_call 42;(with_reducible refine (rof3 y 64 Hy.out.lo Hy.out.hi (by decide) (by decide) (by decide) _).mono ?_);rintro e w_u ⟨s_u,A_u,n_u,c_u,B_u,m_u,d_u,rfl,u,hh⟩
     (try replace M:=M.below hh);(try replace XA:=XA.below hh);(try replace Z:=Z.below hh);(try replace r:=r.below hh);(try replace q:=q.below hh);replace hb:=bend hb hh)
  | (go_at_call 44;(with_reducible refine (rapply9 M (rp_of r u) (by omega) (by omega)).mono ?_);rintro e w_q ⟨s_q,A_q,n_q,c_q,B_q,m_q,d_q,t_q,E_q,i_q,e_q,F_q,j_q,f_q,rfl,q,hh⟩
     (try replace M:=M.below hh);(try replace XA:=XA.below hh);(try replace Z:=Z.below hh);(try replace r:=r.below hh);(try replace u:=u.below hh);replace hb:=bend hb hh;have zg0:=Z.f0;have zg1:=Z.f1;have zg2:=Z.f2;have zg3:=Z.f3;have zg4:=Z.f4;have zg5:=Z.f5;obtain ⟨zc0,zc1,zc2,zc3,zc4,zc5⟩:=Z.all))
 go_wp2_with fail
 have Z2:=Z.set6 (.bool s_q) (.slice A_q n_q c_q) (.slice B_q m_q d_q) (.bool t_q) (.slice E_q i_q e_q) (.slice F_q j_q f_q)
 obtain ⟨g0,g1,g2,g3,g4,g5⟩:=Z2.all
 refine bodyPost_ret (v:=.agg #[.bool s_q,.slice A_q n_q c_q,.slice B_q m_q d_q,.bool t_q,.slice E_q i_q e_q,.slice F_q j_q f_q]) (by simp [results,Tryz.results45,go_sem,g0,g1,g2,g3,g4,g5]) rfl ?_
 exact ⟨s_q,A_q,n_q,c_q,B_q,m_q,d_q,t_q,E_q,i_q,e_q,F_q,j_q,f_q,rfl,q.set6 Z _ _ _ _ _ _,below_set6 hb (by omega) _ _ _ _ _ _⟩
end
section
open Go Go.RowKit
attribute [local go_sem ↓] open_LVH open_STH open_LVJ open_STJ
theorem one_n:(Rat.divInt 1 1).num.natAbs < B64 ^ 1:=by decide +kernel
theorem one_d:(Rat.divInt 1 1).den < B64 ^ 1:=by decide +kernel
theorem Ln.svX {T:TypeId} {base:Nat} {A:Option Addr} {n c:Nat} {L:List PV} (h:Ln T base w (.slice A n c) L):SV w A (pvs L):=fun hn=>by
 rcases h.own.2 with ⟨_,e⟩ | ⟨g,cap,cur,hv,_,hg,_⟩
 · rw [show L=[] from List.length_eq_zero_iff.1 e] at hn;exact absurd hn (by simp [pvs])
 · have hc:=h.own.cells (g:=g) (by rw [hv];rfl)
   have ha:∀ j,(⟨g,0,none⟩:Addr).add j=⟨g,j,none⟩:=fun j=>by unfold Addr.add;split <;> simp_all
   simp only [Value.slice.injEq] at hv
   refine ⟨g,0,hv.1,?_,fun j u hu=>by have:=hc j u hu;rw [ha] at this;rw [Nat.zero_add];exact this⟩
   rcases Nat.lt_or_ge g w.heap.size with q | q
   · exact q
   · rw [Array.getElem?_eq_none q] at hg;cases hg
def quadH (V:List (Rat × Rat)):List AH:=V.map fun u=>⟨u.1,u.2,1⟩
theorem E6x.pushX {w w':World} {g o:Nat} {p:PV} {row:Option Nat} (h:E6x w g o p) (hg:w.grownBy w' row) (hne:∀ k,row=some k→k ≠ g):E6x w' g o p:=by
 have hs:=hg.block g h.lt (fun e=>hne g e.symm rfl)
 exact ⟨Nat.lt_of_lt_of_le h.lt hg.size,(World.cell?_of_block (a:=⟨g,o,none⟩) hs).trans h.c0,(World.cell?_of_block (a:=⟨g,o+1,none⟩) hs).trans h.c1,(World.cell?_of_block (a:=⟨g,o+2,none⟩) hs).trans h.c2,(World.cell?_of_block (a:=⟨g,o+3,none⟩) hs).trans h.c3,(World.cell?_of_block (a:=⟨g,o+4,none⟩) hs).trans h.c4,(World.cell?_of_block (a:=⟨g,o+5,none⟩) hs).trans h.c5⟩
theorem cquad {k:Nat} {x y x2 y2 x3 y3:Rat} (p:PG w s_p A_p n_p c_p B_p m_p d_p t_p E_p i_p e_p F_p j_p f_p x y k) (q:PG w s_q A_q n_q c_q B_q m_q d_q t_q E_q i_q e_q F_q j_q f_q x2 y2 k) (r:PG w s_r A_r n_r c_r B_r m_r d_r t_r E_r i_r e_r F_r j_r f_r x3 y3 k) (h1:1≤k) :
 Calls Tryz.prog 33 #[.agg #[.bool s_p,.slice A_p n_p c_p,.slice B_p m_p d_p,.bool t_p,.slice E_p i_p e_p,.slice F_p j_p f_p],.agg #[.bool s_q,.slice A_q n_q c_q,.slice B_q m_q d_q,.bool t_q,.slice E_q i_q e_q,.slice F_q j_q f_q],.agg #[.bool s_r,.slice A_r n_r c_r,.slice B_r m_r d_r,.bool t_r,.slice E_r i_r e_r,.slice F_r j_r f_r]] w (GivesHs w (quadH [(x,y),(x2,y2),(x3,y3)]) k):=by
 go_enter Tryz.func33,Tryz.ntmps33
 go_upto_region 1 with (fail)
 generalize hW:World.alloc _ _=W
 obtain ⟨hb,XA,XB,XC,hzW⟩:=mkbx18_10 hW;clear hW;replace p:=p.below hb;replace q:=q.below hb;replace r:=r.below hb;obtain ⟨xa0,xa1,xa2,xa3,xa4,xa5⟩:=XA.all;obtain ⟨xb0,xb1,xb2,xb3,xb4,xb5⟩:=XB.all;obtain ⟨xc0,xc1,xc2,xc3,xc4,xc5⟩:=XC.all
 have hLit:=Ln.lit (T:=28) (base:=W.heap.size) W [(PV.mk s_p A_p n_p c_p B_p m_p d_p t_p E_p i_p e_p F_p j_p f_p:PV),(PV.mk s_q A_q n_q c_q B_q m_q d_q t_q E_q i_q e_q F_q j_q f_q:PV),(PV.mk s_r A_r n_r c_r B_r m_r d_r t_r E_r i_r e_r F_r j_r f_r:PV)] (Nat.le_refl _) (by simp)
 have hal0:Below W.heap.size W (W.alloc (Obj.cells #[Value.bool s_p,Value.slice A_p n_p c_p,Value.slice B_p m_p d_p,Value.bool t_p,Value.slice E_p i_p e_p,Value.slice F_p j_p f_p,Value.bool s_q,Value.slice A_q n_q c_q,Value.slice B_q m_q d_q,Value.bool t_q,Value.slice E_q i_q e_q,Value.slice F_q j_q f_q,Value.bool s_r,Value.slice A_r n_r c_r,Value.slice B_r m_r d_r,Value.bool t_r,Value.slice E_r i_r e_r,Value.slice F_r j_r f_r] 28)):=((Below.refl _ _).alloc (Nat.le_refl _) _)
 have hE0:Each PV.PG (W.alloc (Obj.cells #[Value.bool s_p,Value.slice A_p n_p c_p,Value.slice B_p m_p d_p,Value.bool t_p,Value.slice E_p i_p e_p,Value.slice F_p j_p f_p,Value.bool s_q,Value.slice A_q n_q c_q,Value.slice B_q m_q d_q,Value.bool t_q,Value.slice E_q i_q e_q,Value.slice F_q j_q f_q,Value.bool s_r,Value.slice A_r n_r c_r,Value.slice B_r m_r d_r,Value.bool t_r,Value.slice E_r i_r e_r,Value.slice F_r j_r f_r] 28)) [(PV.mk s_p A_p n_p c_p B_p m_p d_p t_p E_p i_p e_p F_p j_p f_p:PV),(PV.mk s_q A_q n_q c_q B_q m_q d_q t_q E_q i_q e_q F_q j_q f_q:PV),(PV.mk s_r A_r n_r c_r B_r m_r d_r t_r E_r i_r e_r F_r j_r f_r:PV)] [(x,y),(x2,y2),(x3,y3)] k:=⟨rfl,fun i a b ha hb=>by
  match i with
  | 0=>cases ha;cases hb;exact PG.below p hal0
  | 1=>cases ha;cases hb;exact PG.below q hal0
  | 2=>cases ha;cases hb;exact PG.below r hal0
  | i+3=>cases ha⟩
 have hSV:SV (W.alloc (Obj.cells #[Value.bool s_p,Value.slice A_p n_p c_p,Value.slice B_p m_p d_p,Value.bool t_p,Value.slice E_p i_p e_p,Value.slice F_p j_p f_p,Value.bool s_q,Value.slice A_q n_q c_q,Value.slice B_q m_q d_q,Value.bool t_q,Value.slice E_q i_q e_q,Value.slice F_q j_q f_q,Value.bool s_r,Value.slice A_r n_r c_r,Value.slice B_r m_r d_r,Value.bool t_r,Value.slice E_r i_r e_r,Value.slice F_r j_r f_r] 28)) (some ⟨W.heap.size,0,none⟩) (pvs [(PV.mk s_p A_p n_p c_p B_p m_p d_p t_p E_p i_p e_p F_p j_p f_p:PV),(PV.mk s_q A_q n_q c_q B_q m_q d_q t_q E_q i_q e_q F_q j_q f_q:PV),(PV.mk s_r A_r n_r c_r B_r m_r d_r t_r E_r i_r e_r F_r j_r f_r:PV)]):=hLit.svX
 have hb0:=bend hb hal0;clear p q r hLit
 go_wp2_with fail
 generalize hL0:[(PV.mk s_p A_p n_p c_p B_p m_p d_p t_p E_p i_p e_p F_p j_p f_p:PV),(PV.mk s_q A_q n_q c_q B_q m_q d_q t_q E_q i_q e_q F_q j_q f_q:PV),(PV.mk s_r A_r n_r c_r B_r m_r d_r t_r E_r i_r e_r F_r j_r f_r:PV)]=L0 at *
 generalize hV0:[(x,y),(x2,y2),(x3,y3)]=V0 at *
 have HLl:Hid (L0.length=3):=by show _=_;rw [← hL0];rfl
 have HVl:Hid (V0.length=3):=by show _=_;rw [← hV0];rfl
 clear hL0 hV0
 generalize (W.alloc (Obj.cells #[Value.bool s_p,Value.slice A_p n_p c_p,Value.slice B_p m_p d_p,Value.bool t_p,Value.slice E_p i_p e_p,Value.slice F_p j_p f_p,Value.bool s_q,Value.slice A_q n_q c_q,Value.slice B_q m_q d_q,Value.bool t_q,Value.slice E_q i_q e_q,Value.slice F_q j_q f_q,Value.bool s_r,Value.slice A_r n_r c_r,Value.slice B_r m_r d_r,Value.bool t_r,Value.slice E_r i_r e_r,Value.slice F_r j_r f_r] 28))=W0 at *
 rw [hzW] at hSV
 generalize (some ({block:=w.heap.size+3,off:=0,spot:=none}:Addr))=A0 at *
 have HL9:=Lib.hid hSV;have E9:=Lib.hid hE0;have HB9:=Lib.hid hb0;clear hSV hE0 hb0 hb XA XB XC xa0 xa1 xa2 xa3 xa4 xa5 xb0 xb1 xb2 xb3 xb4 xb5 xc0 xc1 xc2 xc3 xc4 xc5
 go_loopg [8,9] 3 (fun gk out ix wr=>∃ (M:List HV) (m:Nat),Hid (gk+m=3)∧ix=.int .i64 (m:Int)∧LnH 79 W0.heap.size wr out M∧Hid (EachH HG wr M ((quadH V0).take m) k)∧Below W0.heap.size W0 wr)
 case atStart=>exact ⟨[],0,rfl,rfl,LnH.nil _ _ _,⟨rfl,fun i p u h=>by cases h⟩,Below.refl _ _⟩
 case round =>
  obtain ⟨M,m,HG9,rfl,LT,HQ,hB⟩:=hrel
  by_cases hmn:m < 3
  · obtain ⟨P,u,hP1,hu1,p0⟩:=(Each.below E9.out hB).at_ (i:=m) (by rw [HLl.out];exact hmn)
    obtain ⟨g0,o0,hix0,EP0,_⟩:=HL9.out.pt hP1
    have hixa:∀ (c:Nat) (w':World),(Instr.indexAt 83 (.slice A0 3 c) (.int .i64 (m:Int))).run Tryz.prog w'=.ok (.pointer (some ⟨g0,o0,none⟩)) w':=fun c w'=>hix0 3 c w' hmn
    have hlt:(m:Int) < 3:=by omega
    have hwr:IntKind.i64.wrap ((m:Int)+1)=(m:Int)+1:=IntWalk.i64_in _ (by omega)
    have HU:Hid ((quadH V0)[m]?=some ⟨u.1,u.2,1⟩):=by show _=_;unfold quadH;rw [List.getElem?_map,hu1];rfl
    have hMl:M.length≤1000000:=by have:=HQ.out.1;rw [List.length_take] at this;omega
    have HMN:=Lib.hid hmn;have EP:=EP0.below hB
    have hxg:∀ b,u8.ownBlock=some b→b ≠ g0:=fun b e=>by have:=LT.own_base e;have:=EP0.lt;omega
    replace p0:PG wr P.s P.A P.n P.c P.B P.m P.d P.t P.E P.i P.e P.F P.j P.f u.1 u.2 k:=p0
    clear hP1 hu1 hix0 hmn EP0
    go_upto_region 6 with (fail)
    replace LT:=LT.below (Below.refl _ _).drew
    replace EP:=EP.below (Below.refl _ _).drew
    replace p0:=p0.below (Below.refl _ _).drew
    replace HQ:=Lib.hid (EachH.belowG HQ.out (Below.refl _ _).drew)
    replace hB:=hB.drew
    go_region_held3 (fun w'=>w'.cell? ⟨g0,o0,none⟩=some (.bool P.s)∧w'.cell? ⟨g0,o0+1,none⟩=some (.slice P.A P.n P.c)∧w'.cell? ⟨g0,o0+2,none⟩=some (.slice P.B P.m P.d)∧w'.cell? ⟨g0,o0+3,none⟩=some (.bool P.t)∧w'.cell? ⟨g0,o0+4,none⟩=some (.slice P.E P.i P.e)∧w'.cell? ⟨g0,o0+5,none⟩=some (.slice P.F P.j P.f))
     (first | with_reducible exact ⟨EPb.c0,EPb.c1,EPb.c2,EPb.c3,EPb.c4,EPb.c5⟩ | with_reducible exact ⟨EP.c0,EP.c1,EP.c2,EP.c3,EP.c4,EP.c5⟩ | exact ⟨(EP.below ((Below.refl _ _).alloc (Nat.le_refl _) _)).c0,(EP.below ((Below.refl _ _).alloc (Nat.le_refl _) _)).c1,(EP.below ((Below.refl _ _).alloc (Nat.le_refl _) _)).c2,(EP.below ((Below.refl _ _).alloc (Nat.le_refl _) _)).c3,(EP.below ((Below.refl _ _).alloc (Nat.le_refl _) _)).c4,(EP.below ((Below.refl _ _).alloc (Nat.le_refl _) _)).c5⟩)
     (first
     | (go_at_call 42;(with_reducible refine (rof3 1 1 (by decide) (by decide) (by decide) (by decide) (by decide) _).mono ?_);rintro e w_a ⟨s_a,A_a,n_a,c_a,B_a,m_a,d_a,rfl,a,hh⟩
        (try replace LT:=LT.below hh);(try replace EP:=EP.below hh);(try replace p0:=p0.below hh)
        replace HQ:=Lib.hid (EachH.belowG HQ.out hh)
        replace hB:=bend hB hh)
     | (go_at_call 48;(with_reducible refine (rout3g a (by decide) 1 one_n one_d).mono ?_);rintro e w_o ⟨s_o,A_o,n_o,c_o,B_o,m_o,d_o,rfl,o,hh⟩
        (try replace LT:=LT.below hh);(try replace EP:=EP.below hh);(try replace p0:=p0.below hh)
        replace HQ:=Lib.hid (EachH.belowG HQ.out hh)
        replace hB:=bend hB hh)
     | (have hal:Below w_o.heap.size w_o (w_o.alloc (Obj.cells #[Value.bool P.s,Value.slice P.A P.n P.c,Value.slice P.B P.m P.d,Value.bool P.t,Value.slice P.E P.i P.e,Value.slice P.F P.j P.f,Value.bool s_o,Value.slice A_o n_o c_o,Value.slice B_o m_o d_o] 79)):=((Below.refl _ _).alloc (Nat.le_refl _) _)
        have EPa:=EP.below hal
        refine step_pushH Tryz.underlying37 info_hom (by rfl) _ _ (by rfl) (p:=(⟨⟨P.s,P.A,P.n,P.c,P.B,P.m,P.d⟩,⟨P.t,P.E,P.i,P.e,P.F,P.j,P.f⟩,⟨s_o,A_o,n_o,c_o,B_o,m_o,d_o⟩⟩:HV)) (k0:=1) (b:=w_o.heap.size) (by rfl) (by rfl) (LT.below hal) (Nat.le_trans hB.size hal.size) hMl (heap_alloc_new w_o _) ?_
        intro v3 w3 hn3 hg3 ho3
        have EPb:=EPa.pushX hg3 hxg))
    rw [one_q] at o
    have hE3:EachH HG (w_o.alloc (Obj.cells #[Value.bool P.s,Value.slice P.A P.n P.c,Value.slice P.B P.m P.d,Value.bool P.t,Value.slice P.E P.i P.e,Value.slice P.F P.j P.f,Value.bool s_o,Value.slice A_o n_o c_o,Value.slice B_o m_o d_o] 79)) M ((quadH V0).take m) k:=EachH.belowG HQ.out hal
    have hp3:HG (w_o.alloc (Obj.cells #[Value.bool P.s,Value.slice P.A P.n P.c,Value.slice P.B P.m P.d,Value.bool P.t,Value.slice P.E P.i P.e,Value.slice P.F P.j P.f,Value.bool s_o,Value.slice A_o n_o c_o,Value.slice B_o m_o d_o] 79)) (⟨⟨P.s,P.A,P.n,P.c,P.B,P.m,P.d⟩,⟨P.t,P.E,P.i,P.e,P.F,P.j,P.f⟩,⟨s_o,A_o,n_o,c_o,B_o,m_o,d_o⟩⟩:HV) ⟨u.1,u.2,1⟩ k:=(HG.below (h:=(⟨⟨P.s,P.A,P.n,P.c,P.B,P.m,P.d⟩,⟨P.t,P.E,P.i,P.e,P.F,P.j,P.f⟩,⟨s_o,A_o,n_o,c_o,B_o,m_o,d_o⟩⟩:HV)) (v:=⟨u.1,u.2,1⟩) (k:=k) ⟨p0.1,p0.2,o.more h1⟩ hal)
    have hB9:=LnH.under (T:=79) (base:=W0.heap.size) (LT.below hal) hg3 (w0:=W0) (bend hB hal) (Nat.le_refl _)
    have hE4:=takeH HU.out (EachH.push hE3 (fun _ _ h=>(LT.below hal).hg hg3 h) ((LT.below hal).hg hg3 hp3))
    clear hE3 hp3 EPa EPb EP p0 o a
    go_wp2_with fail
    go_roundg (gk - 1)
    case measure=>have:=HG9.out;have:=HMN.out;omega
    case rel=>exact ⟨M ++ [(⟨⟨P.s,P.A,P.n,P.c,P.B,P.m,P.d⟩,⟨P.t,P.E,P.i,P.e,P.F,P.j,P.f⟩,⟨s_o,A_o,n_o,c_o,B_o,m_o,d_o⟩⟩:HV)],m+1,by have:=HG9.out;have:=HMN.out;show _=_;omega,by go_num,hn3,Lib.hid hE4,hB9⟩
  · have hlt:¬ (m:Int) < 3:=by omega
    have HQ2:Hid (EachH HG wr M (quadH V0) k):=by
     have h:=HQ.out
     rwa [List.take_of_length_le (by unfold quadH;rw [List.length_map,HVl.out];omega)] at h
    clear hmn
    go_wp2_with fail
    (try rw [Exit.noGoto_ret])
    go_ret
    exact ⟨_,M,rfl,LT.base_le HB9.out.size,HQ2.out,bend HB9.out hB⟩
end
section
open Go Go.RowKit
attribute [local go_sem ↓] open_LVM open_STM open_LVN open_STN
attribute [local go_sem ↓] open_LVH open_STH open_LVJ open_STJ
instance (V:List AH):Decidable (GoodH V):=by unfold GoodH;exact inferInstance
abbrev wkV0:List AH:=(quadH [(Rat.divInt 0 1,Rat.divInt 0 1),(Rat.divInt 1 1,Rat.divInt 2 1),(Rat.divInt 2 1,Rat.divInt 0 1)])
abbrev wkU:SV8:=(⟨5,64,128,128,0,0,0,128⟩:SV8)
abbrev wkV1:List AH:=(ofL AM.one (Rat.divInt 0 1) (Rat.divInt 0 1) (⟨5,64,128,128,0,0,0,128⟩:SV8) 2)
theorem wk13_good:GoodH wkV0:=by decide +kernel
theorem wk13_good1:GoodH wkV1:=by decide +kernel
theorem wk13_t0:0≤Rat.divInt 1 2:=by decide +kernel
theorem wk13_t1:Rat.divInt 1 2≤1:=by decide +kernel
theorem wk13_ts:sgnQ (Rat.divInt 1 2)=1:=by decide +kernel
theorem wk13_us:sgnQ (Rat.divInt 3 2)=1:=by decide +kernel
theorem wk13_u1:1 < Rat.divInt 3 2:=by decide +kernel
theorem wk13_at:decide ((bez (Rat.divInt 1 2) wkV0).px=Rat.divInt 1 1∧(bez (Rat.divInt 1 2) wkV0).py=Rat.divInt 1 1)=true:=by decide +kernel
theorem wk13_w:(⟨(qtxt (ofA AM.one wkU 0).w).toArray⟩:ByteArray)=⟨#[50]⟩:=by
 rw [qtxt_i (a:=2) (by decide +kernel) (by decide +kernel) (txt_one (d:=2) (by decide) (by decide) rfl)];rfl
theorem wk13_y:(⟨(qtxt (ofA AM.one wkU 0).y).toArray⟩:ByteArray)=⟨#[52]⟩:=by
 rw [qtxt_i (a:=4) (by decide +kernel) (by decide +kernel) (txt_one (d:=4) (by decide) (by decide) rfl)];rfl
theorem wk13_in:wkU.In:=⟨by unfold i64In;decide,fun i=>by
 match i with
 | 0=>show i64In 64;unfold i64In;decide
 | 1=>show i64In 128;unfold i64In;decide
 | 2=>show i64In 128;unfold i64In;decide
 | 3=>show i64In 0;unfold i64In;decide
 | 4=>show i64In 0;unfold i64In;decide
 | i+5=>show i64In 0;unfold i64In;decide,by unfold i64In;decide⟩
theorem wk_of {m:MV} (p:PG w s_p A_p n_p c_p B_p m_p d_p t_p E_p i_p e_p F_p j_p f_p (Rat.divInt 0 1) (Rat.divInt 0 1) 1) (M:MG w m AM.one 1 1) :
 Calls Tryz.prog 11 #[.agg #[.bool s_p,.slice A_p n_p c_p,.slice B_p m_p d_p,.bool t_p,.slice E_p i_p e_p,.slice F_p j_p f_p],.agg #[.int .i64 5,.int .i64 64,.int .i64 128,.int .i64 128,.int .i64 0,.int .i64 0,.int .i64 0,.int .i64 128],.agg #[.bool m.a.s,.slice m.a.A m.a.n m.a.c,.slice m.a.B m.a.m m.a.d,.bool m.b.s,.slice m.b.A m.b.n m.b.c,.slice m.b.B m.b.m m.b.d,.bool m.c.s,.slice m.c.A m.c.n m.c.c,.slice m.c.B m.c.m m.c.d,.bool m.d.s,.slice m.d.A m.d.n m.d.c,.slice m.d.B m.d.m m.d.d,.bool m.e.s,.slice m.e.A m.e.n m.e.c,.slice m.e.B m.e.m m.e.d,.bool m.f.s,.slice m.f.A m.f.n m.f.c,.slice m.f.B m.f.m m.f.d]] w (GivesHsE w wkV1 8) :=
 cof_5 (u:=wkU) p.pr M.mr wk13_in (by decide) (by decide) (by decide) (by decide) (by decide) 2 rfl (by decide) rfl (by decide)
theorem wakes13_any (w:World):Calls Tryz.prog 10 #[] w fun e w'=>e=.returned (.bool true)∧Below w.heap.size w w':=by
 have hb:Below w.heap.size w w:=Below.refl _ _
 go_enter Tryz.func10,Tryz.ntmps10
 go_upto_region 3 with (first
  | (go_at_call 32;(with_reducible refine (lawP 0 0 (by decide) (by decide) (by decide) (by decide) _).mono ?_);rintro e w_p ⟨s_p,A_p,n_p,c_p,B_p,m_p,d_p,t_p,E_p,i_p,e_p,F_p,j_p,f_p,rfl,p,hh⟩
     replace hb:=bend hb hh)
  | (go_at_call 32;(with_reducible refine (lawP 1 2 (by decide) (by decide) (by decide) (by decide) _).mono ?_);rintro e w_q ⟨s_q,A_q,n_q,c_q,B_q,m_q,d_q,t_q,E_q,i_q,e_q,F_q,j_q,f_q,rfl,q,hh⟩
     (try replace p:=p.below hh);replace hb:=bend hb hh)
  | (go_at_call 32;(with_reducible refine (lawP 2 0 (by decide) (by decide) (by decide) (by decide) _).mono ?_);rintro e w_r ⟨s_r,A_r,n_r,c_r,B_r,m_r,d_r,t_r,E_r,i_r,e_r,F_r,j_r,f_r,rfl,r,hh⟩
     (try replace p:=p.below hh);(try replace q:=q.below hh);replace hb:=bend hb hh)
  | (go_at_call 33;(with_reducible refine (cquad p q r (by decide)).mono ?_);rintro e w_u ⟨v1,M1,rfl,l1,e1,hh⟩
     replace hb:=bend hb hh
     obtain ⟨A_x,c_x,rfl,_,_⟩:=l1.form
     have hM1:M1.length=3:=e1.1
     rw [hM1] at l1 ⊢
     have LM1:=l1.sv)
  | (go_at_call 26;(with_reducible refine (rof_q 1 2 (by decide) (by decide) (by decide) (by decide) (by decide) _).mono ?_);rintro e w_h ⟨s_h,A_h,n_h,c_h,B_h,m_h,d_h,rfl,h,hh⟩
     (try replace LM1:=LM1.below hh);replace hb:=bend hb hh;replace e1:=EachH.belowG e1 hh)
  | (go_at_call 25;(with_reducible refine (cat_p1 (n:=3) LM1 e1.hr hM1 h.qr (by decide) (by decide) (by decide) (by decide) wk13_good wk13_t0 wk13_t1 wk13_ts).mono ?_);rintro e w_a ⟨s_a,A_a,n_a,c_a,B_a,m_a,d_a,t_a,E_a,i_a,e_a,F_a,j_a,f_a,rfl,a,hh⟩
     replace hb:=bend hb hh))
 clear p q r LM1 l1 e1 h
 have XQ:=B6.new' w_a (Value.bool s_a) (Value.slice A_a n_a c_a) (Value.slice B_a m_a d_a) (Value.bool t_a) (Value.slice E_a i_a e_a) (Value.slice F_a j_a f_a) w_a.heap.size rfl
 have hh:Below w_a.heap.size w_a (w_a.alloc (Obj.cells #[Value.bool s_a,Value.slice A_a n_a c_a,Value.slice B_a m_a d_a,Value.bool t_a,Value.slice E_a i_a e_a,Value.slice F_a j_a f_a] 28)):=(Below.refl w_a.heap.size w_a).alloc (Nat.le_refl _) _
 generalize (w_a.alloc (Obj.cells #[Value.bool s_a,Value.slice A_a n_a c_a,Value.slice B_a m_a d_a,Value.bool t_a,Value.slice E_a i_a e_a,Value.slice F_a j_a f_a] 28))=W2 at *
 replace a:=a.below hh;replace hb:=bend hb hh;clear hh
 have hcO:Hid True:=trivial
 go_upto_region 4 with (first
  | (go_at_call 32;(with_reducible refine (lawP 0 0 (by decide) (by decide) (by decide) (by decide) _).mono ?_);rintro e w_p ⟨s_p,A_p,n_p,c_p,B_p,m_p,d_p,t_p,E_p,i_p,e_p,F_p,j_p,f_p,rfl,p,hh⟩
     (try replace a:=a.below hh);(try replace XQ:=XQ.below hh);replace hb:=bend hb hh)
  | (go_at_call 34;(with_reducible refine (mone_p _).mono ?_);rintro e w_m ⟨m,rfl,mh,hh⟩
     (try replace a:=a.below hh);(try replace XQ:=XQ.below hh);(try replace p:=p.below hh);replace hb:=bend hb hh)
  | (go_at_call 11;(with_reducible refine (wk_of p mh).mono ?_);rintro e w_l ⟨v2,M2,rfl,l2,e2,hh⟩
     (try replace a:=a.below hh);(try replace XQ:=XQ.below hh);replace hb:=bend hb hh
     obtain ⟨A_y,c_y,rfl,_,_⟩:=l2.form
     have hM2:M2.length=3:=e2.1
     rw [hM2] at l2 ⊢
     have LM2:=l2.sv;clear p mh))
 go_upto_region 5 with (first
  | (go_at_call 26;(with_reducible refine (rof_q 3 2 (by decide) (by decide) (by decide) (by decide) (by decide) _).mono ?_);rintro e w_h ⟨s_h,A_h,n_h,c_h,B_h,m_h,d_h,rfl,h,hh⟩
     (try replace LM2:=LM2.below hh);(try replace a:=a.below hh);(try replace XQ:=XQ.below hh);replace hb:=bend hb hh;replace e2:=EachH.belowG e2 hh)
  | (go_at_call 25;(with_reducible refine (cat_g1 (n:=3) LM2 e2.hr hM2 h.qr (by decide) (by decide) (by decide) (by decide) ⟨fun _=>wk13_good1,fun _=>rfl⟩ wk13_us wk13_u1).mono ?_);rintro e w_b ⟨rfl,hh⟩
     (try replace LM2:=LM2.below hh);(try replace a:=a.below hh);(try replace XQ:=XQ.below hh);replace hb:=bend hb hh;replace e2:=EachH.belowG e2 hh;clear h))
 clear l2
 have XU:=B6.new' w_b (Value.bool false) (Value.slice none 0 0) (Value.slice none 0 0) (Value.bool false) (Value.slice none 0 0) (Value.slice none 0 0) w_b.heap.size rfl
 have hh:Below w_b.heap.size w_b (w_b.alloc (Obj.cells #[Value.bool false,Value.slice none 0 0,Value.slice none 0 0,Value.bool false,Value.slice none 0 0,Value.slice none 0 0] 28)):=(Below.refl w_b.heap.size w_b).alloc (Nat.le_refl _) _
 generalize (w_b.alloc (Obj.cells #[Value.bool false,Value.slice none 0 0,Value.slice none 0 0,Value.bool false,Value.slice none 0 0,Value.slice none 0 0] 28))=W4 at *
 replace a:=a.below hh;replace XQ:=XQ.below hh;replace LM2:=LM2.below hh;replace e2:=EachH.belowG e2 hh;replace hb:=bend hb hh;clear hh
 obtain ⟨P,u,hP,hu,hp⟩:=e2.at_ (i:=1) (by rw [hM2];decide)
 obtain rfl:ofA AM.one wkU 0=u:=by
  have:=hu
  simp [ofL] at this
  exact this
 obtain ⟨g0,o0,hix0,EP,_⟩:=LM2.ht hP
 have hixa:∀ (c:Nat) (w':World),(Instr.indexAt 37 (.slice A_y 3 c) (.int .i64 1)).run Tryz.prog w'=.ok (.pointer (some ⟨g0,o0,none⟩)) w':=fun c w'=>hix0 3 c w' (by decide)
 have hG1:true=true ↔ GoodH wkV1:=⟨fun _=>wk13_good1,fun _=>rfl⟩
 clear hu hP hix0 XU
 replace a:=a.below (Below.refl _ _).drew
 replace XQ:=XQ.below (Below.refl _ _).drew
 replace LM2:=LM2.below (Below.refl _ _).drew
 replace EP:=EP.below (Below.refl _ _).drew
 replace hp:=hp.below (Below.refl _ _).drew
 replace hb:=hb.drew
 replace e2:=EachH.belowG e2 (Below.refl _ _).drew
 refine wp_region_held_drew (S:=(fun w'=>w'.cell? ⟨w_a.heap.size,0,none⟩=some (.bool s_a)∧w'.cell? ⟨w_a.heap.size,1,none⟩=some (.slice A_a n_a c_a)∧w'.cell? ⟨w_a.heap.size,2,none⟩=some (.slice B_a m_a d_a)∧w'.cell? ⟨w_a.heap.size,3,none⟩=some (.bool t_a)∧w'.cell? ⟨w_a.heap.size,4,none⟩=some (.slice E_a i_a e_a)∧w'.cell? ⟨w_a.heap.size,5,none⟩=some (.slice F_a j_a f_a)∧w'.cell? ⟨g0,o0+3,none⟩=some (.bool P.y.s)∧w'.cell? ⟨g0,o0+4,none⟩=some (.slice P.y.A P.y.n P.y.c)∧w'.cell? ⟨g0,o0+5,none⟩=some (.slice P.y.B P.y.m P.y.d)∧w'.cell? ⟨g0,o0+6,none⟩=some (.bool P.w.s)∧w'.cell? ⟨g0,o0+7,none⟩=some (.slice P.w.A P.w.n P.w.c)∧w'.cell? ⟨g0,o0+8,none⟩=some (.slice P.w.B P.w.m P.w.d))) (by kernel_rfl) (by with_reducible exact ⟨XQ.c0,XQ.c1,XQ.c2,XQ.c3,XQ.c4,XQ.c5,EP.c3,EP.c4,EP.c5,EP.c6,EP.c7,EP.c8⟩) (fun hHeld=>?_)
 refine wpAnyH_take (i:=0) (oi:=⟨some 35,.move (.tmp 3),38, "law.go:37",#[],none⟩) (v:=?_) rfl (by kernel_rfl) (by kernel_rfl) (by kernel_rfl) (fun _ _ _ h=>h) (Or.inl ⟨by rfl,?_⟩) hHeld ?_
 rotate_left
 · (intro w hSw;(try dsimp only at hSw);go_simp;try with_reducible rfl)
 simp only [Act.put,List.setIfInBounds_toArray,List.set_cons_zero,List.set_cons_succ]
 refine wpAnyH_take (i:=1) (oi:=⟨some 36,.binOp BinOp.eql 38 (.tmp 35) (.const (Value.int IntKind.i64 0)) 38,4, "law.go:37",#[⟨0,.data⟩],none⟩) (v:=?_) rfl (by kernel_rfl) (by kernel_rfl) (by kernel_rfl) (fun _ _ _ h=>h) (Or.inl ⟨by rfl,?_⟩) hHeld ?_
 rotate_left
 · (intro w hSw;(try dsimp only at hSw);go_simp;try with_reducible rfl)
 simp only [Act.put,List.setIfInBounds_toArray,List.set_cons_zero,List.set_cons_succ]
 refine wpAnyH_take (i:=2) (oi:=⟨some 37,.move (.tmp 36),4, "law.go:37",#[⟨1,.data⟩],none⟩) (v:=?_) rfl (by kernel_rfl) (by kernel_rfl) (by kernel_rfl) (fun _ _ _ h=>h) (Or.inl ⟨by rfl,?_⟩) hHeld ?_
 rotate_left
 · (intro w hSw;(try dsimp only at hSw);go_simp;try with_reducible rfl)
 simp only [Act.put,List.setIfInBounds_toArray,List.set_cons_zero,List.set_cons_succ]
 refine wpAnyH_take (i:=3) (oi:=⟨some 38,.load 28 (.tmp 2),28, "law.go:37",#[⟨2,.guard⟩],some (2,true)⟩) (v:=?_) rfl (by kernel_rfl) (by kernel_rfl) (by kernel_rfl) (fun _ _ _ h=>h) (Or.inl ⟨by rfl,?_⟩) hHeld ?_
 rotate_left
 · (intro w hSw;(try dsimp only at hSw);go_simp;try with_reducible rfl)
 simp only [Act.put,List.setIfInBounds_toArray,List.set_cons_zero,List.set_cons_succ]
 refine wpAnyH_take (i:=4) (oi:=⟨some 39,.move (.tmp 1),85, "law.go:37",#[⟨2,.guard⟩],some (2,true)⟩) (v:=?_) rfl (by kernel_rfl) (by kernel_rfl) (by kernel_rfl) (fun _ _ _ h=>h) (Or.inl ⟨by rfl,?_⟩) hHeld ?_
 rotate_left
 · (intro w hSw;(try dsimp only at hSw);go_simp;try with_reducible rfl)
 simp only [Act.put,List.setIfInBounds_toArray,List.set_cons_zero,List.set_cons_succ]
 refine wpAnyH_ready (rs:=[5]) (by kernel_rfl) (by simp) ?_
 refine AllReadyH.cons (o:=⟨some 40,.call ⟨.value (.tmp 39),#[.const (Value.int IntKind.i64 1),.const (Value.int IntKind.i64 1)],#[2,2]⟩,28, "law.go:37",#[⟨4,.data⟩,⟨2,.chain⟩,⟨2,.guard⟩],some (2,true)⟩) rfl (fun K1 hK1=>?_) AllReadyH.nil
 go_simp
 first
 | (go_at_call 32;(with_reducible refine (lawP 1 1 (by decide) (by decide) (by decide) (by decide) _).mono ?_);rintro e w_p ⟨s_p,A_p,n_p,c_p,B_p,m_p,d_p,t_p,E_p,i_p,e_p,F_p,j_p,f_p,rfl,p,hh⟩
    (try replace a:=a.below hh);(try replace XQ:=XQ.below hh);(try replace LM2:=LM2.below hh);(try replace EP:=EP.below hh);(try replace hp:=hp.below hh);replace hb:=bend hb hh;replace e2:=EachH.belowG e2 hh)
 | (go_at_call 27;(with_reducible refine (psame_p a.pr p.pr (by decide) (by decide) (by decide) (by decide) true wk13_at).mono ?_);rintro e w_z ⟨rfl,hh⟩
    (try replace a:=a.below hh);(try replace XQ:=XQ.below hh);(try replace LM2:=LM2.below hh);(try replace EP:=EP.below hh);(try replace hp:=hp.below hh);replace hb:=bend hb hh;replace e2:=EachH.belowG e2 hh;clear p)
 | (go_at_call 35;(with_reducible refine (rtext_q hp.hr.qw (by decide) (by decide)).mono ?_);rintro e w_z ⟨rfl,hh⟩
    rw [wk13_w];(try replace a:=a.below hh);(try replace XQ:=XQ.below hh);(try replace LM2:=LM2.below hh);(try replace EP:=EP.below hh);(try replace hp:=hp.below hh);replace hb:=bend hb hh;replace e2:=EachH.belowG e2 hh)
 | (go_at_call 35;(with_reducible refine (rtext_q hp.hr.qy (by decide) (by decide)).mono ?_);rintro e w_z ⟨rfl,hh⟩
    rw [wk13_y];(try replace a:=a.below hh);(try replace XQ:=XQ.below hh);(try replace LM2:=LM2.below hh);(try replace EP:=EP.below hh);(try replace hp:=hp.below hh);replace hb:=bend hb hh;replace e2:=EachH.belowG e2 hh)
 | (go_at_call 29;(with_reducible refine (cgood_any LM2 e2.hr hM2 (by decide) (by decide) true hG1).mono ?_);rintro e w_z ⟨rfl,hh⟩
    (try replace a:=a.below hh);(try replace XQ:=XQ.below hh);(try replace LM2:=LM2.below hh);(try replace EP:=EP.below hh);(try replace hp:=hp.below hh);replace hb:=bend hb hh;replace e2:=EachH.belowG e2 hh)
 refine hK1.out _ _ (by with_reducible exact ⟨XQ.c0,XQ.c1,XQ.c2,XQ.c3,XQ.c4,XQ.c5,EP.c3,EP.c4,EP.c5,EP.c6,EP.c7,EP.c8⟩) (fun hHeld=>?_)
 clear hK1 K1
 refine wpAnyH_ready (rs:=[6]) (by kernel_rfl) (by simp) ?_
 refine AllReadyH.cons (o:=⟨some 41,.call ⟨.value (.func 27),#[.tmp 38,.tmp 40],#[28,28]⟩,4, "law.go:37",#[⟨3,.data⟩,⟨5,.data⟩,⟨5,.chain⟩,⟨2,.guard⟩],some (2,true)⟩) rfl (fun K1 hK1=>?_) AllReadyH.nil
 go_simp
 first
 | (go_at_call 32;(with_reducible refine (lawP 1 1 (by decide) (by decide) (by decide) (by decide) _).mono ?_);rintro e w_p ⟨s_p,A_p,n_p,c_p,B_p,m_p,d_p,t_p,E_p,i_p,e_p,F_p,j_p,f_p,rfl,p,hh⟩
    (try replace a:=a.below hh);(try replace XQ:=XQ.below hh);(try replace LM2:=LM2.below hh);(try replace EP:=EP.below hh);(try replace hp:=hp.below hh);replace hb:=bend hb hh;replace e2:=EachH.belowG e2 hh)
 | (go_at_call 27;(with_reducible refine (psame_p a.pr p.pr (by decide) (by decide) (by decide) (by decide) true wk13_at).mono ?_);rintro e w_z ⟨rfl,hh⟩
    (try replace a:=a.below hh);(try replace XQ:=XQ.below hh);(try replace LM2:=LM2.below hh);(try replace EP:=EP.below hh);(try replace hp:=hp.below hh);replace hb:=bend hb hh;replace e2:=EachH.belowG e2 hh;clear p)
 | (go_at_call 35;(with_reducible refine (rtext_q hp.hr.qw (by decide) (by decide)).mono ?_);rintro e w_z ⟨rfl,hh⟩
    rw [wk13_w];(try replace a:=a.below hh);(try replace XQ:=XQ.below hh);(try replace LM2:=LM2.below hh);(try replace EP:=EP.below hh);(try replace hp:=hp.below hh);replace hb:=bend hb hh;replace e2:=EachH.belowG e2 hh)
 | (go_at_call 35;(with_reducible refine (rtext_q hp.hr.qy (by decide) (by decide)).mono ?_);rintro e w_z ⟨rfl,hh⟩
    rw [wk13_y];(try replace a:=a.below hh);(try replace XQ:=XQ.below hh);(try replace LM2:=LM2.below hh);(try replace EP:=EP.below hh);(try replace hp:=hp.below hh);replace hb:=bend hb hh;replace e2:=EachH.belowG e2 hh)
 | (go_at_call 29;(with_reducible refine (cgood_any LM2 e2.hr hM2 (by decide) (by decide) true hG1).mono ?_);rintro e w_z ⟨rfl,hh⟩
    (try replace a:=a.below hh);(try replace XQ:=XQ.below hh);(try replace LM2:=LM2.below hh);(try replace EP:=EP.below hh);(try replace hp:=hp.below hh);replace hb:=bend hb hh;replace e2:=EachH.belowG e2 hh)
 refine hK1.out _ _ (by with_reducible exact ⟨XQ.c0,XQ.c1,XQ.c2,XQ.c3,XQ.c4,XQ.c5,EP.c3,EP.c4,EP.c5,EP.c6,EP.c7,EP.c8⟩) (fun hHeld=>?_)
 clear hK1 K1
 refine wpAnyH_take (i:=7) (oi:=⟨some 42,.pick (.tmp 37) (.tmp 41) (.const (Value.bool false)),4, "law.go:37",#[⟨2,.data⟩,⟨6,.data⟩],none⟩) (v:=?_) rfl (by kernel_rfl) (by kernel_rfl) (by kernel_rfl) (fun _ _ _ h=>h) (Or.inl ⟨by rfl,?_⟩) hHeld ?_
 rotate_left
 · (intro w hSw;(try dsimp only at hSw);go_simp;try with_reducible rfl)
 simp only [Act.put,List.setIfInBounds_toArray,List.set_cons_zero,List.set_cons_succ]
 refine wpAnyH_take (i:=8) (oi:=⟨some 43,.move (.tmp 42),4, "law.go:37",#[⟨7,.data⟩,⟨6,.chain⟩],none⟩) (v:=?_) rfl (by kernel_rfl) (by kernel_rfl) (by kernel_rfl) (fun _ _ _ h=>h) (Or.inl ⟨by rfl,?_⟩) hHeld ?_
 rotate_left
 · (intro w hSw;(try dsimp only at hSw);go_simp;try with_reducible rfl)
 simp only [Act.put,List.setIfInBounds_toArray,List.set_cons_zero,List.set_cons_succ]
 refine wpAnyH_take (i:=9) (oi:=⟨some 44,.move (.tmp 5),38, "law.go:37",#[⟨8,.guard⟩],some (8,true)⟩) (v:=?_) rfl (by kernel_rfl) (by kernel_rfl) (by kernel_rfl) (fun _ _ _ h=>h) (Or.inl ⟨by rfl,?_⟩) hHeld ?_
 rotate_left
 · (intro w hSw;(try dsimp only at hSw);go_simp;try with_reducible rfl)
 simp only [Act.put,List.setIfInBounds_toArray,List.set_cons_zero,List.set_cons_succ]
 refine wpAnyH_take (i:=10) (oi:=⟨some 45,.binOp BinOp.eql 38 (.tmp 44) (.const (Value.int IntKind.i64 0)) 38,4, "law.go:37",#[⟨9,.data⟩,⟨8,.guard⟩],some (8,true)⟩) (v:=?_) rfl (by kernel_rfl) (by kernel_rfl) (by kernel_rfl) (fun _ _ _ h=>h) (Or.inl ⟨by rfl,?_⟩) hHeld ?_
 rotate_left
 · (intro w hSw;(try dsimp only at hSw);go_simp;try with_reducible rfl)
 simp only [Act.put,List.setIfInBounds_toArray,List.set_cons_zero,List.set_cons_succ]
 refine wpAnyH_take (i:=11) (oi:=⟨some 46,.pick (.tmp 43) (.tmp 45) (.const (Value.bool false)),4, "law.go:37",#[⟨8,.data⟩,⟨10,.data⟩],none⟩) (v:=?_) rfl (by kernel_rfl) (by kernel_rfl) (by kernel_rfl) (fun _ _ _ h=>h) (Or.inl ⟨by rfl,?_⟩) hHeld ?_
 rotate_left
 · (intro w hSw;(try dsimp only at hSw);go_simp;try with_reducible rfl)
 simp only [Act.put,List.setIfInBounds_toArray,List.set_cons_zero,List.set_cons_succ]
 refine wpAnyH_take (i:=12) (oi:=⟨some 47,.move (.tmp 46),4, "law.go:37",#[⟨11,.data⟩,⟨8,.chain⟩],none⟩) (v:=?_) rfl (by kernel_rfl) (by kernel_rfl) (by kernel_rfl) (fun _ _ _ h=>h) (Or.inl ⟨by rfl,?_⟩) hHeld ?_
 rotate_left
 · (intro w hSw;(try dsimp only at hSw);go_simp;try with_reducible rfl)
 simp only [Act.put,List.setIfInBounds_toArray,List.set_cons_zero,List.set_cons_succ]
 refine wpAnyH_take (i:=13) (oi:=⟨some 48,.move (.tmp 4),37, "law.go:37",#[⟨12,.guard⟩],some (12,true)⟩) (v:=?_) rfl (by kernel_rfl) (by kernel_rfl) (by kernel_rfl) (fun _ _ _ h=>h) (Or.inl ⟨by rfl,?_⟩) hHeld ?_
 rotate_left
 · (intro w hSw;(try dsimp only at hSw);go_simp;try with_reducible rfl)
 simp only [Act.put,List.setIfInBounds_toArray,List.set_cons_zero,List.set_cons_succ]
 refine wpAnyH_take (i:=14) (oi:=⟨some 49,.call ⟨.builtin Builtin.len,#[.tmp 48],#[37]⟩,3, "law.go:37",#[⟨13,.data⟩,⟨12,.guard⟩],some (12,true)⟩) (v:=?_) rfl (by kernel_rfl) (by kernel_rfl) (by kernel_rfl) (fun _ _ _ h=>h) (Or.inl ⟨by rfl,?_⟩) hHeld ?_
 rotate_left
 · (intro w hSw;(try dsimp only at hSw);go_simp;try with_reducible rfl)
 simp only [Act.put,List.setIfInBounds_toArray,List.set_cons_zero,List.set_cons_succ]
 refine wpAnyH_take (i:=15) (oi:=⟨some 50,.binOp BinOp.eql 3 (.tmp 49) (.const (Value.int IntKind.i64 3)) 3,4, "law.go:37",#[⟨14,.data⟩,⟨12,.guard⟩],some (12,true)⟩) (v:=?_) rfl (by kernel_rfl) (by kernel_rfl) (by kernel_rfl) (fun _ _ _ h=>h) (Or.inl ⟨by rfl,?_⟩) hHeld ?_
 rotate_left
 · (intro w hSw;(try dsimp only at hSw);go_simp;try with_reducible rfl)
 simp only [Act.put,List.setIfInBounds_toArray,List.set_cons_zero,List.set_cons_succ]
 refine wpAnyH_take (i:=16) (oi:=⟨some 51,.pick (.tmp 47) (.tmp 50) (.const (Value.bool false)),4, "law.go:37",#[⟨12,.data⟩,⟨15,.data⟩],none⟩) (v:=?_) rfl (by kernel_rfl) (by kernel_rfl) (by kernel_rfl) (fun _ _ _ h=>h) (Or.inl ⟨by rfl,?_⟩) hHeld ?_
 rotate_left
 · (intro w hSw;(try dsimp only at hSw);go_simp;try with_reducible rfl)
 simp only [Act.put,List.setIfInBounds_toArray,List.set_cons_zero,List.set_cons_succ]
 refine wpAnyH_take (i:=17) (oi:=⟨some 52,.move (.tmp 51),4, "law.go:37",#[⟨16,.data⟩,⟨12,.chain⟩],none⟩) (v:=?_) rfl (by kernel_rfl) (by kernel_rfl) (by kernel_rfl) (fun _ _ _ h=>h) (Or.inl ⟨by rfl,?_⟩) hHeld ?_
 rotate_left
 · (intro w hSw;(try dsimp only at hSw);go_simp;try with_reducible rfl)
 simp only [Act.put,List.setIfInBounds_toArray,List.set_cons_zero,List.set_cons_succ]
 refine wpAnyH_take (i:=18) (oi:=⟨some 53,.move (.tmp 4),37, "law.go:37",#[⟨17,.guard⟩],some (17,true)⟩) (v:=?_) rfl (by kernel_rfl) (by kernel_rfl) (by kernel_rfl) (fun _ _ _ h=>h) (Or.inl ⟨by rfl,?_⟩) hHeld ?_
 rotate_left
 · (intro w hSw;(try dsimp only at hSw);go_simp;try with_reducible rfl)
 simp only [Act.put,List.setIfInBounds_toArray,List.set_cons_zero,List.set_cons_succ]
 refine wpAnyH_take (i:=19) (oi:=⟨some 54,.indexAddr 37 (.tmp 53) (.const (Value.int IntKind.i64 1)),0, "law.go:37",#[⟨18,.data⟩,⟨17,.guard⟩],some (17,true)⟩) (v:=?_) rfl (by kernel_rfl) (by kernel_rfl) (by kernel_rfl) (fun _ _ _ h=>h) (Or.inl ⟨by rfl,?_⟩) hHeld ?_
 rotate_left
 · (intro w hSw;(try dsimp only at hSw);go_simp;try with_reducible rfl)
 simp only [Act.put,List.setIfInBounds_toArray,List.set_cons_zero,List.set_cons_succ]
 refine wpAnyH_take (i:=20) (oi:=⟨some 55,.fieldAddr 79 (.tmp 54) 2,0, "law.go:37",#[⟨19,.data⟩,⟨17,.guard⟩],some (17,true)⟩) (v:=?_) rfl (by kernel_rfl) (by kernel_rfl) (by kernel_rfl) (fun _ _ _ h=>h) (Or.inl ⟨by rfl,?_⟩) hHeld ?_
 rotate_left
 · (intro w hSw;(try dsimp only at hSw);go_simp;try with_reducible rfl)
 simp only [Act.put,List.setIfInBounds_toArray,List.set_cons_zero,List.set_cons_succ]
 refine wpAnyH_take (i:=21) (oi:=⟨some 56,.load 26 (.tmp 55),26, "law.go:37",#[⟨20,.data⟩,⟨17,.guard⟩],some (17,true)⟩) (v:=?_) rfl (by kernel_rfl) (by kernel_rfl) (by kernel_rfl) (fun _ _ _ h=>h) (Or.inl ⟨by rfl,?_⟩) hHeld ?_
 rotate_left
 · (intro w hSw;(try dsimp only at hSw);go_simp;try with_reducible rfl)
 simp only [Act.put,List.setIfInBounds_toArray,List.set_cons_zero,List.set_cons_succ]
 refine wpAnyH_ready (rs:=[22]) (by kernel_rfl) (by simp) ?_
 refine AllReadyH.cons (o:=⟨some 57,.call ⟨.value (.func 35),#[.tmp 56],#[26]⟩,9, "law.go:37",#[⟨21,.data⟩,⟨17,.chain⟩,⟨17,.guard⟩],some (17,true)⟩) rfl (fun K1 hK1=>?_) AllReadyH.nil
 go_simp
 first
 | (go_at_call 32;(with_reducible refine (lawP 1 1 (by decide) (by decide) (by decide) (by decide) _).mono ?_);rintro e w_p ⟨s_p,A_p,n_p,c_p,B_p,m_p,d_p,t_p,E_p,i_p,e_p,F_p,j_p,f_p,rfl,p,hh⟩
    (try replace a:=a.below hh);(try replace XQ:=XQ.below hh);(try replace LM2:=LM2.below hh);(try replace EP:=EP.below hh);(try replace hp:=hp.below hh);replace hb:=bend hb hh;replace e2:=EachH.belowG e2 hh)
 | (go_at_call 27;(with_reducible refine (psame_p a.pr p.pr (by decide) (by decide) (by decide) (by decide) true wk13_at).mono ?_);rintro e w_z ⟨rfl,hh⟩
    (try replace a:=a.below hh);(try replace XQ:=XQ.below hh);(try replace LM2:=LM2.below hh);(try replace EP:=EP.below hh);(try replace hp:=hp.below hh);replace hb:=bend hb hh;replace e2:=EachH.belowG e2 hh;clear p)
 | (go_at_call 35;(with_reducible refine (rtext_q hp.hr.qw (by decide) (by decide)).mono ?_);rintro e w_z ⟨rfl,hh⟩
    rw [wk13_w];(try replace a:=a.below hh);(try replace XQ:=XQ.below hh);(try replace LM2:=LM2.below hh);(try replace EP:=EP.below hh);(try replace hp:=hp.below hh);replace hb:=bend hb hh;replace e2:=EachH.belowG e2 hh)
 | (go_at_call 35;(with_reducible refine (rtext_q hp.hr.qy (by decide) (by decide)).mono ?_);rintro e w_z ⟨rfl,hh⟩
    rw [wk13_y];(try replace a:=a.below hh);(try replace XQ:=XQ.below hh);(try replace LM2:=LM2.below hh);(try replace EP:=EP.below hh);(try replace hp:=hp.below hh);replace hb:=bend hb hh;replace e2:=EachH.belowG e2 hh)
 | (go_at_call 29;(with_reducible refine (cgood_any LM2 e2.hr hM2 (by decide) (by decide) true hG1).mono ?_);rintro e w_z ⟨rfl,hh⟩
    (try replace a:=a.below hh);(try replace XQ:=XQ.below hh);(try replace LM2:=LM2.below hh);(try replace EP:=EP.below hh);(try replace hp:=hp.below hh);replace hb:=bend hb hh;replace e2:=EachH.belowG e2 hh)
 refine hK1.out _ _ (by with_reducible exact ⟨XQ.c0,XQ.c1,XQ.c2,XQ.c3,XQ.c4,XQ.c5,EP.c3,EP.c4,EP.c5,EP.c6,EP.c7,EP.c8⟩) (fun hHeld=>?_)
 clear hK1 K1
 refine wpAnyH_take (i:=23) (oi:=⟨some 58,.binOp BinOp.eql 9 (.tmp 57) (.const (Value.string {data:=#[50]})) 9,4, "law.go:37",#[⟨22,.data⟩,⟨17,.guard⟩],some (17,true)⟩) (v:=?_) rfl (by kernel_rfl) (by kernel_rfl) (by kernel_rfl) (fun _ _ _ h=>h) (Or.inl ⟨by rfl,?_⟩) hHeld ?_
 rotate_left
 · (intro w hSw;(try dsimp only at hSw);go_simp;try with_reducible rfl)
 simp only [Act.put,List.setIfInBounds_toArray,List.set_cons_zero,List.set_cons_succ]
 refine wpAnyH_take (i:=24) (oi:=⟨some 59,.pick (.tmp 52) (.tmp 58) (.const (Value.bool false)),4, "law.go:37",#[⟨17,.data⟩,⟨23,.data⟩],none⟩) (v:=?_) rfl (by kernel_rfl) (by kernel_rfl) (by kernel_rfl) (fun _ _ _ h=>h) (Or.inl ⟨by rfl,?_⟩) hHeld ?_
 rotate_left
 · (intro w hSw;(try dsimp only at hSw);go_simp;try with_reducible rfl)
 simp only [Act.put,List.setIfInBounds_toArray,List.set_cons_zero,List.set_cons_succ]
 refine wpAnyH_take (i:=25) (oi:=⟨some 60,.move (.tmp 59),4, "law.go:37",#[⟨24,.data⟩,⟨22,.chain⟩],none⟩) (v:=?_) rfl (by kernel_rfl) (by kernel_rfl) (by kernel_rfl) (fun _ _ _ h=>h) (Or.inl ⟨by rfl,?_⟩) hHeld ?_
 rotate_left
 · (intro w hSw;(try dsimp only at hSw);go_simp;try with_reducible rfl)
 simp only [Act.put,List.setIfInBounds_toArray,List.set_cons_zero,List.set_cons_succ]
 refine wpAnyH_take (i:=26) (oi:=⟨some 61,.move (.tmp 4),37, "law.go:37",#[⟨25,.guard⟩],some (25,true)⟩) (v:=?_) rfl (by kernel_rfl) (by kernel_rfl) (by kernel_rfl) (fun _ _ _ h=>h) (Or.inl ⟨by rfl,?_⟩) hHeld ?_
 rotate_left
 · (intro w hSw;(try dsimp only at hSw);go_simp;try with_reducible rfl)
 simp only [Act.put,List.setIfInBounds_toArray,List.set_cons_zero,List.set_cons_succ]
 refine wpAnyH_take (i:=27) (oi:=⟨some 62,.indexAddr 37 (.tmp 61) (.const (Value.int IntKind.i64 1)),0, "law.go:37",#[⟨26,.data⟩,⟨25,.guard⟩],some (25,true)⟩) (v:=?_) rfl (by kernel_rfl) (by kernel_rfl) (by kernel_rfl) (fun _ _ _ h=>h) (Or.inl ⟨by rfl,?_⟩) hHeld ?_
 rotate_left
 · (intro w hSw;(try dsimp only at hSw);go_simp;try with_reducible rfl)
 simp only [Act.put,List.setIfInBounds_toArray,List.set_cons_zero,List.set_cons_succ]
 refine wpAnyH_take (i:=28) (oi:=⟨some 63,.fieldAddr 79 (.tmp 62) 1,0, "law.go:37",#[⟨27,.data⟩,⟨25,.guard⟩],some (25,true)⟩) (v:=?_) rfl (by kernel_rfl) (by kernel_rfl) (by kernel_rfl) (fun _ _ _ h=>h) (Or.inl ⟨by rfl,?_⟩) hHeld ?_
 rotate_left
 · (intro w hSw;(try dsimp only at hSw);go_simp;try with_reducible rfl)
 simp only [Act.put,List.setIfInBounds_toArray,List.set_cons_zero,List.set_cons_succ]
 refine wpAnyH_take (i:=29) (oi:=⟨some 64,.load 26 (.tmp 63),26, "law.go:37",#[⟨28,.data⟩,⟨25,.guard⟩],some (25,true)⟩) (v:=?_) rfl (by kernel_rfl) (by kernel_rfl) (by kernel_rfl) (fun _ _ _ h=>h) (Or.inl ⟨by rfl,?_⟩) hHeld ?_
 rotate_left
 · (intro w hSw;(try dsimp only at hSw);go_simp;try with_reducible rfl)
 simp only [Act.put,List.setIfInBounds_toArray,List.set_cons_zero,List.set_cons_succ]
 refine wpAnyH_ready (rs:=[30]) (by kernel_rfl) (by simp) ?_
 refine AllReadyH.cons (o:=⟨some 65,.call ⟨.value (.func 35),#[.tmp 64],#[26]⟩,9, "law.go:37",#[⟨29,.data⟩,⟨25,.chain⟩,⟨25,.guard⟩],some (25,true)⟩) rfl (fun K1 hK1=>?_) AllReadyH.nil
 go_simp
 first
 | (go_at_call 32;(with_reducible refine (lawP 1 1 (by decide) (by decide) (by decide) (by decide) _).mono ?_);rintro e w_p ⟨s_p,A_p,n_p,c_p,B_p,m_p,d_p,t_p,E_p,i_p,e_p,F_p,j_p,f_p,rfl,p,hh⟩
    (try replace a:=a.below hh);(try replace XQ:=XQ.below hh);(try replace LM2:=LM2.below hh);(try replace EP:=EP.below hh);(try replace hp:=hp.below hh);replace hb:=bend hb hh;replace e2:=EachH.belowG e2 hh)
 | (go_at_call 27;(with_reducible refine (psame_p a.pr p.pr (by decide) (by decide) (by decide) (by decide) true wk13_at).mono ?_);rintro e w_z ⟨rfl,hh⟩
    (try replace a:=a.below hh);(try replace XQ:=XQ.below hh);(try replace LM2:=LM2.below hh);(try replace EP:=EP.below hh);(try replace hp:=hp.below hh);replace hb:=bend hb hh;replace e2:=EachH.belowG e2 hh;clear p)
 | (go_at_call 35;(with_reducible refine (rtext_q hp.hr.qw (by decide) (by decide)).mono ?_);rintro e w_z ⟨rfl,hh⟩
    rw [wk13_w];(try replace a:=a.below hh);(try replace XQ:=XQ.below hh);(try replace LM2:=LM2.below hh);(try replace EP:=EP.below hh);(try replace hp:=hp.below hh);replace hb:=bend hb hh;replace e2:=EachH.belowG e2 hh)
 | (go_at_call 35;(with_reducible refine (rtext_q hp.hr.qy (by decide) (by decide)).mono ?_);rintro e w_z ⟨rfl,hh⟩
    rw [wk13_y];(try replace a:=a.below hh);(try replace XQ:=XQ.below hh);(try replace LM2:=LM2.below hh);(try replace EP:=EP.below hh);(try replace hp:=hp.below hh);replace hb:=bend hb hh;replace e2:=EachH.belowG e2 hh)
 | (go_at_call 29;(with_reducible refine (cgood_any LM2 e2.hr hM2 (by decide) (by decide) true hG1).mono ?_);rintro e w_z ⟨rfl,hh⟩
    (try replace a:=a.below hh);(try replace XQ:=XQ.below hh);(try replace LM2:=LM2.below hh);(try replace EP:=EP.below hh);(try replace hp:=hp.below hh);replace hb:=bend hb hh;replace e2:=EachH.belowG e2 hh)
 refine hK1.out _ _ (by with_reducible exact ⟨XQ.c0,XQ.c1,XQ.c2,XQ.c3,XQ.c4,XQ.c5,EP.c3,EP.c4,EP.c5,EP.c6,EP.c7,EP.c8⟩) (fun hHeld=>?_)
 clear hK1 K1
 refine wpAnyH_take (i:=31) (oi:=⟨some 66,.binOp BinOp.eql 9 (.tmp 65) (.const (Value.string {data:=#[52]})) 9,4, "law.go:37",#[⟨30,.data⟩,⟨25,.guard⟩],some (25,true)⟩) (v:=?_) rfl (by kernel_rfl) (by kernel_rfl) (by kernel_rfl) (fun _ _ _ h=>h) (Or.inl ⟨by rfl,?_⟩) hHeld ?_
 rotate_left
 · (intro w hSw;(try dsimp only at hSw);go_simp;try with_reducible rfl)
 simp only [Act.put,List.setIfInBounds_toArray,List.set_cons_zero,List.set_cons_succ]
 refine wpAnyH_take (i:=32) (oi:=⟨some 67,.pick (.tmp 60) (.tmp 66) (.const (Value.bool false)),4, "law.go:37",#[⟨25,.data⟩,⟨31,.data⟩],none⟩) (v:=?_) rfl (by kernel_rfl) (by kernel_rfl) (by kernel_rfl) (fun _ _ _ h=>h) (Or.inl ⟨by rfl,?_⟩) hHeld ?_
 rotate_left
 · (intro w hSw;(try dsimp only at hSw);go_simp;try with_reducible rfl)
 simp only [Act.put,List.setIfInBounds_toArray,List.set_cons_zero,List.set_cons_succ]
 refine wpAnyH_take (i:=33) (oi:=⟨some 68,.move (.tmp 67),4, "law.go:37",#[⟨32,.data⟩,⟨30,.chain⟩],none⟩) (v:=?_) rfl (by kernel_rfl) (by kernel_rfl) (by kernel_rfl) (fun _ _ _ h=>h) (Or.inl ⟨by rfl,?_⟩) hHeld ?_
 rotate_left
 · (intro w hSw;(try dsimp only at hSw);go_simp;try with_reducible rfl)
 simp only [Act.put,List.setIfInBounds_toArray,List.set_cons_zero,List.set_cons_succ]
 refine wpAnyH_take (i:=34) (oi:=⟨some 69,.move (.tmp 7),38, "law.go:37",#[⟨33,.guard⟩],some (33,true)⟩) (v:=?_) rfl (by kernel_rfl) (by kernel_rfl) (by kernel_rfl) (fun _ _ _ h=>h) (Or.inl ⟨by rfl,?_⟩) hHeld ?_
 rotate_left
 · (intro w hSw;(try dsimp only at hSw);go_simp;try with_reducible rfl)
 simp only [Act.put,List.setIfInBounds_toArray,List.set_cons_zero,List.set_cons_succ]
 refine wpAnyH_take (i:=35) (oi:=⟨some 70,.binOp BinOp.eql 38 (.tmp 69) (.const (Value.int IntKind.i64 1)) 38,4, "law.go:37",#[⟨34,.data⟩,⟨33,.guard⟩],some (33,true)⟩) (v:=?_) rfl (by kernel_rfl) (by kernel_rfl) (by kernel_rfl) (fun _ _ _ h=>h) (Or.inl ⟨by rfl,?_⟩) hHeld ?_
 rotate_left
 · (intro w hSw;(try dsimp only at hSw);go_simp;try with_reducible rfl)
 simp only [Act.put,List.setIfInBounds_toArray,List.set_cons_zero,List.set_cons_succ]
 refine wpAnyH_take (i:=36) (oi:=⟨some 71,.pick (.tmp 68) (.tmp 70) (.const (Value.bool false)),4, "law.go:37",#[⟨33,.data⟩,⟨35,.data⟩],none⟩) (v:=?_) rfl (by kernel_rfl) (by kernel_rfl) (by kernel_rfl) (fun _ _ _ h=>h) (Or.inl ⟨by rfl,?_⟩) hHeld ?_
 rotate_left
 · (intro w hSw;(try dsimp only at hSw);go_simp;try with_reducible rfl)
 simp only [Act.put,List.setIfInBounds_toArray,List.set_cons_zero,List.set_cons_succ]
 refine wpAnyH_take (i:=37) (oi:=⟨some 72,.move (.tmp 71),4, "law.go:37",#[⟨36,.data⟩,⟨33,.chain⟩],none⟩) (v:=?_) rfl (by kernel_rfl) (by kernel_rfl) (by kernel_rfl) (fun _ _ _ h=>h) (Or.inl ⟨by rfl,?_⟩) hHeld ?_
 rotate_left
 · (intro w hSw;(try dsimp only at hSw);go_simp;try with_reducible rfl)
 simp only [Act.put,List.setIfInBounds_toArray,List.set_cons_zero,List.set_cons_succ]
 refine wpAnyH_take (i:=38) (oi:=⟨some 73,.move (.tmp 4),37, "law.go:37",#[⟨37,.guard⟩],some (37,true)⟩) (v:=?_) rfl (by kernel_rfl) (by kernel_rfl) (by kernel_rfl) (fun _ _ _ h=>h) (Or.inl ⟨by rfl,?_⟩) hHeld ?_
 rotate_left
 · (intro w hSw;(try dsimp only at hSw);go_simp;try with_reducible rfl)
 simp only [Act.put,List.setIfInBounds_toArray,List.set_cons_zero,List.set_cons_succ]
 refine wpAnyH_ready (rs:=[39]) (by kernel_rfl) (by simp) ?_
 refine AllReadyH.cons (o:=⟨some 74,.call ⟨.value (.func 29),#[.tmp 73],#[37]⟩,4, "law.go:37",#[⟨38,.data⟩,⟨37,.chain⟩,⟨37,.guard⟩],some (37,true)⟩) rfl (fun K1 hK1=>?_) AllReadyH.nil
 go_simp
 first
 | (go_at_call 32;(with_reducible refine (lawP 1 1 (by decide) (by decide) (by decide) (by decide) _).mono ?_);rintro e w_p ⟨s_p,A_p,n_p,c_p,B_p,m_p,d_p,t_p,E_p,i_p,e_p,F_p,j_p,f_p,rfl,p,hh⟩
    (try replace a:=a.below hh);(try replace XQ:=XQ.below hh);(try replace LM2:=LM2.below hh);(try replace EP:=EP.below hh);(try replace hp:=hp.below hh);replace hb:=bend hb hh;replace e2:=EachH.belowG e2 hh)
 | (go_at_call 27;(with_reducible refine (psame_p a.pr p.pr (by decide) (by decide) (by decide) (by decide) true wk13_at).mono ?_);rintro e w_z ⟨rfl,hh⟩
    (try replace a:=a.below hh);(try replace XQ:=XQ.below hh);(try replace LM2:=LM2.below hh);(try replace EP:=EP.below hh);(try replace hp:=hp.below hh);replace hb:=bend hb hh;replace e2:=EachH.belowG e2 hh;clear p)
 | (go_at_call 35;(with_reducible refine (rtext_q hp.hr.qw (by decide) (by decide)).mono ?_);rintro e w_z ⟨rfl,hh⟩
    rw [wk13_w];(try replace a:=a.below hh);(try replace XQ:=XQ.below hh);(try replace LM2:=LM2.below hh);(try replace EP:=EP.below hh);(try replace hp:=hp.below hh);replace hb:=bend hb hh;replace e2:=EachH.belowG e2 hh)
 | (go_at_call 35;(with_reducible refine (rtext_q hp.hr.qy (by decide) (by decide)).mono ?_);rintro e w_z ⟨rfl,hh⟩
    rw [wk13_y];(try replace a:=a.below hh);(try replace XQ:=XQ.below hh);(try replace LM2:=LM2.below hh);(try replace EP:=EP.below hh);(try replace hp:=hp.below hh);replace hb:=bend hb hh;replace e2:=EachH.belowG e2 hh)
 | (go_at_call 29;(with_reducible refine (cgood_any LM2 e2.hr hM2 (by decide) (by decide) true hG1).mono ?_);rintro e w_z ⟨rfl,hh⟩
    (try replace a:=a.below hh);(try replace XQ:=XQ.below hh);(try replace LM2:=LM2.below hh);(try replace EP:=EP.below hh);(try replace hp:=hp.below hh);replace hb:=bend hb hh;replace e2:=EachH.belowG e2 hh)
 refine hK1.out _ _ (by with_reducible exact ⟨XQ.c0,XQ.c1,XQ.c2,XQ.c3,XQ.c4,XQ.c5,EP.c3,EP.c4,EP.c5,EP.c6,EP.c7,EP.c8⟩) (fun hHeld=>?_)
 clear hK1 K1
 refine wpAnyH_take (i:=40) (oi:=⟨some 75,.pick (.tmp 72) (.tmp 74) (.const (Value.bool false)),4, "law.go:37",#[⟨37,.data⟩,⟨39,.data⟩],none⟩) (v:=?_) rfl (by kernel_rfl) (by kernel_rfl) (by kernel_rfl) (fun _ _ _ h=>h) (Or.inl ⟨by rfl,?_⟩) hHeld ?_
 rotate_left
 · (intro w hSw;(try dsimp only at hSw);go_simp;try with_reducible rfl)
 simp only [Act.put,List.setIfInBounds_toArray,List.set_cons_zero,List.set_cons_succ]
 refine wpAnyH_take (i:=41) (oi:=⟨some 0,.assign (.tmp 75),4, "law.go:37",#[⟨40,.data⟩,⟨39,.chain⟩,⟨0,.phase⟩,⟨1,.phase⟩,⟨2,.phase⟩,⟨3,.phase⟩,⟨4,.phase⟩,⟨5,.phase⟩,⟨6,.phase⟩,⟨7,.phase⟩,⟨8,.phase⟩,⟨9,.phase⟩,⟨10,.phase⟩,⟨11,.phase⟩,⟨12,.phase⟩,⟨13,.phase⟩,⟨14,.phase⟩,⟨15,.phase⟩,⟨16,.phase⟩,⟨17,.phase⟩,⟨18,.phase⟩,⟨19,.phase⟩,⟨20,.phase⟩,⟨21,.phase⟩,⟨22,.phase⟩,⟨23,.phase⟩,⟨24,.phase⟩,⟨25,.phase⟩,⟨26,.phase⟩,⟨27,.phase⟩,⟨28,.phase⟩,⟨29,.phase⟩,⟨30,.phase⟩,⟨31,.phase⟩,⟨32,.phase⟩,⟨33,.phase⟩,⟨34,.phase⟩,⟨35,.phase⟩,⟨36,.phase⟩,⟨37,.phase⟩,⟨38,.phase⟩,⟨39,.phase⟩,⟨40,.phase⟩],none⟩) (v:=?_) rfl (by kernel_rfl) (by kernel_rfl) (by kernel_rfl) (fun _ _ _ h=>h) (Or.inl ⟨by rfl,?_⟩) hHeld ?_
 rotate_left
 · (intro w hSw;(try dsimp only at hSw);go_simp;try with_reducible rfl)
 simp only [Act.put,List.setIfInBounds_toArray,List.set_cons_zero]
 refine wpAnyH_done (by kernel_rfl) ?_ _
 go_wp2_with fail
 go_ret;exact ⟨rfl,hb⟩
end
section
open Go Go.RowKit
attribute [local go_sem ↓] open_LVH open_STH open_LVJ open_STJ
theorem homs_same {A B:Option Addr} {n c c2 k k2:Nat} {L M:List HV} {V:List AH} (hL:SV w A (hvs L)) (hE:EachH HG w L V k) (hM:SV w B (hvs M)) (hF:EachH HG w M V k2) (hn:L.length=n) (hm:n≤1000) (hk:k≤100000) :
 Calls Tryz.prog 15 #[.slice A n c,.slice B n c2] w fun e w'=>e=.returned (.bool true)∧Below w.heap.size w w':=by
 have HN:=Lib.hid hn
 have HMl:Hid (M.length=n):=hF.1.trans (hE.1.symm.trans hn)
 have HL9:=Lib.hid hL;have E9:=Lib.hid hE;have HM9:=Lib.hid hM;have F9:=Lib.hid hF;clear hL hE hM hF hn
 go_enter Tryz.func15,Tryz.ntmps15
 go_wp2_with fail
 go_loopg [5] n (fun gk ix wr=>∃ (m:Nat),Hid (gk+m=n)∧ix=.int .i64 (m:Int)∧Below w.heap.size w wr)
 case atStart=>exact ⟨0,Nat.add_zero _,rfl,Below.refl _ _⟩
 case round =>
  obtain ⟨m,HG9,rfl,hb⟩:=hrel
  by_cases hmn:m < n
  · obtain ⟨P,u,hP1,hu1,p⟩:=(EachH.belowG E9.out hb).at_ (i:=m) (by rw [HN.out];exact hmn)
    obtain ⟨P2,u2,hP2,hu2,q⟩:=(EachH.belowG F9.out hb).at_ (i:=m) (by rw [HMl.out];exact hmn)
    obtain rfl:u=u2:=by rw [hu1] at hu2;exact Option.some.inj hu2
    obtain ⟨g0,o0,hix0,EP,_⟩:=(HL9.out.below hb).ht hP1
    obtain ⟨g1,o1,hix1,EQ,_⟩:=(HM9.out.below hb).ht hP2
    have hixa:∀ w',(Instr.indexAt 37 (.slice A n c) (.int .i64 (m:Int))).run Tryz.prog w'=.ok (.pointer (some ⟨g0,o0,none⟩)) w':=fun w'=>hix0 n c w' hmn
    have hixb:∀ w',(Instr.indexAt 37 (.slice B n c2) (.int .i64 (m:Int))).run Tryz.prog w'=.ok (.pointer (some ⟨g1,o1,none⟩)) w':=fun w'=>hix1 n c2 w' hmn
    have hlt:(m:Int) < (n:Int):=by omega
    have hwr:IntKind.i64.wrap ((m:Int)+1)=(m:Int)+1:=IntWalk.i64_in _ (by omega)
    have HMN:=Lib.hid hmn;clear hP1 hP2 hu1 hu2 hix0 hix1 hmn
    go_upto_region 6 with (fail)
    replace p:=p.below (Below.refl _ _).drew
    replace q:=q.below (Below.refl _ _).drew
    replace EP:=EP.below (Below.refl _ _).drew
    replace EQ:=EQ.below (Below.refl _ _).drew
    replace hb:=hb.drew
    refine wp_region_held_drew (S:=(fun w'=>w'.cell? ⟨g0,o0,none⟩=some (.bool P.x.s)∧w'.cell? ⟨g0,o0+1,none⟩=some (.slice P.x.A P.x.n P.x.c)∧w'.cell? ⟨g0,o0+2,none⟩=some (.slice P.x.B P.x.m P.x.d)∧w'.cell? ⟨g0,o0+3,none⟩=some (.bool P.y.s)∧w'.cell? ⟨g0,o0+4,none⟩=some (.slice P.y.A P.y.n P.y.c)∧w'.cell? ⟨g0,o0+5,none⟩=some (.slice P.y.B P.y.m P.y.d)∧w'.cell? ⟨g0,o0+6,none⟩=some (.bool P.w.s)∧w'.cell? ⟨g0,o0+7,none⟩=some (.slice P.w.A P.w.n P.w.c)∧w'.cell? ⟨g0,o0+8,none⟩=some (.slice P.w.B P.w.m P.w.d)∧w'.cell? ⟨g1,o1,none⟩=some (.bool P2.x.s)∧w'.cell? ⟨g1,o1+1,none⟩=some (.slice P2.x.A P2.x.n P2.x.c)∧w'.cell? ⟨g1,o1+2,none⟩=some (.slice P2.x.B P2.x.m P2.x.d)∧w'.cell? ⟨g1,o1+3,none⟩=some (.bool P2.y.s)∧w'.cell? ⟨g1,o1+4,none⟩=some (.slice P2.y.A P2.y.n P2.y.c)∧w'.cell? ⟨g1,o1+5,none⟩=some (.slice P2.y.B P2.y.m P2.y.d)∧w'.cell? ⟨g1,o1+6,none⟩=some (.bool P2.w.s)∧w'.cell? ⟨g1,o1+7,none⟩=some (.slice P2.w.A P2.w.n P2.w.c)∧w'.cell? ⟨g1,o1+8,none⟩=some (.slice P2.w.B P2.w.m P2.w.d))) (by kernel_rfl) (by with_reducible exact ⟨EP.c0,EP.c1,EP.c2,EP.c3,EP.c4,EP.c5,EP.c6,EP.c7,EP.c8,EQ.c0,EQ.c1,EQ.c2,EQ.c3,EQ.c4,EQ.c5,EQ.c6,EQ.c7,EQ.c8⟩) (fun hHeld=>?_)
    refine wpAnyH_take (i:=0) (oi:=⟨some 17,.move (.tmp 0),37, "keep.go:43",#[],none⟩) (v:=?_) rfl (by kernel_rfl) (by kernel_rfl) (by kernel_rfl) (fun _ _ _ h=>h) (Or.inl ⟨by rfl,?_⟩) hHeld ?_
    rotate_left
    · (intro w hSw;(try dsimp only at hSw);go_simp;try with_reducible rfl)
    simp only [Act.put,List.setIfInBounds_toArray,List.set_cons_zero,List.set_cons_succ]
    refine wpAnyH_take (i:=1) (oi:=⟨some 18,.move (.tmp 5),3, "keep.go:43",#[],none⟩) (v:=?_) rfl (by kernel_rfl) (by kernel_rfl) (by kernel_rfl) (fun _ _ _ h=>h) (Or.inl ⟨by rfl,?_⟩) hHeld ?_
    rotate_left
    · (intro w hSw;(try dsimp only at hSw);go_simp;try with_reducible rfl)
    simp only [Act.put,List.setIfInBounds_toArray,List.set_cons_zero,List.set_cons_succ]
    refine wpAnyH_take (i:=2) (oi:=⟨some 19,.indexAddr 37 (.tmp 17) (.tmp 18),0, "keep.go:43",#[⟨0,.data⟩,⟨1,.data⟩],none⟩) (v:=?_) rfl (by kernel_rfl) (by kernel_rfl) (by kernel_rfl) (fun _ _ _ h=>h) (Or.inl ⟨by rfl,?_⟩) hHeld ?_
    rotate_left
    · (intro w hSw;(try dsimp only at hSw);go_simp;try with_reducible rfl)
    simp only [Act.put,List.setIfInBounds_toArray,List.set_cons_zero,List.set_cons_succ]
    refine wpAnyH_take (i:=3) (oi:=⟨some 20,.fieldAddr 79 (.tmp 19) 0,0, "keep.go:43",#[⟨2,.data⟩],none⟩) (v:=?_) rfl (by kernel_rfl) (by kernel_rfl) (by kernel_rfl) (fun _ _ _ h=>h) (Or.inl ⟨by rfl,?_⟩) hHeld ?_
    rotate_left
    · (intro w hSw;(try dsimp only at hSw);go_simp;try with_reducible rfl)
    simp only [Act.put,List.setIfInBounds_toArray,List.set_cons_zero,List.set_cons_succ]
    refine wpAnyH_take (i:=4) (oi:=⟨some 21,.load 26 (.tmp 20),26, "keep.go:43",#[⟨3,.data⟩],none⟩) (v:=?_) rfl (by kernel_rfl) (by kernel_rfl) (by kernel_rfl) (fun _ _ _ h=>h) (Or.inl ⟨by rfl,?_⟩) hHeld ?_
    rotate_left
    · (intro w hSw;(try dsimp only at hSw);go_simp;try with_reducible rfl)
    simp only [Act.put,List.setIfInBounds_toArray,List.set_cons_zero,List.set_cons_succ]
    refine wpAnyH_take (i:=5) (oi:=⟨some 22,.move (.tmp 1),37, "keep.go:43",#[],none⟩) (v:=?_) rfl (by kernel_rfl) (by kernel_rfl) (by kernel_rfl) (fun _ _ _ h=>h) (Or.inl ⟨by rfl,?_⟩) hHeld ?_
    rotate_left
    · (intro w hSw;(try dsimp only at hSw);go_simp;try with_reducible rfl)
    simp only [Act.put,List.setIfInBounds_toArray,List.set_cons_zero,List.set_cons_succ]
    refine wpAnyH_take (i:=6) (oi:=⟨some 23,.move (.tmp 5),3, "keep.go:43",#[],none⟩) (v:=?_) rfl (by kernel_rfl) (by kernel_rfl) (by kernel_rfl) (fun _ _ _ h=>h) (Or.inl ⟨by rfl,?_⟩) hHeld ?_
    rotate_left
    · (intro w hSw;(try dsimp only at hSw);go_simp;try with_reducible rfl)
    simp only [Act.put,List.setIfInBounds_toArray,List.set_cons_zero,List.set_cons_succ]
    refine wpAnyH_take (i:=7) (oi:=⟨some 24,.indexAddr 37 (.tmp 22) (.tmp 23),0, "keep.go:43",#[⟨5,.data⟩,⟨6,.data⟩],none⟩) (v:=?_) rfl (by kernel_rfl) (by kernel_rfl) (by kernel_rfl) (fun _ _ _ h=>h) (Or.inl ⟨by rfl,?_⟩) hHeld ?_
    rotate_left
    · (intro w hSw;(try dsimp only at hSw);go_simp;try with_reducible rfl)
    simp only [Act.put,List.setIfInBounds_toArray,List.set_cons_zero,List.set_cons_succ]
    refine wpAnyH_take (i:=8) (oi:=⟨some 25,.fieldAddr 79 (.tmp 24) 0,0, "keep.go:43",#[⟨7,.data⟩],none⟩) (v:=?_) rfl (by kernel_rfl) (by kernel_rfl) (by kernel_rfl) (fun _ _ _ h=>h) (Or.inl ⟨by rfl,?_⟩) hHeld ?_
    rotate_left
    · (intro w hSw;(try dsimp only at hSw);go_simp;try with_reducible rfl)
    simp only [Act.put,List.setIfInBounds_toArray,List.set_cons_zero,List.set_cons_succ]
    refine wpAnyH_take (i:=9) (oi:=⟨some 26,.load 26 (.tmp 25),26, "keep.go:43",#[⟨8,.data⟩],none⟩) (v:=?_) rfl (by kernel_rfl) (by kernel_rfl) (by kernel_rfl) (fun _ _ _ h=>h) (Or.inl ⟨by rfl,?_⟩) hHeld ?_
    rotate_left
    · (intro w hSw;(try dsimp only at hSw);go_simp;try with_reducible rfl)
    simp only [Act.put,List.setIfInBounds_toArray,List.set_cons_zero,List.set_cons_succ]
    refine wpAnyH_ready (rs:=[10]) (by kernel_rfl) (by simp) ?_
    refine AllReadyH.cons (o:=⟨some 27,.call ⟨.value (.func 47),#[.tmp 21,.tmp 26],#[26,26]⟩,4, "keep.go:43",#[⟨4,.data⟩,⟨9,.data⟩],none⟩) rfl (fun K1 hK1=>?_) AllReadyH.nil
    go_simp
    first
    | (go_at_call 47;(with_reducible refine (rats_same p.qx q.qx hk).mono ?_);rintro e w_z ⟨rfl,hh⟩
       (try replace p:=p.below hh);(try replace q:=q.below hh);(try replace EP:=EP.below hh);(try replace EQ:=EQ.below hh);replace hb:=bend hb hh)
    | (go_at_call 47;(with_reducible refine (rats_same p.qy q.qy hk).mono ?_);rintro e w_z ⟨rfl,hh⟩
       (try replace p:=p.below hh);(try replace q:=q.below hh);(try replace EP:=EP.below hh);(try replace EQ:=EQ.below hh);replace hb:=bend hb hh)
    | (go_at_call 47;(with_reducible refine (rats_same p.qw q.qw hk).mono ?_);rintro e w_z ⟨rfl,hh⟩
       (try replace p:=p.below hh);(try replace q:=q.below hh);(try replace EP:=EP.below hh);(try replace EQ:=EQ.below hh);replace hb:=bend hb hh)
    refine hK1.out _ _ (by with_reducible exact ⟨EP.c0,EP.c1,EP.c2,EP.c3,EP.c4,EP.c5,EP.c6,EP.c7,EP.c8,EQ.c0,EQ.c1,EQ.c2,EQ.c3,EQ.c4,EQ.c5,EQ.c6,EQ.c7,EQ.c8⟩) (fun hHeld=>?_)
    clear hK1 K1
    refine wpAnyH_take (i:=11) (oi:=⟨some 28,.unOp UnOp.not 4 (.tmp 27),4, "keep.go:43",#[⟨10,.data⟩],none⟩) (v:=?_) rfl (by kernel_rfl) (by kernel_rfl) (by kernel_rfl) (fun _ _ _ h=>h) (Or.inl ⟨by rfl,?_⟩) hHeld ?_
    rotate_left
    · (intro w hSw;(try dsimp only at hSw);go_simp;try with_reducible rfl)
    simp only [Act.put,List.setIfInBounds_toArray,List.set_cons_zero,List.set_cons_succ]
    refine wpAnyH_take (i:=12) (oi:=⟨some 29,.move (.tmp 28),4, "keep.go:43",#[⟨11,.data⟩,⟨10,.chain⟩],none⟩) (v:=?_) rfl (by kernel_rfl) (by kernel_rfl) (by kernel_rfl) (fun _ _ _ h=>h) (Or.inl ⟨by rfl,?_⟩) hHeld ?_
    rotate_left
    · (intro w hSw;(try dsimp only at hSw);go_simp;try with_reducible rfl)
    simp only [Act.put,List.setIfInBounds_toArray,List.set_cons_zero,List.set_cons_succ]
    refine wpAnyH_take (i:=13) (oi:=⟨some 30,.move (.tmp 0),37, "keep.go:43",#[⟨12,.guard⟩],some (12,false)⟩) (v:=?_) rfl (by kernel_rfl) (by kernel_rfl) (by kernel_rfl) (fun _ _ _ h=>h) (Or.inl ⟨by rfl,?_⟩) hHeld ?_
    rotate_left
    · (intro w hSw;(try dsimp only at hSw);go_simp;try with_reducible rfl)
    simp only [Act.put,List.setIfInBounds_toArray,List.set_cons_zero,List.set_cons_succ]
    refine wpAnyH_take (i:=14) (oi:=⟨some 31,.move (.tmp 5),3, "keep.go:43",#[⟨12,.guard⟩],some (12,false)⟩) (v:=?_) rfl (by kernel_rfl) (by kernel_rfl) (by kernel_rfl) (fun _ _ _ h=>h) (Or.inl ⟨by rfl,?_⟩) hHeld ?_
    rotate_left
    · (intro w hSw;(try dsimp only at hSw);go_simp;try with_reducible rfl)
    simp only [Act.put,List.setIfInBounds_toArray,List.set_cons_zero,List.set_cons_succ]
    refine wpAnyH_take (i:=15) (oi:=⟨some 32,.indexAddr 37 (.tmp 30) (.tmp 31),0, "keep.go:43",#[⟨13,.data⟩,⟨14,.data⟩,⟨12,.guard⟩],some (12,false)⟩) (v:=?_) rfl (by kernel_rfl) (by kernel_rfl) (by kernel_rfl) (fun _ _ _ h=>h) (Or.inl ⟨by rfl,?_⟩) hHeld ?_
    rotate_left
    · (intro w hSw;(try dsimp only at hSw);go_simp;try with_reducible rfl)
    simp only [Act.put,List.setIfInBounds_toArray,List.set_cons_zero,List.set_cons_succ]
    refine wpAnyH_take (i:=16) (oi:=⟨some 33,.fieldAddr 79 (.tmp 32) 1,0, "keep.go:43",#[⟨15,.data⟩,⟨12,.guard⟩],some (12,false)⟩) (v:=?_) rfl (by kernel_rfl) (by kernel_rfl) (by kernel_rfl) (fun _ _ _ h=>h) (Or.inl ⟨by rfl,?_⟩) hHeld ?_
    rotate_left
    · (intro w hSw;(try dsimp only at hSw);go_simp;try with_reducible rfl)
    simp only [Act.put,List.setIfInBounds_toArray,List.set_cons_zero,List.set_cons_succ]
    refine wpAnyH_take (i:=17) (oi:=⟨some 34,.load 26 (.tmp 33),26, "keep.go:43",#[⟨16,.data⟩,⟨12,.guard⟩],some (12,false)⟩) (v:=?_) rfl (by kernel_rfl) (by kernel_rfl) (by kernel_rfl) (fun _ _ _ h=>h) (Or.inl ⟨by rfl,?_⟩) hHeld ?_
    rotate_left
    · (intro w hSw;(try dsimp only at hSw);go_simp;try with_reducible rfl)
    simp only [Act.put,List.setIfInBounds_toArray,List.set_cons_zero,List.set_cons_succ]
    refine wpAnyH_take (i:=18) (oi:=⟨some 35,.move (.tmp 1),37, "keep.go:43",#[⟨12,.guard⟩],some (12,false)⟩) (v:=?_) rfl (by kernel_rfl) (by kernel_rfl) (by kernel_rfl) (fun _ _ _ h=>h) (Or.inl ⟨by rfl,?_⟩) hHeld ?_
    rotate_left
    · (intro w hSw;(try dsimp only at hSw);go_simp;try with_reducible rfl)
    simp only [Act.put,List.setIfInBounds_toArray,List.set_cons_zero,List.set_cons_succ]
    refine wpAnyH_take (i:=19) (oi:=⟨some 36,.move (.tmp 5),3, "keep.go:43",#[⟨12,.guard⟩],some (12,false)⟩) (v:=?_) rfl (by kernel_rfl) (by kernel_rfl) (by kernel_rfl) (fun _ _ _ h=>h) (Or.inl ⟨by rfl,?_⟩) hHeld ?_
    rotate_left
    · (intro w hSw;(try dsimp only at hSw);go_simp;try with_reducible rfl)
    simp only [Act.put,List.setIfInBounds_toArray,List.set_cons_zero,List.set_cons_succ]
    refine wpAnyH_take (i:=20) (oi:=⟨some 37,.indexAddr 37 (.tmp 35) (.tmp 36),0, "keep.go:43",#[⟨18,.data⟩,⟨19,.data⟩,⟨12,.guard⟩],some (12,false)⟩) (v:=?_) rfl (by kernel_rfl) (by kernel_rfl) (by kernel_rfl) (fun _ _ _ h=>h) (Or.inl ⟨by rfl,?_⟩) hHeld ?_
    rotate_left
    · (intro w hSw;(try dsimp only at hSw);go_simp;try with_reducible rfl)
    simp only [Act.put,List.setIfInBounds_toArray,List.set_cons_zero,List.set_cons_succ]
    refine wpAnyH_take (i:=21) (oi:=⟨some 38,.fieldAddr 79 (.tmp 37) 1,0, "keep.go:43",#[⟨20,.data⟩,⟨12,.guard⟩],some (12,false)⟩) (v:=?_) rfl (by kernel_rfl) (by kernel_rfl) (by kernel_rfl) (fun _ _ _ h=>h) (Or.inl ⟨by rfl,?_⟩) hHeld ?_
    rotate_left
    · (intro w hSw;(try dsimp only at hSw);go_simp;try with_reducible rfl)
    simp only [Act.put,List.setIfInBounds_toArray,List.set_cons_zero,List.set_cons_succ]
    refine wpAnyH_take (i:=22) (oi:=⟨some 39,.load 26 (.tmp 38),26, "keep.go:43",#[⟨21,.data⟩,⟨12,.guard⟩],some (12,false)⟩) (v:=?_) rfl (by kernel_rfl) (by kernel_rfl) (by kernel_rfl) (fun _ _ _ h=>h) (Or.inl ⟨by rfl,?_⟩) hHeld ?_
    rotate_left
    · (intro w hSw;(try dsimp only at hSw);go_simp;try with_reducible rfl)
    simp only [Act.put,List.setIfInBounds_toArray,List.set_cons_zero,List.set_cons_succ]
    refine wpAnyH_ready (rs:=[23]) (by kernel_rfl) (by simp) ?_
    refine AllReadyH.cons (o:=⟨some 40,.call ⟨.value (.func 47),#[.tmp 34,.tmp 39],#[26,26]⟩,4, "keep.go:43",#[⟨17,.data⟩,⟨22,.data⟩,⟨12,.chain⟩,⟨12,.guard⟩],some (12,false)⟩) rfl (fun K1 hK1=>?_) AllReadyH.nil
    go_simp
    first
    | (go_at_call 47;(with_reducible refine (rats_same p.qx q.qx hk).mono ?_);rintro e w_z ⟨rfl,hh⟩
       (try replace p:=p.below hh);(try replace q:=q.below hh);(try replace EP:=EP.below hh);(try replace EQ:=EQ.below hh);replace hb:=bend hb hh)
    | (go_at_call 47;(with_reducible refine (rats_same p.qy q.qy hk).mono ?_);rintro e w_z ⟨rfl,hh⟩
       (try replace p:=p.below hh);(try replace q:=q.below hh);(try replace EP:=EP.below hh);(try replace EQ:=EQ.below hh);replace hb:=bend hb hh)
    | (go_at_call 47;(with_reducible refine (rats_same p.qw q.qw hk).mono ?_);rintro e w_z ⟨rfl,hh⟩
       (try replace p:=p.below hh);(try replace q:=q.below hh);(try replace EP:=EP.below hh);(try replace EQ:=EQ.below hh);replace hb:=bend hb hh)
    refine hK1.out _ _ (by with_reducible exact ⟨EP.c0,EP.c1,EP.c2,EP.c3,EP.c4,EP.c5,EP.c6,EP.c7,EP.c8,EQ.c0,EQ.c1,EQ.c2,EQ.c3,EQ.c4,EQ.c5,EQ.c6,EQ.c7,EQ.c8⟩) (fun hHeld=>?_)
    clear hK1 K1
    refine wpAnyH_take (i:=24) (oi:=⟨some 41,.unOp UnOp.not 4 (.tmp 40),4, "keep.go:43",#[⟨23,.data⟩,⟨12,.guard⟩],some (12,false)⟩) (v:=?_) rfl (by kernel_rfl) (by kernel_rfl) (by kernel_rfl) (fun _ _ _ h=>h) (Or.inl ⟨by rfl,?_⟩) hHeld ?_
    rotate_left
    · (intro w hSw;(try dsimp only at hSw);go_simp;try with_reducible rfl)
    simp only [Act.put,List.setIfInBounds_toArray,List.set_cons_zero,List.set_cons_succ]
    refine wpAnyH_take (i:=25) (oi:=⟨some 42,.pick (.tmp 29) (.const (Value.bool true)) (.tmp 41),4, "keep.go:43",#[⟨12,.data⟩,⟨24,.data⟩],none⟩) (v:=?_) rfl (by kernel_rfl) (by kernel_rfl) (by kernel_rfl) (fun _ _ _ h=>h) (Or.inl ⟨by rfl,?_⟩) hHeld ?_
    rotate_left
    · (intro w hSw;(try dsimp only at hSw);go_simp;try with_reducible rfl)
    simp only [Act.put,List.setIfInBounds_toArray,List.set_cons_zero,List.set_cons_succ]
    refine wpAnyH_take (i:=26) (oi:=⟨some 43,.move (.tmp 42),4, "keep.go:43",#[⟨25,.data⟩,⟨23,.chain⟩],none⟩) (v:=?_) rfl (by kernel_rfl) (by kernel_rfl) (by kernel_rfl) (fun _ _ _ h=>h) (Or.inl ⟨by rfl,?_⟩) hHeld ?_
    rotate_left
    · (intro w hSw;(try dsimp only at hSw);go_simp;try with_reducible rfl)
    simp only [Act.put,List.setIfInBounds_toArray,List.set_cons_zero,List.set_cons_succ]
    refine wpAnyH_take (i:=27) (oi:=⟨some 44,.move (.tmp 0),37, "keep.go:43",#[⟨26,.guard⟩],some (26,false)⟩) (v:=?_) rfl (by kernel_rfl) (by kernel_rfl) (by kernel_rfl) (fun _ _ _ h=>h) (Or.inl ⟨by rfl,?_⟩) hHeld ?_
    rotate_left
    · (intro w hSw;(try dsimp only at hSw);go_simp;try with_reducible rfl)
    simp only [Act.put,List.setIfInBounds_toArray,List.set_cons_zero,List.set_cons_succ]
    refine wpAnyH_take (i:=28) (oi:=⟨some 45,.move (.tmp 5),3, "keep.go:43",#[⟨26,.guard⟩],some (26,false)⟩) (v:=?_) rfl (by kernel_rfl) (by kernel_rfl) (by kernel_rfl) (fun _ _ _ h=>h) (Or.inl ⟨by rfl,?_⟩) hHeld ?_
    rotate_left
    · (intro w hSw;(try dsimp only at hSw);go_simp;try with_reducible rfl)
    simp only [Act.put,List.setIfInBounds_toArray,List.set_cons_zero,List.set_cons_succ]
    refine wpAnyH_take (i:=29) (oi:=⟨some 46,.indexAddr 37 (.tmp 44) (.tmp 45),0, "keep.go:43",#[⟨27,.data⟩,⟨28,.data⟩,⟨26,.guard⟩],some (26,false)⟩) (v:=?_) rfl (by kernel_rfl) (by kernel_rfl) (by kernel_rfl) (fun _ _ _ h=>h) (Or.inl ⟨by rfl,?_⟩) hHeld ?_
    rotate_left
    · (intro w hSw;(try dsimp only at hSw);go_simp;try with_reducible rfl)
    simp only [Act.put,List.setIfInBounds_toArray,List.set_cons_zero,List.set_cons_succ]
    refine wpAnyH_take (i:=30) (oi:=⟨some 47,.fieldAddr 79 (.tmp 46) 2,0, "keep.go:43",#[⟨29,.data⟩,⟨26,.guard⟩],some (26,false)⟩) (v:=?_) rfl (by kernel_rfl) (by kernel_rfl) (by kernel_rfl) (fun _ _ _ h=>h) (Or.inl ⟨by rfl,?_⟩) hHeld ?_
    rotate_left
    · (intro w hSw;(try dsimp only at hSw);go_simp;try with_reducible rfl)
    simp only [Act.put,List.setIfInBounds_toArray,List.set_cons_zero,List.set_cons_succ]
    refine wpAnyH_take (i:=31) (oi:=⟨some 48,.load 26 (.tmp 47),26, "keep.go:43",#[⟨30,.data⟩,⟨26,.guard⟩],some (26,false)⟩) (v:=?_) rfl (by kernel_rfl) (by kernel_rfl) (by kernel_rfl) (fun _ _ _ h=>h) (Or.inl ⟨by rfl,?_⟩) hHeld ?_
    rotate_left
    · (intro w hSw;(try dsimp only at hSw);go_simp;try with_reducible rfl)
    simp only [Act.put,List.setIfInBounds_toArray,List.set_cons_zero,List.set_cons_succ]
    refine wpAnyH_take (i:=32) (oi:=⟨some 49,.move (.tmp 1),37, "keep.go:43",#[⟨26,.guard⟩],some (26,false)⟩) (v:=?_) rfl (by kernel_rfl) (by kernel_rfl) (by kernel_rfl) (fun _ _ _ h=>h) (Or.inl ⟨by rfl,?_⟩) hHeld ?_
    rotate_left
    · (intro w hSw;(try dsimp only at hSw);go_simp;try with_reducible rfl)
    simp only [Act.put,List.setIfInBounds_toArray,List.set_cons_zero,List.set_cons_succ]
    refine wpAnyH_take (i:=33) (oi:=⟨some 50,.move (.tmp 5),3, "keep.go:43",#[⟨26,.guard⟩],some (26,false)⟩) (v:=?_) rfl (by kernel_rfl) (by kernel_rfl) (by kernel_rfl) (fun _ _ _ h=>h) (Or.inl ⟨by rfl,?_⟩) hHeld ?_
    rotate_left
    · (intro w hSw;(try dsimp only at hSw);go_simp;try with_reducible rfl)
    simp only [Act.put,List.setIfInBounds_toArray,List.set_cons_zero,List.set_cons_succ]
    refine wpAnyH_take (i:=34) (oi:=⟨some 51,.indexAddr 37 (.tmp 49) (.tmp 50),0, "keep.go:43",#[⟨32,.data⟩,⟨33,.data⟩,⟨26,.guard⟩],some (26,false)⟩) (v:=?_) rfl (by kernel_rfl) (by kernel_rfl) (by kernel_rfl) (fun _ _ _ h=>h) (Or.inl ⟨by rfl,?_⟩) hHeld ?_
    rotate_left
    · (intro w hSw;(try dsimp only at hSw);go_simp;try with_reducible rfl)
    simp only [Act.put,List.setIfInBounds_toArray,List.set_cons_zero,List.set_cons_succ]
    refine wpAnyH_take (i:=35) (oi:=⟨some 52,.fieldAddr 79 (.tmp 51) 2,0, "keep.go:43",#[⟨34,.data⟩,⟨26,.guard⟩],some (26,false)⟩) (v:=?_) rfl (by kernel_rfl) (by kernel_rfl) (by kernel_rfl) (fun _ _ _ h=>h) (Or.inl ⟨by rfl,?_⟩) hHeld ?_
    rotate_left
    · (intro w hSw;(try dsimp only at hSw);go_simp;try with_reducible rfl)
    simp only [Act.put,List.setIfInBounds_toArray,List.set_cons_zero,List.set_cons_succ]
    refine wpAnyH_take (i:=36) (oi:=⟨some 53,.load 26 (.tmp 52),26, "keep.go:43",#[⟨35,.data⟩,⟨26,.guard⟩],some (26,false)⟩) (v:=?_) rfl (by kernel_rfl) (by kernel_rfl) (by kernel_rfl) (fun _ _ _ h=>h) (Or.inl ⟨by rfl,?_⟩) hHeld ?_
    rotate_left
    · (intro w hSw;(try dsimp only at hSw);go_simp;try with_reducible rfl)
    simp only [Act.put,List.setIfInBounds_toArray,List.set_cons_zero,List.set_cons_succ]
    refine wpAnyH_ready (rs:=[37]) (by kernel_rfl) (by simp) ?_
    refine AllReadyH.cons (o:=⟨some 54,.call ⟨.value (.func 47),#[.tmp 48,.tmp 53],#[26,26]⟩,4, "keep.go:43",#[⟨31,.data⟩,⟨36,.data⟩,⟨26,.chain⟩,⟨26,.guard⟩],some (26,false)⟩) rfl (fun K1 hK1=>?_) AllReadyH.nil
    go_simp
    first
    | (go_at_call 47;(with_reducible refine (rats_same p.qx q.qx hk).mono ?_);rintro e w_z ⟨rfl,hh⟩
       (try replace p:=p.below hh);(try replace q:=q.below hh);(try replace EP:=EP.below hh);(try replace EQ:=EQ.below hh);replace hb:=bend hb hh)
    | (go_at_call 47;(with_reducible refine (rats_same p.qy q.qy hk).mono ?_);rintro e w_z ⟨rfl,hh⟩
       (try replace p:=p.below hh);(try replace q:=q.below hh);(try replace EP:=EP.below hh);(try replace EQ:=EQ.below hh);replace hb:=bend hb hh)
    | (go_at_call 47;(with_reducible refine (rats_same p.qw q.qw hk).mono ?_);rintro e w_z ⟨rfl,hh⟩
       (try replace p:=p.below hh);(try replace q:=q.below hh);(try replace EP:=EP.below hh);(try replace EQ:=EQ.below hh);replace hb:=bend hb hh)
    refine hK1.out _ _ (by with_reducible exact ⟨EP.c0,EP.c1,EP.c2,EP.c3,EP.c4,EP.c5,EP.c6,EP.c7,EP.c8,EQ.c0,EQ.c1,EQ.c2,EQ.c3,EQ.c4,EQ.c5,EQ.c6,EQ.c7,EQ.c8⟩) (fun hHeld=>?_)
    clear hK1 K1
    refine wpAnyH_take (i:=38) (oi:=⟨some 55,.unOp UnOp.not 4 (.tmp 54),4, "keep.go:43",#[⟨37,.data⟩,⟨26,.guard⟩],some (26,false)⟩) (v:=?_) rfl (by kernel_rfl) (by kernel_rfl) (by kernel_rfl) (fun _ _ _ h=>h) (Or.inl ⟨by rfl,?_⟩) hHeld ?_
    rotate_left
    · (intro w hSw;(try dsimp only at hSw);go_simp;try with_reducible rfl)
    simp only [Act.put,List.setIfInBounds_toArray,List.set_cons_zero,List.set_cons_succ]
    refine wpAnyH_take (i:=39) (oi:=⟨some 56,.pick (.tmp 43) (.const (Value.bool true)) (.tmp 55),4, "keep.go:43",#[⟨26,.data⟩,⟨38,.data⟩],none⟩) (v:=?_) rfl (by kernel_rfl) (by kernel_rfl) (by kernel_rfl) (fun _ _ _ h=>h) (Or.inl ⟨by rfl,?_⟩) hHeld ?_
    rotate_left
    · (intro w hSw;(try dsimp only at hSw);go_simp;try with_reducible rfl)
    simp only [Act.put,List.setIfInBounds_toArray,List.set_cons_zero,List.set_cons_succ]
    refine wpAnyH_done (by kernel_rfl) ?_ _
    go_wp2_with fail
    go_roundg (gk - 1)
    case measure=>have:=HG9.out;have:=HMN.out;omega
    case rel=>exact ⟨m+1,by have:=HG9.out;have:=HMN.out;show _=_;omega,by go_num,hb⟩
  · have hlt:¬ (m:Int) < (n:Int):=by omega
    clear hmn
    go_wp2_with fail
    (try rw [Exit.noGoto_ret])
    go_ret;exact ⟨rfl,hb⟩
end
section
open Go Go.RowKit
attribute [local go_sem ↓] open_LVM open_STM open_LVN open_STN
attribute [local go_sem ↓] open_LVH open_STH open_LVJ open_STJ
theorem B3R.pushY {w w':World} {g:Nat} {x y z:Value} {row:Option Nat} (h:B3R w g x y z) (hg:w.grownBy w' row) (hne:∀ k,row=some k→k ≠ g):B3R w' g x y z:=(hg.block g h.lt (fun e=>hne g e.symm rfl)).trans h
theorem B18R.pushY {w w':World} {g:Nat} {v0 v1 v2 v3 v4 v5 v6 v7 v8 v9 v10 v11 v12 v13 v14 v15 v16 v17:Value} {row:Option Nat} (h:B18R w g v0 v1 v2 v3 v4 v5 v6 v7 v8 v9 v10 v11 v12 v13 v14 v15 v16 v17) (hg:w.grownBy w' row) (hne:∀ k,row=some k→k ≠ g):B18R w' g v0 v1 v2 v3 v4 v5 v6 v7 v8 v9 v10 v11 v12 v13 v14 v15 v16 v17:=(hg.block g h.lt (fun e=>hne g e.symm rfl)).trans h
theorem from13 (x u:Int) (hu:1≤u):fromQ x u=Rat.divInt x u:=by unfold fromQ;rw [if_neg (by omega)]
theorem C1.c {g o:Nat} {u:Value} (h:C1 w g o u):w.cell? ⟨g,o,none⟩=some u:=h
theorem C1.pushY {w w':World} {g o:Nat} {u:Value} {row:Option Nat} (h:C1 w g o u) (hg:w.grownBy w' row) (hne:∀ k,row=some k→k ≠ g):C1 w' g o u:=(World.cell?_of_block (a:=⟨g,o,none⟩) (hg.block g (World.block_lt_of_cell? w ⟨g,o,none⟩ h) (fun e=>hne g e.symm rfl))).trans h
def GivesJsE (w:World) (l:List AH) (k:Nat) (en:Ending) (w':World):Prop :=
 ∃ v M,en=.returned (.tuple #[v,.int .i64 0])∧LnH 96 w.heap.size w' v M∧EachH RH w' M l k∧Below w.heap.size w w'
theorem mkbx50_16 {w W:World} {x0 x1 x2 x3 x4 x5 x6 x7 x8 x9 x10 x11 x12 x13 x14 x15 x16 x17 x18 x19 x20 x21 x22 x23 x24 x25 x26 x27 x28 x29 x30 x31:Value} (h:(((w.alloc (Obj.cells #[x0,x1,x2,x3,x4,x5] 51)).alloc (Obj.cells #[x6,x7,x8,x9,x10,x11,x12,x13] 31)).alloc (Obj.cells #[x14,x15,x16,x17,x18,x19,x20,x21,x22,x23,x24,x25,x26,x27,x28,x29,x30,x31] 54))=W):Below w.heap.size w W∧B6R W (w.heap.size) x0 x1 x2 x3 x4 x5∧BS W (w.heap.size+1) x6 x7 x8 x9 x10 x11 x12 x13∧B18R W (w.heap.size+1+1) x14 x15 x16 x17 x18 x19 x20 x21 x22 x23 x24 x25 x26 x27 x28 x29 x30 x31∧W.heap.size=w.heap.size+3:=by subst h;exact ⟨by exact ((((Below.refl _ _).alloc (Nat.le_refl _) _).alloc (by simp) _).alloc (by simp;omega) _),by exact ((B6R.new' _ _ _ _ _ _ _ _ rfl).alloc _).alloc _,by exact (BS.new' _ _ _ _ _ _ _ _ _ _ (by simp)).alloc _,by exact B18R.new' _ _ _ _ _ _ _ _ _ _ _ _ _ _ _ _ _ _ _ _ (by simp),by simp⟩
theorem rof13_e0 {m:MV} (u:SV8) (h0:cntK u.k=0) :
 Calls Tryz.prog 12 #[.agg #[.bool s_p,.slice A_p n_p c_p,.slice B_p m_p d_p,.bool t_p,.slice E_p i_p e_p,.slice F_p j_p f_p],.agg #[.int .i64 u.k,.int .i64 u.v0,.int .i64 u.v1,.int .i64 u.v2,.int .i64 u.v3,.int .i64 u.v4,.int .i64 u.v5,.int .i64 u.w],.agg #[.bool m.a.s,.slice m.a.A m.a.n m.a.c,.slice m.a.B m.a.m m.a.d,.bool m.b.s,.slice m.b.A m.b.n m.b.c,.slice m.b.B m.b.m m.b.d,.bool m.c.s,.slice m.c.A m.c.n m.c.c,.slice m.c.B m.c.m m.c.d,.bool m.d.s,.slice m.d.A m.d.n m.d.c,.slice m.d.B m.d.m m.d.d,.bool m.e.s,.slice m.e.A m.e.n m.e.c,.slice m.e.B m.e.m m.e.d,.bool m.f.s,.slice m.f.A m.f.n m.f.c,.slice m.f.B m.f.m m.f.d]] w (GivesHsN w 11):=by
 have k2:¬ u.k=2:=fun e=>by rw [e] at h0;cases h0
 have k3:¬ u.k=3:=fun e=>by rw [e] at h0;cases h0
 have k4:¬ u.k=4:=fun e=>by rw [e] at h0;cases h0
 have k5:¬ u.k=5:=fun e=>by rw [e] at h0;cases h0
 have b2:(u.k == 2)=false:=by simp [k2]
 have b3:(u.k == 3)=false:=by simp [k3]
 have b4:(u.k == 4)=false:=by simp [k4]
 have b5:(u.k == 5)=false:=by simp [k5]
 clear h0 k2 k3 k4 k5
 go_enter Tryz.func12,Tryz.ntmps12
 go_upto_region 1 with (fail)
 generalize hW:World.alloc _ _=W
 obtain ⟨hb,XF,XS,XM,hzW⟩:=mkbx50_16 hW;clear hW;obtain ⟨xs0,xs1,xs2,xs3,xs4,xs5,xs6,xs7⟩:=XS.all
 go_wp2_with fail
 go_ret2
 exact ⟨rfl,hb⟩
theorem rof13_e5 {m:MV} (u:SV8) (hk:u.k=5) (hw:u.w < 1) :
 Calls Tryz.prog 12 #[.agg #[.bool s_p,.slice A_p n_p c_p,.slice B_p m_p d_p,.bool t_p,.slice E_p i_p e_p,.slice F_p j_p f_p],.agg #[.int .i64 u.k,.int .i64 u.v0,.int .i64 u.v1,.int .i64 u.v2,.int .i64 u.v3,.int .i64 u.v4,.int .i64 u.v5,.int .i64 u.w],.agg #[.bool m.a.s,.slice m.a.A m.a.n m.a.c,.slice m.a.B m.a.m m.a.d,.bool m.b.s,.slice m.b.A m.b.n m.b.c,.slice m.b.B m.b.m m.b.d,.bool m.c.s,.slice m.c.A m.c.n m.c.c,.slice m.c.B m.c.m m.c.d,.bool m.d.s,.slice m.d.A m.d.n m.d.c,.slice m.d.B m.d.m m.d.d,.bool m.e.s,.slice m.e.A m.e.n m.e.c,.slice m.e.B m.e.m m.e.d,.bool m.f.s,.slice m.f.A m.f.n m.f.c,.slice m.f.B m.f.m m.f.d]] w (GivesHsN w 11):=by
 have b2:(u.k == 2)=false:=by simp [hk]
 have b3:(u.k == 3)=false:=by simp [hk]
 have b4:(u.k == 4)=false:=by simp [hk]
 have b5:(u.k == 5)=true:=by simp [hk]
 clear hk
 go_enter Tryz.func12,Tryz.ntmps12
 go_upto_region 1 with (fail)
 generalize hW:World.alloc _ _=W
 obtain ⟨hb,XF,XS,XM,hzW⟩:=mkbx50_16 hW;clear hW;obtain ⟨xs0,xs1,xs2,xs3,xs4,xs5,xs6,xs7⟩:=XS.all
 go_wp2_with fail
 go_ret2
 exact ⟨rfl,hb⟩
theorem rof13_e {m:MV} (u:SV8) (h:¬ u.draws):Calls Tryz.prog 12 #[.agg #[.bool s_p,.slice A_p n_p c_p,.slice B_p m_p d_p,.bool t_p,.slice E_p i_p e_p,.slice F_p j_p f_p],.agg #[.int .i64 u.k,.int .i64 u.v0,.int .i64 u.v1,.int .i64 u.v2,.int .i64 u.v3,.int .i64 u.v4,.int .i64 u.v5,.int .i64 u.w],.agg #[.bool m.a.s,.slice m.a.A m.a.n m.a.c,.slice m.a.B m.a.m m.a.d,.bool m.b.s,.slice m.b.A m.b.n m.b.c,.slice m.b.B m.b.m m.b.d,.bool m.c.s,.slice m.c.A m.c.n m.c.c,.slice m.c.B m.c.m m.c.d,.bool m.d.s,.slice m.d.A m.d.n m.d.c,.slice m.d.B m.d.m m.d.d,.bool m.e.s,.slice m.e.A m.e.n m.e.c,.slice m.e.B m.e.m m.e.d,.bool m.f.s,.slice m.f.A m.f.n m.f.c,.slice m.f.B m.f.m m.f.d]] w (GivesHsN w 11):=by
 by_cases h0:cntK u.k=0
 · exact rof13_e0 u h0
 · by_cases hk:u.k=5
   · by_cases hw:u.w < 1
     · exact rof13_e5 u hk hw
     · exact absurd ⟨h0,fun _=>by omega⟩ h
   · exact absurd ⟨h0,fun e=>absurd e hk⟩ h
end
end Go.Proofs.YtfpaeophfcoohaaGreat
