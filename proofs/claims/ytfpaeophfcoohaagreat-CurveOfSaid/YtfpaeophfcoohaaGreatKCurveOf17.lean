/- CurveOf: part 17. -/
import Derived.Test.YtfpaeophfcoohaaGreatKCurveOf11
import Derived.Test.YtfpaeophfcoohaaGreatKCurveOf16
set_option linter.unusedVariables false
set_option maxRecDepth 100000
set_option maxHeartbeats 16000000
variable {w:Go.World}
variable {s_p t_p:Bool} {A_p B_p E_p F_p:Option Go.Addr} {n_p c_p m_p d_p i_p e_p j_p f_p:Nat}
namespace Go.Proofs.YtfpaeophfcoohaaGreat
section
open Go Go.RowKit
attribute [local go_sem ↓] open_LVM open_STM open_LVN open_STN
attribute [local go_sem ↓] open_LVH open_STH open_LVJ open_STJ
theorem mkbx51_17 {w W:World} {x0 x1 x2:Value} (h:(w.alloc (Obj.cells #[x0,x1,x2] 49))=W):Below w.heap.size w W∧B3R W (w.heap.size) x0 x1 x2:=by subst h;exact ⟨by exact ((Below.refl _ _).alloc (Nat.le_refl _) _),by exact B3R.new' _ _ _ _ _ rfl⟩
theorem rof13_2 {v:AM} {m:MV} {fx fy:Rat} (u:SV8) (p:RP w s_p A_p n_p c_p B_p m_p d_p t_p E_p i_p e_p F_p j_p f_p fx fy 12) (M:RM w m v 12 12) (hin:u.In) (hk:u.k=2) :
 Calls Tryz.prog 12 #[.agg #[.bool s_p,.slice A_p n_p c_p,.slice B_p m_p d_p,.bool t_p,.slice E_p i_p e_p,.slice F_p j_p f_p],.agg #[.int .i64 u.k,.int .i64 u.v0,.int .i64 u.v1,.int .i64 u.v2,.int .i64 u.v3,.int .i64 u.v4,.int .i64 u.v5,.int .i64 u.w],.agg #[.bool m.a.s,.slice m.a.A m.a.n m.a.c,.slice m.a.B m.a.m m.a.d,.bool m.b.s,.slice m.b.A m.b.n m.b.c,.slice m.b.B m.b.m m.b.d,.bool m.c.s,.slice m.c.A m.c.n m.c.c,.slice m.c.B m.c.m m.c.d,.bool m.d.s,.slice m.d.A m.d.n m.d.c,.slice m.d.B m.d.m m.d.d,.bool m.e.s,.slice m.e.A m.e.n m.e.c,.slice m.e.B m.e.m m.e.d,.bool m.f.s,.slice m.f.A m.f.n m.f.c,.slice m.f.B m.f.m m.f.d]] w (GivesJsE w (ofL v fx fy u 1) 64):=by
 obtain ⟨n,hq⟩:∃ n:Nat,n=1:=⟨_,rfl⟩
 rw [← hq]
 have hn3:n≤3:=by omega
 have HQN:Hid (n=1):=hq
 have HK:=Lib.hid hk;clear hk hq;have HIN:=Lib.hid hin;clear hin
 go_enter Tryz.func12,Tryz.ntmps12
 go_upto_region 1 with (fail)
 generalize hW:World.alloc _ _=W
 obtain ⟨hb,XF,XS,XM,hzW⟩:=mkbx50_16 hW;clear hW;replace p:=p.below hb;replace M:=M.below hb;obtain ⟨xs0,xs1,xs2,xs3,xs4,xs5,xs6,xs7⟩:=XS.all;have hk:=HK.out
 have b2:(u.k == 2)=true:=by simp [hk]
 have b3:(u.k == 3)=false:=by simp [hk]
 have b4:(u.k == 4)=false:=by simp [hk]
 have b5:(u.k == 5)=false:=by simp [hk]
 clear hk
 go_upto_region 14 with (fail)
 clear b2 b3 b4 b5;clear xs0 xs1 xs2 xs3 xs4 xs5 xs6 xs7
 go_upto_region 15 with (first
  | (go_at_call 42;(with_reducible refine (rof3 1 1 (by decide) (by decide) (by decide) (by decide) (by decide) _).mono ?_);rintro e w_o ⟨s_o,A_o,n_o,c_o,B_o,m_o,d_o,rfl,o,hh⟩
     (try replace p:=p.below hh);(try replace M:=M.below hh);(try replace XF:=XF.below hh);(try replace XS:=XS.below hh);(try replace XM:=XM.below hh);replace hb:=bend hb hh;rw [one_q] at o))
 generalize hW:World.alloc _ _=W0
 obtain ⟨hh,XO⟩:=mkbx51_17 hW;clear hW;replace p:=p.below hh;replace M:=M.below hh;replace XF:=XF.below hh;replace XS:=XS.below hh;replace XM:=XM.below hh;replace o:=o.below hh;replace hb:=bend hb hh;clear hh
 have HGO:Hid (w_o.heap.size < W0.heap.size):=XO.lt
 have HGS:Hid (w.heap.size+1 < W0.heap.size):=XS.lt
 have HGM:Hid (w.heap.size+1+1 < W0.heap.size):=XM.lt
 generalize w_o.heap.size=g_o at XO HGO ⊢
 have XS9:=Lib.hid XS;have XM9:=Lib.hid XM;have M9:=Lib.hid M;have XO9:=Lib.hid XO;have o9:=Lib.hid o;have HB9:=Lib.hid hb;clear hb
 have hB:Below W0.heap.size W0 W0.drew:=(Below.refl _ _).drew
 replace p:=p.below (Below.refl _ _).drew
 replace M:=M.below (Below.refl _ _).drew
 replace XF:=XF.below (Below.refl _ _).drew
 replace XS:=XS.below (Below.refl _ _).drew
 replace XM:=XM.below (Below.refl _ _).drew
 replace XO:=XO.below (Below.refl _ _).drew
 replace o:=o.below (Below.refl _ _).drew
 go_region_held3 (fun w'=>(LVN ⟨w.heap.size+1+1,0,none⟩).run Tryz.prog w'=.ok (.agg #[.bool m.a.s,.slice m.a.A m.a.n m.a.c,.slice m.a.B m.a.m m.a.d,.bool m.b.s,.slice m.b.A m.b.n m.b.c,.slice m.b.B m.b.m m.b.d,.bool m.c.s,.slice m.c.A m.c.n m.c.c,.slice m.c.B m.c.m m.c.d,.bool m.d.s,.slice m.d.A m.d.n m.d.c,.slice m.d.B m.d.m m.d.d,.bool m.e.s,.slice m.e.A m.e.n m.e.c,.slice m.e.B m.e.m m.e.d,.bool m.f.s,.slice m.f.A m.f.n m.f.c,.slice m.f.B m.f.m m.f.d]) w'∧w'.cell? ⟨w.heap.size,0,none⟩=some (.bool s_p)∧w'.cell? ⟨w.heap.size,1,none⟩=some (.slice A_p n_p c_p)∧w'.cell? ⟨w.heap.size,2,none⟩=some (.slice B_p m_p d_p)∧w'.cell? ⟨w.heap.size,3,none⟩=some (.bool t_p)∧w'.cell? ⟨w.heap.size,4,none⟩=some (.slice E_p i_p e_p)∧w'.cell? ⟨w.heap.size,5,none⟩=some (.slice F_p j_p f_p)∧w'.cell? ⟨g_o,0,none⟩=some (.bool s_o)∧w'.cell? ⟨g_o,1,none⟩=some (.slice A_o n_o c_o)∧w'.cell? ⟨g_o,2,none⟩=some (.slice B_o m_o d_o))
  (first | with_reducible exact ⟨XM.ld,XF.c0,XF.c1,XF.c2,XF.c3,XF.c4,XF.c5,XO.c0,XO.c1,XO.c2⟩ | exact ⟨(XM.below ((Below.refl _ _).alloc (Nat.le_refl _) _)).ld,(XF.below ((Below.refl _ _).alloc (Nat.le_refl _) _)).c0,(XF.below ((Below.refl _ _).alloc (Nat.le_refl _) _)).c1,(XF.below ((Below.refl _ _).alloc (Nat.le_refl _) _)).c2,(XF.below ((Below.refl _ _).alloc (Nat.le_refl _) _)).c3,(XF.below ((Below.refl _ _).alloc (Nat.le_refl _) _)).c4,(XF.below ((Below.refl _ _).alloc (Nat.le_refl _) _)).c5,(XO.below ((Below.refl _ _).alloc (Nat.le_refl _) _)).c0,(XO.below ((Below.refl _ _).alloc (Nat.le_refl _) _)).c1,(XO.below ((Below.refl _ _).alloc (Nat.le_refl _) _)).c2⟩)
  (first
  | (go_at_call 44;(with_reducible refine (rapply9 M p (by decide) (by decide)).mono ?_);rintro e w_r ⟨s_r,A_r,n_r,c_r,B_r,m_r,d_r,t_r,E_r,i_r,e_r,F_r,j_r,f_r,rfl,r,hh⟩
     (try replace XM:=XM.below hh);(try replace XF:=XF.below hh);(try replace XO:=XO.below hh);(try replace o:=o.below hh);replace hB:=bend hB hh)
  | (go_at_call 43;(with_reducible refine (rweighed13 r o (by decide) (by decide)).mono ?_);rintro e w_y ⟨y,rfl,yh,hh⟩
     (try replace XM:=XM.below hh);(try replace XF:=XF.below hh);(try replace XO:=XO.below hh);replace hB:=bend hB hh))
 have hLit:=LnH.lit (T:=96) (base:=W0.heap.size) w_y [y] hB.size (by simp)
 have hal:Below w_y.heap.size w_y (w_y.alloc (Obj.cells #[Value.bool y.x.s,Value.slice y.x.A y.x.n y.x.c,Value.slice y.x.B y.x.m y.x.d,Value.bool y.y.s,Value.slice y.y.A y.y.n y.y.c,Value.slice y.y.B y.y.m y.y.d,Value.bool y.w.s,Value.slice y.w.A y.w.n y.w.c,Value.slice y.w.B y.w.m y.w.d] 96)):=((Below.refl _ _).alloc (Nat.le_refl _) _)
 have yh9:=Lib.hid ((yh.below hal).more (show _≤64 by decide))
 have hbA:=Lib.hid (bend hB hal)
 clear r o yh XF XS XM XO p M hal hB
 go_wp2_with fail
 go_loopg [10,11] n (fun gk out ix wr=>∃ (L:List HV) (j:Nat),Hid (gk+j=n)∧ix=.int .i64 (j:Int)∧LnH 96 W0.heap.size wr out L∧Hid (EachH RH wr L ((ofL v fx fy u n).take (j+1)) 64)∧Below W0.heap.size W0 wr)
 case atStart=>exact ⟨[y],0,Nat.add_zero _,rfl,hLit,⟨by simp [ofL],fun i a b ha hb=>by
  match i with
  | 0=>cases ha;cases hb;exact yh9.out
  | i+1=>cases ha⟩,hbA.out⟩
 case round =>
  clear hLit yh9 hbA
  obtain ⟨L,j,HGK,rfl,LT,HQ,hB⟩:=hrel
  by_cases hmn:j < n
  · have XS:=XS9.out.below hB
    have XM:=XM9.out.below hB;have M:=M9.out.below hB;have XO:=XO9.out.below hB;have o:=o9.out.below hB
    have hlt:(j:Int) < 1:=by have:=HQN.out;omega
    have hwr:IntKind.i64.wrap ((j:Int)+1)=(j:Int)+1:=IntWalk.i64_in _ (by omega)
    have HU:=Lib.hid (ofL_get (v:=v) (x:=fx) (y:=fy) (u:=u) hmn)
    have hMl:L.length≤1000000:=by have:=HQ.out.1;rw [List.length_take] at this;omega
    have HMN:=Lib.hid hmn
    have hxw:∀ b,u10.ownBlock=some b→b ≠ wr.heap.size:=fun b e=>by have:=(LT.own.lt b e).2;omega
    have hxs:∀ b,u10.ownBlock=some b→b ≠ w.heap.size+1:=fun b e=>by have:=LT.own_base e;have:=HGS.out;omega
    have hxm:∀ b,u10.ownBlock=some b→b ≠ w.heap.size+1+1:=fun b e=>by have:=LT.own_base e;have:=HGM.out;omega
    have hgw:W0.heap.size≤wr.heap.size:=hB.size
    obtain ⟨xo0,xo1,xo2⟩:=XO.all;clear hmn
    go_upto_region 20 with (fail)
    have hh:Below wr.heap.size wr (wr.alloc (Obj.cells #[Value.bool s_o,Value.slice A_o n_o c_o,Value.slice B_o m_o d_o] 49)):=(Below.refl _ _).alloc (Nat.le_refl _) _
    have XW:B3R (wr.alloc (Obj.cells #[Value.bool s_o,Value.slice A_o n_o c_o,Value.slice B_o m_o d_o] 49)) wr.heap.size (Value.bool s_o) (Value.slice A_o n_o c_o) (Value.slice B_o m_o d_o):=B3R.new' _ _ _ _ _ rfl
    replace XS:=XS.below hh;replace XM:=XM.below hh;replace M:=M.below hh;replace o:=o.below hh;replace LT:=LT.below hh
    replace HQ:=Lib.hid (EachH.belowJ HQ.out hh)
    replace hB:=bend hB hh;clear hh XO xo0 xo1 xo2
    generalize (wr.alloc (Obj.cells #[Value.bool s_o,Value.slice A_o n_o c_o,Value.slice B_o m_o d_o] 49))=W3 at *
    generalize wr.heap.size=g_w at *
    have xs0:=XS.c0;have xs7:=XS.c7
    have h5:¬ (u.k=5∧j=0):=fun e=>by have:=HK.out;omega
    have hk5:¬ u.k=5:=by have:=HK.out;omega
    focus
     have hwq:wgtQ u j=1:=by unfold wgtQ;rw [if_neg h5]
     have b5:(u.k == 5)=false:=by simp [hk5]
     have HWQ:=Lib.hid hwq;clear h5 hk5 hwq
     go_upto_region 22 with (fail)
     rw [← HWQ.out] at o
     have PK:∃ (K:QV),B3R W3 g_w (.bool K.s) (.slice K.A K.n K.c) (.slice K.B K.m K.d)∧RQ W3 K.s K.A K.n K.c K.B K.m K.d (wgtQ u j) 2:=⟨⟨s_o,A_o,n_o,c_o,B_o,m_o,d_o⟩,XW,o⟩
     clear XW o b5 HWQ xs0 xs7
     generalize W3=Wn at *
    rotate_left
    all_goals
     obtain ⟨K,XW,kq⟩:=PK
     have hmn:=HMN.out
     have X1:C1 Wn (w.heap.size+1) (1+2*j) (.int .i64 (u.at_ (2*j))):=XS.cv (2*j) (by omega)
     have X2:C1 Wn (w.heap.size+1) (1+(2*j+1)) (.int .i64 (u.at_ (2*j+1))):=XS.cv (2*j+1) (by omega)
     have i1:∀ w':World,(Instr.indexAt 29 (.pointer (some ⟨w.heap.size+1,1,none⟩)) (.int .i64 (2*(j:Int)))).run Tryz.prog w'=.ok (.pointer (some ⟨w.heap.size+1,1+2*j,none⟩)) w':=fun w'=>by have h9:=ats_m (w.heap.size+1) (2*j) (by omega) w';rwa [show ((2*j:Nat):Int)=2*(j:Int) by omega] at h9
     have i2:∀ w':World,(Instr.indexAt 29 (.pointer (some ⟨w.heap.size+1,1,none⟩)) (.int .i64 (2*(j:Int)+1))).run Tryz.prog w'=.ok (.pointer (some ⟨w.heap.size+1,1+(2*j+1),none⟩)) w':=fun w'=>by have h9:=ats_m (w.heap.size+1) (2*j+1) (by omega) w';rwa [show ((2*j+1:Nat):Int)=2*(j:Int)+1 by omega] at h9
     have ha0:=HIN.out.2.1 (2*j)
     have hb0:=HIN.out.2.1 (2*j+1)
     have hw1:IntKind.i64.wrap (2*(j:Int))=2*(j:Int):=IntWalk.i64_in _ (by omega)
     have hw2:IntKind.i64.wrap (2*(j:Int)+1)=2*(j:Int)+1:=IntWalk.i64_in _ (by omega)
     have hOA:ofA v u j=⟨v.ax (Rat.divInt (u.at_ (2*j)) 64) (Rat.divInt (u.at_ (2*j+1)) 64)*wgtQ u j,v.ay (Rat.divInt (u.at_ (2*j)) 64) (Rat.divInt (u.at_ (2*j+1)) 64)*wgtQ u j,wgtQ u j⟩:=by unfold ofA;rw [from13 _ _ (by decide),from13 _ _ (by decide)]
     generalize u.at_ (2*j)=av at X1 ha0 hOA
     generalize u.at_ (2*j+1)=bv at X2 hb0 hOA
     generalize 1+2*j=po at X1 i1
     generalize 1+(2*j+1)=qo at X2 i2
     have HA0:=Lib.hid ha0;have HB0:=Lib.hid hb0;have HOA:=Lib.hid hOA;clear hmn ha0 hb0 hOA XS
     generalize wgtQ u j=wq at kq HOA
     replace LT:=LT.below (Below.refl _ _).drew
     replace XM:=XM.below (Below.refl _ _).drew
     replace XW:=XW.below (Below.refl _ _).drew
     replace X1:=X1.below (Below.refl _ _).drew
     replace X2:=X2.below (Below.refl _ _).drew
     replace M:=M.below (Below.refl _ _).drew
     replace kq:=kq.below (Below.refl _ _).drew
     replace HQ:=Lib.hid (EachH.belowJ HQ.out (Below.refl _ _).drew)
     replace hB:=hB.drew
     go_region_held3 (fun w'=>(LVN ⟨w.heap.size+1+1,0,none⟩).run Tryz.prog w'=.ok (.agg #[.bool m.a.s,.slice m.a.A m.a.n m.a.c,.slice m.a.B m.a.m m.a.d,.bool m.b.s,.slice m.b.A m.b.n m.b.c,.slice m.b.B m.b.m m.b.d,.bool m.c.s,.slice m.c.A m.c.n m.c.c,.slice m.c.B m.c.m m.c.d,.bool m.d.s,.slice m.d.A m.d.n m.d.c,.slice m.d.B m.d.m m.d.d,.bool m.e.s,.slice m.e.A m.e.n m.e.c,.slice m.e.B m.e.m m.e.d,.bool m.f.s,.slice m.f.A m.f.n m.f.c,.slice m.f.B m.f.m m.f.d]) w'∧w'.cell? ⟨g_w,0,none⟩=some (.bool K.s)∧w'.cell? ⟨g_w,1,none⟩=some (.slice K.A K.n K.c)∧w'.cell? ⟨g_w,2,none⟩=some (.slice K.B K.m K.d)∧w'.cell? ⟨w.heap.size+1,po,none⟩=some (.int .i64 av)∧w'.cell? ⟨w.heap.size+1,qo,none⟩=some (.int .i64 bv))
      (first | with_reducible exact ⟨XMb.ld,XWb.c0,XWb.c1,XWb.c2,X1b.c,X2b.c⟩ | with_reducible exact ⟨XM.ld,XW.c0,XW.c1,XW.c2,X1.c,X2.c⟩ | exact ⟨(XM.below ((Below.refl _ _).alloc (Nat.le_refl _) _)).ld,(XW.below ((Below.refl _ _).alloc (Nat.le_refl _) _)).c0,(XW.below ((Below.refl _ _).alloc (Nat.le_refl _) _)).c1,(XW.below ((Below.refl _ _).alloc (Nat.le_refl _) _)).c2,(X1.below ((Below.refl _ _).alloc (Nat.le_refl _) _)).c,(X2.below ((Below.refl _ _).alloc (Nat.le_refl _) _)).c⟩)
      (first
      | (go_at_call 45;(with_reducible refine (rat64 av bv HA0.out HB0.out M (by decide) (by decide)).mono ?_);rintro e w_r ⟨s_r,A_r,n_r,c_r,B_r,m_r,d_r,t_r,E_r,i_r,e_r,F_r,j_r,f_r,rfl,r,hh⟩
         (try replace LT:=LT.below hh);(try replace XM:=XM.below hh);(try replace XW:=XW.below hh);(try replace X1:=X1.below hh);(try replace X2:=X2.below hh);(try replace kq:=kq.below hh)
         replace HQ:=Lib.hid (EachH.belowJ HQ.out hh)
         replace hB:=bend hB hh)
      | (go_at_call 43;(with_reducible refine (rweighed13 r kq (by decide) (by decide)).mono ?_);rintro e w_y ⟨y,rfl,yh,hh⟩
         (try replace LT:=LT.below hh);(try replace XM:=XM.below hh);(try replace XW:=XW.below hh);(try replace X1:=X1.below hh);(try replace X2:=X2.below hh)
         replace HQ:=Lib.hid (EachH.belowJ HQ.out hh)
         replace hB:=bend hB hh)
      | (have hal:Below w_y.heap.size w_y (w_y.alloc (Obj.cells #[Value.bool y.x.s,Value.slice y.x.A y.x.n y.x.c,Value.slice y.x.B y.x.m y.x.d,Value.bool y.y.s,Value.slice y.y.A y.y.n y.y.c,Value.slice y.y.B y.y.m y.y.d,Value.bool y.w.s,Value.slice y.w.A y.w.n y.w.c,Value.slice y.w.B y.w.m y.w.d] 96)):=((Below.refl _ _).alloc (Nat.le_refl _) _)
         have XMa:=XM.below hal;have XWa:=XW.below hal;have X1a:=X1.below hal;have X2a:=X2.below hal
         refine step_pushH Tryz.underlying41 info_rhom (by rfl) _ _ (by rfl) (p:=y) (k0:=1) (b:=w_y.heap.size) (by rfl) (by rfl) (LT.below hal) (Nat.le_trans hB.size hal.size) hMl (heap_alloc_new w_y _) ?_
         intro v3 w3 hn3 hg3 ho3
         have XMb:=XMa.pushY hg3 hxm;have XWb:=XWa.pushY hg3 hxw;have X1b:=X1a.pushY hg3 hxs;have X2b:=X2a.pushY hg3 hxs))
     have hE3:EachH RH (w_y.alloc (Obj.cells #[Value.bool y.x.s,Value.slice y.x.A y.x.n y.x.c,Value.slice y.x.B y.x.m y.x.d,Value.bool y.y.s,Value.slice y.y.A y.y.n y.y.c,Value.slice y.y.B y.y.m y.y.d,Value.bool y.w.s,Value.slice y.w.A y.w.n y.w.c,Value.slice y.w.B y.w.m y.w.d] 96)) L ((ofL v fx fy u n).take (j+1)) 64:=EachH.belowJ HQ.out hal
     have hp3:RH (w_y.alloc (Obj.cells #[Value.bool y.x.s,Value.slice y.x.A y.x.n y.x.c,Value.slice y.x.B y.x.m y.x.d,Value.bool y.y.s,Value.slice y.y.A y.y.n y.y.c,Value.slice y.y.B y.y.m y.y.d,Value.bool y.w.s,Value.slice y.w.A y.w.n y.w.c,Value.slice y.w.B y.w.m y.w.d] 96)) y (ofA v u j) 64:=by rw [HOA.out];exact (yh.below hal).more (by decide)
     have hB9:=LnH.under (T:=96) (base:=W0.heap.size) (LT.below hal) hg3 (w0:=W0) (bend hB hal) (Nat.le_refl _)
     have hE4:=takeH HU.out (EachH.push hE3 (fun _ _ h=>(LT.below hal).rh hg3 h) ((LT.below hal).rh hg3 hp3))
     clear hE3 hp3 XMa XWa X1a X2a XMb XWb X1b X2b XM XW X1 X2 M yh r kq
     go_wp2_with fail
     go_roundg (gk - 1)
     case measure=>have:=HGK.out;have:=HMN.out;omega
     case rel=>exact ⟨L ++ [y],j+1,by have:=HGK.out;have:=HMN.out;show _=_;omega,by go_num,hn3,Lib.hid hE4,hB9⟩
  · have hlt:¬ (j:Int) < 1:=by have:=HQN.out;omega
    have HQ2:Hid (EachH RH wr L (ofL v fx fy u n) 64):=by
     have h:=HQ.out
     rwa [List.take_of_length_le (by rw [ofL_length];omega)] at h
    clear hmn
    go_wp2_with fail
    (try rw [Exit.noGoto_ret])
    go_ret2
    exact ⟨_,L,rfl,LT.base_le (by have:=HB9.out.size;omega),HQ2.out,bend HB9.out hB⟩
end
section
open Go Go.RowKit
attribute [local go_sem ↓] open_LVM open_STM open_LVN open_STN
attribute [local go_sem ↓] open_LVH open_STH open_LVJ open_STJ
theorem rof13_3 {v:AM} {m:MV} {fx fy:Rat} (u:SV8) (p:RP w s_p A_p n_p c_p B_p m_p d_p t_p E_p i_p e_p F_p j_p f_p fx fy 12) (M:RM w m v 12 12) (hin:u.In) (hk:u.k=3) :
 Calls Tryz.prog 12 #[.agg #[.bool s_p,.slice A_p n_p c_p,.slice B_p m_p d_p,.bool t_p,.slice E_p i_p e_p,.slice F_p j_p f_p],.agg #[.int .i64 u.k,.int .i64 u.v0,.int .i64 u.v1,.int .i64 u.v2,.int .i64 u.v3,.int .i64 u.v4,.int .i64 u.v5,.int .i64 u.w],.agg #[.bool m.a.s,.slice m.a.A m.a.n m.a.c,.slice m.a.B m.a.m m.a.d,.bool m.b.s,.slice m.b.A m.b.n m.b.c,.slice m.b.B m.b.m m.b.d,.bool m.c.s,.slice m.c.A m.c.n m.c.c,.slice m.c.B m.c.m m.c.d,.bool m.d.s,.slice m.d.A m.d.n m.d.c,.slice m.d.B m.d.m m.d.d,.bool m.e.s,.slice m.e.A m.e.n m.e.c,.slice m.e.B m.e.m m.e.d,.bool m.f.s,.slice m.f.A m.f.n m.f.c,.slice m.f.B m.f.m m.f.d]] w (GivesJsE w (ofL v fx fy u 2) 64):=by
 obtain ⟨n,hq⟩:∃ n:Nat,n=2:=⟨_,rfl⟩
 rw [← hq]
 have hn3:n≤3:=by omega
 have HQN:Hid (n=2):=hq
 have HK:=Lib.hid hk;clear hk hq;have HIN:=Lib.hid hin;clear hin
 go_enter Tryz.func12,Tryz.ntmps12
 go_upto_region 1 with (fail)
 generalize hW:World.alloc _ _=W
 obtain ⟨hb,XF,XS,XM,hzW⟩:=mkbx50_16 hW;clear hW;replace p:=p.below hb;replace M:=M.below hb;obtain ⟨xs0,xs1,xs2,xs3,xs4,xs5,xs6,xs7⟩:=XS.all;have hk:=HK.out
 have b2:(u.k == 2)=false:=by simp [hk]
 have b3:(u.k == 3)=true:=by simp [hk]
 have b4:(u.k == 4)=false:=by simp [hk]
 have b5:(u.k == 5)=false:=by simp [hk]
 clear hk
 go_upto_region 14 with (fail)
 clear b2 b3 b4 b5;clear xs0 xs1 xs2 xs3 xs4 xs5 xs6 xs7
 go_upto_region 15 with (first
  | (go_at_call 42;(with_reducible refine (rof3 1 1 (by decide) (by decide) (by decide) (by decide) (by decide) _).mono ?_);rintro e w_o ⟨s_o,A_o,n_o,c_o,B_o,m_o,d_o,rfl,o,hh⟩
     (try replace p:=p.below hh);(try replace M:=M.below hh);(try replace XF:=XF.below hh);(try replace XS:=XS.below hh);(try replace XM:=XM.below hh);replace hb:=bend hb hh;rw [one_q] at o))
 generalize hW:World.alloc _ _=W0
 obtain ⟨hh,XO⟩:=mkbx51_17 hW;clear hW;replace p:=p.below hh;replace M:=M.below hh;replace XF:=XF.below hh;replace XS:=XS.below hh;replace XM:=XM.below hh;replace o:=o.below hh;replace hb:=bend hb hh;clear hh
 have HGO:Hid (w_o.heap.size < W0.heap.size):=XO.lt
 have HGS:Hid (w.heap.size+1 < W0.heap.size):=XS.lt
 have HGM:Hid (w.heap.size+1+1 < W0.heap.size):=XM.lt
 generalize w_o.heap.size=g_o at XO HGO ⊢
 have XS9:=Lib.hid XS;have XM9:=Lib.hid XM;have M9:=Lib.hid M;have XO9:=Lib.hid XO;have o9:=Lib.hid o;have HB9:=Lib.hid hb;clear hb
 have hB:Below W0.heap.size W0 W0.drew:=(Below.refl _ _).drew
 replace p:=p.below (Below.refl _ _).drew
 replace M:=M.below (Below.refl _ _).drew
 replace XF:=XF.below (Below.refl _ _).drew
 replace XS:=XS.below (Below.refl _ _).drew
 replace XM:=XM.below (Below.refl _ _).drew
 replace XO:=XO.below (Below.refl _ _).drew
 replace o:=o.below (Below.refl _ _).drew
 go_region_held3 (fun w'=>(LVN ⟨w.heap.size+1+1,0,none⟩).run Tryz.prog w'=.ok (.agg #[.bool m.a.s,.slice m.a.A m.a.n m.a.c,.slice m.a.B m.a.m m.a.d,.bool m.b.s,.slice m.b.A m.b.n m.b.c,.slice m.b.B m.b.m m.b.d,.bool m.c.s,.slice m.c.A m.c.n m.c.c,.slice m.c.B m.c.m m.c.d,.bool m.d.s,.slice m.d.A m.d.n m.d.c,.slice m.d.B m.d.m m.d.d,.bool m.e.s,.slice m.e.A m.e.n m.e.c,.slice m.e.B m.e.m m.e.d,.bool m.f.s,.slice m.f.A m.f.n m.f.c,.slice m.f.B m.f.m m.f.d]) w'∧w'.cell? ⟨w.heap.size,0,none⟩=some (.bool s_p)∧w'.cell? ⟨w.heap.size,1,none⟩=some (.slice A_p n_p c_p)∧w'.cell? ⟨w.heap.size,2,none⟩=some (.slice B_p m_p d_p)∧w'.cell? ⟨w.heap.size,3,none⟩=some (.bool t_p)∧w'.cell? ⟨w.heap.size,4,none⟩=some (.slice E_p i_p e_p)∧w'.cell? ⟨w.heap.size,5,none⟩=some (.slice F_p j_p f_p)∧w'.cell? ⟨g_o,0,none⟩=some (.bool s_o)∧w'.cell? ⟨g_o,1,none⟩=some (.slice A_o n_o c_o)∧w'.cell? ⟨g_o,2,none⟩=some (.slice B_o m_o d_o))
  (first | with_reducible exact ⟨XM.ld,XF.c0,XF.c1,XF.c2,XF.c3,XF.c4,XF.c5,XO.c0,XO.c1,XO.c2⟩ | exact ⟨(XM.below ((Below.refl _ _).alloc (Nat.le_refl _) _)).ld,(XF.below ((Below.refl _ _).alloc (Nat.le_refl _) _)).c0,(XF.below ((Below.refl _ _).alloc (Nat.le_refl _) _)).c1,(XF.below ((Below.refl _ _).alloc (Nat.le_refl _) _)).c2,(XF.below ((Below.refl _ _).alloc (Nat.le_refl _) _)).c3,(XF.below ((Below.refl _ _).alloc (Nat.le_refl _) _)).c4,(XF.below ((Below.refl _ _).alloc (Nat.le_refl _) _)).c5,(XO.below ((Below.refl _ _).alloc (Nat.le_refl _) _)).c0,(XO.below ((Below.refl _ _).alloc (Nat.le_refl _) _)).c1,(XO.below ((Below.refl _ _).alloc (Nat.le_refl _) _)).c2⟩)
  (first
  | (go_at_call 44;(with_reducible refine (rapply9 M p (by decide) (by decide)).mono ?_);rintro e w_r ⟨s_r,A_r,n_r,c_r,B_r,m_r,d_r,t_r,E_r,i_r,e_r,F_r,j_r,f_r,rfl,r,hh⟩
     (try replace XM:=XM.below hh);(try replace XF:=XF.below hh);(try replace XO:=XO.below hh);(try replace o:=o.below hh);replace hB:=bend hB hh)
  | (go_at_call 43;(with_reducible refine (rweighed13 r o (by decide) (by decide)).mono ?_);rintro e w_y ⟨y,rfl,yh,hh⟩
     (try replace XM:=XM.below hh);(try replace XF:=XF.below hh);(try replace XO:=XO.below hh);replace hB:=bend hB hh))
 have hLit:=LnH.lit (T:=96) (base:=W0.heap.size) w_y [y] hB.size (by simp)
 have hal:Below w_y.heap.size w_y (w_y.alloc (Obj.cells #[Value.bool y.x.s,Value.slice y.x.A y.x.n y.x.c,Value.slice y.x.B y.x.m y.x.d,Value.bool y.y.s,Value.slice y.y.A y.y.n y.y.c,Value.slice y.y.B y.y.m y.y.d,Value.bool y.w.s,Value.slice y.w.A y.w.n y.w.c,Value.slice y.w.B y.w.m y.w.d] 96)):=((Below.refl _ _).alloc (Nat.le_refl _) _)
 have yh9:=Lib.hid ((yh.below hal).more (show _≤64 by decide))
 have hbA:=Lib.hid (bend hB hal)
 clear r o yh XF XS XM XO p M hal hB
 go_wp2_with fail
 go_loopg [10,11] n (fun gk out ix wr=>∃ (L:List HV) (j:Nat),Hid (gk+j=n)∧ix=.int .i64 (j:Int)∧LnH 96 W0.heap.size wr out L∧Hid (EachH RH wr L ((ofL v fx fy u n).take (j+1)) 64)∧Below W0.heap.size W0 wr)
 case atStart=>exact ⟨[y],0,Nat.add_zero _,rfl,hLit,⟨by simp [ofL],fun i a b ha hb=>by
  match i with
  | 0=>cases ha;cases hb;exact yh9.out
  | i+1=>cases ha⟩,hbA.out⟩
 case round =>
  clear hLit yh9 hbA
  obtain ⟨L,j,HGK,rfl,LT,HQ,hB⟩:=hrel
  by_cases hmn:j < n
  · have XS:=XS9.out.below hB
    have XM:=XM9.out.below hB;have M:=M9.out.below hB;have XO:=XO9.out.below hB;have o:=o9.out.below hB
    have hlt:(j:Int) < 2:=by have:=HQN.out;omega
    have hwr:IntKind.i64.wrap ((j:Int)+1)=(j:Int)+1:=IntWalk.i64_in _ (by omega)
    have HU:=Lib.hid (ofL_get (v:=v) (x:=fx) (y:=fy) (u:=u) hmn)
    have hMl:L.length≤1000000:=by have:=HQ.out.1;rw [List.length_take] at this;omega
    have HMN:=Lib.hid hmn
    have hxw:∀ b,u10.ownBlock=some b→b ≠ wr.heap.size:=fun b e=>by have:=(LT.own.lt b e).2;omega
    have hxs:∀ b,u10.ownBlock=some b→b ≠ w.heap.size+1:=fun b e=>by have:=LT.own_base e;have:=HGS.out;omega
    have hxm:∀ b,u10.ownBlock=some b→b ≠ w.heap.size+1+1:=fun b e=>by have:=LT.own_base e;have:=HGM.out;omega
    have hgw:W0.heap.size≤wr.heap.size:=hB.size
    obtain ⟨xo0,xo1,xo2⟩:=XO.all;clear hmn
    go_upto_region 20 with (fail)
    have hh:Below wr.heap.size wr (wr.alloc (Obj.cells #[Value.bool s_o,Value.slice A_o n_o c_o,Value.slice B_o m_o d_o] 49)):=(Below.refl _ _).alloc (Nat.le_refl _) _
    have XW:B3R (wr.alloc (Obj.cells #[Value.bool s_o,Value.slice A_o n_o c_o,Value.slice B_o m_o d_o] 49)) wr.heap.size (Value.bool s_o) (Value.slice A_o n_o c_o) (Value.slice B_o m_o d_o):=B3R.new' _ _ _ _ _ rfl
    replace XS:=XS.below hh;replace XM:=XM.below hh;replace M:=M.below hh;replace o:=o.below hh;replace LT:=LT.below hh
    replace HQ:=Lib.hid (EachH.belowJ HQ.out hh)
    replace hB:=bend hB hh;clear hh XO xo0 xo1 xo2
    generalize (wr.alloc (Obj.cells #[Value.bool s_o,Value.slice A_o n_o c_o,Value.slice B_o m_o d_o] 49))=W3 at *
    generalize wr.heap.size=g_w at *
    have xs0:=XS.c0;have xs7:=XS.c7
    have h5:¬ (u.k=5∧j=0):=fun e=>by have:=HK.out;omega
    have hk5:¬ u.k=5:=by have:=HK.out;omega
    focus
     have hwq:wgtQ u j=1:=by unfold wgtQ;rw [if_neg h5]
     have b5:(u.k == 5)=false:=by simp [hk5]
     have HWQ:=Lib.hid hwq;clear h5 hk5 hwq
     go_upto_region 22 with (fail)
     rw [← HWQ.out] at o
     have PK:∃ (K:QV),B3R W3 g_w (.bool K.s) (.slice K.A K.n K.c) (.slice K.B K.m K.d)∧RQ W3 K.s K.A K.n K.c K.B K.m K.d (wgtQ u j) 2:=⟨⟨s_o,A_o,n_o,c_o,B_o,m_o,d_o⟩,XW,o⟩
     clear XW o b5 HWQ xs0 xs7
     generalize W3=Wn at *
    rotate_left
    all_goals
     obtain ⟨K,XW,kq⟩:=PK
     have hmn:=HMN.out
     have X1:C1 Wn (w.heap.size+1) (1+2*j) (.int .i64 (u.at_ (2*j))):=XS.cv (2*j) (by omega)
     have X2:C1 Wn (w.heap.size+1) (1+(2*j+1)) (.int .i64 (u.at_ (2*j+1))):=XS.cv (2*j+1) (by omega)
     have i1:∀ w':World,(Instr.indexAt 29 (.pointer (some ⟨w.heap.size+1,1,none⟩)) (.int .i64 (2*(j:Int)))).run Tryz.prog w'=.ok (.pointer (some ⟨w.heap.size+1,1+2*j,none⟩)) w':=fun w'=>by have h9:=ats_m (w.heap.size+1) (2*j) (by omega) w';rwa [show ((2*j:Nat):Int)=2*(j:Int) by omega] at h9
     have i2:∀ w':World,(Instr.indexAt 29 (.pointer (some ⟨w.heap.size+1,1,none⟩)) (.int .i64 (2*(j:Int)+1))).run Tryz.prog w'=.ok (.pointer (some ⟨w.heap.size+1,1+(2*j+1),none⟩)) w':=fun w'=>by have h9:=ats_m (w.heap.size+1) (2*j+1) (by omega) w';rwa [show ((2*j+1:Nat):Int)=2*(j:Int)+1 by omega] at h9
     have ha0:=HIN.out.2.1 (2*j)
     have hb0:=HIN.out.2.1 (2*j+1)
     have hw1:IntKind.i64.wrap (2*(j:Int))=2*(j:Int):=IntWalk.i64_in _ (by omega)
     have hw2:IntKind.i64.wrap (2*(j:Int)+1)=2*(j:Int)+1:=IntWalk.i64_in _ (by omega)
     have hOA:ofA v u j=⟨v.ax (Rat.divInt (u.at_ (2*j)) 64) (Rat.divInt (u.at_ (2*j+1)) 64)*wgtQ u j,v.ay (Rat.divInt (u.at_ (2*j)) 64) (Rat.divInt (u.at_ (2*j+1)) 64)*wgtQ u j,wgtQ u j⟩:=by unfold ofA;rw [from13 _ _ (by decide),from13 _ _ (by decide)]
     generalize u.at_ (2*j)=av at X1 ha0 hOA
     generalize u.at_ (2*j+1)=bv at X2 hb0 hOA
     generalize 1+2*j=po at X1 i1
     generalize 1+(2*j+1)=qo at X2 i2
     have HA0:=Lib.hid ha0;have HB0:=Lib.hid hb0;have HOA:=Lib.hid hOA;clear hmn ha0 hb0 hOA XS
     generalize wgtQ u j=wq at kq HOA
     replace LT:=LT.below (Below.refl _ _).drew
     replace XM:=XM.below (Below.refl _ _).drew
     replace XW:=XW.below (Below.refl _ _).drew
     replace X1:=X1.below (Below.refl _ _).drew
     replace X2:=X2.below (Below.refl _ _).drew
     replace M:=M.below (Below.refl _ _).drew
     replace kq:=kq.below (Below.refl _ _).drew
     replace HQ:=Lib.hid (EachH.belowJ HQ.out (Below.refl _ _).drew)
     replace hB:=hB.drew
     go_region_held3 (fun w'=>(LVN ⟨w.heap.size+1+1,0,none⟩).run Tryz.prog w'=.ok (.agg #[.bool m.a.s,.slice m.a.A m.a.n m.a.c,.slice m.a.B m.a.m m.a.d,.bool m.b.s,.slice m.b.A m.b.n m.b.c,.slice m.b.B m.b.m m.b.d,.bool m.c.s,.slice m.c.A m.c.n m.c.c,.slice m.c.B m.c.m m.c.d,.bool m.d.s,.slice m.d.A m.d.n m.d.c,.slice m.d.B m.d.m m.d.d,.bool m.e.s,.slice m.e.A m.e.n m.e.c,.slice m.e.B m.e.m m.e.d,.bool m.f.s,.slice m.f.A m.f.n m.f.c,.slice m.f.B m.f.m m.f.d]) w'∧w'.cell? ⟨g_w,0,none⟩=some (.bool K.s)∧w'.cell? ⟨g_w,1,none⟩=some (.slice K.A K.n K.c)∧w'.cell? ⟨g_w,2,none⟩=some (.slice K.B K.m K.d)∧w'.cell? ⟨w.heap.size+1,po,none⟩=some (.int .i64 av)∧w'.cell? ⟨w.heap.size+1,qo,none⟩=some (.int .i64 bv))
      (first | with_reducible exact ⟨XMb.ld,XWb.c0,XWb.c1,XWb.c2,X1b.c,X2b.c⟩ | with_reducible exact ⟨XM.ld,XW.c0,XW.c1,XW.c2,X1.c,X2.c⟩ | exact ⟨(XM.below ((Below.refl _ _).alloc (Nat.le_refl _) _)).ld,(XW.below ((Below.refl _ _).alloc (Nat.le_refl _) _)).c0,(XW.below ((Below.refl _ _).alloc (Nat.le_refl _) _)).c1,(XW.below ((Below.refl _ _).alloc (Nat.le_refl _) _)).c2,(X1.below ((Below.refl _ _).alloc (Nat.le_refl _) _)).c,(X2.below ((Below.refl _ _).alloc (Nat.le_refl _) _)).c⟩)
      (first
      | (go_at_call 45;(with_reducible refine (rat64 av bv HA0.out HB0.out M (by decide) (by decide)).mono ?_);rintro e w_r ⟨s_r,A_r,n_r,c_r,B_r,m_r,d_r,t_r,E_r,i_r,e_r,F_r,j_r,f_r,rfl,r,hh⟩
         (try replace LT:=LT.below hh);(try replace XM:=XM.below hh);(try replace XW:=XW.below hh);(try replace X1:=X1.below hh);(try replace X2:=X2.below hh);(try replace kq:=kq.below hh)
         replace HQ:=Lib.hid (EachH.belowJ HQ.out hh)
         replace hB:=bend hB hh)
      | (go_at_call 43;(with_reducible refine (rweighed13 r kq (by decide) (by decide)).mono ?_);rintro e w_y ⟨y,rfl,yh,hh⟩
         (try replace LT:=LT.below hh);(try replace XM:=XM.below hh);(try replace XW:=XW.below hh);(try replace X1:=X1.below hh);(try replace X2:=X2.below hh)
         replace HQ:=Lib.hid (EachH.belowJ HQ.out hh)
         replace hB:=bend hB hh)
      | (have hal:Below w_y.heap.size w_y (w_y.alloc (Obj.cells #[Value.bool y.x.s,Value.slice y.x.A y.x.n y.x.c,Value.slice y.x.B y.x.m y.x.d,Value.bool y.y.s,Value.slice y.y.A y.y.n y.y.c,Value.slice y.y.B y.y.m y.y.d,Value.bool y.w.s,Value.slice y.w.A y.w.n y.w.c,Value.slice y.w.B y.w.m y.w.d] 96)):=((Below.refl _ _).alloc (Nat.le_refl _) _)
         have XMa:=XM.below hal;have XWa:=XW.below hal;have X1a:=X1.below hal;have X2a:=X2.below hal
         refine step_pushH Tryz.underlying41 info_rhom (by rfl) _ _ (by rfl) (p:=y) (k0:=1) (b:=w_y.heap.size) (by rfl) (by rfl) (LT.below hal) (Nat.le_trans hB.size hal.size) hMl (heap_alloc_new w_y _) ?_
         intro v3 w3 hn3 hg3 ho3
         have XMb:=XMa.pushY hg3 hxm;have XWb:=XWa.pushY hg3 hxw;have X1b:=X1a.pushY hg3 hxs;have X2b:=X2a.pushY hg3 hxs))
     have hE3:EachH RH (w_y.alloc (Obj.cells #[Value.bool y.x.s,Value.slice y.x.A y.x.n y.x.c,Value.slice y.x.B y.x.m y.x.d,Value.bool y.y.s,Value.slice y.y.A y.y.n y.y.c,Value.slice y.y.B y.y.m y.y.d,Value.bool y.w.s,Value.slice y.w.A y.w.n y.w.c,Value.slice y.w.B y.w.m y.w.d] 96)) L ((ofL v fx fy u n).take (j+1)) 64:=EachH.belowJ HQ.out hal
     have hp3:RH (w_y.alloc (Obj.cells #[Value.bool y.x.s,Value.slice y.x.A y.x.n y.x.c,Value.slice y.x.B y.x.m y.x.d,Value.bool y.y.s,Value.slice y.y.A y.y.n y.y.c,Value.slice y.y.B y.y.m y.y.d,Value.bool y.w.s,Value.slice y.w.A y.w.n y.w.c,Value.slice y.w.B y.w.m y.w.d] 96)) y (ofA v u j) 64:=by rw [HOA.out];exact (yh.below hal).more (by decide)
     have hB9:=LnH.under (T:=96) (base:=W0.heap.size) (LT.below hal) hg3 (w0:=W0) (bend hB hal) (Nat.le_refl _)
     have hE4:=takeH HU.out (EachH.push hE3 (fun _ _ h=>(LT.below hal).rh hg3 h) ((LT.below hal).rh hg3 hp3))
     clear hE3 hp3 XMa XWa X1a X2a XMb XWb X1b X2b XM XW X1 X2 M yh r kq
     go_wp2_with fail
     go_roundg (gk - 1)
     case measure=>have:=HGK.out;have:=HMN.out;omega
     case rel=>exact ⟨L ++ [y],j+1,by have:=HGK.out;have:=HMN.out;show _=_;omega,by go_num,hn3,Lib.hid hE4,hB9⟩
  · have hlt:¬ (j:Int) < 2:=by have:=HQN.out;omega
    have HQ2:Hid (EachH RH wr L (ofL v fx fy u n) 64):=by
     have h:=HQ.out
     rwa [List.take_of_length_le (by rw [ofL_length];omega)] at h
    clear hmn
    go_wp2_with fail
    (try rw [Exit.noGoto_ret])
    go_ret2
    exact ⟨_,L,rfl,LT.base_le (by have:=HB9.out.size;omega),HQ2.out,bend HB9.out hB⟩
end
section
open Go Go.RowKit
attribute [local go_sem ↓] open_LVM open_STM open_LVN open_STN
attribute [local go_sem ↓] open_LVH open_STH open_LVJ open_STJ
theorem rof13_4 {v:AM} {m:MV} {fx fy:Rat} (u:SV8) (p:RP w s_p A_p n_p c_p B_p m_p d_p t_p E_p i_p e_p F_p j_p f_p fx fy 12) (M:RM w m v 12 12) (hin:u.In) (hk:u.k=4) :
 Calls Tryz.prog 12 #[.agg #[.bool s_p,.slice A_p n_p c_p,.slice B_p m_p d_p,.bool t_p,.slice E_p i_p e_p,.slice F_p j_p f_p],.agg #[.int .i64 u.k,.int .i64 u.v0,.int .i64 u.v1,.int .i64 u.v2,.int .i64 u.v3,.int .i64 u.v4,.int .i64 u.v5,.int .i64 u.w],.agg #[.bool m.a.s,.slice m.a.A m.a.n m.a.c,.slice m.a.B m.a.m m.a.d,.bool m.b.s,.slice m.b.A m.b.n m.b.c,.slice m.b.B m.b.m m.b.d,.bool m.c.s,.slice m.c.A m.c.n m.c.c,.slice m.c.B m.c.m m.c.d,.bool m.d.s,.slice m.d.A m.d.n m.d.c,.slice m.d.B m.d.m m.d.d,.bool m.e.s,.slice m.e.A m.e.n m.e.c,.slice m.e.B m.e.m m.e.d,.bool m.f.s,.slice m.f.A m.f.n m.f.c,.slice m.f.B m.f.m m.f.d]] w (GivesJsE w (ofL v fx fy u 3) 64):=by
 obtain ⟨n,hq⟩:∃ n:Nat,n=3:=⟨_,rfl⟩
 rw [← hq]
 have hn3:n≤3:=by omega
 have HQN:Hid (n=3):=hq
 have HK:=Lib.hid hk;clear hk hq;have HIN:=Lib.hid hin;clear hin
 go_enter Tryz.func12,Tryz.ntmps12
 go_upto_region 1 with (fail)
 generalize hW:World.alloc _ _=W
 obtain ⟨hb,XF,XS,XM,hzW⟩:=mkbx50_16 hW;clear hW;replace p:=p.below hb;replace M:=M.below hb;obtain ⟨xs0,xs1,xs2,xs3,xs4,xs5,xs6,xs7⟩:=XS.all;have hk:=HK.out
 have b2:(u.k == 2)=false:=by simp [hk]
 have b3:(u.k == 3)=false:=by simp [hk]
 have b4:(u.k == 4)=true:=by simp [hk]
 have b5:(u.k == 5)=false:=by simp [hk]
 clear hk
 go_upto_region 14 with (fail)
 clear b2 b3 b4 b5;clear xs0 xs1 xs2 xs3 xs4 xs5 xs6 xs7
 go_upto_region 15 with (first
  | (go_at_call 42;(with_reducible refine (rof3 1 1 (by decide) (by decide) (by decide) (by decide) (by decide) _).mono ?_);rintro e w_o ⟨s_o,A_o,n_o,c_o,B_o,m_o,d_o,rfl,o,hh⟩
     (try replace p:=p.below hh);(try replace M:=M.below hh);(try replace XF:=XF.below hh);(try replace XS:=XS.below hh);(try replace XM:=XM.below hh);replace hb:=bend hb hh;rw [one_q] at o))
 generalize hW:World.alloc _ _=W0
 obtain ⟨hh,XO⟩:=mkbx51_17 hW;clear hW;replace p:=p.below hh;replace M:=M.below hh;replace XF:=XF.below hh;replace XS:=XS.below hh;replace XM:=XM.below hh;replace o:=o.below hh;replace hb:=bend hb hh;clear hh
 have HGO:Hid (w_o.heap.size < W0.heap.size):=XO.lt
 have HGS:Hid (w.heap.size+1 < W0.heap.size):=XS.lt
 have HGM:Hid (w.heap.size+1+1 < W0.heap.size):=XM.lt
 generalize w_o.heap.size=g_o at XO HGO ⊢
 have XS9:=Lib.hid XS;have XM9:=Lib.hid XM;have M9:=Lib.hid M;have XO9:=Lib.hid XO;have o9:=Lib.hid o;have HB9:=Lib.hid hb;clear hb
 have hB:Below W0.heap.size W0 W0.drew:=(Below.refl _ _).drew
 replace p:=p.below (Below.refl _ _).drew
 replace M:=M.below (Below.refl _ _).drew
 replace XF:=XF.below (Below.refl _ _).drew
 replace XS:=XS.below (Below.refl _ _).drew
 replace XM:=XM.below (Below.refl _ _).drew
 replace XO:=XO.below (Below.refl _ _).drew
 replace o:=o.below (Below.refl _ _).drew
 go_region_held3 (fun w'=>(LVN ⟨w.heap.size+1+1,0,none⟩).run Tryz.prog w'=.ok (.agg #[.bool m.a.s,.slice m.a.A m.a.n m.a.c,.slice m.a.B m.a.m m.a.d,.bool m.b.s,.slice m.b.A m.b.n m.b.c,.slice m.b.B m.b.m m.b.d,.bool m.c.s,.slice m.c.A m.c.n m.c.c,.slice m.c.B m.c.m m.c.d,.bool m.d.s,.slice m.d.A m.d.n m.d.c,.slice m.d.B m.d.m m.d.d,.bool m.e.s,.slice m.e.A m.e.n m.e.c,.slice m.e.B m.e.m m.e.d,.bool m.f.s,.slice m.f.A m.f.n m.f.c,.slice m.f.B m.f.m m.f.d]) w'∧w'.cell? ⟨w.heap.size,0,none⟩=some (.bool s_p)∧w'.cell? ⟨w.heap.size,1,none⟩=some (.slice A_p n_p c_p)∧w'.cell? ⟨w.heap.size,2,none⟩=some (.slice B_p m_p d_p)∧w'.cell? ⟨w.heap.size,3,none⟩=some (.bool t_p)∧w'.cell? ⟨w.heap.size,4,none⟩=some (.slice E_p i_p e_p)∧w'.cell? ⟨w.heap.size,5,none⟩=some (.slice F_p j_p f_p)∧w'.cell? ⟨g_o,0,none⟩=some (.bool s_o)∧w'.cell? ⟨g_o,1,none⟩=some (.slice A_o n_o c_o)∧w'.cell? ⟨g_o,2,none⟩=some (.slice B_o m_o d_o))
  (first | with_reducible exact ⟨XM.ld,XF.c0,XF.c1,XF.c2,XF.c3,XF.c4,XF.c5,XO.c0,XO.c1,XO.c2⟩ | exact ⟨(XM.below ((Below.refl _ _).alloc (Nat.le_refl _) _)).ld,(XF.below ((Below.refl _ _).alloc (Nat.le_refl _) _)).c0,(XF.below ((Below.refl _ _).alloc (Nat.le_refl _) _)).c1,(XF.below ((Below.refl _ _).alloc (Nat.le_refl _) _)).c2,(XF.below ((Below.refl _ _).alloc (Nat.le_refl _) _)).c3,(XF.below ((Below.refl _ _).alloc (Nat.le_refl _) _)).c4,(XF.below ((Below.refl _ _).alloc (Nat.le_refl _) _)).c5,(XO.below ((Below.refl _ _).alloc (Nat.le_refl _) _)).c0,(XO.below ((Below.refl _ _).alloc (Nat.le_refl _) _)).c1,(XO.below ((Below.refl _ _).alloc (Nat.le_refl _) _)).c2⟩)
  (first
  | (go_at_call 44;(with_reducible refine (rapply9 M p (by decide) (by decide)).mono ?_);rintro e w_r ⟨s_r,A_r,n_r,c_r,B_r,m_r,d_r,t_r,E_r,i_r,e_r,F_r,j_r,f_r,rfl,r,hh⟩
     (try replace XM:=XM.below hh);(try replace XF:=XF.below hh);(try replace XO:=XO.below hh);(try replace o:=o.below hh);replace hB:=bend hB hh)
  | (go_at_call 43;(with_reducible refine (rweighed13 r o (by decide) (by decide)).mono ?_);rintro e w_y ⟨y,rfl,yh,hh⟩
     (try replace XM:=XM.below hh);(try replace XF:=XF.below hh);(try replace XO:=XO.below hh);replace hB:=bend hB hh))
 have hLit:=LnH.lit (T:=96) (base:=W0.heap.size) w_y [y] hB.size (by simp)
 have hal:Below w_y.heap.size w_y (w_y.alloc (Obj.cells #[Value.bool y.x.s,Value.slice y.x.A y.x.n y.x.c,Value.slice y.x.B y.x.m y.x.d,Value.bool y.y.s,Value.slice y.y.A y.y.n y.y.c,Value.slice y.y.B y.y.m y.y.d,Value.bool y.w.s,Value.slice y.w.A y.w.n y.w.c,Value.slice y.w.B y.w.m y.w.d] 96)):=((Below.refl _ _).alloc (Nat.le_refl _) _)
 have yh9:=Lib.hid ((yh.below hal).more (show _≤64 by decide))
 have hbA:=Lib.hid (bend hB hal)
 clear r o yh XF XS XM XO p M hal hB
 go_wp2_with fail
 go_loopg [10,11] n (fun gk out ix wr=>∃ (L:List HV) (j:Nat),Hid (gk+j=n)∧ix=.int .i64 (j:Int)∧LnH 96 W0.heap.size wr out L∧Hid (EachH RH wr L ((ofL v fx fy u n).take (j+1)) 64)∧Below W0.heap.size W0 wr)
 case atStart=>exact ⟨[y],0,Nat.add_zero _,rfl,hLit,⟨by simp [ofL],fun i a b ha hb=>by
  match i with
  | 0=>cases ha;cases hb;exact yh9.out
  | i+1=>cases ha⟩,hbA.out⟩
 case round =>
  clear hLit yh9 hbA
  obtain ⟨L,j,HGK,rfl,LT,HQ,hB⟩:=hrel
  by_cases hmn:j < n
  · have XS:=XS9.out.below hB
    have XM:=XM9.out.below hB;have M:=M9.out.below hB;have XO:=XO9.out.below hB;have o:=o9.out.below hB
    have hlt:(j:Int) < 3:=by have:=HQN.out;omega
    have hwr:IntKind.i64.wrap ((j:Int)+1)=(j:Int)+1:=IntWalk.i64_in _ (by omega)
    have HU:=Lib.hid (ofL_get (v:=v) (x:=fx) (y:=fy) (u:=u) hmn)
    have hMl:L.length≤1000000:=by have:=HQ.out.1;rw [List.length_take] at this;omega
    have HMN:=Lib.hid hmn
    have hxw:∀ b,u10.ownBlock=some b→b ≠ wr.heap.size:=fun b e=>by have:=(LT.own.lt b e).2;omega
    have hxs:∀ b,u10.ownBlock=some b→b ≠ w.heap.size+1:=fun b e=>by have:=LT.own_base e;have:=HGS.out;omega
    have hxm:∀ b,u10.ownBlock=some b→b ≠ w.heap.size+1+1:=fun b e=>by have:=LT.own_base e;have:=HGM.out;omega
    have hgw:W0.heap.size≤wr.heap.size:=hB.size
    obtain ⟨xo0,xo1,xo2⟩:=XO.all;clear hmn
    go_upto_region 20 with (fail)
    have hh:Below wr.heap.size wr (wr.alloc (Obj.cells #[Value.bool s_o,Value.slice A_o n_o c_o,Value.slice B_o m_o d_o] 49)):=(Below.refl _ _).alloc (Nat.le_refl _) _
    have XW:B3R (wr.alloc (Obj.cells #[Value.bool s_o,Value.slice A_o n_o c_o,Value.slice B_o m_o d_o] 49)) wr.heap.size (Value.bool s_o) (Value.slice A_o n_o c_o) (Value.slice B_o m_o d_o):=B3R.new' _ _ _ _ _ rfl
    replace XS:=XS.below hh;replace XM:=XM.below hh;replace M:=M.below hh;replace o:=o.below hh;replace LT:=LT.below hh
    replace HQ:=Lib.hid (EachH.belowJ HQ.out hh)
    replace hB:=bend hB hh;clear hh XO xo0 xo1 xo2
    generalize (wr.alloc (Obj.cells #[Value.bool s_o,Value.slice A_o n_o c_o,Value.slice B_o m_o d_o] 49))=W3 at *
    generalize wr.heap.size=g_w at *
    have xs0:=XS.c0;have xs7:=XS.c7
    have h5:¬ (u.k=5∧j=0):=fun e=>by have:=HK.out;omega
    have hk5:¬ u.k=5:=by have:=HK.out;omega
    focus
     have hwq:wgtQ u j=1:=by unfold wgtQ;rw [if_neg h5]
     have b5:(u.k == 5)=false:=by simp [hk5]
     have HWQ:=Lib.hid hwq;clear h5 hk5 hwq
     go_upto_region 22 with (fail)
     rw [← HWQ.out] at o
     have PK:∃ (K:QV),B3R W3 g_w (.bool K.s) (.slice K.A K.n K.c) (.slice K.B K.m K.d)∧RQ W3 K.s K.A K.n K.c K.B K.m K.d (wgtQ u j) 2:=⟨⟨s_o,A_o,n_o,c_o,B_o,m_o,d_o⟩,XW,o⟩
     clear XW o b5 HWQ xs0 xs7
     generalize W3=Wn at *
    rotate_left
    all_goals
     obtain ⟨K,XW,kq⟩:=PK
     have hmn:=HMN.out
     have X1:C1 Wn (w.heap.size+1) (1+2*j) (.int .i64 (u.at_ (2*j))):=XS.cv (2*j) (by omega)
     have X2:C1 Wn (w.heap.size+1) (1+(2*j+1)) (.int .i64 (u.at_ (2*j+1))):=XS.cv (2*j+1) (by omega)
     have i1:∀ w':World,(Instr.indexAt 29 (.pointer (some ⟨w.heap.size+1,1,none⟩)) (.int .i64 (2*(j:Int)))).run Tryz.prog w'=.ok (.pointer (some ⟨w.heap.size+1,1+2*j,none⟩)) w':=fun w'=>by have h9:=ats_m (w.heap.size+1) (2*j) (by omega) w';rwa [show ((2*j:Nat):Int)=2*(j:Int) by omega] at h9
     have i2:∀ w':World,(Instr.indexAt 29 (.pointer (some ⟨w.heap.size+1,1,none⟩)) (.int .i64 (2*(j:Int)+1))).run Tryz.prog w'=.ok (.pointer (some ⟨w.heap.size+1,1+(2*j+1),none⟩)) w':=fun w'=>by have h9:=ats_m (w.heap.size+1) (2*j+1) (by omega) w';rwa [show ((2*j+1:Nat):Int)=2*(j:Int)+1 by omega] at h9
     have ha0:=HIN.out.2.1 (2*j)
     have hb0:=HIN.out.2.1 (2*j+1)
     have hw1:IntKind.i64.wrap (2*(j:Int))=2*(j:Int):=IntWalk.i64_in _ (by omega)
     have hw2:IntKind.i64.wrap (2*(j:Int)+1)=2*(j:Int)+1:=IntWalk.i64_in _ (by omega)
     have hOA:ofA v u j=⟨v.ax (Rat.divInt (u.at_ (2*j)) 64) (Rat.divInt (u.at_ (2*j+1)) 64)*wgtQ u j,v.ay (Rat.divInt (u.at_ (2*j)) 64) (Rat.divInt (u.at_ (2*j+1)) 64)*wgtQ u j,wgtQ u j⟩:=by unfold ofA;rw [from13 _ _ (by decide),from13 _ _ (by decide)]
     generalize u.at_ (2*j)=av at X1 ha0 hOA
     generalize u.at_ (2*j+1)=bv at X2 hb0 hOA
     generalize 1+2*j=po at X1 i1
     generalize 1+(2*j+1)=qo at X2 i2
     have HA0:=Lib.hid ha0;have HB0:=Lib.hid hb0;have HOA:=Lib.hid hOA;clear hmn ha0 hb0 hOA XS
     generalize wgtQ u j=wq at kq HOA
     replace LT:=LT.below (Below.refl _ _).drew
     replace XM:=XM.below (Below.refl _ _).drew
     replace XW:=XW.below (Below.refl _ _).drew
     replace X1:=X1.below (Below.refl _ _).drew
     replace X2:=X2.below (Below.refl _ _).drew
     replace M:=M.below (Below.refl _ _).drew
     replace kq:=kq.below (Below.refl _ _).drew
     replace HQ:=Lib.hid (EachH.belowJ HQ.out (Below.refl _ _).drew)
     replace hB:=hB.drew
     go_region_held3 (fun w'=>(LVN ⟨w.heap.size+1+1,0,none⟩).run Tryz.prog w'=.ok (.agg #[.bool m.a.s,.slice m.a.A m.a.n m.a.c,.slice m.a.B m.a.m m.a.d,.bool m.b.s,.slice m.b.A m.b.n m.b.c,.slice m.b.B m.b.m m.b.d,.bool m.c.s,.slice m.c.A m.c.n m.c.c,.slice m.c.B m.c.m m.c.d,.bool m.d.s,.slice m.d.A m.d.n m.d.c,.slice m.d.B m.d.m m.d.d,.bool m.e.s,.slice m.e.A m.e.n m.e.c,.slice m.e.B m.e.m m.e.d,.bool m.f.s,.slice m.f.A m.f.n m.f.c,.slice m.f.B m.f.m m.f.d]) w'∧w'.cell? ⟨g_w,0,none⟩=some (.bool K.s)∧w'.cell? ⟨g_w,1,none⟩=some (.slice K.A K.n K.c)∧w'.cell? ⟨g_w,2,none⟩=some (.slice K.B K.m K.d)∧w'.cell? ⟨w.heap.size+1,po,none⟩=some (.int .i64 av)∧w'.cell? ⟨w.heap.size+1,qo,none⟩=some (.int .i64 bv))
      (first | with_reducible exact ⟨XMb.ld,XWb.c0,XWb.c1,XWb.c2,X1b.c,X2b.c⟩ | with_reducible exact ⟨XM.ld,XW.c0,XW.c1,XW.c2,X1.c,X2.c⟩ | exact ⟨(XM.below ((Below.refl _ _).alloc (Nat.le_refl _) _)).ld,(XW.below ((Below.refl _ _).alloc (Nat.le_refl _) _)).c0,(XW.below ((Below.refl _ _).alloc (Nat.le_refl _) _)).c1,(XW.below ((Below.refl _ _).alloc (Nat.le_refl _) _)).c2,(X1.below ((Below.refl _ _).alloc (Nat.le_refl _) _)).c,(X2.below ((Below.refl _ _).alloc (Nat.le_refl _) _)).c⟩)
      (first
      | (go_at_call 45;(with_reducible refine (rat64 av bv HA0.out HB0.out M (by decide) (by decide)).mono ?_);rintro e w_r ⟨s_r,A_r,n_r,c_r,B_r,m_r,d_r,t_r,E_r,i_r,e_r,F_r,j_r,f_r,rfl,r,hh⟩
         (try replace LT:=LT.below hh);(try replace XM:=XM.below hh);(try replace XW:=XW.below hh);(try replace X1:=X1.below hh);(try replace X2:=X2.below hh);(try replace kq:=kq.below hh)
         replace HQ:=Lib.hid (EachH.belowJ HQ.out hh)
         replace hB:=bend hB hh)
      | (go_at_call 43;(with_reducible refine (rweighed13 r kq (by decide) (by decide)).mono ?_);rintro e w_y ⟨y,rfl,yh,hh⟩
         (try replace LT:=LT.below hh);(try replace XM:=XM.below hh);(try replace XW:=XW.below hh);(try replace X1:=X1.below hh);(try replace X2:=X2.below hh)
         replace HQ:=Lib.hid (EachH.belowJ HQ.out hh)
         replace hB:=bend hB hh)
      | (have hal:Below w_y.heap.size w_y (w_y.alloc (Obj.cells #[Value.bool y.x.s,Value.slice y.x.A y.x.n y.x.c,Value.slice y.x.B y.x.m y.x.d,Value.bool y.y.s,Value.slice y.y.A y.y.n y.y.c,Value.slice y.y.B y.y.m y.y.d,Value.bool y.w.s,Value.slice y.w.A y.w.n y.w.c,Value.slice y.w.B y.w.m y.w.d] 96)):=((Below.refl _ _).alloc (Nat.le_refl _) _)
         have XMa:=XM.below hal;have XWa:=XW.below hal;have X1a:=X1.below hal;have X2a:=X2.below hal
         refine step_pushH Tryz.underlying41 info_rhom (by rfl) _ _ (by rfl) (p:=y) (k0:=1) (b:=w_y.heap.size) (by rfl) (by rfl) (LT.below hal) (Nat.le_trans hB.size hal.size) hMl (heap_alloc_new w_y _) ?_
         intro v3 w3 hn3 hg3 ho3
         have XMb:=XMa.pushY hg3 hxm;have XWb:=XWa.pushY hg3 hxw;have X1b:=X1a.pushY hg3 hxs;have X2b:=X2a.pushY hg3 hxs))
     have hE3:EachH RH (w_y.alloc (Obj.cells #[Value.bool y.x.s,Value.slice y.x.A y.x.n y.x.c,Value.slice y.x.B y.x.m y.x.d,Value.bool y.y.s,Value.slice y.y.A y.y.n y.y.c,Value.slice y.y.B y.y.m y.y.d,Value.bool y.w.s,Value.slice y.w.A y.w.n y.w.c,Value.slice y.w.B y.w.m y.w.d] 96)) L ((ofL v fx fy u n).take (j+1)) 64:=EachH.belowJ HQ.out hal
     have hp3:RH (w_y.alloc (Obj.cells #[Value.bool y.x.s,Value.slice y.x.A y.x.n y.x.c,Value.slice y.x.B y.x.m y.x.d,Value.bool y.y.s,Value.slice y.y.A y.y.n y.y.c,Value.slice y.y.B y.y.m y.y.d,Value.bool y.w.s,Value.slice y.w.A y.w.n y.w.c,Value.slice y.w.B y.w.m y.w.d] 96)) y (ofA v u j) 64:=by rw [HOA.out];exact (yh.below hal).more (by decide)
     have hB9:=LnH.under (T:=96) (base:=W0.heap.size) (LT.below hal) hg3 (w0:=W0) (bend hB hal) (Nat.le_refl _)
     have hE4:=takeH HU.out (EachH.push hE3 (fun _ _ h=>(LT.below hal).rh hg3 h) ((LT.below hal).rh hg3 hp3))
     clear hE3 hp3 XMa XWa X1a X2a XMb XWb X1b X2b XM XW X1 X2 M yh r kq
     go_wp2_with fail
     go_roundg (gk - 1)
     case measure=>have:=HGK.out;have:=HMN.out;omega
     case rel=>exact ⟨L ++ [y],j+1,by have:=HGK.out;have:=HMN.out;show _=_;omega,by go_num,hn3,Lib.hid hE4,hB9⟩
  · have hlt:¬ (j:Int) < 3:=by have:=HQN.out;omega
    have HQ2:Hid (EachH RH wr L (ofL v fx fy u n) 64):=by
     have h:=HQ.out
     rwa [List.take_of_length_le (by rw [ofL_length];omega)] at h
    clear hmn
    go_wp2_with fail
    (try rw [Exit.noGoto_ret])
    go_ret2
    exact ⟨_,L,rfl,LT.base_le (by have:=HB9.out.size;omega),HQ2.out,bend HB9.out hB⟩
end
section
open Go Go.RowKit
attribute [local go_sem ↓] open_LVM open_STM open_LVN open_STN
attribute [local go_sem ↓] open_LVH open_STH open_LVJ open_STJ
theorem rof13_5 {v:AM} {m:MV} {fx fy:Rat} (u:SV8) (p:RP w s_p A_p n_p c_p B_p m_p d_p t_p E_p i_p e_p F_p j_p f_p fx fy 12) (M:RM w m v 12 12) (hin:u.In) (hk:u.k=5) (hw5:1≤u.w) :
 Calls Tryz.prog 12 #[.agg #[.bool s_p,.slice A_p n_p c_p,.slice B_p m_p d_p,.bool t_p,.slice E_p i_p e_p,.slice F_p j_p f_p],.agg #[.int .i64 u.k,.int .i64 u.v0,.int .i64 u.v1,.int .i64 u.v2,.int .i64 u.v3,.int .i64 u.v4,.int .i64 u.v5,.int .i64 u.w],.agg #[.bool m.a.s,.slice m.a.A m.a.n m.a.c,.slice m.a.B m.a.m m.a.d,.bool m.b.s,.slice m.b.A m.b.n m.b.c,.slice m.b.B m.b.m m.b.d,.bool m.c.s,.slice m.c.A m.c.n m.c.c,.slice m.c.B m.c.m m.c.d,.bool m.d.s,.slice m.d.A m.d.n m.d.c,.slice m.d.B m.d.m m.d.d,.bool m.e.s,.slice m.e.A m.e.n m.e.c,.slice m.e.B m.e.m m.e.d,.bool m.f.s,.slice m.f.A m.f.n m.f.c,.slice m.f.B m.f.m m.f.d]] w (GivesJsE w (ofL v fx fy u 2) 64):=by
 obtain ⟨n,hq⟩:∃ n:Nat,n=2:=⟨_,rfl⟩
 rw [← hq]
 have hn3:n≤3:=by omega
 have HQN:Hid (n=2):=hq
 have HK:=Lib.hid hk;clear hk hq;have HIN:=Lib.hid hin;clear hin
 go_enter Tryz.func12,Tryz.ntmps12
 go_upto_region 1 with (fail)
 generalize hW:World.alloc _ _=W
 obtain ⟨hb,XF,XS,XM,hzW⟩:=mkbx50_16 hW;clear hW;replace p:=p.below hb;replace M:=M.below hb;obtain ⟨xs0,xs1,xs2,xs3,xs4,xs5,xs6,xs7⟩:=XS.all;have hk:=HK.out
 have b2:(u.k == 2)=false:=by simp [hk]
 have b3:(u.k == 3)=false:=by simp [hk]
 have b4:(u.k == 4)=false:=by simp [hk]
 have b5:(u.k == 5)=true:=by simp [hk]
 have hw6:¬ u.w < 1:=by omega
 clear hk hw5
 go_upto_region 14 with (fail)
 clear b2 b3 b4 b5 hw6;clear xs0 xs1 xs2 xs3 xs4 xs5 xs6 xs7
 go_upto_region 15 with (first
  | (go_at_call 42;(with_reducible refine (rof3 1 1 (by decide) (by decide) (by decide) (by decide) (by decide) _).mono ?_);rintro e w_o ⟨s_o,A_o,n_o,c_o,B_o,m_o,d_o,rfl,o,hh⟩
     (try replace p:=p.below hh);(try replace M:=M.below hh);(try replace XF:=XF.below hh);(try replace XS:=XS.below hh);(try replace XM:=XM.below hh);replace hb:=bend hb hh;rw [one_q] at o))
 generalize hW:World.alloc _ _=W0
 obtain ⟨hh,XO⟩:=mkbx51_17 hW;clear hW;replace p:=p.below hh;replace M:=M.below hh;replace XF:=XF.below hh;replace XS:=XS.below hh;replace XM:=XM.below hh;replace o:=o.below hh;replace hb:=bend hb hh;clear hh
 have HGO:Hid (w_o.heap.size < W0.heap.size):=XO.lt
 have HGS:Hid (w.heap.size+1 < W0.heap.size):=XS.lt
 have HGM:Hid (w.heap.size+1+1 < W0.heap.size):=XM.lt
 generalize w_o.heap.size=g_o at XO HGO ⊢
 have XS9:=Lib.hid XS;have XM9:=Lib.hid XM;have M9:=Lib.hid M;have XO9:=Lib.hid XO;have o9:=Lib.hid o;have HB9:=Lib.hid hb;clear hb
 have hB:Below W0.heap.size W0 W0.drew:=(Below.refl _ _).drew
 replace p:=p.below (Below.refl _ _).drew
 replace M:=M.below (Below.refl _ _).drew
 replace XF:=XF.below (Below.refl _ _).drew
 replace XS:=XS.below (Below.refl _ _).drew
 replace XM:=XM.below (Below.refl _ _).drew
 replace XO:=XO.below (Below.refl _ _).drew
 replace o:=o.below (Below.refl _ _).drew
 go_region_held3 (fun w'=>(LVN ⟨w.heap.size+1+1,0,none⟩).run Tryz.prog w'=.ok (.agg #[.bool m.a.s,.slice m.a.A m.a.n m.a.c,.slice m.a.B m.a.m m.a.d,.bool m.b.s,.slice m.b.A m.b.n m.b.c,.slice m.b.B m.b.m m.b.d,.bool m.c.s,.slice m.c.A m.c.n m.c.c,.slice m.c.B m.c.m m.c.d,.bool m.d.s,.slice m.d.A m.d.n m.d.c,.slice m.d.B m.d.m m.d.d,.bool m.e.s,.slice m.e.A m.e.n m.e.c,.slice m.e.B m.e.m m.e.d,.bool m.f.s,.slice m.f.A m.f.n m.f.c,.slice m.f.B m.f.m m.f.d]) w'∧w'.cell? ⟨w.heap.size,0,none⟩=some (.bool s_p)∧w'.cell? ⟨w.heap.size,1,none⟩=some (.slice A_p n_p c_p)∧w'.cell? ⟨w.heap.size,2,none⟩=some (.slice B_p m_p d_p)∧w'.cell? ⟨w.heap.size,3,none⟩=some (.bool t_p)∧w'.cell? ⟨w.heap.size,4,none⟩=some (.slice E_p i_p e_p)∧w'.cell? ⟨w.heap.size,5,none⟩=some (.slice F_p j_p f_p)∧w'.cell? ⟨g_o,0,none⟩=some (.bool s_o)∧w'.cell? ⟨g_o,1,none⟩=some (.slice A_o n_o c_o)∧w'.cell? ⟨g_o,2,none⟩=some (.slice B_o m_o d_o))
  (first | with_reducible exact ⟨XM.ld,XF.c0,XF.c1,XF.c2,XF.c3,XF.c4,XF.c5,XO.c0,XO.c1,XO.c2⟩ | exact ⟨(XM.below ((Below.refl _ _).alloc (Nat.le_refl _) _)).ld,(XF.below ((Below.refl _ _).alloc (Nat.le_refl _) _)).c0,(XF.below ((Below.refl _ _).alloc (Nat.le_refl _) _)).c1,(XF.below ((Below.refl _ _).alloc (Nat.le_refl _) _)).c2,(XF.below ((Below.refl _ _).alloc (Nat.le_refl _) _)).c3,(XF.below ((Below.refl _ _).alloc (Nat.le_refl _) _)).c4,(XF.below ((Below.refl _ _).alloc (Nat.le_refl _) _)).c5,(XO.below ((Below.refl _ _).alloc (Nat.le_refl _) _)).c0,(XO.below ((Below.refl _ _).alloc (Nat.le_refl _) _)).c1,(XO.below ((Below.refl _ _).alloc (Nat.le_refl _) _)).c2⟩)
  (first
  | (go_at_call 44;(with_reducible refine (rapply9 M p (by decide) (by decide)).mono ?_);rintro e w_r ⟨s_r,A_r,n_r,c_r,B_r,m_r,d_r,t_r,E_r,i_r,e_r,F_r,j_r,f_r,rfl,r,hh⟩
     (try replace XM:=XM.below hh);(try replace XF:=XF.below hh);(try replace XO:=XO.below hh);(try replace o:=o.below hh);replace hB:=bend hB hh)
  | (go_at_call 43;(with_reducible refine (rweighed13 r o (by decide) (by decide)).mono ?_);rintro e w_y ⟨y,rfl,yh,hh⟩
     (try replace XM:=XM.below hh);(try replace XF:=XF.below hh);(try replace XO:=XO.below hh);replace hB:=bend hB hh))
 have hLit:=LnH.lit (T:=96) (base:=W0.heap.size) w_y [y] hB.size (by simp)
 have hal:Below w_y.heap.size w_y (w_y.alloc (Obj.cells #[Value.bool y.x.s,Value.slice y.x.A y.x.n y.x.c,Value.slice y.x.B y.x.m y.x.d,Value.bool y.y.s,Value.slice y.y.A y.y.n y.y.c,Value.slice y.y.B y.y.m y.y.d,Value.bool y.w.s,Value.slice y.w.A y.w.n y.w.c,Value.slice y.w.B y.w.m y.w.d] 96)):=((Below.refl _ _).alloc (Nat.le_refl _) _)
 have yh9:=Lib.hid ((yh.below hal).more (show _≤64 by decide))
 have hbA:=Lib.hid (bend hB hal)
 clear r o yh XF XS XM XO p M hal hB
 go_wp2_with fail
 go_loopg [10,11] n (fun gk out ix wr=>∃ (L:List HV) (j:Nat),Hid (gk+j=n)∧ix=.int .i64 (j:Int)∧LnH 96 W0.heap.size wr out L∧Hid (EachH RH wr L ((ofL v fx fy u n).take (j+1)) 64)∧Below W0.heap.size W0 wr)
 case atStart=>exact ⟨[y],0,Nat.add_zero _,rfl,hLit,⟨by simp [ofL],fun i a b ha hb=>by
  match i with
  | 0=>cases ha;cases hb;exact yh9.out
  | i+1=>cases ha⟩,hbA.out⟩
 case round =>
  clear hLit yh9 hbA
  obtain ⟨L,j,HGK,rfl,LT,HQ,hB⟩:=hrel
  by_cases hmn:j < n
  · have XS:=XS9.out.below hB
    have XM:=XM9.out.below hB;have M:=M9.out.below hB;have XO:=XO9.out.below hB;have o:=o9.out.below hB
    have hlt:(j:Int) < 2:=by have:=HQN.out;omega
    have hwr:IntKind.i64.wrap ((j:Int)+1)=(j:Int)+1:=IntWalk.i64_in _ (by omega)
    have HU:=Lib.hid (ofL_get (v:=v) (x:=fx) (y:=fy) (u:=u) hmn)
    have hMl:L.length≤1000000:=by have:=HQ.out.1;rw [List.length_take] at this;omega
    have HMN:=Lib.hid hmn
    have hxw:∀ b,u10.ownBlock=some b→b ≠ wr.heap.size:=fun b e=>by have:=(LT.own.lt b e).2;omega
    have hxs:∀ b,u10.ownBlock=some b→b ≠ w.heap.size+1:=fun b e=>by have:=LT.own_base e;have:=HGS.out;omega
    have hxm:∀ b,u10.ownBlock=some b→b ≠ w.heap.size+1+1:=fun b e=>by have:=LT.own_base e;have:=HGM.out;omega
    have hgw:W0.heap.size≤wr.heap.size:=hB.size
    obtain ⟨xo0,xo1,xo2⟩:=XO.all;clear hmn
    go_upto_region 20 with (fail)
    have hh:Below wr.heap.size wr (wr.alloc (Obj.cells #[Value.bool s_o,Value.slice A_o n_o c_o,Value.slice B_o m_o d_o] 49)):=(Below.refl _ _).alloc (Nat.le_refl _) _
    have XW:B3R (wr.alloc (Obj.cells #[Value.bool s_o,Value.slice A_o n_o c_o,Value.slice B_o m_o d_o] 49)) wr.heap.size (Value.bool s_o) (Value.slice A_o n_o c_o) (Value.slice B_o m_o d_o):=B3R.new' _ _ _ _ _ rfl
    replace XS:=XS.below hh;replace XM:=XM.below hh;replace M:=M.below hh;replace o:=o.below hh;replace LT:=LT.below hh
    replace HQ:=Lib.hid (EachH.belowJ HQ.out hh)
    replace hB:=bend hB hh;clear hh XO xo0 xo1 xo2
    generalize (wr.alloc (Obj.cells #[Value.bool s_o,Value.slice A_o n_o c_o,Value.slice B_o m_o d_o] 49))=W3 at *
    generalize wr.heap.size=g_w at *
    have xs0:=XS.c0;have xs7:=XS.c7
    by_cases h5:u.k=5∧j=0
    focus
     have hwq:wgtQ u j=Rat.divInt u.w 64:=by unfold wgtQ;rw [if_pos h5,from13 _ _ (by decide)]
     have HWQ:=Lib.hid hwq
     have b5:(u.k == 5)=true:=by simp [h5.1]
     have jb:((j:Int) == 0)=true:=by simp [h5.2]
     have hiw:=Lib.hid HIN.out.2.2;clear h5 hwq;have xk0:=XW.c0;have xf0:=XW.f0;have xk1:=XW.c1;have xf1:=XW.f1;have xk2:=XW.c2;have xf2:=XW.f2
     go_upto_region 22 with (first
      | (go_at_call 42;(with_reducible refine (rof3 u.w 64 hiw.out.lo hiw.out.hi (by decide) (by decide) (by decide) _).mono ?_);rintro e w_v ⟨s_v,A_v,n_v,c_v,B_v,m_v,d_v,rfl,v_q,hh⟩
         (try replace XS:=XS.below hh);(try replace XM:=XM.below hh);(try replace M:=M.below hh);(try replace LT:=LT.below hh);(try replace XW:=XW.below hh)
         replace HQ:=Lib.hid (EachH.belowJ HQ.out hh)
         replace hB:=bend hB hh;have xk0:=XW.c0;have xf0:=XW.f0;have xk1:=XW.c1;have xf1:=XW.f1;have xk2:=XW.c2;have xf2:=XW.f2))
     rw [← HWQ.out] at v_q
     generalize hW5:(((w_v.setCell ⟨g_w,0,none⟩ (Value.bool s_v)).setCell ⟨g_w,1,none⟩ (Value.slice A_v n_v c_v)).setCell ⟨g_w,2,none⟩ (Value.slice B_v m_v d_v))=W5
     have ho:Only g_w w_v W5:=by subst hW5;exact (((Only.refl _ _).setCell 0 _).setCell 1 _).setCell 2 _
     have X5:B3R W5 g_w (Value.bool s_v) (Value.slice A_v n_v c_v) (Value.slice B_v m_v d_v):=by subst hW5;exact XW.set3 _ _ _
     have v5:RQ W5 s_v A_v n_v c_v B_v m_v d_v (wgtQ u j) (2):=by subst hW5;exact v_q.set3 XW _ _ _
     have hB5:Below W0.heap.size W0 W5:=by subst hW5;exact below_set3 hB hgw _ _ _
     replace XS:=XS.restm (by have:=HGS.out;omega) ho
     replace XM:=XM.restm (by have:=HGM.out;omega) ho
     replace M:=RM.box M (⟨XW,free3 _ _ _ _ _ _ _⟩:BoxAt 49 w_v g_w #[.bool s_o,.slice A_o n_o c_o,.slice B_o m_o d_o]) ho
     replace HQ:=Lib.hid (HQ.out.imp fun _ _ h=>RH.box h (⟨XW,free3 _ _ _ _ _ _ _⟩:BoxAt 49 w_v g_w #[.bool s_o,.slice A_o n_o c_o,.slice B_o m_o d_o]) ho)
     replace LT:=LT.kept (fun b e=>ho.block b (by obtain ⟨cs,hc⟩:=LT.free b e;exact hc.lt) (hxw b e))
     have PK:∃ (K:QV),B3R W5 g_w (.bool K.s) (.slice K.A K.n K.c) (.slice K.B K.m K.d)∧RQ W5 K.s K.A K.n K.c K.B K.m K.d (wgtQ u j) 2:=⟨⟨s_v,A_v,n_v,c_v,B_v,m_v,d_v⟩,X5,v5⟩
     clear hW5 ho XW X5 v5 v_q hB b5 jb hiw HWQ o xk0 xf0 xk1 xf1 xk2 xf2 xs0 xs7;have hB:=hB5;clear hB5
     generalize W5=Wn at *
    rotate_left
    have hk5:=HK.out
    focus
     have hwq:wgtQ u j=1:=by unfold wgtQ;rw [if_neg h5]
     have b5:(u.k == 5)=true:=by simp [hk5]
     have jb:((j:Int) == 0)=false:=by
      have:j ≠ 0:=fun e=>h5 ⟨hk5,e⟩
      simp [this]
     have HWQ:=Lib.hid hwq;clear h5 hk5 hwq
     go_upto_region 22 with (fail)
     rw [← HWQ.out] at o
     have PK:∃ (K:QV),B3R W3 g_w (.bool K.s) (.slice K.A K.n K.c) (.slice K.B K.m K.d)∧RQ W3 K.s K.A K.n K.c K.B K.m K.d (wgtQ u j) 2:=⟨⟨s_o,A_o,n_o,c_o,B_o,m_o,d_o⟩,XW,o⟩
     clear XW o b5 jb HWQ xs0 xs7
     generalize W3=Wn at *
    rotate_left
    all_goals
     obtain ⟨K,XW,kq⟩:=PK
     have hmn:=HMN.out
     have X1:C1 Wn (w.heap.size+1) (1+2*j) (.int .i64 (u.at_ (2*j))):=XS.cv (2*j) (by omega)
     have X2:C1 Wn (w.heap.size+1) (1+(2*j+1)) (.int .i64 (u.at_ (2*j+1))):=XS.cv (2*j+1) (by omega)
     have i1:∀ w':World,(Instr.indexAt 29 (.pointer (some ⟨w.heap.size+1,1,none⟩)) (.int .i64 (2*(j:Int)))).run Tryz.prog w'=.ok (.pointer (some ⟨w.heap.size+1,1+2*j,none⟩)) w':=fun w'=>by have h9:=ats_m (w.heap.size+1) (2*j) (by omega) w';rwa [show ((2*j:Nat):Int)=2*(j:Int) by omega] at h9
     have i2:∀ w':World,(Instr.indexAt 29 (.pointer (some ⟨w.heap.size+1,1,none⟩)) (.int .i64 (2*(j:Int)+1))).run Tryz.prog w'=.ok (.pointer (some ⟨w.heap.size+1,1+(2*j+1),none⟩)) w':=fun w'=>by have h9:=ats_m (w.heap.size+1) (2*j+1) (by omega) w';rwa [show ((2*j+1:Nat):Int)=2*(j:Int)+1 by omega] at h9
     have ha0:=HIN.out.2.1 (2*j)
     have hb0:=HIN.out.2.1 (2*j+1)
     have hw1:IntKind.i64.wrap (2*(j:Int))=2*(j:Int):=IntWalk.i64_in _ (by omega)
     have hw2:IntKind.i64.wrap (2*(j:Int)+1)=2*(j:Int)+1:=IntWalk.i64_in _ (by omega)
     have hOA:ofA v u j=⟨v.ax (Rat.divInt (u.at_ (2*j)) 64) (Rat.divInt (u.at_ (2*j+1)) 64)*wgtQ u j,v.ay (Rat.divInt (u.at_ (2*j)) 64) (Rat.divInt (u.at_ (2*j+1)) 64)*wgtQ u j,wgtQ u j⟩:=by unfold ofA;rw [from13 _ _ (by decide),from13 _ _ (by decide)]
     generalize u.at_ (2*j)=av at X1 ha0 hOA
     generalize u.at_ (2*j+1)=bv at X2 hb0 hOA
     generalize 1+2*j=po at X1 i1
     generalize 1+(2*j+1)=qo at X2 i2
     have HA0:=Lib.hid ha0;have HB0:=Lib.hid hb0;have HOA:=Lib.hid hOA;clear hmn ha0 hb0 hOA XS
     generalize wgtQ u j=wq at kq HOA
     replace LT:=LT.below (Below.refl _ _).drew
     replace XM:=XM.below (Below.refl _ _).drew
     replace XW:=XW.below (Below.refl _ _).drew
     replace X1:=X1.below (Below.refl _ _).drew
     replace X2:=X2.below (Below.refl _ _).drew
     replace M:=M.below (Below.refl _ _).drew
     replace kq:=kq.below (Below.refl _ _).drew
     replace HQ:=Lib.hid (EachH.belowJ HQ.out (Below.refl _ _).drew)
     replace hB:=hB.drew
     go_region_held3 (fun w'=>(LVN ⟨w.heap.size+1+1,0,none⟩).run Tryz.prog w'=.ok (.agg #[.bool m.a.s,.slice m.a.A m.a.n m.a.c,.slice m.a.B m.a.m m.a.d,.bool m.b.s,.slice m.b.A m.b.n m.b.c,.slice m.b.B m.b.m m.b.d,.bool m.c.s,.slice m.c.A m.c.n m.c.c,.slice m.c.B m.c.m m.c.d,.bool m.d.s,.slice m.d.A m.d.n m.d.c,.slice m.d.B m.d.m m.d.d,.bool m.e.s,.slice m.e.A m.e.n m.e.c,.slice m.e.B m.e.m m.e.d,.bool m.f.s,.slice m.f.A m.f.n m.f.c,.slice m.f.B m.f.m m.f.d]) w'∧w'.cell? ⟨g_w,0,none⟩=some (.bool K.s)∧w'.cell? ⟨g_w,1,none⟩=some (.slice K.A K.n K.c)∧w'.cell? ⟨g_w,2,none⟩=some (.slice K.B K.m K.d)∧w'.cell? ⟨w.heap.size+1,po,none⟩=some (.int .i64 av)∧w'.cell? ⟨w.heap.size+1,qo,none⟩=some (.int .i64 bv))
      (first | with_reducible exact ⟨XMb.ld,XWb.c0,XWb.c1,XWb.c2,X1b.c,X2b.c⟩ | with_reducible exact ⟨XM.ld,XW.c0,XW.c1,XW.c2,X1.c,X2.c⟩ | exact ⟨(XM.below ((Below.refl _ _).alloc (Nat.le_refl _) _)).ld,(XW.below ((Below.refl _ _).alloc (Nat.le_refl _) _)).c0,(XW.below ((Below.refl _ _).alloc (Nat.le_refl _) _)).c1,(XW.below ((Below.refl _ _).alloc (Nat.le_refl _) _)).c2,(X1.below ((Below.refl _ _).alloc (Nat.le_refl _) _)).c,(X2.below ((Below.refl _ _).alloc (Nat.le_refl _) _)).c⟩)
      (first
      | (go_at_call 45;(with_reducible refine (rat64 av bv HA0.out HB0.out M (by decide) (by decide)).mono ?_);rintro e w_r ⟨s_r,A_r,n_r,c_r,B_r,m_r,d_r,t_r,E_r,i_r,e_r,F_r,j_r,f_r,rfl,r,hh⟩
         (try replace LT:=LT.below hh);(try replace XM:=XM.below hh);(try replace XW:=XW.below hh);(try replace X1:=X1.below hh);(try replace X2:=X2.below hh);(try replace kq:=kq.below hh)
         replace HQ:=Lib.hid (EachH.belowJ HQ.out hh)
         replace hB:=bend hB hh)
      | (go_at_call 43;(with_reducible refine (rweighed13 r kq (by decide) (by decide)).mono ?_);rintro e w_y ⟨y,rfl,yh,hh⟩
         (try replace LT:=LT.below hh);(try replace XM:=XM.below hh);(try replace XW:=XW.below hh);(try replace X1:=X1.below hh);(try replace X2:=X2.below hh)
         replace HQ:=Lib.hid (EachH.belowJ HQ.out hh)
         replace hB:=bend hB hh)
      | (have hal:Below w_y.heap.size w_y (w_y.alloc (Obj.cells #[Value.bool y.x.s,Value.slice y.x.A y.x.n y.x.c,Value.slice y.x.B y.x.m y.x.d,Value.bool y.y.s,Value.slice y.y.A y.y.n y.y.c,Value.slice y.y.B y.y.m y.y.d,Value.bool y.w.s,Value.slice y.w.A y.w.n y.w.c,Value.slice y.w.B y.w.m y.w.d] 96)):=((Below.refl _ _).alloc (Nat.le_refl _) _)
         have XMa:=XM.below hal;have XWa:=XW.below hal;have X1a:=X1.below hal;have X2a:=X2.below hal
         refine step_pushH Tryz.underlying41 info_rhom (by rfl) _ _ (by rfl) (p:=y) (k0:=1) (b:=w_y.heap.size) (by rfl) (by rfl) (LT.below hal) (Nat.le_trans hB.size hal.size) hMl (heap_alloc_new w_y _) ?_
         intro v3 w3 hn3 hg3 ho3
         have XMb:=XMa.pushY hg3 hxm;have XWb:=XWa.pushY hg3 hxw;have X1b:=X1a.pushY hg3 hxs;have X2b:=X2a.pushY hg3 hxs))
     have hE3:EachH RH (w_y.alloc (Obj.cells #[Value.bool y.x.s,Value.slice y.x.A y.x.n y.x.c,Value.slice y.x.B y.x.m y.x.d,Value.bool y.y.s,Value.slice y.y.A y.y.n y.y.c,Value.slice y.y.B y.y.m y.y.d,Value.bool y.w.s,Value.slice y.w.A y.w.n y.w.c,Value.slice y.w.B y.w.m y.w.d] 96)) L ((ofL v fx fy u n).take (j+1)) 64:=EachH.belowJ HQ.out hal
     have hp3:RH (w_y.alloc (Obj.cells #[Value.bool y.x.s,Value.slice y.x.A y.x.n y.x.c,Value.slice y.x.B y.x.m y.x.d,Value.bool y.y.s,Value.slice y.y.A y.y.n y.y.c,Value.slice y.y.B y.y.m y.y.d,Value.bool y.w.s,Value.slice y.w.A y.w.n y.w.c,Value.slice y.w.B y.w.m y.w.d] 96)) y (ofA v u j) 64:=by rw [HOA.out];exact (yh.below hal).more (by decide)
     have hB9:=LnH.under (T:=96) (base:=W0.heap.size) (LT.below hal) hg3 (w0:=W0) (bend hB hal) (Nat.le_refl _)
     have hE4:=takeH HU.out (EachH.push hE3 (fun _ _ h=>(LT.below hal).rh hg3 h) ((LT.below hal).rh hg3 hp3))
     clear hE3 hp3 XMa XWa X1a X2a XMb XWb X1b X2b XM XW X1 X2 M yh r kq
     go_wp2_with fail
     go_roundg (gk - 1)
     case measure=>have:=HGK.out;have:=HMN.out;omega
     case rel=>exact ⟨L ++ [y],j+1,by have:=HGK.out;have:=HMN.out;show _=_;omega,by go_num,hn3,Lib.hid hE4,hB9⟩
  · have hlt:¬ (j:Int) < 2:=by have:=HQN.out;omega
    have HQ2:Hid (EachH RH wr L (ofL v fx fy u n) 64):=by
     have h:=HQ.out
     rwa [List.take_of_length_le (by rw [ofL_length];omega)] at h
    clear hmn
    go_wp2_with fail
    (try rw [Exit.noGoto_ret])
    go_ret2
    exact ⟨_,L,rfl,LT.base_le (by have:=HB9.out.size;omega),HQ2.out,bend HB9.out hB⟩
end
section
open Go Go.RowKit
def BL1 (W:World) (g:Nat) (v0:Value) (v1:Value) (v2:Value) (v3:Value) (v4:Value) (v5:Value):Prop:=W.heap[g]?=some (.cells #[v0,v1,v2,v3,v4,v5] 28 (0,0))
section
variable {W W':World} {g:Nat} {v0 v1 v2 v3 v4 v5:Value}
theorem BL1.c0 (h:BL1 W g v0 v1 v2 v3 v4 v5):W.cell? ⟨g,0,none⟩=some v0:=by rw [cell_of_row W g 0 _ _ (0,0) h];rfl
theorem BL1.c1 (h:BL1 W g v0 v1 v2 v3 v4 v5):W.cell? ⟨g,1,none⟩=some v1:=by rw [cell_of_row W g 1 _ _ (0,0) h];rfl
theorem BL1.c2 (h:BL1 W g v0 v1 v2 v3 v4 v5):W.cell? ⟨g,2,none⟩=some v2:=by rw [cell_of_row W g 2 _ _ (0,0) h];rfl
theorem BL1.c3 (h:BL1 W g v0 v1 v2 v3 v4 v5):W.cell? ⟨g,3,none⟩=some v3:=by rw [cell_of_row W g 3 _ _ (0,0) h];rfl
theorem BL1.c4 (h:BL1 W g v0 v1 v2 v3 v4 v5):W.cell? ⟨g,4,none⟩=some v4:=by rw [cell_of_row W g 4 _ _ (0,0) h];rfl
theorem BL1.c5 (h:BL1 W g v0 v1 v2 v3 v4 v5):W.cell? ⟨g,5,none⟩=some v5:=by rw [cell_of_row W g 5 _ _ (0,0) h];rfl
theorem BL1.all (h:BL1 W g v0 v1 v2 v3 v4 v5):W.cell? ⟨g,0,none⟩=some v0∧W.cell? ⟨g,1,none⟩=some v1∧W.cell? ⟨g,2,none⟩=some v2∧W.cell? ⟨g,3,none⟩=some v3∧W.cell? ⟨g,4,none⟩=some v4∧W.cell? ⟨g,5,none⟩=some v5:=⟨h.c0,h.c1,h.c2,h.c3,h.c4,h.c5⟩
theorem BL1.lt (h:BL1 W g v0 v1 v2 v3 v4 v5):g < W.heap.size:=World.block_lt_of_cell? W _ h.c0
theorem BL1.below (h:BL1 W g v0 v1 v2 v3 v4 v5) (hb:Below W.heap.size W W'):BL1 W' g v0 v1 v2 v3 v4 v5:=(hb.block g h.lt).trans h
theorem BL1.alloc (h:BL1 W g v0 v1 v2 v3 v4 v5) (o:Obj):BL1 (W.alloc o) g v0 v1 v2 v3 v4 v5:=(Below.heap_alloc W o g h.lt).trans h
end
theorem BL1.new' (W:World) (v0 v1 v2 v3 v4 v5:Value) (g:Nat) (hg:g=W.heap.size):BL1 (W.alloc (.cells #[v0,v1,v2,v3,v4,v5] 28)) g v0 v1 v2 v3 v4 v5:=by subst hg;exact heap_alloc_new W _
theorem line1_0 {g:Nat} (L:BL1 w g (.bool s_p) (.slice A_p n_p c_p) (.slice B_p m_p d_p) (.bool t_p) (.slice E_p i_p e_p) (.slice F_p j_p f_p)) (h0:decide ((n_p≤6∧m_p≤6)∧i_p≤6∧j_p≤6)=false) :
 Calls Tryz.prog 31 #[.slice (some ⟨g,0,none⟩) 1 1,.int .i64 6] w fun e w'=>e=.returned (.bool false)∧Below w.heap.size w w':=by
 have H0:=Lib.hid h0;clear h0
 have hb:Below w.heap.size w w:=Below.refl _ _
 obtain ⟨l0,l1,l2,l3,l4,l5⟩:=L.all
 go_enter Tryz.func31,Tryz.ntmps31
 go_wp2_with fail
 refine wp_loop_rounds 2 ?_
 rw [rounds_succ]
 go_wp2_with (first
  | (go_at_call 64;(with_reducible refine (smallpt_6 (s_p:=s_p) (A_p:=A_p) (n_p:=n_p) (c_p:=c_p) (B_p:=B_p) (m_p:=m_p) (d_p:=d_p) (t_p:=t_p) (E_p:=E_p) (i_p:=i_p) (e_p:=e_p) (F_p:=F_p) (j_p:=j_p) (f_p:=f_p) false H0.out).mono ?_);rintro e w_z ⟨rfl,hh⟩
     (try replace L:=L.below hh);replace hb:=bend hb hh;obtain ⟨l0,l1,l2,l3,l4,l5⟩:=L.all))
 go_ret;exact ⟨rfl,hb⟩
theorem line1_1 {g:Nat} (L:BL1 w g (.bool s_p) (.slice A_p n_p c_p) (.slice B_p m_p d_p) (.bool t_p) (.slice E_p i_p e_p) (.slice F_p j_p f_p)) (h0:decide ((n_p≤6∧m_p≤6)∧i_p≤6∧j_p≤6)=true) :
 Calls Tryz.prog 31 #[.slice (some ⟨g,0,none⟩) 1 1,.int .i64 6] w fun e w'=>e=.returned (.bool true)∧Below w.heap.size w w':=by
 have H0:=Lib.hid h0;clear h0
 have hb:Below w.heap.size w w:=Below.refl _ _
 obtain ⟨l0,l1,l2,l3,l4,l5⟩:=L.all
 go_enter Tryz.func31,Tryz.ntmps31
 go_wp2_with fail
 refine wp_loop_rounds 2 ?_
 rw [rounds_succ]
 go_wp2_with (first
  | (go_at_call 64;(with_reducible refine (smallpt_6 (s_p:=s_p) (A_p:=A_p) (n_p:=n_p) (c_p:=c_p) (B_p:=B_p) (m_p:=m_p) (d_p:=d_p) (t_p:=t_p) (E_p:=E_p) (i_p:=i_p) (e_p:=e_p) (F_p:=F_p) (j_p:=j_p) (f_p:=f_p) true H0.out).mono ?_);rintro e w_z ⟨rfl,hh⟩
     (try replace L:=L.below hh);replace hb:=bend hb hh;obtain ⟨l0,l1,l2,l3,l4,l5⟩:=L.all))
 rw [rounds_succ]
 go_wp2_with fail
 go_ret;exact ⟨rfl,hb⟩
theorem line1 {g:Nat} (L:BL1 w g (.bool s_p) (.slice A_p n_p c_p) (.slice B_p m_p d_p) (.bool t_p) (.slice E_p i_p e_p) (.slice F_p j_p f_p)) (R:Bool) (hR:decide (((n_p≤6∧m_p≤6)∧i_p≤6∧j_p≤6))=R) :
 Calls Tryz.prog 31 #[.slice (some ⟨g,0,none⟩) 1 1,.int .i64 6] w fun e w'=>e=.returned (.bool R)∧Below w.heap.size w w':=by
 subst hR
 by_cases h0:(n_p≤6∧m_p≤6)∧i_p≤6∧j_p≤6
 case neg=>rw [decide_eq_false (fun q=>h0 q)];exact line1_0 L  (decide_eq_false h0)
 rw [decide_eq_true h0];exact line1_1 L (decide_eq_true h0)
theorem fair1 {g:Nat} (L:BL1 w g (.bool s_p) (.slice A_p n_p c_p) (.slice B_p m_p d_p) (.bool t_p) (.slice E_p i_p e_p) (.slice F_p j_p f_p)) (R:Bool) (hR:decide (((n_p≤6∧m_p≤6)∧i_p≤6∧j_p≤6))=R) :
 Calls Tryz.prog 8 #[.slice (some ⟨g,0,none⟩) 1 1] w fun e w'=>e=.returned (.bool R)∧Below w.heap.size w w':=by
 have HR:=Lib.hid hR;clear hR
 have hb:Below w.heap.size w w:=Below.refl _ _
 go_enter Tryz.func8,Tryz.ntmps8
 go_wp2_with (first
  | (go_at_call 31;(with_reducible refine (line1 L R HR.out).mono ?_);rintro e w_z ⟨rfl,hh⟩
     replace hb:=bend hb hh))
 go_ret;exact ⟨rfl,hb⟩
end
end Go.Proofs.YtfpaeophfcoohaaGreat
