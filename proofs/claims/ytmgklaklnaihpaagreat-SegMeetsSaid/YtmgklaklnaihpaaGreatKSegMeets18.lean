/- SegMeets: part 18. -/
import Derived.Test.YtmgklaklnaihpaaGreatKSegMeets13
import Derived.Test.YtmgklaklnaihpaaGreatKSegMeets17
set_option linter.unusedVariables false
set_option maxRecDepth 100000
set_option maxHeartbeats 16000000
variable {w:Go.World}
namespace Go.Proofs.YtmgklaklnaihpaaGreat
open Go Go.RowKit
theorem ln_one {T:TypeId} {base:Nat} {v:Value} {L:List PV} {u:Rat × Rat} {k:Nat} (hL:Ln T base w v L) (hE:Each PV.PG w L [u] k) :
 ∃ (x:PV) (g c:Nat),L=[x]∧v=.slice (some ⟨g,0,none⟩) 1 c∧base≤g∧PG w x.s x.A x.n x.c x.B x.m x.d x.t x.E x.i x.e x.F x.j x.f u.1 u.2 k:=by
 obtain ⟨h1,h2⟩:=hE
 match L,h1 with
 | [x],_ =>
   obtain ⟨g,c,hv,_,hb,_⟩:=hL.at_ (i:=0) (p:=x) rfl
   exact ⟨x,g,c,rfl,hv,hb,h2 0 x u rfl rfl⟩
theorem ln_two {T:TypeId} {base:Nat} {v:Value} {L:List PV} {u1 u2:Rat × Rat} {k:Nat} (hL:Ln T base w v L) (hE:Each PV.PG w L [u1,u2] k) :
 ∃ (x y:PV) (g c:Nat),L=[x,y]∧v=.slice (some ⟨g,0,none⟩) 2 c∧base≤g∧PG w x.s x.A x.n x.c x.B x.m x.d x.t x.E x.i x.e x.F x.j x.f u1.1 u1.2 k∧PG w y.s y.A y.n y.c y.B y.m y.d y.t y.E y.i y.e y.F y.j y.f u2.1 u2.2 k:=by
 obtain ⟨h1,h2⟩:=hE
 match L,h1 with
 | [x,y],_ =>
   obtain ⟨g,c,hv,_,hb,_⟩:=hL.at_ (i:=0) (p:=x) rfl
   exact ⟨x,y,g,c,rfl,hv,hb,h2 0 x u1 rfl rfl,h2 1 y u2 rfl rfl⟩
theorem Ln.cells0 {T:TypeId} {base g n c:Nat} {L:List PV} (h:Ln T base w (.slice (some ⟨g,0,none⟩) n c) L) {p:PV} (hi:L[0]?=some p) :
 w.cell? ⟨g,0,none⟩=some (.bool p.s)∧w.cell? ⟨g,1,none⟩=some (.slice p.A p.n p.c)∧w.cell? ⟨g,2,none⟩=some (.slice p.B p.m p.d)∧w.cell? ⟨g,3,none⟩=some (.bool p.t)∧w.cell? ⟨g,4,none⟩=some (.slice p.E p.i p.e)∧w.cell? ⟨g,5,none⟩=some (.slice p.F p.j p.f):=by
 have:=h.of hi
 simpa using this.2.2
theorem idx0 {g n c:Nat} (h:0 < n) (w:World):(Instr.indexAt 64 (.slice (some ⟨g,0,none⟩) n c) (.int .i64 0)).run Tryz.prog w=.ok (.pointer (some ⟨g,0,none⟩)) w:=idx_pt (i:=0) h w
theorem Ln.cells1 {T:TypeId} {base g n c:Nat} {L:List PV} (h:Ln T base w (.slice (some ⟨g,0,none⟩) n c) L) {p:PV} (hi:L[1]?=some p) :
 w.cell? ⟨g,6,none⟩=some (.bool p.s)∧w.cell? ⟨g,7,none⟩=some (.slice p.A p.n p.c)∧w.cell? ⟨g,8,none⟩=some (.slice p.B p.m p.d)∧w.cell? ⟨g,9,none⟩=some (.bool p.t)∧w.cell? ⟨g,10,none⟩=some (.slice p.E p.i p.e)∧w.cell? ⟨g,11,none⟩=some (.slice p.F p.j p.f):=by
 have:=h.of hi
 simpa using this.2.2
theorem idx1 {g n c:Nat} (h:1 < n) (w:World):(Instr.indexAt 64 (.slice (some ⟨g,0,none⟩) n c) (.int .i64 1)).run Tryz.prog w=.ok (.pointer (some ⟨g,6,none⟩)) w:=idx_pt (i:=1) h w
theorem wk7_told1:Told (Rat.divInt 0 1) (Rat.divInt 0 1) (Rat.divInt 2 1) (Rat.divInt 2 1) (Rat.divInt 0 1) (Rat.divInt 2 1) (Rat.divInt 2 1) (Rat.divInt 0 1) [((Rat.divInt 1 1),(Rat.divInt 1 1))]:=by
 have h:=told_cross (ax:=(Rat.divInt 0 1)) (ay:=(Rat.divInt 0 1)) (bx:=(Rat.divInt 2 1)) (by_:=(Rat.divInt 2 1)) (cx:=(Rat.divInt 0 1)) (cy:=(Rat.divInt 2 1)) (dx:=(Rat.divInt 2 1)) (dy:=(Rat.divInt 0 1)) (f:=Rat.divInt 1 2) (g:=Rat.divInt 1 2) (by decide +kernel) (by decide +kernel) (by decide +kernel) (by decide +kernel)
 rwa [show ((Rat.divInt 0 1)+((Rat.divInt 2 1) - (Rat.divInt 0 1))*Rat.divInt 1 2)=(Rat.divInt 1 1) by decide +kernel] at h
theorem wk7_spec:Spec1 (keep1 (Rat.divInt 5 3) (Rat.divInt 1 3)) [Rat.divInt 1 3,1]:=by
 have h1:Rat.divInt 1 3 < 1:=by decide +kernel
 have h2:(1:Rat)≤Rat.divInt 5 3:=by decide +kernel
 have h3:(0:Rat)≤Rat.divInt 1 3:=by decide +kernel
 have h4:Rat.divInt 1 3 < Rat.divInt 5 3:=by decide +kernel
 refine ⟨h1,fun x=>?_⟩
 generalize Rat.divInt 1 3=a at *
 generalize Rat.divInt 5 3=b at *
 unfold keep1
 constructor
 · rintro ⟨⟨q,r⟩,s | s⟩
   · grind
   · grind
 · rintro ⟨q,r⟩
   exact ⟨⟨by grind,r⟩,.inr ⟨q,by grind⟩⟩
theorem wk7_told2:Told (Rat.divInt 0 1) (Rat.divInt 0 1) (Rat.divInt 3 1) (Rat.divInt 0 1) (Rat.divInt 5 1) (Rat.divInt 0 1) (Rat.divInt 1 1) (Rat.divInt 0 1) [((Rat.divInt 1 1),(Rat.divInt 0 1)),((Rat.divInt 3 1),(Rat.divInt 0 1))]:=by
 have h:=spec_told (ax:=(Rat.divInt 0 1)) (ay:=(Rat.divInt 0 1)) (bx:=(Rat.divInt 3 1)) (by_:=(Rat.divInt 0 1)) (cx:=(Rat.divInt 5 1)) (cy:=(Rat.divInt 0 1)) (dx:=(Rat.divInt 1 1)) (dy:=(Rat.divInt 0 1)) (by decide +kernel) (both_line (g:=Rat.divInt 5 3) (d:=Rat.divInt 1 3) (by decide +kernel) (by decide +kernel) (by decide +kernel)) wk7_spec
 rwa [show List.map (lineAt (Rat.divInt 0 1) (Rat.divInt 0 1) (Rat.divInt 3 1) (Rat.divInt 0 1)) [Rat.divInt 1 3,1]=[((Rat.divInt 1 1),(Rat.divInt 0 1)),((Rat.divInt 3 1),(Rat.divInt 0 1))] by decide +kernel] at h
theorem wk7_level:shareOK ((Rat.divInt 1 1) - (Rat.divInt 0 1)) ((Rat.divInt 2 1) - (Rat.divInt 0 1)):=⟨by decide +kernel,by decide +kernel,by decide +kernel⟩
theorem wk7_upright:¬ shareOK ((Rat.divInt 1 1) - (Rat.divInt 1 1)) ((Rat.divInt 1 1) - (Rat.divInt 1 1)):=fun h=>h.1 (by decide +kernel)
theorem wk7_txt:(⟨(qtxt ((Rat.divInt 0 1)+((Rat.divInt 1 1) - (Rat.divInt 0 1)) / ((Rat.divInt 2 1) - (Rat.divInt 0 1))*((Rat.divInt 4 1) - (Rat.divInt 0 1)))).toArray⟩:ByteArray)=⟨#[50]⟩:=by
 rw [show (Rat.divInt 0 1)+((Rat.divInt 1 1) - (Rat.divInt 0 1)) / ((Rat.divInt 2 1) - (Rat.divInt 0 1))*((Rat.divInt 4 1) - (Rat.divInt 0 1))=(Rat.divInt 2 1) by decide +kernel,qtxt_i (a:=2) (by decide +kernel) (by decide +kernel) (txt_one (d:=2) (by decide) (by decide) rfl)];rfl
theorem wk7_on:onS (Rat.divInt 1 1) (Rat.divInt 1 1) (Rat.divInt 0 1) (Rat.divInt 0 1) (Rat.divInt 2 1) (Rat.divInt 2 1):=⟨Rat.divInt 1 2,by decide +kernel,by decide +kernel,by decide +kernel,by decide +kernel⟩
theorem wk7_same1:decide ((Rat.divInt 1 1)=(Rat.divInt 1 1)∧(Rat.divInt 1 1)=(Rat.divInt 1 1))=true:=by decide +kernel
theorem wk7_same2:decide ((Rat.divInt 1 1)=(Rat.divInt 1 1)∧(Rat.divInt 0 1)=(Rat.divInt 0 1))=true:=by decide +kernel
theorem wk7_same3:decide ((Rat.divInt 3 1)=(Rat.divInt 3 1)∧(Rat.divInt 0 1)=(Rat.divInt 0 1))=true:=by decide +kernel
theorem segwakes_any (w:World):Calls Tryz.prog 30 #[] w fun e w'=>e=.returned (.bool true)∧Below w.heap.size w w':=by
 have hb:Below w.heap.size w w:=Below.refl _ _
 go_enter Tryz.func30,Tryz.ntmps30
 go_upto_region 3 with (first
  | (go_at_call 82;(with_reducible refine (lawP 0 0 (by decide) (by decide) (by decide) (by decide) _).mono ?_);rintro e w_p1 ⟨s_p1,A_p1,n_p1,c_p1,B_p1,m_p1,d_p1,t_p1,E_p1,i_p1,e_p1,F_p1,j_p1,f_p1,rfl,p1,hh⟩
     replace hb:=bend hb hh)
  | (go_at_call 82;(with_reducible refine (lawP 2 2 (by decide) (by decide) (by decide) (by decide) _).mono ?_);rintro e w_p2 ⟨s_p2,A_p2,n_p2,c_p2,B_p2,m_p2,d_p2,t_p2,E_p2,i_p2,e_p2,F_p2,j_p2,f_p2,rfl,p2,hh⟩
     (try replace p1:=p1.below hh);replace hb:=bend hb hh)
  | (go_at_call 82;(with_reducible refine (lawP 0 2 (by decide) (by decide) (by decide) (by decide) _).mono ?_);rintro e w_p3 ⟨s_p3,A_p3,n_p3,c_p3,B_p3,m_p3,d_p3,t_p3,E_p3,i_p3,e_p3,F_p3,j_p3,f_p3,rfl,p3,hh⟩
     (try replace p1:=p1.below hh);(try replace p2:=p2.below hh);replace hb:=bend hb hh)
  | (go_at_call 82;(with_reducible refine (lawP 2 0 (by decide) (by decide) (by decide) (by decide) _).mono ?_);rintro e w_p4 ⟨s_p4,A_p4,n_p4,c_p4,B_p4,m_p4,d_p4,t_p4,E_p4,i_p4,e_p4,F_p4,j_p4,f_p4,rfl,p4,hh⟩
     (try replace p1:=p1.below hh);(try replace p2:=p2.below hh);(try replace p3:=p3.below hh);replace hb:=bend hb hh)
  | (go_at_call 33;(with_reducible refine (meet_p p1.pr p2.pr p3.pr p4.pr (by decide) (by decide)).mono ?_);rintro e w_m ⟨l,ht,v,L,rfl,hL,hE,hh⟩
     replace hb:=bend hb hh
     obtain rfl:=told_same (fun _ _=>Iff.rfl) ht wk7_told1
     obtain ⟨x,g_x,c_x,rfl,rfl,hgx,X⟩:=ln_one hL hE
     replace X:=X.more (k1:=31) (by decide)
     simp only at X
     clear p1 p2 p3 p4 ht hE))
 rename Ln _ _ _ _ _=>hX
 go_upto_region 4 with (first
  | (go_at_call 82;(with_reducible refine (lawP 0 0 (by decide) (by decide) (by decide) (by decide) _).mono ?_);rintro e w_p1 ⟨s_p1,A_p1,n_p1,c_p1,B_p1,m_p1,d_p1,t_p1,E_p1,i_p1,e_p1,F_p1,j_p1,f_p1,rfl,p1,hh⟩
     (try replace hX:=hX.below hh);(try replace X:=X.below hh);replace hb:=bend hb hh)
  | (go_at_call 82;(with_reducible refine (lawP 3 0 (by decide) (by decide) (by decide) (by decide) _).mono ?_);rintro e w_p2 ⟨s_p2,A_p2,n_p2,c_p2,B_p2,m_p2,d_p2,t_p2,E_p2,i_p2,e_p2,F_p2,j_p2,f_p2,rfl,p2,hh⟩
     (try replace hX:=hX.below hh);(try replace X:=X.below hh);(try replace p1:=p1.below hh);replace hb:=bend hb hh)
  | (go_at_call 82;(with_reducible refine (lawP 5 0 (by decide) (by decide) (by decide) (by decide) _).mono ?_);rintro e w_p3 ⟨s_p3,A_p3,n_p3,c_p3,B_p3,m_p3,d_p3,t_p3,E_p3,i_p3,e_p3,F_p3,j_p3,f_p3,rfl,p3,hh⟩
     (try replace hX:=hX.below hh);(try replace X:=X.below hh);(try replace p1:=p1.below hh);(try replace p2:=p2.below hh);replace hb:=bend hb hh)
  | (go_at_call 82;(with_reducible refine (lawP 1 0 (by decide) (by decide) (by decide) (by decide) _).mono ?_);rintro e w_p4 ⟨s_p4,A_p4,n_p4,c_p4,B_p4,m_p4,d_p4,t_p4,E_p4,i_p4,e_p4,F_p4,j_p4,f_p4,rfl,p4,hh⟩
     (try replace hX:=hX.below hh);(try replace X:=X.below hh);(try replace p1:=p1.below hh);(try replace p2:=p2.below hh);(try replace p3:=p3.below hh);replace hb:=bend hb hh)
  | (go_at_call 33;(with_reducible refine (meet_p p1.pr p2.pr p3.pr p4.pr (by decide) (by decide)).mono ?_);rintro e w_m2 ⟨l,ht,v,L,rfl,hL,hE,hh⟩
     (try replace hX:=hX.below hh);(try replace X:=X.below hh);replace hb:=bend hb hh
     obtain rfl:=told_same (fun _ _=>Iff.rfl) ht wk7_told2
     obtain ⟨y,z,g_y,c_y,rfl,rfl,hgy,Y,Z⟩:=ln_two hL hE
     replace Y:=Y.more (k1:=31) (by decide)
     replace Z:=Z.more (k1:=31) (by decide)
     simp only at Y Z
     clear p1 p2 p3 p4 ht hE))
 have hY:=hL;clear hL
 go_upto_region 5 with (first
  | (go_at_call 82;(with_reducible refine (lawP 0 0 (by decide) (by decide) (by decide) (by decide) _).mono ?_);rintro e w_p1 ⟨s_p1,A_p1,n_p1,c_p1,B_p1,m_p1,d_p1,t_p1,E_p1,i_p1,e_p1,F_p1,j_p1,f_p1,rfl,p1,hh⟩
     (try replace hX:=hX.below hh);(try replace X:=X.below hh);(try replace hY:=hY.below hh);(try replace Y:=Y.below hh);(try replace Z:=Z.below hh);replace hb:=bend hb hh)
  | (go_at_call 82;(with_reducible refine (lawP 4 2 (by decide) (by decide) (by decide) (by decide) _).mono ?_);rintro e w_p2 ⟨s_p2,A_p2,n_p2,c_p2,B_p2,m_p2,d_p2,t_p2,E_p2,i_p2,e_p2,F_p2,j_p2,f_p2,rfl,p2,hh⟩
     (try replace hX:=hX.below hh);(try replace X:=X.below hh);(try replace hY:=hY.below hh);(try replace Y:=Y.below hh);(try replace Z:=Z.below hh);(try replace p1:=p1.below hh);replace hb:=bend hb hh)
  | (go_at_call 23;(with_reducible refine (rof_q 1 1 (by decide) (by decide) (by decide) (by decide) (by decide) _).mono ?_);rintro e w_k ⟨s_k,A_k,n_k,c_k,B_k,m_k,d_k,rfl,k,hh⟩
     (try replace hX:=hX.below hh);(try replace X:=X.below hh);(try replace hY:=hY.below hh);(try replace Y:=Y.below hh);(try replace Z:=Z.below hh);(try replace p1:=p1.below hh);(try replace p2:=p2.below hh);replace hb:=bend hb hh)
  | (go_at_call 39;(with_reducible refine (level_yes p1.pr p2.pr k.qr (by decide) (by decide) wk7_level).mono ?_);rintro e w_r ⟨s_r,A_r,n_r,c_r,B_r,m_r,d_r,rfl,r,hh⟩
     (try replace hX:=hX.below hh);(try replace X:=X.below hh);(try replace hY:=hY.below hh);(try replace Y:=Y.below hh);(try replace Z:=Z.below hh);replace hb:=bend hb hh;clear p1 p2 k))
 generalize hW:World.alloc _ _=W2
 obtain ⟨hh,XR,hzW2⟩:=mkbx12_8 hW;clear hW;(try replace hX:=hX.below hh);(try replace X:=X.below hh);(try replace hY:=hY.below hh);(try replace Y:=Y.below hh);(try replace Z:=Z.below hh);(try replace r:=r.below hh);replace hb:=bend hb hh
 go_upto_region 6 with (first
  | (go_at_call 82;(with_reducible refine (lawP 1 0 (by decide) (by decide) (by decide) (by decide) _).mono ?_);rintro e w_p1 ⟨s_p1,A_p1,n_p1,c_p1,B_p1,m_p1,d_p1,t_p1,E_p1,i_p1,e_p1,F_p1,j_p1,f_p1,rfl,p1,hh⟩
     (try replace hX:=hX.below hh);(try replace X:=X.below hh);(try replace hY:=hY.below hh);(try replace Y:=Y.below hh);(try replace Z:=Z.below hh);(try replace r:=r.below hh);(try replace XR:=XR.below hh);replace hb:=bend hb hh)
  | (go_at_call 82;(with_reducible refine (lawP 1 2 (by decide) (by decide) (by decide) (by decide) _).mono ?_);rintro e w_p2 ⟨s_p2,A_p2,n_p2,c_p2,B_p2,m_p2,d_p2,t_p2,E_p2,i_p2,e_p2,F_p2,j_p2,f_p2,rfl,p2,hh⟩
     (try replace hX:=hX.below hh);(try replace X:=X.below hh);(try replace hY:=hY.below hh);(try replace Y:=Y.below hh);(try replace Z:=Z.below hh);(try replace r:=r.below hh);(try replace XR:=XR.below hh);(try replace p1:=p1.below hh);replace hb:=bend hb hh)
  | (go_at_call 23;(with_reducible refine (rof_q 1 1 (by decide) (by decide) (by decide) (by decide) (by decide) _).mono ?_);rintro e w_k ⟨s_k,A_k,n_k,c_k,B_k,m_k,d_k,rfl,k,hh⟩
     (try replace hX:=hX.below hh);(try replace X:=X.below hh);(try replace hY:=hY.below hh);(try replace Y:=Y.below hh);(try replace Z:=Z.below hh);(try replace r:=r.below hh);(try replace XR:=XR.below hh);(try replace p1:=p1.below hh);(try replace p2:=p2.below hh);replace hb:=bend hb hh)
  | (go_at_call 40;(with_reducible refine (upright_no p1.pr p2.pr k.qr (by decide) (by decide) wk7_upright).mono ?_);rintro e w_z ⟨rfl,hh⟩
     (try replace hX:=hX.below hh);(try replace X:=X.below hh);(try replace hY:=hY.below hh);(try replace Y:=Y.below hh);(try replace Z:=Z.below hh);(try replace r:=r.below hh);(try replace XR:=XR.below hh);replace hb:=bend hb hh;clear p1 p2 k))
 generalize hW:World.alloc _ _=W3
 obtain ⟨hh,XU,hzW3⟩:=mkbx12_8 hW;clear hW;(try replace hX:=hX.below hh);(try replace X:=X.below hh);(try replace hY:=hY.below hh);(try replace Y:=Y.below hh);(try replace Z:=Z.below hh);(try replace r:=r.below hh);(try replace XR:=XR.below hh);replace hb:=bend hb hh;clear XU
 replace hX:=hX.below (Below.refl _ _).drew
 replace X:=X.below (Below.refl _ _).drew
 replace hY:=hY.below (Below.refl _ _).drew
 replace Y:=Y.below (Below.refl _ _).drew
 replace Z:=Z.below (Below.refl _ _).drew
 replace r:=r.below (Below.refl _ _).drew
 replace XR:=XR.below (Below.refl _ _).drew
 replace hb:=hb.drew
 obtain ⟨x0,x1,x2,x3,x4,x5⟩:=hX.cells0 rfl
 obtain ⟨y0,y1,y2,y3,y4,y5⟩:=hY.cells0 rfl
 obtain ⟨z0,z1,z2,z3,z4,z5⟩:=hY.cells1 rfl
 have ix:=idx0 (g:=g_x) (n:=1) (c:=c_x) (by decide)
 have iy:=idx0 (g:=g_y) (n:=2) (c:=c_y) (by decide)
 have iz:=idx1 (g:=g_y) (n:=2) (c:=c_y) (by decide)
 clear x0 x1 x2 x3 x4 x5 y0 y1 y2 y3 y4 y5 z0 z1 z2 z3 z4 z5
 go_region_held3 (fun w'=>w'.cell? ⟨g_x,0,none⟩=some (.bool x.s)∧w'.cell? ⟨g_x,1,none⟩=some (.slice x.A x.n x.c)∧w'.cell? ⟨g_x,2,none⟩=some (.slice x.B x.m x.d)∧w'.cell? ⟨g_x,3,none⟩=some (.bool x.t)∧w'.cell? ⟨g_x,4,none⟩=some (.slice x.E x.i x.e)∧w'.cell? ⟨g_x,5,none⟩=some (.slice x.F x.j x.f)∧w'.cell? ⟨g_y,0,none⟩=some (.bool y.s)∧w'.cell? ⟨g_y,1,none⟩=some (.slice y.A y.n y.c)∧w'.cell? ⟨g_y,2,none⟩=some (.slice y.B y.m y.d)∧w'.cell? ⟨g_y,3,none⟩=some (.bool y.t)∧w'.cell? ⟨g_y,4,none⟩=some (.slice y.E y.i y.e)∧w'.cell? ⟨g_y,5,none⟩=some (.slice y.F y.j y.f)∧w'.cell? ⟨g_y,6,none⟩=some (.bool z.s)∧w'.cell? ⟨g_y,7,none⟩=some (.slice z.A z.n z.c)∧w'.cell? ⟨g_y,8,none⟩=some (.slice z.B z.m z.d)∧w'.cell? ⟨g_y,9,none⟩=some (.bool z.t)∧w'.cell? ⟨g_y,10,none⟩=some (.slice z.E z.i z.e)∧w'.cell? ⟨g_y,11,none⟩=some (.slice z.F z.j z.f)∧w'.cell? ⟨w_r.heap.size,0,none⟩=some (.bool s_r)∧w'.cell? ⟨w_r.heap.size,1,none⟩=some (.slice A_r n_r c_r)∧w'.cell? ⟨w_r.heap.size,2,none⟩=some (.slice B_r m_r d_r))
  (first | with_reducible exact ⟨(hX.cells0 rfl).1,(hX.cells0 rfl).2.1,(hX.cells0 rfl).2.2.1,(hX.cells0 rfl).2.2.2.1,(hX.cells0 rfl).2.2.2.2.1,(hX.cells0 rfl).2.2.2.2.2,(hY.cells0 rfl).1,(hY.cells0 rfl).2.1,(hY.cells0 rfl).2.2.1,(hY.cells0 rfl).2.2.2.1,(hY.cells0 rfl).2.2.2.2.1,(hY.cells0 rfl).2.2.2.2.2,(hY.cells1 rfl).1,(hY.cells1 rfl).2.1,(hY.cells1 rfl).2.2.1,(hY.cells1 rfl).2.2.2.1,(hY.cells1 rfl).2.2.2.2.1,(hY.cells1 rfl).2.2.2.2.2,XR.c0,XR.c1,XR.c2⟩)
  (first
  | (go_at_call 43;(with_reducible refine (psame_p X.pr p5.pr (by decide) (by decide) (by decide) (by decide) true wk7_same1).mono ?_);rintro e w_z ⟨rfl,hh⟩
     (try replace hX:=hX.below hh);(try replace hY:=hY.below hh);(try replace X:=X.below hh);(try replace Y:=Y.below hh);(try replace Z:=Z.below hh);(try replace r:=r.below hh);(try replace XR:=XR.below hh);replace hb:=bend hb hh;clear p5)
  | (go_at_call 43;(with_reducible refine (psame_p Y.pr p6.pr (by decide) (by decide) (by decide) (by decide) true wk7_same2).mono ?_);rintro e w_z ⟨rfl,hh⟩
     (try replace hX:=hX.below hh);(try replace hY:=hY.below hh);(try replace X:=X.below hh);(try replace Y:=Y.below hh);(try replace Z:=Z.below hh);(try replace r:=r.below hh);(try replace XR:=XR.below hh);replace hb:=bend hb hh;clear p6)
  | (go_at_call 43;(with_reducible refine (psame_p Z.pr p7.pr (by decide) (by decide) (by decide) (by decide) true wk7_same3).mono ?_);rintro e w_z ⟨rfl,hh⟩
     (try replace hX:=hX.below hh);(try replace hY:=hY.below hh);(try replace X:=X.below hh);(try replace Y:=Y.below hh);(try replace Z:=Z.below hh);(try replace r:=r.below hh);(try replace XR:=XR.below hh);replace hb:=bend hb hh;clear p7)
  | (go_at_call 82;(with_reducible refine (lawP 1 0 (by decide) (by decide) (by decide) (by decide) _).mono ?_);rintro e w_p6 ⟨s_p6,A_p6,n_p6,c_p6,B_p6,m_p6,d_p6,t_p6,E_p6,i_p6,e_p6,F_p6,j_p6,f_p6,rfl,p6,hh⟩
     (try replace hX:=hX.below hh);(try replace hY:=hY.below hh);(try replace X:=X.below hh);(try replace Y:=Y.below hh);(try replace Z:=Z.below hh);(try replace r:=r.below hh);(try replace XR:=XR.below hh);replace hb:=bend hb hh)
  | (go_at_call 82;(with_reducible refine (lawP 3 0 (by decide) (by decide) (by decide) (by decide) _).mono ?_);rintro e w_p7 ⟨s_p7,A_p7,n_p7,c_p7,B_p7,m_p7,d_p7,t_p7,E_p7,i_p7,e_p7,F_p7,j_p7,f_p7,rfl,p7,hh⟩
     (try replace hX:=hX.below hh);(try replace hY:=hY.below hh);(try replace X:=X.below hh);(try replace Y:=Y.below hh);(try replace Z:=Z.below hh);(try replace r:=r.below hh);(try replace XR:=XR.below hh);replace hb:=bend hb hh)
  | (go_at_call 15;(with_reducible refine (rtext_q r.qr (by decide) (by decide)).mono ?_);rintro e w_z ⟨rfl,hh⟩
     rw [wk7_txt];(try replace hX:=hX.below hh);(try replace hY:=hY.below hh);(try replace X:=X.below hh);(try replace Y:=Y.below hh);(try replace Z:=Z.below hh);(try replace r:=r.below hh);(try replace XR:=XR.below hh);replace hb:=bend hb hh
     have hrr:True:=trivial)
  | (go_at_call 82;(have h0:=hrr);(with_reducible refine (lawP 1 1 (by decide) (by decide) (by decide) (by decide) _).mono ?_);rintro e w_p8 ⟨s_p8,A_p8,n_p8,c_p8,B_p8,m_p8,d_p8,t_p8,E_p8,i_p8,e_p8,F_p8,j_p8,f_p8,rfl,p8,hh⟩
     (try replace hX:=hX.below hh);(try replace hY:=hY.below hh);(try replace X:=X.below hh);(try replace Y:=Y.below hh);(try replace Z:=Z.below hh);(try replace r:=r.below hh);(try replace XR:=XR.below hh);clear h0;replace hb:=bend hb hh)
  | (go_at_call 82;(with_reducible refine (lawP 1 1 (by decide) (by decide) (by decide) (by decide) _).mono ?_);rintro e w_p5 ⟨s_p5,A_p5,n_p5,c_p5,B_p5,m_p5,d_p5,t_p5,E_p5,i_p5,e_p5,F_p5,j_p5,f_p5,rfl,p5,hh⟩
     (try replace hX:=hX.below hh);(try replace hY:=hY.below hh);(try replace X:=X.below hh);(try replace Y:=Y.below hh);(try replace Z:=Z.below hh);(try replace r:=r.below hh);(try replace XR:=XR.below hh);replace hb:=bend hb hh)
  | (go_at_call 82;(with_reducible refine (lawP 0 0 (by decide) (by decide) (by decide) (by decide) _).mono ?_);rintro e w_p9 ⟨s_p9,A_p9,n_p9,c_p9,B_p9,m_p9,d_p9,t_p9,E_p9,i_p9,e_p9,F_p9,j_p9,f_p9,rfl,p9,hh⟩
     (try replace hX:=hX.below hh);(try replace hY:=hY.below hh);(try replace X:=X.below hh);(try replace Y:=Y.below hh);(try replace Z:=Z.below hh);(try replace r:=r.below hh);(try replace XR:=XR.below hh);(try replace p8:=p8.below hh);replace hb:=bend hb hh)
  | (go_at_call 82;(with_reducible refine (lawP 2 2 (by decide) (by decide) (by decide) (by decide) _).mono ?_);rintro e w_pz ⟨s_pz,A_pz,n_pz,c_pz,B_pz,m_pz,d_pz,t_pz,E_pz,i_pz,e_pz,F_pz,j_pz,f_pz,rfl,pz,hh⟩
     (try replace hX:=hX.below hh);(try replace hY:=hY.below hh);(try replace X:=X.below hh);(try replace Y:=Y.below hh);(try replace Z:=Z.below hh);(try replace r:=r.below hh);(try replace XR:=XR.below hh);(try replace p8:=p8.below hh);(try replace p9:=p9.below hh);replace hb:=bend hb hh)
  | (go_at_call 36;(with_reducible refine (on_yes p8.pr p9.pr pz.pr (by decide) (by decide) wk7_on).mono ?_);rintro e w_z ⟨rfl,hh⟩
     (try replace hX:=hX.below hh);(try replace hY:=hY.below hh);(try replace X:=X.below hh);(try replace Y:=Y.below hh);(try replace Z:=Z.below hh);(try replace r:=r.below hh);(try replace XR:=XR.below hh);replace hb:=bend hb hh))
 go_wp2_with fail
 go_ret;exact ⟨rfl,hb⟩
end Go.Proofs.YtmgklaklnaihpaaGreat
