/- SegAt: part 15. -/
import Derived.Test.YtmgklaklnaihpaaGreatKSegAt11
import Derived.Test.YtmgklaklnaihpaaGreatKSegAt14
set_option linter.unusedVariables false
set_option maxRecDepth 100000
set_option maxHeartbeats 16000000
variable {w:Go.World}
variable {s_p t_p:Bool} {A_p B_p E_p F_p:Option Go.Addr} {n_p c_p m_p d_p i_p e_p j_p f_p:Nat}
variable {s_q t_q:Bool} {A_q B_q E_q F_q:Option Go.Addr} {n_q c_q m_q d_q i_q e_q j_q f_q:Nat}
namespace Go.Proofs.YtmgklaklnaihpaaGreat
section
open Go Go.RowKit
theorem ln_one {T:TypeId} {base:Nat} {v:Value} {L:List PV} {u:Rat × Rat} {k:Nat} (hL:Ln T base w v L) (hE:Each PV.PG w L [u] k) :
 ∃ (x:PV) (g c:Nat),L=[x]∧v=.slice (some ⟨g,0,none⟩) 1 c∧base≤g∧PG w x.s x.A x.n x.c x.B x.m x.d x.t x.E x.i x.e x.F x.j x.f u.1 u.2 k:=by
 obtain ⟨h1,h2⟩:=hE
 match L,h1 with
 | [x],_ =>
   obtain ⟨g,c,hv,_,hb,_⟩:=hL.at_ (i:=0) (p:=x) rfl
   exact ⟨x,g,c,rfl,hv,hb,h2 0 x u rfl rfl⟩
theorem ln_two {T:TypeId} {base:Nat} {v:Value} {L:List PV} {u1 u2:Rat × Rat} {k:Nat} (hL:Ln T base w v L) (hE:Each PV.PG w L [u1,u2] k) :
 ∃ (x y:PV) (g c:Nat),L=[x,y]∧v=.slice (some ⟨g,0,none⟩) 2 c∧base≤g∧PG w x.s x.A x.n x.c x.B x.m x.d x.t x.E x.i x.e x.F x.j x.f u1.1 u1.2 k∧PG w y.s y.A y.n y.c y.B y.m y.d y.t y.E y.i y.e y.F y.j y.f u2.1 u2.2 k:=by
 obtain ⟨h1,h2⟩:=hE
 match L,h1 with
 | [x,y],_ =>
   obtain ⟨g,c,hv,_,hb,_⟩:=hL.at_ (i:=0) (p:=x) rfl
   exact ⟨x,y,g,c,rfl,hv,hb,h2 0 x u1 rfl rfl,h2 1 y u2 rfl rfl⟩
theorem Ln.cells0 {T:TypeId} {base g n c:Nat} {L:List PV} (h:Ln T base w (.slice (some ⟨g,0,none⟩) n c) L) {p:PV} (hi:L[0]?=some p) :
 w.cell? ⟨g,0,none⟩=some (.bool p.s)∧w.cell? ⟨g,1,none⟩=some (.slice p.A p.n p.c)∧w.cell? ⟨g,2,none⟩=some (.slice p.B p.m p.d)∧w.cell? ⟨g,3,none⟩=some (.bool p.t)∧w.cell? ⟨g,4,none⟩=some (.slice p.E p.i p.e)∧w.cell? ⟨g,5,none⟩=some (.slice p.F p.j p.f):=by
 have:=h.of hi
 simpa using this.2.2
theorem idx0 {g n c:Nat} (h:0 < n) (w:World):(Instr.indexAt 64 (.slice (some ⟨g,0,none⟩) n c) (.int .i64 0)).run Tryz.prog w=.ok (.pointer (some ⟨g,0,none⟩)) w:=idx_pt (i:=0) h w
theorem Ln.cells1 {T:TypeId} {base g n c:Nat} {L:List PV} (h:Ln T base w (.slice (some ⟨g,0,none⟩) n c) L) {p:PV} (hi:L[1]?=some p) :
 w.cell? ⟨g,6,none⟩=some (.bool p.s)∧w.cell? ⟨g,7,none⟩=some (.slice p.A p.n p.c)∧w.cell? ⟨g,8,none⟩=some (.slice p.B p.m p.d)∧w.cell? ⟨g,9,none⟩=some (.bool p.t)∧w.cell? ⟨g,10,none⟩=some (.slice p.E p.i p.e)∧w.cell? ⟨g,11,none⟩=some (.slice p.F p.j p.f):=by
 have:=h.of hi
 simpa using this.2.2
theorem idx1 {g n c:Nat} (h:1 < n) (w:World):(Instr.indexAt 64 (.slice (some ⟨g,0,none⟩) n c) (.int .i64 1)).run Tryz.prog w=.ok (.pointer (some ⟨g,6,none⟩)) w:=idx_pt (i:=1) h w
theorem wk7_told1:Told (Rat.divInt 0 1) (Rat.divInt 0 1) (Rat.divInt 2 1) (Rat.divInt 2 1) (Rat.divInt 0 1) (Rat.divInt 2 1) (Rat.divInt 2 1) (Rat.divInt 0 1) [((Rat.divInt 1 1),(Rat.divInt 1 1))]:=by
 have h:=told_cross (ax:=(Rat.divInt 0 1)) (ay:=(Rat.divInt 0 1)) (bx:=(Rat.divInt 2 1)) (by_:=(Rat.divInt 2 1)) (cx:=(Rat.divInt 0 1)) (cy:=(Rat.divInt 2 1)) (dx:=(Rat.divInt 2 1)) (dy:=(Rat.divInt 0 1)) (f:=Rat.divInt 1 2) (g:=Rat.divInt 1 2) (by decide +kernel) (by decide +kernel) (by decide +kernel) (by decide +kernel)
 rwa [show ((Rat.divInt 0 1)+((Rat.divInt 2 1) - (Rat.divInt 0 1))*Rat.divInt 1 2)=(Rat.divInt 1 1) by decide +kernel] at h
theorem wk7_spec:Spec1 (keep1 (Rat.divInt 5 3) (Rat.divInt 1 3)) [Rat.divInt 1 3,1]:=by
 have h1:Rat.divInt 1 3 < 1:=by decide +kernel
 have h2:(1:Rat)≤Rat.divInt 5 3:=by decide +kernel
 have h3:(0:Rat)≤Rat.divInt 1 3:=by decide +kernel
 have h4:Rat.divInt 1 3 < Rat.divInt 5 3:=by decide +kernel
 refine ⟨h1,fun x=>?_⟩
 generalize Rat.divInt 1 3=a at *
 generalize Rat.divInt 5 3=b at *
 unfold keep1
 constructor
 · rintro ⟨⟨q,r⟩,s | s⟩
   · grind
   · grind
 · rintro ⟨q,r⟩
   exact ⟨⟨by grind,r⟩,.inr ⟨q,by grind⟩⟩
theorem wk7_told2:Told (Rat.divInt 0 1) (Rat.divInt 0 1) (Rat.divInt 3 1) (Rat.divInt 0 1) (Rat.divInt 5 1) (Rat.divInt 0 1) (Rat.divInt 1 1) (Rat.divInt 0 1) [((Rat.divInt 1 1),(Rat.divInt 0 1)),((Rat.divInt 3 1),(Rat.divInt 0 1))]:=by
 have h:=spec_told (ax:=(Rat.divInt 0 1)) (ay:=(Rat.divInt 0 1)) (bx:=(Rat.divInt 3 1)) (by_:=(Rat.divInt 0 1)) (cx:=(Rat.divInt 5 1)) (cy:=(Rat.divInt 0 1)) (dx:=(Rat.divInt 1 1)) (dy:=(Rat.divInt 0 1)) (by decide +kernel) (both_line (g:=Rat.divInt 5 3) (d:=Rat.divInt 1 3) (by decide +kernel) (by decide +kernel) (by decide +kernel)) wk7_spec
 rwa [show List.map (lineAt (Rat.divInt 0 1) (Rat.divInt 0 1) (Rat.divInt 3 1) (Rat.divInt 0 1)) [Rat.divInt 1 3,1]=[((Rat.divInt 1 1),(Rat.divInt 0 1)),((Rat.divInt 3 1),(Rat.divInt 0 1))] by decide +kernel] at h
theorem wk7_level:shareOK ((Rat.divInt 1 1) - (Rat.divInt 0 1)) ((Rat.divInt 2 1) - (Rat.divInt 0 1)):=⟨by decide +kernel,by decide +kernel,by decide +kernel⟩
theorem wk7_upright:¬ shareOK ((Rat.divInt 1 1) - (Rat.divInt 1 1)) ((Rat.divInt 1 1) - (Rat.divInt 1 1)):=fun h=>h.1 (by decide +kernel)
theorem wk7_txt:(⟨(qtxt ((Rat.divInt 0 1)+((Rat.divInt 1 1) - (Rat.divInt 0 1)) / ((Rat.divInt 2 1) - (Rat.divInt 0 1))*((Rat.divInt 4 1) - (Rat.divInt 0 1)))).toArray⟩:ByteArray)=⟨#[50]⟩:=by
 rw [show (Rat.divInt 0 1)+((Rat.divInt 1 1) - (Rat.divInt 0 1)) / ((Rat.divInt 2 1) - (Rat.divInt 0 1))*((Rat.divInt 4 1) - (Rat.divInt 0 1))=(Rat.divInt 2 1) by decide +kernel,qtxt_i (a:=2) (by decide +kernel) (by decide +kernel) (txt_one (d:=2) (by decide) (by decide) rfl)];rfl
theorem wk7_on:onS (Rat.divInt 1 1) (Rat.divInt 1 1) (Rat.divInt 0 1) (Rat.divInt 0 1) (Rat.divInt 2 1) (Rat.divInt 2 1):=⟨Rat.divInt 1 2,by decide +kernel,by decide +kernel,by decide +kernel,by decide +kernel⟩
theorem wk7_same1:decide ((Rat.divInt 1 1)=(Rat.divInt 1 1)∧(Rat.divInt 1 1)=(Rat.divInt 1 1))=true:=by decide +kernel
theorem wk7_same2:decide ((Rat.divInt 1 1)=(Rat.divInt 1 1)∧(Rat.divInt 0 1)=(Rat.divInt 0 1))=true:=by decide +kernel
theorem wk7_same3:decide ((Rat.divInt 3 1)=(Rat.divInt 3 1)∧(Rat.divInt 0 1)=(Rat.divInt 0 1))=true:=by decide +kernel
theorem segwakes_any (w:World):Calls Tryz.prog 30 #[] w fun e w'=>e=.returned (.bool true)∧Below w.heap.size w w':=by
 have hb:Below w.heap.size w w:=Below.refl _ _
 go_enter Tryz.func30,Tryz.ntmps30
 go_upto_region 3 with (first
  | (go_at_call 82;(with_reducible refine (lawP 0 0 (by decide) (by decide) (by decide) (by decide) _).mono ?_);rintro e w_p1 ⟨s_p1,A_p1,n_p1,c_p1,B_p1,m_p1,d_p1,t_p1,E_p1,i_p1,e_p1,F_p1,j_p1,f_p1,rfl,p1,hh⟩
     replace hb:=bend hb hh)
  | (go_at_call 82;(with_reducible refine (lawP 2 2 (by decide) (by decide) (by decide) (by decide) _).mono ?_);rintro e w_p2 ⟨s_p2,A_p2,n_p2,c_p2,B_p2,m_p2,d_p2,t_p2,E_p2,i_p2,e_p2,F_p2,j_p2,f_p2,rfl,p2,hh⟩
     (try replace p1:=p1.below hh);replace hb:=bend hb hh)
  | (go_at_call 82;(with_reducible refine (lawP 0 2 (by decide) (by decide) (by decide) (by decide) _).mono ?_);rintro e w_p3 ⟨s_p3,A_p3,n_p3,c_p3,B_p3,m_p3,d_p3,t_p3,E_p3,i_p3,e_p3,F_p3,j_p3,f_p3,rfl,p3,hh⟩
     (try replace p1:=p1.below hh);(try replace p2:=p2.below hh);replace hb:=bend hb hh)
  | (go_at_call 82;(with_reducible refine (lawP 2 0 (by decide) (by decide) (by decide) (by decide) _).mono ?_);rintro e w_p4 ⟨s_p4,A_p4,n_p4,c_p4,B_p4,m_p4,d_p4,t_p4,E_p4,i_p4,e_p4,F_p4,j_p4,f_p4,rfl,p4,hh⟩
     (try replace p1:=p1.below hh);(try replace p2:=p2.below hh);(try replace p3:=p3.below hh);replace hb:=bend hb hh)
  | (go_at_call 33;(with_reducible refine (meet_p p1.pr p2.pr p3.pr p4.pr (by decide) (by decide)).mono ?_);rintro e w_m ⟨l,ht,v,L,rfl,hL,hE,hh⟩
     replace hb:=bend hb hh
     obtain rfl:=told_same (fun _ _=>Iff.rfl) ht wk7_told1
     obtain ⟨x,g_x,c_x,rfl,rfl,hgx,X⟩:=ln_one hL hE
     replace X:=X.more (k1:=31) (by decide)
     simp only at X
     clear p1 p2 p3 p4 ht hE))
 rename Ln _ _ _ _ _=>hX
 go_upto_region 4 with (first
  | (go_at_call 82;(with_reducible refine (lawP 0 0 (by decide) (by decide) (by decide) (by decide) _).mono ?_);rintro e w_p1 ⟨s_p1,A_p1,n_p1,c_p1,B_p1,m_p1,d_p1,t_p1,E_p1,i_p1,e_p1,F_p1,j_p1,f_p1,rfl,p1,hh⟩
     (try replace hX:=hX.below hh);(try replace X:=X.below hh);replace hb:=bend hb hh)
  | (go_at_call 82;(with_reducible refine (lawP 3 0 (by decide) (by decide) (by decide) (by decide) _).mono ?_);rintro e w_p2 ⟨s_p2,A_p2,n_p2,c_p2,B_p2,m_p2,d_p2,t_p2,E_p2,i_p2,e_p2,F_p2,j_p2,f_p2,rfl,p2,hh⟩
     (try replace hX:=hX.below hh);(try replace X:=X.below hh);(try replace p1:=p1.below hh);replace hb:=bend hb hh)
  | (go_at_call 82;(with_reducible refine (lawP 5 0 (by decide) (by decide) (by decide) (by decide) _).mono ?_);rintro e w_p3 ⟨s_p3,A_p3,n_p3,c_p3,B_p3,m_p3,d_p3,t_p3,E_p3,i_p3,e_p3,F_p3,j_p3,f_p3,rfl,p3,hh⟩
     (try replace hX:=hX.below hh);(try replace X:=X.below hh);(try replace p1:=p1.below hh);(try replace p2:=p2.below hh);replace hb:=bend hb hh)
  | (go_at_call 82;(with_reducible refine (lawP 1 0 (by decide) (by decide) (by decide) (by decide) _).mono ?_);rintro e w_p4 ⟨s_p4,A_p4,n_p4,c_p4,B_p4,m_p4,d_p4,t_p4,E_p4,i_p4,e_p4,F_p4,j_p4,f_p4,rfl,p4,hh⟩
     (try replace hX:=hX.below hh);(try replace X:=X.below hh);(try replace p1:=p1.below hh);(try replace p2:=p2.below hh);(try replace p3:=p3.below hh);replace hb:=bend hb hh)
  | (go_at_call 33;(with_reducible refine (meet_p p1.pr p2.pr p3.pr p4.pr (by decide) (by decide)).mono ?_);rintro e w_m2 ⟨l,ht,v,L,rfl,hL,hE,hh⟩
     (try replace hX:=hX.below hh);(try replace X:=X.below hh);replace hb:=bend hb hh
     obtain rfl:=told_same (fun _ _=>Iff.rfl) ht wk7_told2
     obtain ⟨y,z,g_y,c_y,rfl,rfl,hgy,Y,Z⟩:=ln_two hL hE
     replace Y:=Y.more (k1:=31) (by decide)
     replace Z:=Z.more (k1:=31) (by decide)
     simp only at Y Z
     clear p1 p2 p3 p4 ht hE))
 have hY:=hL;clear hL
 go_upto_region 5 with (first
  | (go_at_call 82;(with_reducible refine (lawP 0 0 (by decide) (by decide) (by decide) (by decide) _).mono ?_);rintro e w_p1 ⟨s_p1,A_p1,n_p1,c_p1,B_p1,m_p1,d_p1,t_p1,E_p1,i_p1,e_p1,F_p1,j_p1,f_p1,rfl,p1,hh⟩
     (try replace hX:=hX.below hh);(try replace X:=X.below hh);(try replace hY:=hY.below hh);(try replace Y:=Y.below hh);(try replace Z:=Z.below hh);replace hb:=bend hb hh)
  | (go_at_call 82;(with_reducible refine (lawP 4 2 (by decide) (by decide) (by decide) (by decide) _).mono ?_);rintro e w_p2 ⟨s_p2,A_p2,n_p2,c_p2,B_p2,m_p2,d_p2,t_p2,E_p2,i_p2,e_p2,F_p2,j_p2,f_p2,rfl,p2,hh⟩
     (try replace hX:=hX.below hh);(try replace X:=X.below hh);(try replace hY:=hY.below hh);(try replace Y:=Y.below hh);(try replace Z:=Z.below hh);(try replace p1:=p1.below hh);replace hb:=bend hb hh)
  | (go_at_call 23;(with_reducible refine (rof_q 1 1 (by decide) (by decide) (by decide) (by decide) (by decide) _).mono ?_);rintro e w_k ⟨s_k,A_k,n_k,c_k,B_k,m_k,d_k,rfl,k,hh⟩
     (try replace hX:=hX.below hh);(try replace X:=X.below hh);(try replace hY:=hY.below hh);(try replace Y:=Y.below hh);(try replace Z:=Z.below hh);(try replace p1:=p1.below hh);(try replace p2:=p2.below hh);replace hb:=bend hb hh)
  | (go_at_call 39;(with_reducible refine (level_yes p1.pr p2.pr k.qr (by decide) (by decide) wk7_level).mono ?_);rintro e w_r ⟨s_r,A_r,n_r,c_r,B_r,m_r,d_r,rfl,r,hh⟩
     (try replace hX:=hX.below hh);(try replace X:=X.below hh);(try replace hY:=hY.below hh);(try replace Y:=Y.below hh);(try replace Z:=Z.below hh);replace hb:=bend hb hh;clear p1 p2 k))
 generalize hW:World.alloc _ _=W2
 obtain ⟨hh,XR,hzW2⟩:=mkbx8_8 hW;clear hW;(try replace hX:=hX.below hh);(try replace X:=X.below hh);(try replace hY:=hY.below hh);(try replace Y:=Y.below hh);(try replace Z:=Z.below hh);(try replace r:=r.below hh);replace hb:=bend hb hh
 go_upto_region 6 with (first
  | (go_at_call 82;(with_reducible refine (lawP 1 0 (by decide) (by decide) (by decide) (by decide) _).mono ?_);rintro e w_p1 ⟨s_p1,A_p1,n_p1,c_p1,B_p1,m_p1,d_p1,t_p1,E_p1,i_p1,e_p1,F_p1,j_p1,f_p1,rfl,p1,hh⟩
     (try replace hX:=hX.below hh);(try replace X:=X.below hh);(try replace hY:=hY.below hh);(try replace Y:=Y.below hh);(try replace Z:=Z.below hh);(try replace r:=r.below hh);(try replace XR:=XR.below hh);replace hb:=bend hb hh)
  | (go_at_call 82;(with_reducible refine (lawP 1 2 (by decide) (by decide) (by decide) (by decide) _).mono ?_);rintro e w_p2 ⟨s_p2,A_p2,n_p2,c_p2,B_p2,m_p2,d_p2,t_p2,E_p2,i_p2,e_p2,F_p2,j_p2,f_p2,rfl,p2,hh⟩
     (try replace hX:=hX.below hh);(try replace X:=X.below hh);(try replace hY:=hY.below hh);(try replace Y:=Y.below hh);(try replace Z:=Z.below hh);(try replace r:=r.below hh);(try replace XR:=XR.below hh);(try replace p1:=p1.below hh);replace hb:=bend hb hh)
  | (go_at_call 23;(with_reducible refine (rof_q 1 1 (by decide) (by decide) (by decide) (by decide) (by decide) _).mono ?_);rintro e w_k ⟨s_k,A_k,n_k,c_k,B_k,m_k,d_k,rfl,k,hh⟩
     (try replace hX:=hX.below hh);(try replace X:=X.below hh);(try replace hY:=hY.below hh);(try replace Y:=Y.below hh);(try replace Z:=Z.below hh);(try replace r:=r.below hh);(try replace XR:=XR.below hh);(try replace p1:=p1.below hh);(try replace p2:=p2.below hh);replace hb:=bend hb hh)
  | (go_at_call 40;(with_reducible refine (upright_no p1.pr p2.pr k.qr (by decide) (by decide) wk7_upright).mono ?_);rintro e w_z ⟨rfl,hh⟩
     (try replace hX:=hX.below hh);(try replace X:=X.below hh);(try replace hY:=hY.below hh);(try replace Y:=Y.below hh);(try replace Z:=Z.below hh);(try replace r:=r.below hh);(try replace XR:=XR.below hh);replace hb:=bend hb hh;clear p1 p2 k))
 generalize hW:World.alloc _ _=W3
 obtain ⟨hh,XU,hzW3⟩:=mkbx8_8 hW;clear hW;(try replace hX:=hX.below hh);(try replace X:=X.below hh);(try replace hY:=hY.below hh);(try replace Y:=Y.below hh);(try replace Z:=Z.below hh);(try replace r:=r.below hh);(try replace XR:=XR.below hh);replace hb:=bend hb hh;clear XU
 replace hX:=hX.below (Below.refl _ _).drew
 replace X:=X.below (Below.refl _ _).drew
 replace hY:=hY.below (Below.refl _ _).drew
 replace Y:=Y.below (Below.refl _ _).drew
 replace Z:=Z.below (Below.refl _ _).drew
 replace r:=r.below (Below.refl _ _).drew
 replace XR:=XR.below (Below.refl _ _).drew
 replace hb:=hb.drew
 obtain ⟨x0,x1,x2,x3,x4,x5⟩:=hX.cells0 rfl
 obtain ⟨y0,y1,y2,y3,y4,y5⟩:=hY.cells0 rfl
 obtain ⟨z0,z1,z2,z3,z4,z5⟩:=hY.cells1 rfl
 have ix:=idx0 (g:=g_x) (n:=1) (c:=c_x) (by decide)
 have iy:=idx0 (g:=g_y) (n:=2) (c:=c_y) (by decide)
 have iz:=idx1 (g:=g_y) (n:=2) (c:=c_y) (by decide)
 clear x0 x1 x2 x3 x4 x5 y0 y1 y2 y3 y4 y5 z0 z1 z2 z3 z4 z5
 go_region_held3 (fun w'=>w'.cell? ⟨g_x,0,none⟩=some (.bool x.s)∧w'.cell? ⟨g_x,1,none⟩=some (.slice x.A x.n x.c)∧w'.cell? ⟨g_x,2,none⟩=some (.slice x.B x.m x.d)∧w'.cell? ⟨g_x,3,none⟩=some (.bool x.t)∧w'.cell? ⟨g_x,4,none⟩=some (.slice x.E x.i x.e)∧w'.cell? ⟨g_x,5,none⟩=some (.slice x.F x.j x.f)∧w'.cell? ⟨g_y,0,none⟩=some (.bool y.s)∧w'.cell? ⟨g_y,1,none⟩=some (.slice y.A y.n y.c)∧w'.cell? ⟨g_y,2,none⟩=some (.slice y.B y.m y.d)∧w'.cell? ⟨g_y,3,none⟩=some (.bool y.t)∧w'.cell? ⟨g_y,4,none⟩=some (.slice y.E y.i y.e)∧w'.cell? ⟨g_y,5,none⟩=some (.slice y.F y.j y.f)∧w'.cell? ⟨g_y,6,none⟩=some (.bool z.s)∧w'.cell? ⟨g_y,7,none⟩=some (.slice z.A z.n z.c)∧w'.cell? ⟨g_y,8,none⟩=some (.slice z.B z.m z.d)∧w'.cell? ⟨g_y,9,none⟩=some (.bool z.t)∧w'.cell? ⟨g_y,10,none⟩=some (.slice z.E z.i z.e)∧w'.cell? ⟨g_y,11,none⟩=some (.slice z.F z.j z.f)∧w'.cell? ⟨w_r.heap.size,0,none⟩=some (.bool s_r)∧w'.cell? ⟨w_r.heap.size,1,none⟩=some (.slice A_r n_r c_r)∧w'.cell? ⟨w_r.heap.size,2,none⟩=some (.slice B_r m_r d_r))
  (first | with_reducible exact ⟨(hX.cells0 rfl).1,(hX.cells0 rfl).2.1,(hX.cells0 rfl).2.2.1,(hX.cells0 rfl).2.2.2.1,(hX.cells0 rfl).2.2.2.2.1,(hX.cells0 rfl).2.2.2.2.2,(hY.cells0 rfl).1,(hY.cells0 rfl).2.1,(hY.cells0 rfl).2.2.1,(hY.cells0 rfl).2.2.2.1,(hY.cells0 rfl).2.2.2.2.1,(hY.cells0 rfl).2.2.2.2.2,(hY.cells1 rfl).1,(hY.cells1 rfl).2.1,(hY.cells1 rfl).2.2.1,(hY.cells1 rfl).2.2.2.1,(hY.cells1 rfl).2.2.2.2.1,(hY.cells1 rfl).2.2.2.2.2,XR.c0,XR.c1,XR.c2⟩)
  (first
  | (go_at_call 43;(with_reducible refine (psame_p X.pr p5.pr (by decide) (by decide) (by decide) (by decide) true wk7_same1).mono ?_);rintro e w_z ⟨rfl,hh⟩
     (try replace hX:=hX.below hh);(try replace hY:=hY.below hh);(try replace X:=X.below hh);(try replace Y:=Y.below hh);(try replace Z:=Z.below hh);(try replace r:=r.below hh);(try replace XR:=XR.below hh);replace hb:=bend hb hh;clear p5)
  | (go_at_call 43;(with_reducible refine (psame_p Y.pr p6.pr (by decide) (by decide) (by decide) (by decide) true wk7_same2).mono ?_);rintro e w_z ⟨rfl,hh⟩
     (try replace hX:=hX.below hh);(try replace hY:=hY.below hh);(try replace X:=X.below hh);(try replace Y:=Y.below hh);(try replace Z:=Z.below hh);(try replace r:=r.below hh);(try replace XR:=XR.below hh);replace hb:=bend hb hh;clear p6)
  | (go_at_call 43;(with_reducible refine (psame_p Z.pr p7.pr (by decide) (by decide) (by decide) (by decide) true wk7_same3).mono ?_);rintro e w_z ⟨rfl,hh⟩
     (try replace hX:=hX.below hh);(try replace hY:=hY.below hh);(try replace X:=X.below hh);(try replace Y:=Y.below hh);(try replace Z:=Z.below hh);(try replace r:=r.below hh);(try replace XR:=XR.below hh);replace hb:=bend hb hh;clear p7)
  | (go_at_call 82;(with_reducible refine (lawP 1 0 (by decide) (by decide) (by decide) (by decide) _).mono ?_);rintro e w_p6 ⟨s_p6,A_p6,n_p6,c_p6,B_p6,m_p6,d_p6,t_p6,E_p6,i_p6,e_p6,F_p6,j_p6,f_p6,rfl,p6,hh⟩
     (try replace hX:=hX.below hh);(try replace hY:=hY.below hh);(try replace X:=X.below hh);(try replace Y:=Y.below hh);(try replace Z:=Z.below hh);(try replace r:=r.below hh);(try replace XR:=XR.below hh);replace hb:=bend hb hh)
  | (go_at_call 82;(with_reducible refine (lawP 3 0 (by decide) (by decide) (by decide) (by decide) _).mono ?_);rintro e w_p7 ⟨s_p7,A_p7,n_p7,c_p7,B_p7,m_p7,d_p7,t_p7,E_p7,i_p7,e_p7,F_p7,j_p7,f_p7,rfl,p7,hh⟩
     (try replace hX:=hX.below hh);(try replace hY:=hY.below hh);(try replace X:=X.below hh);(try replace Y:=Y.below hh);(try replace Z:=Z.below hh);(try replace r:=r.below hh);(try replace XR:=XR.below hh);replace hb:=bend hb hh)
  | (go_at_call 15;(with_reducible refine (rtext_q r.qr (by decide) (by decide)).mono ?_);rintro e w_z ⟨rfl,hh⟩
     rw [wk7_txt];(try replace hX:=hX.below hh);(try replace hY:=hY.below hh);(try replace X:=X.below hh);(try replace Y:=Y.below hh);(try replace Z:=Z.below hh);(try replace r:=r.below hh);(try replace XR:=XR.below hh);replace hb:=bend hb hh
     have hrr:True:=trivial)
  | (go_at_call 82;(have h0:=hrr);(with_reducible refine (lawP 1 1 (by decide) (by decide) (by decide) (by decide) _).mono ?_);rintro e w_p8 ⟨s_p8,A_p8,n_p8,c_p8,B_p8,m_p8,d_p8,t_p8,E_p8,i_p8,e_p8,F_p8,j_p8,f_p8,rfl,p8,hh⟩
     (try replace hX:=hX.below hh);(try replace hY:=hY.below hh);(try replace X:=X.below hh);(try replace Y:=Y.below hh);(try replace Z:=Z.below hh);(try replace r:=r.below hh);(try replace XR:=XR.below hh);clear h0;replace hb:=bend hb hh)
  | (go_at_call 82;(with_reducible refine (lawP 1 1 (by decide) (by decide) (by decide) (by decide) _).mono ?_);rintro e w_p5 ⟨s_p5,A_p5,n_p5,c_p5,B_p5,m_p5,d_p5,t_p5,E_p5,i_p5,e_p5,F_p5,j_p5,f_p5,rfl,p5,hh⟩
     (try replace hX:=hX.below hh);(try replace hY:=hY.below hh);(try replace X:=X.below hh);(try replace Y:=Y.below hh);(try replace Z:=Z.below hh);(try replace r:=r.below hh);(try replace XR:=XR.below hh);replace hb:=bend hb hh)
  | (go_at_call 82;(with_reducible refine (lawP 0 0 (by decide) (by decide) (by decide) (by decide) _).mono ?_);rintro e w_p9 ⟨s_p9,A_p9,n_p9,c_p9,B_p9,m_p9,d_p9,t_p9,E_p9,i_p9,e_p9,F_p9,j_p9,f_p9,rfl,p9,hh⟩
     (try replace hX:=hX.below hh);(try replace hY:=hY.below hh);(try replace X:=X.below hh);(try replace Y:=Y.below hh);(try replace Z:=Z.below hh);(try replace r:=r.below hh);(try replace XR:=XR.below hh);(try replace p8:=p8.below hh);replace hb:=bend hb hh)
  | (go_at_call 82;(with_reducible refine (lawP 2 2 (by decide) (by decide) (by decide) (by decide) _).mono ?_);rintro e w_pz ⟨s_pz,A_pz,n_pz,c_pz,B_pz,m_pz,d_pz,t_pz,E_pz,i_pz,e_pz,F_pz,j_pz,f_pz,rfl,pz,hh⟩
     (try replace hX:=hX.below hh);(try replace hY:=hY.below hh);(try replace X:=X.below hh);(try replace Y:=Y.below hh);(try replace Z:=Z.below hh);(try replace r:=r.below hh);(try replace XR:=XR.below hh);(try replace p8:=p8.below hh);(try replace p9:=p9.below hh);replace hb:=bend hb hh)
  | (go_at_call 36;(with_reducible refine (on_yes p8.pr p9.pr pz.pr (by decide) (by decide) wk7_on).mono ?_);rintro e w_z ⟨rfl,hh⟩
     (try replace hX:=hX.below hh);(try replace hY:=hY.below hh);(try replace X:=X.below hh);(try replace Y:=Y.below hh);(try replace Z:=Z.below hh);(try replace r:=r.below hh);(try replace XR:=XR.below hh);replace hb:=bend hb hh))
 go_wp2_with fail
 go_ret;exact ⟨rfl,hb⟩
end
section
open Go Go.RowKit
def BA4 (W:World) (g:Nat) (v0:Value) (v1:Value) (v2:Value) (v3:Value) (v4:Value) (v5:Value) (v6:Value) (v7:Value) (v8:Value) (v9:Value) (v10:Value) (v11:Value) (v12:Value) (v13:Value) (v14:Value) (v15:Value) (v16:Value) (v17:Value) (v18:Value) (v19:Value) (v20:Value) (v21:Value) (v22:Value) (v23:Value):Prop:=W.heap[g]?=some (.cells #[v0,v1,v2,v3,v4,v5,v6,v7,v8,v9,v10,v11,v12,v13,v14,v15,v16,v17,v18,v19,v20,v21,v22,v23] 57 (0,0))
section
variable {W W':World} {g:Nat} {v0 v1 v2 v3 v4 v5 v6 v7 v8 v9 v10 v11 v12 v13 v14 v15 v16 v17 v18 v19 v20 v21 v22 v23:Value}
theorem BA4.c0 (h:BA4 W g v0 v1 v2 v3 v4 v5 v6 v7 v8 v9 v10 v11 v12 v13 v14 v15 v16 v17 v18 v19 v20 v21 v22 v23):W.cell? ⟨g,0,none⟩=some v0:=by rw [cell_of_row W g 0 _ _ (0,0) h];rfl
theorem BA4.c1 (h:BA4 W g v0 v1 v2 v3 v4 v5 v6 v7 v8 v9 v10 v11 v12 v13 v14 v15 v16 v17 v18 v19 v20 v21 v22 v23):W.cell? ⟨g,1,none⟩=some v1:=by rw [cell_of_row W g 1 _ _ (0,0) h];rfl
theorem BA4.c2 (h:BA4 W g v0 v1 v2 v3 v4 v5 v6 v7 v8 v9 v10 v11 v12 v13 v14 v15 v16 v17 v18 v19 v20 v21 v22 v23):W.cell? ⟨g,2,none⟩=some v2:=by rw [cell_of_row W g 2 _ _ (0,0) h];rfl
theorem BA4.c3 (h:BA4 W g v0 v1 v2 v3 v4 v5 v6 v7 v8 v9 v10 v11 v12 v13 v14 v15 v16 v17 v18 v19 v20 v21 v22 v23):W.cell? ⟨g,3,none⟩=some v3:=by rw [cell_of_row W g 3 _ _ (0,0) h];rfl
theorem BA4.c4 (h:BA4 W g v0 v1 v2 v3 v4 v5 v6 v7 v8 v9 v10 v11 v12 v13 v14 v15 v16 v17 v18 v19 v20 v21 v22 v23):W.cell? ⟨g,4,none⟩=some v4:=by rw [cell_of_row W g 4 _ _ (0,0) h];rfl
theorem BA4.c5 (h:BA4 W g v0 v1 v2 v3 v4 v5 v6 v7 v8 v9 v10 v11 v12 v13 v14 v15 v16 v17 v18 v19 v20 v21 v22 v23):W.cell? ⟨g,5,none⟩=some v5:=by rw [cell_of_row W g 5 _ _ (0,0) h];rfl
theorem BA4.c6 (h:BA4 W g v0 v1 v2 v3 v4 v5 v6 v7 v8 v9 v10 v11 v12 v13 v14 v15 v16 v17 v18 v19 v20 v21 v22 v23):W.cell? ⟨g,6,none⟩=some v6:=by rw [cell_of_row W g 6 _ _ (0,0) h];rfl
theorem BA4.c7 (h:BA4 W g v0 v1 v2 v3 v4 v5 v6 v7 v8 v9 v10 v11 v12 v13 v14 v15 v16 v17 v18 v19 v20 v21 v22 v23):W.cell? ⟨g,7,none⟩=some v7:=by rw [cell_of_row W g 7 _ _ (0,0) h];rfl
theorem BA4.c8 (h:BA4 W g v0 v1 v2 v3 v4 v5 v6 v7 v8 v9 v10 v11 v12 v13 v14 v15 v16 v17 v18 v19 v20 v21 v22 v23):W.cell? ⟨g,8,none⟩=some v8:=by rw [cell_of_row W g 8 _ _ (0,0) h];rfl
theorem BA4.c9 (h:BA4 W g v0 v1 v2 v3 v4 v5 v6 v7 v8 v9 v10 v11 v12 v13 v14 v15 v16 v17 v18 v19 v20 v21 v22 v23):W.cell? ⟨g,9,none⟩=some v9:=by rw [cell_of_row W g 9 _ _ (0,0) h];rfl
theorem BA4.c10 (h:BA4 W g v0 v1 v2 v3 v4 v5 v6 v7 v8 v9 v10 v11 v12 v13 v14 v15 v16 v17 v18 v19 v20 v21 v22 v23):W.cell? ⟨g,10,none⟩=some v10:=by rw [cell_of_row W g 10 _ _ (0,0) h];rfl
theorem BA4.c11 (h:BA4 W g v0 v1 v2 v3 v4 v5 v6 v7 v8 v9 v10 v11 v12 v13 v14 v15 v16 v17 v18 v19 v20 v21 v22 v23):W.cell? ⟨g,11,none⟩=some v11:=by rw [cell_of_row W g 11 _ _ (0,0) h];rfl
theorem BA4.all (h:BA4 W g v0 v1 v2 v3 v4 v5 v6 v7 v8 v9 v10 v11 v12 v13 v14 v15 v16 v17 v18 v19 v20 v21 v22 v23):W.cell? ⟨g,0,none⟩=some v0∧W.cell? ⟨g,1,none⟩=some v1∧W.cell? ⟨g,2,none⟩=some v2∧W.cell? ⟨g,3,none⟩=some v3∧W.cell? ⟨g,4,none⟩=some v4∧W.cell? ⟨g,5,none⟩=some v5∧W.cell? ⟨g,6,none⟩=some v6∧W.cell? ⟨g,7,none⟩=some v7∧W.cell? ⟨g,8,none⟩=some v8∧W.cell? ⟨g,9,none⟩=some v9∧W.cell? ⟨g,10,none⟩=some v10∧W.cell? ⟨g,11,none⟩=some v11:=⟨h.c0,h.c1,h.c2,h.c3,h.c4,h.c5,h.c6,h.c7,h.c8,h.c9,h.c10,h.c11⟩
theorem BA4.lt (h:BA4 W g v0 v1 v2 v3 v4 v5 v6 v7 v8 v9 v10 v11 v12 v13 v14 v15 v16 v17 v18 v19 v20 v21 v22 v23):g < W.heap.size:=World.block_lt_of_cell? W _ h.c0
theorem BA4.below (h:BA4 W g v0 v1 v2 v3 v4 v5 v6 v7 v8 v9 v10 v11 v12 v13 v14 v15 v16 v17 v18 v19 v20 v21 v22 v23) (hb:Below W.heap.size W W'):BA4 W' g v0 v1 v2 v3 v4 v5 v6 v7 v8 v9 v10 v11 v12 v13 v14 v15 v16 v17 v18 v19 v20 v21 v22 v23:=(hb.block g h.lt).trans h
end
theorem BA4.new' (W:World) (v0 v1 v2 v3 v4 v5 v6 v7 v8 v9 v10 v11 v12 v13 v14 v15 v16 v17 v18 v19 v20 v21 v22 v23:Value) (g:Nat) (hg:g=W.heap.size):BA4 (W.alloc (.cells #[v0,v1,v2,v3,v4,v5,v6,v7,v8,v9,v10,v11,v12,v13,v14,v15,v16,v17,v18,v19,v20,v21,v22,v23] 57)) g v0 v1 v2 v3 v4 v5 v6 v7 v8 v9 v10 v11 v12 v13 v14 v15 v16 v17 v18 v19 v20 v21 v22 v23:=by subst hg;exact heap_alloc_new W _
def BL4 (W:World) (g:Nat) (v0:Value) (v1:Value) (v2:Value) (v3:Value) (v4:Value) (v5:Value) (v6:Value) (v7:Value) (v8:Value) (v9:Value) (v10:Value) (v11:Value) (v12:Value) (v13:Value) (v14:Value) (v15:Value) (v16:Value) (v17:Value) (v18:Value) (v19:Value) (v20:Value) (v21:Value) (v22:Value) (v23:Value):Prop:=W.heap[g]?=some (.cells #[v0,v1,v2,v3,v4,v5,v6,v7,v8,v9,v10,v11,v12,v13,v14,v15,v16,v17,v18,v19,v20,v21,v22,v23] 56 (0,0))
section
variable {W W':World} {g:Nat} {v0 v1 v2 v3 v4 v5 v6 v7 v8 v9 v10 v11 v12 v13 v14 v15 v16 v17 v18 v19 v20 v21 v22 v23:Value}
theorem BL4.c0 (h:BL4 W g v0 v1 v2 v3 v4 v5 v6 v7 v8 v9 v10 v11 v12 v13 v14 v15 v16 v17 v18 v19 v20 v21 v22 v23):W.cell? ⟨g,0,none⟩=some v0:=by rw [cell_of_row W g 0 _ _ (0,0) h];rfl
theorem BL4.c1 (h:BL4 W g v0 v1 v2 v3 v4 v5 v6 v7 v8 v9 v10 v11 v12 v13 v14 v15 v16 v17 v18 v19 v20 v21 v22 v23):W.cell? ⟨g,1,none⟩=some v1:=by rw [cell_of_row W g 1 _ _ (0,0) h];rfl
theorem BL4.c2 (h:BL4 W g v0 v1 v2 v3 v4 v5 v6 v7 v8 v9 v10 v11 v12 v13 v14 v15 v16 v17 v18 v19 v20 v21 v22 v23):W.cell? ⟨g,2,none⟩=some v2:=by rw [cell_of_row W g 2 _ _ (0,0) h];rfl
theorem BL4.c3 (h:BL4 W g v0 v1 v2 v3 v4 v5 v6 v7 v8 v9 v10 v11 v12 v13 v14 v15 v16 v17 v18 v19 v20 v21 v22 v23):W.cell? ⟨g,3,none⟩=some v3:=by rw [cell_of_row W g 3 _ _ (0,0) h];rfl
theorem BL4.c4 (h:BL4 W g v0 v1 v2 v3 v4 v5 v6 v7 v8 v9 v10 v11 v12 v13 v14 v15 v16 v17 v18 v19 v20 v21 v22 v23):W.cell? ⟨g,4,none⟩=some v4:=by rw [cell_of_row W g 4 _ _ (0,0) h];rfl
theorem BL4.c5 (h:BL4 W g v0 v1 v2 v3 v4 v5 v6 v7 v8 v9 v10 v11 v12 v13 v14 v15 v16 v17 v18 v19 v20 v21 v22 v23):W.cell? ⟨g,5,none⟩=some v5:=by rw [cell_of_row W g 5 _ _ (0,0) h];rfl
theorem BL4.c6 (h:BL4 W g v0 v1 v2 v3 v4 v5 v6 v7 v8 v9 v10 v11 v12 v13 v14 v15 v16 v17 v18 v19 v20 v21 v22 v23):W.cell? ⟨g,6,none⟩=some v6:=by rw [cell_of_row W g 6 _ _ (0,0) h];rfl
theorem BL4.c7 (h:BL4 W g v0 v1 v2 v3 v4 v5 v6 v7 v8 v9 v10 v11 v12 v13 v14 v15 v16 v17 v18 v19 v20 v21 v22 v23):W.cell? ⟨g,7,none⟩=some v7:=by rw [cell_of_row W g 7 _ _ (0,0) h];rfl
theorem BL4.c8 (h:BL4 W g v0 v1 v2 v3 v4 v5 v6 v7 v8 v9 v10 v11 v12 v13 v14 v15 v16 v17 v18 v19 v20 v21 v22 v23):W.cell? ⟨g,8,none⟩=some v8:=by rw [cell_of_row W g 8 _ _ (0,0) h];rfl
theorem BL4.c9 (h:BL4 W g v0 v1 v2 v3 v4 v5 v6 v7 v8 v9 v10 v11 v12 v13 v14 v15 v16 v17 v18 v19 v20 v21 v22 v23):W.cell? ⟨g,9,none⟩=some v9:=by rw [cell_of_row W g 9 _ _ (0,0) h];rfl
theorem BL4.c10 (h:BL4 W g v0 v1 v2 v3 v4 v5 v6 v7 v8 v9 v10 v11 v12 v13 v14 v15 v16 v17 v18 v19 v20 v21 v22 v23):W.cell? ⟨g,10,none⟩=some v10:=by rw [cell_of_row W g 10 _ _ (0,0) h];rfl
theorem BL4.c11 (h:BL4 W g v0 v1 v2 v3 v4 v5 v6 v7 v8 v9 v10 v11 v12 v13 v14 v15 v16 v17 v18 v19 v20 v21 v22 v23):W.cell? ⟨g,11,none⟩=some v11:=by rw [cell_of_row W g 11 _ _ (0,0) h];rfl
theorem BL4.all (h:BL4 W g v0 v1 v2 v3 v4 v5 v6 v7 v8 v9 v10 v11 v12 v13 v14 v15 v16 v17 v18 v19 v20 v21 v22 v23):W.cell? ⟨g,0,none⟩=some v0∧W.cell? ⟨g,1,none⟩=some v1∧W.cell? ⟨g,2,none⟩=some v2∧W.cell? ⟨g,3,none⟩=some v3∧W.cell? ⟨g,4,none⟩=some v4∧W.cell? ⟨g,5,none⟩=some v5∧W.cell? ⟨g,6,none⟩=some v6∧W.cell? ⟨g,7,none⟩=some v7∧W.cell? ⟨g,8,none⟩=some v8∧W.cell? ⟨g,9,none⟩=some v9∧W.cell? ⟨g,10,none⟩=some v10∧W.cell? ⟨g,11,none⟩=some v11:=⟨h.c0,h.c1,h.c2,h.c3,h.c4,h.c5,h.c6,h.c7,h.c8,h.c9,h.c10,h.c11⟩
theorem BL4.lt (h:BL4 W g v0 v1 v2 v3 v4 v5 v6 v7 v8 v9 v10 v11 v12 v13 v14 v15 v16 v17 v18 v19 v20 v21 v22 v23):g < W.heap.size:=World.block_lt_of_cell? W _ h.c0
theorem BL4.below (h:BL4 W g v0 v1 v2 v3 v4 v5 v6 v7 v8 v9 v10 v11 v12 v13 v14 v15 v16 v17 v18 v19 v20 v21 v22 v23) (hb:Below W.heap.size W W'):BL4 W' g v0 v1 v2 v3 v4 v5 v6 v7 v8 v9 v10 v11 v12 v13 v14 v15 v16 v17 v18 v19 v20 v21 v22 v23:=(hb.block g h.lt).trans h
theorem BL4.alloc (h:BL4 W g v0 v1 v2 v3 v4 v5 v6 v7 v8 v9 v10 v11 v12 v13 v14 v15 v16 v17 v18 v19 v20 v21 v22 v23) (o:Obj):BL4 (W.alloc o) g v0 v1 v2 v3 v4 v5 v6 v7 v8 v9 v10 v11 v12 v13 v14 v15 v16 v17 v18 v19 v20 v21 v22 v23:=(Below.heap_alloc W o g h.lt).trans h
end
theorem BL4.new' (W:World) (v0 v1 v2 v3 v4 v5 v6 v7 v8 v9 v10 v11 v12 v13 v14 v15 v16 v17 v18 v19 v20 v21 v22 v23:Value) (g:Nat) (hg:g=W.heap.size):BL4 (W.alloc (.cells #[v0,v1,v2,v3,v4,v5,v6,v7,v8,v9,v10,v11,v12,v13,v14,v15,v16,v17,v18,v19,v20,v21,v22,v23] 56)) g v0 v1 v2 v3 v4 v5 v6 v7 v8 v9 v10 v11 v12 v13 v14 v15 v16 v17 v18 v19 v20 v21 v22 v23:=by subst hg;exact heap_alloc_new W _
end
section
open Go Go.RowKit
theorem run_conv8 {e:Operand→Value} {x:Operand} {d:Option Tmp} {y:Nat} {pos:String} {af:Array Edge} {t:Nat} (ht:(t:Int)≤255) (h:e x=.int .u8 (t:Int)) :
 (execOp e ⟨d,.convert 5 2 x,y,pos,af,none⟩).run Tryz.prog w=.ok (.value (.int .i64 (t:Int))) w:=by
 go_simp
 exact IntWalk.i64_in _ (by omega)
abbrev L_at7:List Nat:=[18,19,20,21,22,23,7]
def o0_at7:Oper:=⟨some 18,.load 56 (.tmp 3),56, "law.go:82",#[],none⟩
def o1_at7:Oper:=⟨some 19,.load 56 (.tmp 4),56, "law.go:82",#[],none⟩
def o2_at7:Oper:=⟨some 20,.move (.tmp 2),5, "law.go:82",#[],none⟩
def o3_at7:Oper:=⟨some 21,.convert 5 2 (.tmp 20),2, "law.go:82",#[⟨2,.data⟩],none⟩
def o4_at7:Oper:=⟨some 22,.call ⟨.value (.func 23),#[.tmp 21,.const (Value.int IntKind.i64 255)],#[2,2]⟩,26, "law.go:82",#[⟨3,.data⟩],none⟩
def o5_at7:Oper:=⟨some 23,.call ⟨.value (.func 44),#[.tmp 18,.tmp 19,.tmp 22],#[56,56,26]⟩,56, "law.go:82",#[⟨0,.data⟩,⟨1,.data⟩,⟨4,.data⟩,⟨4,.chain⟩],none⟩
def o6_at7:Oper:=⟨some 7,.alloc 56,0, "law.go:82",#[],none⟩
def o7_at7:Oper:=⟨none,.store 56 (.tmp 7) (.tmp 23),0, "law.go:82",#[⟨6,.data⟩,⟨5,.data⟩,⟨5,.chain⟩,⟨0,.phase⟩,⟨1,.phase⟩,⟨2,.phase⟩,⟨3,.phase⟩,⟨4,.phase⟩,⟨5,.phase⟩,⟨6,.phase⟩],none⟩
theorem rc_gesso_rat_Of {e:Operand→Value} {x0 x1:Operand} {d:Option Tmp} {y:Nat} {pos:String} {af:Array Edge} {u0 u1:Value} (h0:e x0=u0) (h1:e x1=u1) (hf:e (.func 23)=.func (.func 23) #[] #[]) :
 (execOp e ⟨d,.call ⟨.value (.func 23),#[x0,x1],#[2,2]⟩,y,pos,af,none⟩).run Tryz.prog w=.ok (.enter 23 #[u0,u1]) w:=by
 go_simp
theorem rc_gesso_pt_Mix {e:Operand→Value} {x0 x1 x2:Operand} {d:Option Tmp} {y:Nat} {pos:String} {af:Array Edge} {u0 u1 u2:Value} (h0:e x0=u0) (h1:e x1=u1) (h2:e x2=u2) (hf:e (.func 44)=.func (.func 44) #[] #[]) :
 (execOp e ⟨d,.call ⟨.value (.func 44),#[x0,x1,x2],#[56,56,26]⟩,y,pos,af,none⟩).run Tryz.prog w=.ok (.enter 44 #[u0,u1,u2]) w:=by
 go_simp
def F_at7 (s_p:Bool) (t_p:Bool) (A_p:Option Addr) (B_p:Option Addr) (E_p:Option Addr) (F_p:Option Addr) (n_p:Nat) (c_p:Nat) (m_p:Nat) (d_p:Nat) (i_p:Nat) (e_p:Nat) (j_p:Nat) (f_p:Nat) (s_q:Bool) (t_q:Bool) (A_q:Option Addr) (B_q:Option Addr) (E_q:Option Addr) (F_q:Option Addr) (n_q:Nat) (c_q:Nat) (m_q:Nat) (d_q:Nat) (i_q:Nat) (e_q:Nat) (j_q:Nat) (f_q:Nat) (ax:Rat) (ay:Rat) (bx:Rat) (by_:Rat) (tv:Nat) (sl:Nat):Value→World→Prop :=
 match sl with
 | 18=>fun x _=>x=Value.agg #[.bool s_p,.slice A_p n_p c_p,.slice B_p m_p d_p,.bool t_p,.slice E_p i_p e_p,.slice F_p j_p f_p]
 | 19=>fun x _=>x=Value.agg #[.bool s_q,.slice A_q n_q c_q,.slice B_q m_q d_q,.bool t_q,.slice E_q i_q e_q,.slice F_q j_q f_q]
 | 20=>fun x _=>x=Value.int .u8 (tv:Int)
 | 21=>fun x _=>x=Value.int .i64 (tv:Int)
 | 22=>VQ ((Rat.divInt (tv:Int) 255)) (1)
 | 23=>VPG ((ax+(bx - ax)*(Rat.divInt (tv:Int) 255))) ((ay+(by_ - ay)*(Rat.divInt (tv:Int) 255))) (6+(6+6+1+1)+1)
 | _=>fun _ _=>True
def B0_at7 (ax:Rat) (ay:Rat) (bx:Rat) (by_:Rat) (tv:Nat):BoxOp :=
 ⟨6,7,7,56,#[.bool false,.slice none 0 0,.slice none 0 0,.bool false,.slice none 0 0,.slice none 0 0],fun cs w=>∃ s A n c B m d t E i e F j f,cs=#[.bool s,.slice A n c,.slice B m d,.bool t,.slice E i e,.slice F j f]∧PG w s A n c B m d t E i e F j f ((ax+(bx - ax)*(Rat.divInt (tv:Int) 255))) ((ay+(by_ - ay)*(Rat.divInt (tv:Int) 255))) (6+(6+6+1+1)+1)⟩
theorem at7_region {id:Nat} {ac:Act} {Q:Exit→Act→World→Prop} {ax ay bx by_:Rat} {tv gp gq:Nat}
 (hsz:23 < ac.tmps.size) (e3:ac.eval (.tmp 3)=Value.pointer (some ⟨gp,0,none⟩)) (e4:ac.eval (.tmp 4)=Value.pointer (some ⟨gq,0,none⟩)) (e2:ac.eval (.tmp 2)=Value.int .u8 (tv:Int)) (XA:B6 w gp (.bool s_p) (.slice A_p n_p c_p) (.slice B_p m_p d_p) (.bool t_p) (.slice E_p i_p e_p) (.slice F_p j_p f_p)) (XB:B6 w gq (.bool s_q) (.slice A_q n_q c_q) (.slice B_q m_q d_q) (.bool t_q) (.slice E_q i_q e_q) (.slice F_q j_q f_q)) (p:PR w s_p A_p n_p c_p B_p m_p d_p t_p E_p i_p e_p F_p j_p f_p ax ay 6) (q:PR w s_q A_q n_q c_q B_q m_q d_q t_q E_q i_q e_q F_q j_q f_q bx by_ 6) (HT:(tv:Int)≤255)
 (hend:∀ (V:Nat→Value) (w':World) (g0:Nat) (s0:Bool) (A0:Option Addr) (n0:Nat) (c0:Nat) (B0:Option Addr) (m0:Nat) (d0:Nat) (t0:Bool) (E0:Option Addr) (i0:Nat) (e0:Nat) (F0:Option Addr) (j0:Nat) (f0:Nat),PG w' s0 A0 n0 c0 B0 m0 d0 t0 E0 i0 e0 F0 j0 f0 ((ax+(bx - ax)*(Rat.divInt (tv:Int) 255))) ((ay+(by_ - ay)*(Rat.divInt (tv:Int) 255))) (6+(6+6+1+1)+1)→B6 w' g0 (.bool s0) (.slice A0 n0 c0) (.slice B0 m0 d0) (.bool t0) (.slice E0 i0 e0) (.slice F0 j0 f0)→w.heap.size≤g0→V 7=.pointer (some ⟨g0,0,none⟩)→Below w.heap.size w w'→Q .normal (putAll ac [18,19,20,21,22,23,7] V) w') :
 (Code.region id #[o0_at7,o1_at7,o2_at7,o3_at7,o4_at7,o5_at7,o6_at7,o7_at7] true).wp Tryz.prog Q ac w:=by
 have hnd:L_at7.Nodup:=by decide
 have G:∀ (sv:Nat→Value) (t:Nat),t ∈ L_at7→t≤23→(putAll ac L_at7 sv).eval (.tmp t)=sv t:=fun sv t ht h=>eval_putAll_mem (t:=t) L_at7 ac hnd ht (Nat.lt_of_le_of_lt h hsz)
 have E3:∀ sv:Nat→Value,(putAll ac L_at7 sv).eval (.tmp 3)=Value.pointer (some ⟨gp,0,none⟩):=fun sv=>(eval_putAll_not (v:=sv) L_at7 ac (show 3 ∉ _ by decide)).trans e3
 have E4:∀ sv:Nat→Value,(putAll ac L_at7 sv).eval (.tmp 4)=Value.pointer (some ⟨gq,0,none⟩):=fun sv=>(eval_putAll_not (v:=sv) L_at7 ac (show 4 ∉ _ by decide)).trans e4
 have E2:∀ sv:Nat→Value,(putAll ac L_at7 sv).eval (.tmp 2)=Value.int .u8 (tv:Int):=fun sv=>(eval_putAll_not (v:=sv) L_at7 ac (show 2 ∉ _ by decide)).trans e2
 have NE:∀ t:Nat,(t ≠ 7)→∀ p ∈ [B0_at7 ax ay bx by_ tv],t ≠ p.tA:=by
  intro t ht p hp
  simp only [List.mem_cons,List.not_mem_nil,or_false] at hp
  rcases hp with rfl
  · exact ht
 refine wp_region_flows L_at7 [B0_at7 ax ay bx by_ tv] (F_at7 s_p t_p A_p B_p E_p F_p n_p c_p m_p d_p i_p e_p j_p f_p s_q t_q A_q B_q E_q F_q n_q c_q m_q d_q i_q e_q j_q f_q ax ay bx by_ tv) (by kernel_rfl) (by kernel_rfl) rfl hnd ?_ ?_ ?_ ?_ ?_ ?_ ?_ ?_
 · intro p hp
   simp only [List.mem_cons,List.not_mem_nil,or_false] at hp
   rcases hp with rfl
   · refine ⟨⟨o6_at7,rfl,rfl,rfl,fun e w'=>run_alloc6⟩,⟨o7_at7,rfl,rfl,rfl,⟨6,.data⟩,by simp [o7_at7],rfl,rfl⟩,free6 _ _ _ _ _ _ _ _ _ _ _ _ _ _,?_,?_⟩
     · rintro cs w1 w2 ⟨s_,A_,n_,c_,B_,m_,d_,t_,E_,i_,e_,F_,j_,f_,rfl,h⟩ hb;exact ⟨s_,A_,n_,c_,B_,m_,d_,t_,E_,i_,e_,F_,j_,f_,rfl,h.below hb⟩
     · rintro T cs w1 w2 g c0 ⟨s_,A_,n_,c_,B_,m_,d_,t_,E_,i_,e_,F_,j_,f_,rfl,h⟩ hB ho;exact ⟨s_,A_,n_,c_,B_,m_,d_,t_,E_,i_,e_,F_,j_,f_,rfl,h.box hB ho⟩
 · intro p hp q hq h
   simp only [List.mem_cons,List.not_mem_nil,or_false] at hp hq
   rcases hp with rfl <;> rcases hq with rfl
   · rfl
 · intro p hp q hq h
   simp only [List.mem_cons,List.not_mem_nil,or_false] at hp hq
   rcases hp with rfl <;> rcases hq with rfl
   · rfl
 · intro i o h1 h2
   match i,h1 with
   | 0,h1=>cases h1;cases h2
   | 1,h1=>cases h1;cases h2
   | 2,h1=>cases h1;cases h2
   | 3,h1=>cases h1;cases h2
   | 4,h1=>cases h1;cases h2
   | 5,h1=>cases h1;cases h2
   | 6,h1=>cases h1;cases h2
   | 7,h1=>exact ⟨B0_at7 ax ay bx by_ tv,List.Mem.head _,rfl⟩
   | i+8,h1=>cases h1
 · intro t
   unfold F_at7
   split <;> first | exact stays_eq _ | exact stays_q _ _ | exact stays_z _ _ | exact stays_r _ _ | exact stays_rq _ _ | exact stays_pg _ _ _ | exact stays_true
 · intro i o t sv w' ho hia hd J0 hf
   have p:=p.below J0;have q:=q.below J0;have XA:=XA.below J0;have XB:=XB.below J0
   match i,ho with
   | 0,ho =>
     obtain rfl:o0_at7=o:=Option.some.inj ho
     cases hd
     refine wpOp_plain' (o:=o0_at7) rfl rfl ?_
     unfold Oper.wp o0_at7
     rw [run_load6 (E3 sv) XA.c0 XA.c1 XA.c2 XA.c3 XA.c4 XA.c5,Oper.upon_value]
     exact ⟨_,rfl,Below.refl _ _,rfl⟩
   | 1,ho =>
     obtain rfl:o1_at7=o:=Option.some.inj ho
     cases hd
     refine wpOp_plain' (o:=o1_at7) rfl rfl ?_
     unfold Oper.wp o1_at7
     rw [run_load6 (E4 sv) XB.c0 XB.c1 XB.c2 XB.c3 XB.c4 XB.c5,Oper.upon_value]
     exact ⟨_,rfl,Below.refl _ _,rfl⟩
   | 2,ho =>
     obtain rfl:o2_at7=o:=Option.some.inj ho
     cases hd
     refine wpOp_plain' (o:=o2_at7) rfl rfl ?_
     unfold Oper.wp o2_at7
     rw [run_move (E2 sv),Oper.upon_value]
     exact ⟨_,rfl,Below.refl _ _,rfl⟩
   | 3,ho =>
     obtain rfl:o3_at7=o:=Option.some.inj ho
     cases hd
     have f20:sv 20=Value.int .u8 (tv:Int):=hf ⟨2,.data⟩ (by simp [o3_at7]) rfl _ 20 rfl rfl (NE _ (by decide))
     refine wpOp_plain' (o:=o3_at7) rfl rfl ?_
     unfold Oper.wp o3_at7
     rw [run_conv8 HT ((G sv 20 (by decide) (by decide)).trans f20),Oper.upon_value]
     exact ⟨_,rfl,Below.refl _ _,rfl⟩
   | 4,ho =>
     obtain rfl:o4_at7=o:=Option.some.inj ho
     cases hd
     have f21:sv 21=Value.int .i64 (tv:Int):=hf ⟨3,.data⟩ (by simp [o4_at7]) rfl _ 21 rfl rfl (NE _ (by decide))
     refine wpOp_plain' (o:=o4_at7) rfl rfl ?_
     unfold Oper.wp o4_at7
     rw [rc_gesso_rat_Of ((G sv 21 (by decide) (by decide)).trans f21) (show (putAll ac L_at7 sv).eval (.const (Value.int IntKind.i64 255))=(Value.int IntKind.i64 255) from rfl) rfl,Oper.upon_enter]
     refine (rof_q (tv:Int) 255 (by omega) (by omega) (by decide) (by decide) (by decide) _).mono ?_
     rintro e w1 ⟨s_,A_,n_,c_,B_,m_,d_,rfl,hq,hh⟩
     exact ⟨_,rfl,hh,s_,A_,n_,c_,B_,m_,d_,rfl,hq⟩
   | 5,ho =>
     obtain rfl:o5_at7=o:=Option.some.inj ho
     cases hd
     have f18:sv 18=Value.agg #[.bool s_p,.slice A_p n_p c_p,.slice B_p m_p d_p,.bool t_p,.slice E_p i_p e_p,.slice F_p j_p f_p]:=hf ⟨0,.data⟩ (by simp [o5_at7]) rfl _ 18 rfl rfl (NE _ (by decide))
     have f19:sv 19=Value.agg #[.bool s_q,.slice A_q n_q c_q,.slice B_q m_q d_q,.bool t_q,.slice E_q i_q e_q,.slice F_q j_q f_q]:=hf ⟨1,.data⟩ (by simp [o5_at7]) rfl _ 19 rfl rfl (NE _ (by decide))
     have h22:VQ ((Rat.divInt (tv:Int) 255)) (1) (sv 22) w':=hf ⟨4,.data⟩ (by simp [o5_at7]) rfl _ 22 rfl rfl (NE _ (by decide))
     obtain ⟨s22_,A22_,n22_,c22_,B22_,m22_,d22_,f22,q22⟩:=h22
     refine wpOp_plain' (o:=o5_at7) rfl rfl ?_
     unfold Oper.wp o5_at7
     rw [rc_gesso_pt_Mix ((G sv 18 (by decide) (by decide)).trans f18) ((G sv 19 (by decide) (by decide)).trans f19) ((G sv 22 (by decide) (by decide)).trans f22) rfl,Oper.upon_enter]
     refine (pmix_p p q q22.qr (by decide) (by decide) (by decide) (by decide) (by decide) (by decide)).mono ?_
     rintro e w1 ⟨s_,A_,n_,c_,B_,m_,d_,t_,E_,i_,e_,F_,j_,f_,rfl,hq,hh⟩
     exact ⟨_,rfl,hh,s_,A_,n_,c_,B_,m_,d_,t_,E_,i_,e_,F_,j_,f_,rfl,hq⟩
   | 6,ho=>cases ho;cases hd;exact absurd rfl (hia (B0_at7 ax ay bx by_ tv) (List.Mem.head _))
   | 7,ho=>cases ho;cases hd
   | i+8,ho=>cases ho
 · intro p hp os sv w' g hos J0 p1 p3 hf
   simp only [List.mem_cons,List.not_mem_nil,or_false] at hp
   rcases hp with rfl
   · obtain rfl:o7_at7=os:=Option.some.inj hos
     have h1:VPG ((ax+(bx - ax)*(Rat.divInt (tv:Int) 255))) ((ay+(by_ - ay)*(Rat.divInt (tv:Int) 255))) (6+(6+6+1+1)+1) (sv 23) w':=hf ⟨5,.data⟩ (by simp [o7_at7]) rfl _ 23 rfl rfl (NE _ (by decide))
     rw [← G sv 23 (by decide) (by decide)] at h1
     refine store_pg (x:=(ax+(bx - ax)*(Rat.divInt (tv:Int) 255))) (y:=(ay+(by_ - ay)*(Rat.divInt (tv:Int) 255))) (k:=6+(6+6+1+1)+1) (ac:=putAll ac L_at7 sv) (z:=.tmp 23) ?_ ?_ ?_
     · exact (G sv 7 (by decide) (by decide)).trans p1
     · exact h1
     · exact p3
 · intro sv w' J0 hF hB hap
   obtain ⟨g0,cs0,p0,r0,b0,⟨s0,A0,n0,c0,B0,m0,d0,t0,E0,i0,e0,F0,j0,f0,rfl,h0⟩⟩:=hB (B0_at7 ax ay bx by_ tv) (List.Mem.head _)
   have p0':sv 7=.pointer (some ⟨g0,0,none⟩):=p0
   exact hend sv w' g0 _ _ _ _ _ _ _ _ _ _ _ _ _ _ h0 b0.at_ r0 p0'  J0
theorem at_share {a b T:Rat} (h:a ≠ b) (h0:0≤T) (h1:T≤1):shareOK (a+(b - a)*T - a) (b - a):=by
 have hk:b - a ≠ 0:=fun e=>h (by grind)
 have e:(a+(b - a)*T - a) / (b - a)=T:=by
  refine eq_of_mul hk ?_
  rw [div_mul_self hk];grind
 exact ⟨hk,by rw [e];exact h0,by rw [e];exact h1⟩
theorem at_value {a b c d T:Rat} (h:a ≠ b):c+(a+(b - a)*T - a) / (b - a)*(d - c)=c+(d - c)*T:=by
 have hk:b - a ≠ 0:=fun e=>h (by grind)
 have e:(a+(b - a)*T - a) / (b - a)=T:=by
  refine eq_of_mul hk ?_
  rw [div_mul_self hk];grind
 rw [e];grind
theorem at_none {a b T:Rat} (h:a=b):¬ shareOK (a+(b - a)*T - a) (b - a):=fun q=>q.1 (by rw [h];grind)
theorem mkbx32_15 {w W:World} {x0 x1 x2 x3 x4 x5 x6 x7 x8 x9 x10 x11 x12 x13 x14 x15 x16 x17 x18 x19 x20 x21 x22 x23:Value} (h:(((w.alloc (Obj.cells #[x0,x1,x2,x3,x4,x5] 56)).alloc (Obj.cells #[x6,x7,x8,x9,x10,x11] 56)).alloc (Obj.cells #[x12,x13,x14,x15,x16,x17,x18,x19,x20,x21,x22,x23] 56))=W):Below w.heap.size w W∧B6 W (w.heap.size) x0 x1 x2 x3 x4 x5∧B6 W (w.heap.size+1) x6 x7 x8 x9 x10 x11∧BL2 W (w.heap.size+1+1) x12 x13 x14 x15 x16 x17 x18 x19 x20 x21 x22 x23∧W.heap.size=w.heap.size+3:=by subst h;exact ⟨by exact ((((Below.refl _ _).alloc (Nat.le_refl _) _).alloc (by simp) _).alloc (by simp;omega) _),by exact ((B6.new' _ _ _ _ _ _ _ _ rfl).alloc _).alloc _,by exact (B6.new' _ _ _ _ _ _ _ _ (by simp)).alloc _,by exact BL2.new' _ _ _ _ _ _ _ _ _ _ _ _ _ _ (by simp),by simp⟩
theorem at_l (t:Nat) (h:¬ (((n_p≤6∧m_p≤6)∧i_p≤6∧j_p≤6)∧((n_q≤6∧m_q≤6)∧i_q≤6∧j_q≤6))) :
 Calls Tryz.prog 8 #[.agg #[.bool s_p,.slice A_p n_p c_p,.slice B_p m_p d_p,.bool t_p,.slice E_p i_p e_p,.slice F_p j_p f_p],.agg #[.bool s_q,.slice A_q n_q c_q,.slice B_q m_q d_q,.bool t_q,.slice E_q i_q e_q,.slice F_q j_q f_q],.int .u8 (t:Int)] w fun e w'=>e=.returned (.bool true)∧Below w.heap.size w w':=by
 have HL:Hid (decide (((n_p≤6∧m_p≤6)∧i_p≤6∧j_p≤6)∧((n_q≤6∧m_q≤6)∧i_q≤6∧j_q≤6))=false):=decide_eq_false h
 clear h
 go_enter Tryz.func8,Tryz.ntmps8
 go_wp2_with fail
 generalize hW:World.alloc _ _=W
 obtain ⟨hb,XA,XB,XL,hzW⟩:=mkbx32_15 hW;clear hW
 go_wp2_with (first
  | (go_at_call 29;(with_reducible refine (fair2 XL false HL.out).mono ?_);rintro e w_z ⟨rfl,hh⟩
     replace hb:=bend hb hh)
  | (go_at_call 30;(with_reducible refine (segwakes_any _).mono ?_);rintro e w_z ⟨rfl,hh⟩
     replace hb:=bend hb hh))
 go_ret;exact ⟨rfl,hb⟩
theorem at_yy (t:Nat) {ax ay bx by_:Rat} (p:PR w s_p A_p n_p c_p B_p m_p d_p t_p E_p i_p e_p F_p j_p f_p ax ay 6) (q:PR w s_q A_q n_q c_q B_q m_q d_q t_q E_q i_q e_q F_q j_q f_q bx by_ 6) (h:(((n_p≤6∧m_p≤6)∧i_p≤6∧j_p≤6)∧((n_q≤6∧m_q≤6)∧i_q≤6∧j_q≤6))) (ht:t≤255) (hy:ay ≠ by_) (hx:ax ≠ bx) :
 Calls Tryz.prog 8 #[.agg #[.bool s_p,.slice A_p n_p c_p,.slice B_p m_p d_p,.bool t_p,.slice E_p i_p e_p,.slice F_p j_p f_p],.agg #[.bool s_q,.slice A_q n_q c_q,.slice B_q m_q d_q,.bool t_q,.slice E_q i_q e_q,.slice F_q j_q f_q],.int .u8 (t:Int)] w fun e w'=>e=.returned (.bool true)∧Below w.heap.size w w':=by
 have HL:Hid (decide (((n_p≤6∧m_p≤6)∧i_p≤6∧j_p≤6)∧((n_q≤6∧m_q≤6)∧i_q≤6∧j_q≤6))=true):=decide_eq_true h
 have hti:(t:Int)≤255:=by omega
 have hr:=tq_range ht
 have HO:Hid (onS (ax+(bx - ax)*(Rat.divInt (t:Int) 255)) (ay+(by_ - ay)*(Rat.divInt (t:Int) 255)) ax ay bx by_):=⟨_,hr.1,hr.2,rfl,rfl⟩
 obtain ⟨KY,hKY,hy0⟩:∃ K,cmpQ ay by_=K∧((K:Int) == 0)=false:=⟨_,rfl,by simpa using fun e=>hy (cmpQ_nul.1 e)⟩
 obtain ⟨KX,hKX,hx0⟩:∃ K,cmpQ ax bx=K∧((K:Int) == 0)=false:=⟨_,rfl,by simpa using fun e=>hx (cmpQ_nul.1 e)⟩
 have HY:=Lib.hid hKY;have HX:=Lib.hid hKX
 have SY:Hid (shareOK ((ay+(by_ - ay)*(Rat.divInt (t:Int) 255)) - ay) (by_ - ay)):=at_share hy hr.1 hr.2
 have CY:Hid (cmpQ (ax+((ay+(by_ - ay)*(Rat.divInt (t:Int) 255)) - ay) / (by_ - ay)*(bx - ax)) (ax+(bx - ax)*(Rat.divInt (t:Int) 255))=0):=cmpQ_nul.2 (at_value hy)
 have SX:Hid (shareOK ((ax+(bx - ax)*(Rat.divInt (t:Int) 255)) - ax) (bx - ax)):=at_share hx hr.1 hr.2
 have CX:Hid (cmpQ (ay+((ax+(bx - ax)*(Rat.divInt (t:Int) 255)) - ax) / (bx - ax)*(by_ - ay)) (ay+(by_ - ay)*(Rat.divInt (t:Int) 255))=0):=cmpQ_nul.2 (at_value hx)
 clear h hr ht hKY hKX hx hy
 go_enter Tryz.func8,Tryz.ntmps8
 go_wp2_with fail
 generalize hW:World.alloc _ _=W
 obtain ⟨hb,XA,XB,XL,hzW⟩:=mkbx32_15 hW;clear hW;replace p:=p.below hb;replace q:=q.below hb
 go_upto_region 3 with (first
  | (go_at_call 29;(with_reducible refine (fair2 XL true HL.out).mono ?_);rintro e w_z ⟨rfl,hh⟩
     clear XL;(try replace p:=p.below hh);(try replace q:=q.below hh);(try replace XA:=XA.below hh);(try replace XB:=XB.below hh);replace hb:=bend hb hh))
 refine at7_region (by simp) rfl rfl rfl XA XB p q hti ?_
 intro V w_o g_o s_o A_o n_o c_o B_o m_o d_o t_o E_o i_o e_o F_o j_o f_o o XO hg_o hvo hh
 simp only [putAll,Act.put,List.setIfInBounds_toArray,List.set_cons_zero,List.set_cons_succ,hvo]
 clear hvo;replace p:=p.below hh;replace q:=q.below hh;replace XA:=XA.below hh;replace XB:=XB.below hh;replace hb:=bend hb hh;obtain ⟨xa0,xa1,xa2,xa3,xa4,xa5⟩:=XA.all;obtain ⟨xb0,xb1,xb2,xb3,xb4,xb5⟩:=XB.all;obtain ⟨xo0,xo1,xo2,xo3,xo4,xo5⟩:=XO.all
 go_upto_region 5 with (first
  | (go_at_call 39;(with_reducible refine (level_yes (k:=21) (p.more (by decide)) (q.more (by decide)) o.pr.qy (by decide) (by decide) SY.out).mono ?_);rintro e w_r ⟨s_r,A_r,n_r,c_r,B_r,m_r,d_r,rfl,r,hh⟩
     (try replace p:=p.below hh);(try replace q:=q.below hh);(try replace XA:=XA.below hh);(try replace XB:=XB.below hh);(try replace o:=o.below hh);(try replace XO:=XO.below hh);replace hb:=bend hb hh))
 generalize hW:World.alloc _ _=W2
 obtain ⟨hh,XR,hzW2⟩:=mkbx8_8 hW;clear hW;(try replace p:=p.below hh);(try replace q:=q.below hh);(try replace XA:=XA.below hh);(try replace XB:=XB.below hh);(try replace o:=o.below hh);(try replace XO:=XO.below hh);(try replace r:=r.below hh);replace hb:=bend hb hh;obtain ⟨xa0,xa1,xa2,xa3,xa4,xa5⟩:=XA.all;obtain ⟨xb0,xb1,xb2,xb3,xb4,xb5⟩:=XB.all;obtain ⟨xo0,xo1,xo2,xo3,xo4,xo5⟩:=XO.all
 go_upto_region 6 with (first
  | (go_at_call 40;(with_reducible refine (upright_yes (k:=21) (p.more (by decide)) (q.more (by decide)) o.pr.qx (by decide) (by decide) SX.out).mono ?_);rintro e w_v ⟨s_v,A_v,n_v,c_v,B_v,m_v,d_v,rfl,v,hh⟩
     (try replace p:=p.below hh);(try replace q:=q.below hh);(try replace XA:=XA.below hh);(try replace XB:=XB.below hh);(try replace o:=o.below hh);(try replace XO:=XO.below hh);(try replace XR:=XR.below hh);(try replace r:=r.below hh);replace hb:=bend hb hh))
 generalize hW:World.alloc _ _=W3
 obtain ⟨hh,XV,hzW3⟩:=mkbx8_8 hW;clear hW;(try replace p:=p.below hh);(try replace q:=q.below hh);(try replace XA:=XA.below hh);(try replace XB:=XB.below hh);(try replace o:=o.below hh);(try replace XO:=XO.below hh);(try replace XR:=XR.below hh);(try replace r:=r.below hh);(try replace v:=v.below hh);replace hb:=bend hb hh;obtain ⟨xa0,xa1,xa2,xa3,xa4,xa5⟩:=XA.all;obtain ⟨xb0,xb1,xb2,xb3,xb4,xb5⟩:=XB.all;obtain ⟨xo0,xo1,xo2,xo3,xo4,xo5⟩:=XO.all;obtain ⟨xr0,xr1,xr2⟩:=XR.all;obtain ⟨xv0,xv1,xv2⟩:=XV.all
 go_wp2_with (first
  | (go_at_call 45;(with_reducible refine (rcmp_q r.qr o.pr.qx (by decide) (by decide) (.inl (by decide)) (by decide) (by decide)).mono ?_);rintro e w_z ⟨rfl,hh⟩
     rw [CY.out];(try replace p:=p.below hh);(try replace q:=q.below hh);(try replace XA:=XA.below hh);(try replace XB:=XB.below hh);(try replace o:=o.below hh);(try replace XO:=XO.below hh);(try replace XR:=XR.below hh);(try replace r:=r.below hh);(try replace XV:=XV.below hh);(try replace v:=v.below hh);replace hb:=bend hb hh;obtain ⟨xa0,xa1,xa2,xa3,xa4,xa5⟩:=XA.all;obtain ⟨xb0,xb1,xb2,xb3,xb4,xb5⟩:=XB.all;obtain ⟨xo0,xo1,xo2,xo3,xo4,xo5⟩:=XO.all;obtain ⟨xr0,xr1,xr2⟩:=XR.all;obtain ⟨xv0,xv1,xv2⟩:=XV.all)
  | (go_at_call 45;(with_reducible refine (rcmp_q v.qr o.pr.qy (by decide) (by decide) (.inl (by decide)) (by decide) (by decide)).mono ?_);rintro e w_z ⟨rfl,hh⟩
     rw [CX.out];(try replace p:=p.below hh);(try replace q:=q.below hh);(try replace XA:=XA.below hh);(try replace XB:=XB.below hh);(try replace o:=o.below hh);(try replace XO:=XO.below hh);(try replace XR:=XR.below hh);(try replace r:=r.below hh);(try replace XV:=XV.below hh);(try replace v:=v.below hh);replace hb:=bend hb hh;obtain ⟨xa0,xa1,xa2,xa3,xa4,xa5⟩:=XA.all;obtain ⟨xb0,xb1,xb2,xb3,xb4,xb5⟩:=XB.all;obtain ⟨xo0,xo1,xo2,xo3,xo4,xo5⟩:=XO.all;obtain ⟨xr0,xr1,xr2⟩:=XR.all;obtain ⟨xv0,xv1,xv2⟩:=XV.all)
  | (go_at_call 45;(with_reducible refine (rcmp_q p.qy q.qy (by decide) (by decide) (.inl (by decide)) (by decide) (by decide)).mono ?_);rintro e w_z ⟨rfl,hh⟩
     rw [HY.out];(try replace p:=p.below hh);(try replace q:=q.below hh);(try replace XA:=XA.below hh);(try replace XB:=XB.below hh);(try replace o:=o.below hh);(try replace XO:=XO.below hh);(try replace XR:=XR.below hh);(try replace r:=r.below hh);(try replace XV:=XV.below hh);(try replace v:=v.below hh);replace hb:=bend hb hh;obtain ⟨xa0,xa1,xa2,xa3,xa4,xa5⟩:=XA.all;obtain ⟨xb0,xb1,xb2,xb3,xb4,xb5⟩:=XB.all;obtain ⟨xo0,xo1,xo2,xo3,xo4,xo5⟩:=XO.all;obtain ⟨xr0,xr1,xr2⟩:=XR.all;obtain ⟨xv0,xv1,xv2⟩:=XV.all)
  | (go_at_call 45;(with_reducible refine (rcmp_q p.qx q.qx (by decide) (by decide) (.inl (by decide)) (by decide) (by decide)).mono ?_);rintro e w_z ⟨rfl,hh⟩
     rw [HX.out];(try replace p:=p.below hh);(try replace q:=q.below hh);(try replace XA:=XA.below hh);(try replace XB:=XB.below hh);(try replace o:=o.below hh);(try replace XO:=XO.below hh);(try replace XR:=XR.below hh);(try replace r:=r.below hh);(try replace XV:=XV.below hh);(try replace v:=v.below hh);replace hb:=bend hb hh;obtain ⟨xa0,xa1,xa2,xa3,xa4,xa5⟩:=XA.all;obtain ⟨xb0,xb1,xb2,xb3,xb4,xb5⟩:=XB.all;obtain ⟨xo0,xo1,xo2,xo3,xo4,xo5⟩:=XO.all;obtain ⟨xr0,xr1,xr2⟩:=XR.all;obtain ⟨xv0,xv1,xv2⟩:=XV.all)
  | (go_at_call 36;(with_reducible refine (onw_yes o.pr p q (by decide) (by decide) (by decide) HO.out).mono ?_);rintro e w_z ⟨rfl,hh⟩
     (try replace p:=p.below hh);(try replace q:=q.below hh);(try replace XA:=XA.below hh);(try replace XB:=XB.below hh);(try replace o:=o.below hh);(try replace XO:=XO.below hh);(try replace XR:=XR.below hh);(try replace r:=r.below hh);(try replace XV:=XV.below hh);(try replace v:=v.below hh);replace hb:=bend hb hh;obtain ⟨xa0,xa1,xa2,xa3,xa4,xa5⟩:=XA.all;obtain ⟨xb0,xb1,xb2,xb3,xb4,xb5⟩:=XB.all;obtain ⟨xo0,xo1,xo2,xo3,xo4,xo5⟩:=XO.all;obtain ⟨xr0,xr1,xr2⟩:=XR.all;obtain ⟨xv0,xv1,xv2⟩:=XV.all)
  | (go_at_call 30;(with_reducible refine (segwakes_any _).mono ?_);rintro e w_z ⟨rfl,hh⟩
     (try replace p:=p.below hh);(try replace q:=q.below hh);(try replace XA:=XA.below hh);(try replace XB:=XB.below hh);(try replace o:=o.below hh);(try replace XO:=XO.below hh);(try replace XR:=XR.below hh);(try replace r:=r.below hh);(try replace XV:=XV.below hh);(try replace v:=v.below hh);replace hb:=bend hb hh;obtain ⟨xa0,xa1,xa2,xa3,xa4,xa5⟩:=XA.all;obtain ⟨xb0,xb1,xb2,xb3,xb4,xb5⟩:=XB.all;obtain ⟨xo0,xo1,xo2,xo3,xo4,xo5⟩:=XO.all;obtain ⟨xr0,xr1,xr2⟩:=XR.all;obtain ⟨xv0,xv1,xv2⟩:=XV.all))
 go_ret;exact ⟨rfl,hb⟩
theorem at_yn (t:Nat) {ax ay bx by_:Rat} (p:PR w s_p A_p n_p c_p B_p m_p d_p t_p E_p i_p e_p F_p j_p f_p ax ay 6) (q:PR w s_q A_q n_q c_q B_q m_q d_q t_q E_q i_q e_q F_q j_q f_q bx by_ 6) (h:(((n_p≤6∧m_p≤6)∧i_p≤6∧j_p≤6)∧((n_q≤6∧m_q≤6)∧i_q≤6∧j_q≤6))) (ht:t≤255) (hy:ay ≠ by_) (hx:ax=bx) :
 Calls Tryz.prog 8 #[.agg #[.bool s_p,.slice A_p n_p c_p,.slice B_p m_p d_p,.bool t_p,.slice E_p i_p e_p,.slice F_p j_p f_p],.agg #[.bool s_q,.slice A_q n_q c_q,.slice B_q m_q d_q,.bool t_q,.slice E_q i_q e_q,.slice F_q j_q f_q],.int .u8 (t:Int)] w fun e w'=>e=.returned (.bool true)∧Below w.heap.size w w':=by
 have HL:Hid (decide (((n_p≤6∧m_p≤6)∧i_p≤6∧j_p≤6)∧((n_q≤6∧m_q≤6)∧i_q≤6∧j_q≤6))=true):=decide_eq_true h
 have hti:(t:Int)≤255:=by omega
 have hr:=tq_range ht
 have HO:Hid (onS (ax+(bx - ax)*(Rat.divInt (t:Int) 255)) (ay+(by_ - ay)*(Rat.divInt (t:Int) 255)) ax ay bx by_):=⟨_,hr.1,hr.2,rfl,rfl⟩
 obtain ⟨KY,hKY,hy0⟩:∃ K,cmpQ ay by_=K∧((K:Int) == 0)=false:=⟨_,rfl,by simpa using fun e=>hy (cmpQ_nul.1 e)⟩
 obtain ⟨KX,hKX,hx0⟩:∃ K,cmpQ ax bx=K∧((K:Int) == 0)=true:=⟨_,rfl,by rw [cmpQ_nul.2 hx];rfl⟩
 have HY:=Lib.hid hKY;have HX:=Lib.hid hKX
 have SY:Hid (shareOK ((ay+(by_ - ay)*(Rat.divInt (t:Int) 255)) - ay) (by_ - ay)):=at_share hy hr.1 hr.2
 have CY:Hid (cmpQ (ax+((ay+(by_ - ay)*(Rat.divInt (t:Int) 255)) - ay) / (by_ - ay)*(bx - ax)) (ax+(bx - ax)*(Rat.divInt (t:Int) 255))=0):=cmpQ_nul.2 (at_value hy)
 have SX:Hid (¬ shareOK ((ax+(bx - ax)*(Rat.divInt (t:Int) 255)) - ax) (bx - ax)):=at_none hx
 clear h hr ht hKY hKX hx hy
 go_enter Tryz.func8,Tryz.ntmps8
 go_wp2_with fail
 generalize hW:World.alloc _ _=W
 obtain ⟨hb,XA,XB,XL,hzW⟩:=mkbx32_15 hW;clear hW;replace p:=p.below hb;replace q:=q.below hb
 go_upto_region 3 with (first
  | (go_at_call 29;(with_reducible refine (fair2 XL true HL.out).mono ?_);rintro e w_z ⟨rfl,hh⟩
     clear XL;(try replace p:=p.below hh);(try replace q:=q.below hh);(try replace XA:=XA.below hh);(try replace XB:=XB.below hh);replace hb:=bend hb hh))
 refine at7_region (by simp) rfl rfl rfl XA XB p q hti ?_
 intro V w_o g_o s_o A_o n_o c_o B_o m_o d_o t_o E_o i_o e_o F_o j_o f_o o XO hg_o hvo hh
 simp only [putAll,Act.put,List.setIfInBounds_toArray,List.set_cons_zero,List.set_cons_succ,hvo]
 clear hvo;replace p:=p.below hh;replace q:=q.below hh;replace XA:=XA.below hh;replace XB:=XB.below hh;replace hb:=bend hb hh;obtain ⟨xa0,xa1,xa2,xa3,xa4,xa5⟩:=XA.all;obtain ⟨xb0,xb1,xb2,xb3,xb4,xb5⟩:=XB.all;obtain ⟨xo0,xo1,xo2,xo3,xo4,xo5⟩:=XO.all
 go_upto_region 5 with (first
  | (go_at_call 39;(with_reducible refine (level_yes (k:=21) (p.more (by decide)) (q.more (by decide)) o.pr.qy (by decide) (by decide) SY.out).mono ?_);rintro e w_r ⟨s_r,A_r,n_r,c_r,B_r,m_r,d_r,rfl,r,hh⟩
     (try replace p:=p.below hh);(try replace q:=q.below hh);(try replace XA:=XA.below hh);(try replace XB:=XB.below hh);(try replace o:=o.below hh);(try replace XO:=XO.below hh);replace hb:=bend hb hh))
 generalize hW:World.alloc _ _=W2
 obtain ⟨hh,XR,hzW2⟩:=mkbx8_8 hW;clear hW;(try replace p:=p.below hh);(try replace q:=q.below hh);(try replace XA:=XA.below hh);(try replace XB:=XB.below hh);(try replace o:=o.below hh);(try replace XO:=XO.below hh);(try replace r:=r.below hh);replace hb:=bend hb hh;obtain ⟨xa0,xa1,xa2,xa3,xa4,xa5⟩:=XA.all;obtain ⟨xb0,xb1,xb2,xb3,xb4,xb5⟩:=XB.all;obtain ⟨xo0,xo1,xo2,xo3,xo4,xo5⟩:=XO.all
 go_upto_region 6 with (first
  | (go_at_call 40;(with_reducible refine (upright_no (k:=21) (p.more (by decide)) (q.more (by decide)) o.pr.qx (by decide) (by decide) SX.out).mono ?_);rintro e w_v ⟨rfl,hh⟩
     (try replace p:=p.below hh);(try replace q:=q.below hh);(try replace XA:=XA.below hh);(try replace XB:=XB.below hh);(try replace o:=o.below hh);(try replace XO:=XO.below hh);(try replace XR:=XR.below hh);(try replace r:=r.below hh);replace hb:=bend hb hh))
 generalize hW:World.alloc _ _=W3
 obtain ⟨hh,XV,hzW3⟩:=mkbx8_8 hW;clear hW;(try replace p:=p.below hh);(try replace q:=q.below hh);(try replace XA:=XA.below hh);(try replace XB:=XB.below hh);(try replace o:=o.below hh);(try replace XO:=XO.below hh);(try replace XR:=XR.below hh);(try replace r:=r.below hh);replace hb:=bend hb hh;obtain ⟨xa0,xa1,xa2,xa3,xa4,xa5⟩:=XA.all;obtain ⟨xb0,xb1,xb2,xb3,xb4,xb5⟩:=XB.all;obtain ⟨xo0,xo1,xo2,xo3,xo4,xo5⟩:=XO.all;obtain ⟨xr0,xr1,xr2⟩:=XR.all;obtain ⟨xv0,xv1,xv2⟩:=XV.all
 go_wp2_with (first
  | (go_at_call 45;(with_reducible refine (rcmp_q r.qr o.pr.qx (by decide) (by decide) (.inl (by decide)) (by decide) (by decide)).mono ?_);rintro e w_z ⟨rfl,hh⟩
     rw [CY.out];(try replace p:=p.below hh);(try replace q:=q.below hh);(try replace XA:=XA.below hh);(try replace XB:=XB.below hh);(try replace o:=o.below hh);(try replace XO:=XO.below hh);(try replace XR:=XR.below hh);(try replace r:=r.below hh);(try replace XV:=XV.below hh);replace hb:=bend hb hh;obtain ⟨xa0,xa1,xa2,xa3,xa4,xa5⟩:=XA.all;obtain ⟨xb0,xb1,xb2,xb3,xb4,xb5⟩:=XB.all;obtain ⟨xo0,xo1,xo2,xo3,xo4,xo5⟩:=XO.all;obtain ⟨xr0,xr1,xr2⟩:=XR.all;obtain ⟨xv0,xv1,xv2⟩:=XV.all)
  | (go_at_call 45;(with_reducible refine (rcmp_q p.qy q.qy (by decide) (by decide) (.inl (by decide)) (by decide) (by decide)).mono ?_);rintro e w_z ⟨rfl,hh⟩
     rw [HY.out];(try replace p:=p.below hh);(try replace q:=q.below hh);(try replace XA:=XA.below hh);(try replace XB:=XB.below hh);(try replace o:=o.below hh);(try replace XO:=XO.below hh);(try replace XR:=XR.below hh);(try replace r:=r.below hh);(try replace XV:=XV.below hh);replace hb:=bend hb hh;obtain ⟨xa0,xa1,xa2,xa3,xa4,xa5⟩:=XA.all;obtain ⟨xb0,xb1,xb2,xb3,xb4,xb5⟩:=XB.all;obtain ⟨xo0,xo1,xo2,xo3,xo4,xo5⟩:=XO.all;obtain ⟨xr0,xr1,xr2⟩:=XR.all;obtain ⟨xv0,xv1,xv2⟩:=XV.all)
  | (go_at_call 45;(with_reducible refine (rcmp_q p.qx q.qx (by decide) (by decide) (.inl (by decide)) (by decide) (by decide)).mono ?_);rintro e w_z ⟨rfl,hh⟩
     rw [HX.out];(try replace p:=p.below hh);(try replace q:=q.below hh);(try replace XA:=XA.below hh);(try replace XB:=XB.below hh);(try replace o:=o.below hh);(try replace XO:=XO.below hh);(try replace XR:=XR.below hh);(try replace r:=r.below hh);(try replace XV:=XV.below hh);replace hb:=bend hb hh;obtain ⟨xa0,xa1,xa2,xa3,xa4,xa5⟩:=XA.all;obtain ⟨xb0,xb1,xb2,xb3,xb4,xb5⟩:=XB.all;obtain ⟨xo0,xo1,xo2,xo3,xo4,xo5⟩:=XO.all;obtain ⟨xr0,xr1,xr2⟩:=XR.all;obtain ⟨xv0,xv1,xv2⟩:=XV.all)
  | (go_at_call 36;(with_reducible refine (onw_yes o.pr p q (by decide) (by decide) (by decide) HO.out).mono ?_);rintro e w_z ⟨rfl,hh⟩
     (try replace p:=p.below hh);(try replace q:=q.below hh);(try replace XA:=XA.below hh);(try replace XB:=XB.below hh);(try replace o:=o.below hh);(try replace XO:=XO.below hh);(try replace XR:=XR.below hh);(try replace r:=r.below hh);(try replace XV:=XV.below hh);replace hb:=bend hb hh;obtain ⟨xa0,xa1,xa2,xa3,xa4,xa5⟩:=XA.all;obtain ⟨xb0,xb1,xb2,xb3,xb4,xb5⟩:=XB.all;obtain ⟨xo0,xo1,xo2,xo3,xo4,xo5⟩:=XO.all;obtain ⟨xr0,xr1,xr2⟩:=XR.all;obtain ⟨xv0,xv1,xv2⟩:=XV.all)
  | (go_at_call 30;(with_reducible refine (segwakes_any _).mono ?_);rintro e w_z ⟨rfl,hh⟩
     (try replace p:=p.below hh);(try replace q:=q.below hh);(try replace XA:=XA.below hh);(try replace XB:=XB.below hh);(try replace o:=o.below hh);(try replace XO:=XO.below hh);(try replace XR:=XR.below hh);(try replace r:=r.below hh);(try replace XV:=XV.below hh);replace hb:=bend hb hh;obtain ⟨xa0,xa1,xa2,xa3,xa4,xa5⟩:=XA.all;obtain ⟨xb0,xb1,xb2,xb3,xb4,xb5⟩:=XB.all;obtain ⟨xo0,xo1,xo2,xo3,xo4,xo5⟩:=XO.all;obtain ⟨xr0,xr1,xr2⟩:=XR.all;obtain ⟨xv0,xv1,xv2⟩:=XV.all))
 go_ret;exact ⟨rfl,hb⟩
theorem at_ny (t:Nat) {ax ay bx by_:Rat} (p:PR w s_p A_p n_p c_p B_p m_p d_p t_p E_p i_p e_p F_p j_p f_p ax ay 6) (q:PR w s_q A_q n_q c_q B_q m_q d_q t_q E_q i_q e_q F_q j_q f_q bx by_ 6) (h:(((n_p≤6∧m_p≤6)∧i_p≤6∧j_p≤6)∧((n_q≤6∧m_q≤6)∧i_q≤6∧j_q≤6))) (ht:t≤255) (hy:ay=by_) (hx:ax ≠ bx) :
 Calls Tryz.prog 8 #[.agg #[.bool s_p,.slice A_p n_p c_p,.slice B_p m_p d_p,.bool t_p,.slice E_p i_p e_p,.slice F_p j_p f_p],.agg #[.bool s_q,.slice A_q n_q c_q,.slice B_q m_q d_q,.bool t_q,.slice E_q i_q e_q,.slice F_q j_q f_q],.int .u8 (t:Int)] w fun e w'=>e=.returned (.bool true)∧Below w.heap.size w w':=by
 have HL:Hid (decide (((n_p≤6∧m_p≤6)∧i_p≤6∧j_p≤6)∧((n_q≤6∧m_q≤6)∧i_q≤6∧j_q≤6))=true):=decide_eq_true h
 have hti:(t:Int)≤255:=by omega
 have hr:=tq_range ht
 have HO:Hid (onS (ax+(bx - ax)*(Rat.divInt (t:Int) 255)) (ay+(by_ - ay)*(Rat.divInt (t:Int) 255)) ax ay bx by_):=⟨_,hr.1,hr.2,rfl,rfl⟩
 obtain ⟨KY,hKY,hy0⟩:∃ K,cmpQ ay by_=K∧((K:Int) == 0)=true:=⟨_,rfl,by rw [cmpQ_nul.2 hy];rfl⟩
 obtain ⟨KX,hKX,hx0⟩:∃ K,cmpQ ax bx=K∧((K:Int) == 0)=false:=⟨_,rfl,by simpa using fun e=>hx (cmpQ_nul.1 e)⟩
 have HY:=Lib.hid hKY;have HX:=Lib.hid hKX
 have SY:Hid (¬ shareOK ((ay+(by_ - ay)*(Rat.divInt (t:Int) 255)) - ay) (by_ - ay)):=at_none hy
 have SX:Hid (shareOK ((ax+(bx - ax)*(Rat.divInt (t:Int) 255)) - ax) (bx - ax)):=at_share hx hr.1 hr.2
 have CX:Hid (cmpQ (ay+((ax+(bx - ax)*(Rat.divInt (t:Int) 255)) - ax) / (bx - ax)*(by_ - ay)) (ay+(by_ - ay)*(Rat.divInt (t:Int) 255))=0):=cmpQ_nul.2 (at_value hx)
 clear h hr ht hKY hKX hx hy
 go_enter Tryz.func8,Tryz.ntmps8
 go_wp2_with fail
 generalize hW:World.alloc _ _=W
 obtain ⟨hb,XA,XB,XL,hzW⟩:=mkbx32_15 hW;clear hW;replace p:=p.below hb;replace q:=q.below hb
 go_upto_region 3 with (first
  | (go_at_call 29;(with_reducible refine (fair2 XL true HL.out).mono ?_);rintro e w_z ⟨rfl,hh⟩
     clear XL;(try replace p:=p.below hh);(try replace q:=q.below hh);(try replace XA:=XA.below hh);(try replace XB:=XB.below hh);replace hb:=bend hb hh))
 refine at7_region (by simp) rfl rfl rfl XA XB p q hti ?_
 intro V w_o g_o s_o A_o n_o c_o B_o m_o d_o t_o E_o i_o e_o F_o j_o f_o o XO hg_o hvo hh
 simp only [putAll,Act.put,List.setIfInBounds_toArray,List.set_cons_zero,List.set_cons_succ,hvo]
 clear hvo;replace p:=p.below hh;replace q:=q.below hh;replace XA:=XA.below hh;replace XB:=XB.below hh;replace hb:=bend hb hh;obtain ⟨xa0,xa1,xa2,xa3,xa4,xa5⟩:=XA.all;obtain ⟨xb0,xb1,xb2,xb3,xb4,xb5⟩:=XB.all;obtain ⟨xo0,xo1,xo2,xo3,xo4,xo5⟩:=XO.all
 go_upto_region 5 with (first
  | (go_at_call 39;(with_reducible refine (level_no (k:=21) (p.more (by decide)) (q.more (by decide)) o.pr.qy (by decide) (by decide) SY.out).mono ?_);rintro e w_r ⟨rfl,hh⟩
     (try replace p:=p.below hh);(try replace q:=q.below hh);(try replace XA:=XA.below hh);(try replace XB:=XB.below hh);(try replace o:=o.below hh);(try replace XO:=XO.below hh);replace hb:=bend hb hh))
 generalize hW:World.alloc _ _=W2
 obtain ⟨hh,XR,hzW2⟩:=mkbx8_8 hW;clear hW;(try replace p:=p.below hh);(try replace q:=q.below hh);(try replace XA:=XA.below hh);(try replace XB:=XB.below hh);(try replace o:=o.below hh);(try replace XO:=XO.below hh);replace hb:=bend hb hh;obtain ⟨xa0,xa1,xa2,xa3,xa4,xa5⟩:=XA.all;obtain ⟨xb0,xb1,xb2,xb3,xb4,xb5⟩:=XB.all;obtain ⟨xo0,xo1,xo2,xo3,xo4,xo5⟩:=XO.all
 go_upto_region 6 with (first
  | (go_at_call 40;(with_reducible refine (upright_yes (k:=21) (p.more (by decide)) (q.more (by decide)) o.pr.qx (by decide) (by decide) SX.out).mono ?_);rintro e w_v ⟨s_v,A_v,n_v,c_v,B_v,m_v,d_v,rfl,v,hh⟩
     (try replace p:=p.below hh);(try replace q:=q.below hh);(try replace XA:=XA.below hh);(try replace XB:=XB.below hh);(try replace o:=o.below hh);(try replace XO:=XO.below hh);(try replace XR:=XR.below hh);replace hb:=bend hb hh))
 generalize hW:World.alloc _ _=W3
 obtain ⟨hh,XV,hzW3⟩:=mkbx8_8 hW;clear hW;(try replace p:=p.below hh);(try replace q:=q.below hh);(try replace XA:=XA.below hh);(try replace XB:=XB.below hh);(try replace o:=o.below hh);(try replace XO:=XO.below hh);(try replace XR:=XR.below hh);(try replace v:=v.below hh);replace hb:=bend hb hh;obtain ⟨xa0,xa1,xa2,xa3,xa4,xa5⟩:=XA.all;obtain ⟨xb0,xb1,xb2,xb3,xb4,xb5⟩:=XB.all;obtain ⟨xo0,xo1,xo2,xo3,xo4,xo5⟩:=XO.all;obtain ⟨xr0,xr1,xr2⟩:=XR.all;obtain ⟨xv0,xv1,xv2⟩:=XV.all
 go_wp2_with (first
  | (go_at_call 45;(with_reducible refine (rcmp_q v.qr o.pr.qy (by decide) (by decide) (.inl (by decide)) (by decide) (by decide)).mono ?_);rintro e w_z ⟨rfl,hh⟩
     rw [CX.out];(try replace p:=p.below hh);(try replace q:=q.below hh);(try replace XA:=XA.below hh);(try replace XB:=XB.below hh);(try replace o:=o.below hh);(try replace XO:=XO.below hh);(try replace XR:=XR.below hh);(try replace XV:=XV.below hh);(try replace v:=v.below hh);replace hb:=bend hb hh;obtain ⟨xa0,xa1,xa2,xa3,xa4,xa5⟩:=XA.all;obtain ⟨xb0,xb1,xb2,xb3,xb4,xb5⟩:=XB.all;obtain ⟨xo0,xo1,xo2,xo3,xo4,xo5⟩:=XO.all;obtain ⟨xr0,xr1,xr2⟩:=XR.all;obtain ⟨xv0,xv1,xv2⟩:=XV.all)
  | (go_at_call 45;(with_reducible refine (rcmp_q p.qy q.qy (by decide) (by decide) (.inl (by decide)) (by decide) (by decide)).mono ?_);rintro e w_z ⟨rfl,hh⟩
     rw [HY.out];(try replace p:=p.below hh);(try replace q:=q.below hh);(try replace XA:=XA.below hh);(try replace XB:=XB.below hh);(try replace o:=o.below hh);(try replace XO:=XO.below hh);(try replace XR:=XR.below hh);(try replace XV:=XV.below hh);(try replace v:=v.below hh);replace hb:=bend hb hh;obtain ⟨xa0,xa1,xa2,xa3,xa4,xa5⟩:=XA.all;obtain ⟨xb0,xb1,xb2,xb3,xb4,xb5⟩:=XB.all;obtain ⟨xo0,xo1,xo2,xo3,xo4,xo5⟩:=XO.all;obtain ⟨xr0,xr1,xr2⟩:=XR.all;obtain ⟨xv0,xv1,xv2⟩:=XV.all)
  | (go_at_call 45;(with_reducible refine (rcmp_q p.qx q.qx (by decide) (by decide) (.inl (by decide)) (by decide) (by decide)).mono ?_);rintro e w_z ⟨rfl,hh⟩
     rw [HX.out];(try replace p:=p.below hh);(try replace q:=q.below hh);(try replace XA:=XA.below hh);(try replace XB:=XB.below hh);(try replace o:=o.below hh);(try replace XO:=XO.below hh);(try replace XR:=XR.below hh);(try replace XV:=XV.below hh);(try replace v:=v.below hh);replace hb:=bend hb hh;obtain ⟨xa0,xa1,xa2,xa3,xa4,xa5⟩:=XA.all;obtain ⟨xb0,xb1,xb2,xb3,xb4,xb5⟩:=XB.all;obtain ⟨xo0,xo1,xo2,xo3,xo4,xo5⟩:=XO.all;obtain ⟨xr0,xr1,xr2⟩:=XR.all;obtain ⟨xv0,xv1,xv2⟩:=XV.all)
  | (go_at_call 36;(with_reducible refine (onw_yes o.pr p q (by decide) (by decide) (by decide) HO.out).mono ?_);rintro e w_z ⟨rfl,hh⟩
     (try replace p:=p.below hh);(try replace q:=q.below hh);(try replace XA:=XA.below hh);(try replace XB:=XB.below hh);(try replace o:=o.below hh);(try replace XO:=XO.below hh);(try replace XR:=XR.below hh);(try replace XV:=XV.below hh);(try replace v:=v.below hh);replace hb:=bend hb hh;obtain ⟨xa0,xa1,xa2,xa3,xa4,xa5⟩:=XA.all;obtain ⟨xb0,xb1,xb2,xb3,xb4,xb5⟩:=XB.all;obtain ⟨xo0,xo1,xo2,xo3,xo4,xo5⟩:=XO.all;obtain ⟨xr0,xr1,xr2⟩:=XR.all;obtain ⟨xv0,xv1,xv2⟩:=XV.all)
  | (go_at_call 30;(with_reducible refine (segwakes_any _).mono ?_);rintro e w_z ⟨rfl,hh⟩
     (try replace p:=p.below hh);(try replace q:=q.below hh);(try replace XA:=XA.below hh);(try replace XB:=XB.below hh);(try replace o:=o.below hh);(try replace XO:=XO.below hh);(try replace XR:=XR.below hh);(try replace XV:=XV.below hh);(try replace v:=v.below hh);replace hb:=bend hb hh;obtain ⟨xa0,xa1,xa2,xa3,xa4,xa5⟩:=XA.all;obtain ⟨xb0,xb1,xb2,xb3,xb4,xb5⟩:=XB.all;obtain ⟨xo0,xo1,xo2,xo3,xo4,xo5⟩:=XO.all;obtain ⟨xr0,xr1,xr2⟩:=XR.all;obtain ⟨xv0,xv1,xv2⟩:=XV.all))
 go_ret;exact ⟨rfl,hb⟩
theorem at_nn (t:Nat) {ax ay bx by_:Rat} (p:PR w s_p A_p n_p c_p B_p m_p d_p t_p E_p i_p e_p F_p j_p f_p ax ay 6) (q:PR w s_q A_q n_q c_q B_q m_q d_q t_q E_q i_q e_q F_q j_q f_q bx by_ 6) (h:(((n_p≤6∧m_p≤6)∧i_p≤6∧j_p≤6)∧((n_q≤6∧m_q≤6)∧i_q≤6∧j_q≤6))) (ht:t≤255) (hy:ay=by_) (hx:ax=bx) :
 Calls Tryz.prog 8 #[.agg #[.bool s_p,.slice A_p n_p c_p,.slice B_p m_p d_p,.bool t_p,.slice E_p i_p e_p,.slice F_p j_p f_p],.agg #[.bool s_q,.slice A_q n_q c_q,.slice B_q m_q d_q,.bool t_q,.slice E_q i_q e_q,.slice F_q j_q f_q],.int .u8 (t:Int)] w fun e w'=>e=.returned (.bool true)∧Below w.heap.size w w':=by
 have HL:Hid (decide (((n_p≤6∧m_p≤6)∧i_p≤6∧j_p≤6)∧((n_q≤6∧m_q≤6)∧i_q≤6∧j_q≤6))=true):=decide_eq_true h
 have hti:(t:Int)≤255:=by omega
 have hr:=tq_range ht
 have HO:Hid (onS (ax+(bx - ax)*(Rat.divInt (t:Int) 255)) (ay+(by_ - ay)*(Rat.divInt (t:Int) 255)) ax ay bx by_):=⟨_,hr.1,hr.2,rfl,rfl⟩
 obtain ⟨KY,hKY,hy0⟩:∃ K,cmpQ ay by_=K∧((K:Int) == 0)=true:=⟨_,rfl,by rw [cmpQ_nul.2 hy];rfl⟩
 obtain ⟨KX,hKX,hx0⟩:∃ K,cmpQ ax bx=K∧((K:Int) == 0)=true:=⟨_,rfl,by rw [cmpQ_nul.2 hx];rfl⟩
 have HY:=Lib.hid hKY;have HX:=Lib.hid hKX
 have SY:Hid (¬ shareOK ((ay+(by_ - ay)*(Rat.divInt (t:Int) 255)) - ay) (by_ - ay)):=at_none hy
 have SX:Hid (¬ shareOK ((ax+(bx - ax)*(Rat.divInt (t:Int) 255)) - ax) (bx - ax)):=at_none hx
 clear h hr ht hKY hKX hx hy
 go_enter Tryz.func8,Tryz.ntmps8
 go_wp2_with fail
 generalize hW:World.alloc _ _=W
 obtain ⟨hb,XA,XB,XL,hzW⟩:=mkbx32_15 hW;clear hW;replace p:=p.below hb;replace q:=q.below hb
 go_upto_region 3 with (first
  | (go_at_call 29;(with_reducible refine (fair2 XL true HL.out).mono ?_);rintro e w_z ⟨rfl,hh⟩
     clear XL;(try replace p:=p.below hh);(try replace q:=q.below hh);(try replace XA:=XA.below hh);(try replace XB:=XB.below hh);replace hb:=bend hb hh))
 refine at7_region (by simp) rfl rfl rfl XA XB p q hti ?_
 intro V w_o g_o s_o A_o n_o c_o B_o m_o d_o t_o E_o i_o e_o F_o j_o f_o o XO hg_o hvo hh
 simp only [putAll,Act.put,List.setIfInBounds_toArray,List.set_cons_zero,List.set_cons_succ,hvo]
 clear hvo;replace p:=p.below hh;replace q:=q.below hh;replace XA:=XA.below hh;replace XB:=XB.below hh;replace hb:=bend hb hh;obtain ⟨xa0,xa1,xa2,xa3,xa4,xa5⟩:=XA.all;obtain ⟨xb0,xb1,xb2,xb3,xb4,xb5⟩:=XB.all;obtain ⟨xo0,xo1,xo2,xo3,xo4,xo5⟩:=XO.all
 go_upto_region 5 with (first
  | (go_at_call 39;(with_reducible refine (level_no (k:=21) (p.more (by decide)) (q.more (by decide)) o.pr.qy (by decide) (by decide) SY.out).mono ?_);rintro e w_r ⟨rfl,hh⟩
     (try replace p:=p.below hh);(try replace q:=q.below hh);(try replace XA:=XA.below hh);(try replace XB:=XB.below hh);(try replace o:=o.below hh);(try replace XO:=XO.below hh);replace hb:=bend hb hh))
 generalize hW:World.alloc _ _=W2
 obtain ⟨hh,XR,hzW2⟩:=mkbx8_8 hW;clear hW;(try replace p:=p.below hh);(try replace q:=q.below hh);(try replace XA:=XA.below hh);(try replace XB:=XB.below hh);(try replace o:=o.below hh);(try replace XO:=XO.below hh);replace hb:=bend hb hh;obtain ⟨xa0,xa1,xa2,xa3,xa4,xa5⟩:=XA.all;obtain ⟨xb0,xb1,xb2,xb3,xb4,xb5⟩:=XB.all;obtain ⟨xo0,xo1,xo2,xo3,xo4,xo5⟩:=XO.all
 go_upto_region 6 with (first
  | (go_at_call 40;(with_reducible refine (upright_no (k:=21) (p.more (by decide)) (q.more (by decide)) o.pr.qx (by decide) (by decide) SX.out).mono ?_);rintro e w_v ⟨rfl,hh⟩
     (try replace p:=p.below hh);(try replace q:=q.below hh);(try replace XA:=XA.below hh);(try replace XB:=XB.below hh);(try replace o:=o.below hh);(try replace XO:=XO.below hh);(try replace XR:=XR.below hh);replace hb:=bend hb hh))
 generalize hW:World.alloc _ _=W3
 obtain ⟨hh,XV,hzW3⟩:=mkbx8_8 hW;clear hW;(try replace p:=p.below hh);(try replace q:=q.below hh);(try replace XA:=XA.below hh);(try replace XB:=XB.below hh);(try replace o:=o.below hh);(try replace XO:=XO.below hh);(try replace XR:=XR.below hh);replace hb:=bend hb hh;obtain ⟨xa0,xa1,xa2,xa3,xa4,xa5⟩:=XA.all;obtain ⟨xb0,xb1,xb2,xb3,xb4,xb5⟩:=XB.all;obtain ⟨xo0,xo1,xo2,xo3,xo4,xo5⟩:=XO.all;obtain ⟨xr0,xr1,xr2⟩:=XR.all;obtain ⟨xv0,xv1,xv2⟩:=XV.all
 go_wp2_with (first
  | (go_at_call 45;(with_reducible refine (rcmp_q p.qy q.qy (by decide) (by decide) (.inl (by decide)) (by decide) (by decide)).mono ?_);rintro e w_z ⟨rfl,hh⟩
     rw [HY.out];(try replace p:=p.below hh);(try replace q:=q.below hh);(try replace XA:=XA.below hh);(try replace XB:=XB.below hh);(try replace o:=o.below hh);(try replace XO:=XO.below hh);(try replace XR:=XR.below hh);(try replace XV:=XV.below hh);replace hb:=bend hb hh;obtain ⟨xa0,xa1,xa2,xa3,xa4,xa5⟩:=XA.all;obtain ⟨xb0,xb1,xb2,xb3,xb4,xb5⟩:=XB.all;obtain ⟨xo0,xo1,xo2,xo3,xo4,xo5⟩:=XO.all;obtain ⟨xr0,xr1,xr2⟩:=XR.all;obtain ⟨xv0,xv1,xv2⟩:=XV.all)
  | (go_at_call 45;(with_reducible refine (rcmp_q p.qx q.qx (by decide) (by decide) (.inl (by decide)) (by decide) (by decide)).mono ?_);rintro e w_z ⟨rfl,hh⟩
     rw [HX.out];(try replace p:=p.below hh);(try replace q:=q.below hh);(try replace XA:=XA.below hh);(try replace XB:=XB.below hh);(try replace o:=o.below hh);(try replace XO:=XO.below hh);(try replace XR:=XR.below hh);(try replace XV:=XV.below hh);replace hb:=bend hb hh;obtain ⟨xa0,xa1,xa2,xa3,xa4,xa5⟩:=XA.all;obtain ⟨xb0,xb1,xb2,xb3,xb4,xb5⟩:=XB.all;obtain ⟨xo0,xo1,xo2,xo3,xo4,xo5⟩:=XO.all;obtain ⟨xr0,xr1,xr2⟩:=XR.all;obtain ⟨xv0,xv1,xv2⟩:=XV.all)
  | (go_at_call 36;(with_reducible refine (onw_yes o.pr p q (by decide) (by decide) (by decide) HO.out).mono ?_);rintro e w_z ⟨rfl,hh⟩
     (try replace p:=p.below hh);(try replace q:=q.below hh);(try replace XA:=XA.below hh);(try replace XB:=XB.below hh);(try replace o:=o.below hh);(try replace XO:=XO.below hh);(try replace XR:=XR.below hh);(try replace XV:=XV.below hh);replace hb:=bend hb hh;obtain ⟨xa0,xa1,xa2,xa3,xa4,xa5⟩:=XA.all;obtain ⟨xb0,xb1,xb2,xb3,xb4,xb5⟩:=XB.all;obtain ⟨xo0,xo1,xo2,xo3,xo4,xo5⟩:=XO.all;obtain ⟨xr0,xr1,xr2⟩:=XR.all;obtain ⟨xv0,xv1,xv2⟩:=XV.all)
  | (go_at_call 30;(with_reducible refine (segwakes_any _).mono ?_);rintro e w_z ⟨rfl,hh⟩
     (try replace p:=p.below hh);(try replace q:=q.below hh);(try replace XA:=XA.below hh);(try replace XB:=XB.below hh);(try replace o:=o.below hh);(try replace XO:=XO.below hh);(try replace XR:=XR.below hh);(try replace XV:=XV.below hh);replace hb:=bend hb hh;obtain ⟨xa0,xa1,xa2,xa3,xa4,xa5⟩:=XA.all;obtain ⟨xb0,xb1,xb2,xb3,xb4,xb5⟩:=XB.all;obtain ⟨xo0,xo1,xo2,xo3,xo4,xo5⟩:=XO.all;obtain ⟨xr0,xr1,xr2⟩:=XR.all;obtain ⟨xv0,xv1,xv2⟩:=XV.all))
 go_ret;exact ⟨rfl,hb⟩
theorem law_at (t:Nat) {lap lbp lcp ldp:List Nat} {laq lbq lcq ldq:List Nat} (ap:Rd .u64 w A_p n_p lap) (bp:Rd .u64 w B_p m_p lbp) (up:Rd .u64 w E_p i_p lcp) (vp:Rd .u64 w F_p j_p ldp) (tap:Lim B64 lap) (tbp:Lim B64 lbp) (tcp:Lim B64 lcp) (tdp:Lim B64 ldp) (cap:n_p≤c_p) (cbp:m_p≤d_p) (ccp:i_p≤e_p) (cdp:j_p≤f_p) (aq:Rd .u64 w A_q n_q laq) (bq:Rd .u64 w B_q m_q lbq) (uq:Rd .u64 w E_q i_q lcq) (vq:Rd .u64 w F_q j_q ldq) (taq:Lim B64 laq) (tbq:Lim B64 lbq) (tcq:Lim B64 lcq) (tdq:Lim B64 ldq) (caq:n_q≤c_q) (cbq:m_q≤d_q) (ccq:i_q≤e_q) (cdq:j_q≤f_q) (ht:t≤255) :
 Calls Tryz.prog 8 #[.agg #[.bool s_p,.slice A_p n_p c_p,.slice B_p m_p d_p,.bool t_p,.slice E_p i_p e_p,.slice F_p j_p f_p],.agg #[.bool s_q,.slice A_q n_q c_q,.slice B_q m_q d_q,.bool t_q,.slice E_q i_q e_q,.slice F_q j_q f_q],.int .u8 (t:Int)] w fun e w'=>e=.returned (.bool true)∧Below w.heap.size w w':=by
 by_cases h:(((n_p≤6∧m_p≤6)∧i_p≤6∧j_p≤6)∧((n_q≤6∧m_q≤6)∧i_q≤6∧j_q≤6))
 · have p:PR w s_p A_p n_p c_p B_p m_p d_p t_p E_p i_p e_p F_p j_p f_p (mkRat (iv s_p (val B64 lap)) (den1 (val B64 lbp))) (mkRat (iv t_p (val B64 lcp)) (den1 (val B64 ldp))) 6:=⟨QR.of_rd ap tap cap bp tbp cbp h.1.1.1 h.1.1.2,QR.of_rd up tcp ccp vp tdp cdp h.1.2.1 h.1.2.2⟩
   have q:PR w s_q A_q n_q c_q B_q m_q d_q t_q E_q i_q e_q F_q j_q f_q (mkRat (iv s_q (val B64 laq)) (den1 (val B64 lbq))) (mkRat (iv t_q (val B64 lcq)) (den1 (val B64 ldq))) 6:=⟨QR.of_rd aq taq caq bq tbq cbq h.2.1.1 h.2.1.2,QR.of_rd uq tcq ccq vq tdq cdq h.2.2.1 h.2.2.2⟩
   generalize mkRat (iv s_p (val B64 lap)) (den1 (val B64 lbp))=ax at p
   generalize mkRat (iv t_p (val B64 lcp)) (den1 (val B64 ldp))=ay at p
   generalize mkRat (iv s_q (val B64 laq)) (den1 (val B64 lbq))=bx at q
   generalize mkRat (iv t_q (val B64 lcq)) (den1 (val B64 ldq))=by_ at q
   by_cases hy:ay=by_ <;> by_cases hx:ax=bx
   · exact at_nn t p q h ht hy hx
   · exact at_ny t p q h ht hy hx
   · exact at_yn t p q h ht hy hx
   · exact at_yy t p q h ht hy hx
 · exact at_l t h
end
end Go.Proofs.YtmgklaklnaihpaaGreat
