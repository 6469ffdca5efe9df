/- SegLines: part 18. -/
import Derived.Test.YtmgklaklnaihpaaGreatKSegLines13
import Derived.Test.YtmgklaklnaihpaaGreatKSegLines15
import Derived.Test.YtmgklaklnaihpaaGreatKSegLines17
set_option linter.unusedVariables false
set_option maxRecDepth 100000
set_option maxHeartbeats 16000000
variable {w:Go.World}
variable {s_p t_p:Bool} {A_p B_p E_p F_p:Option Go.Addr} {n_p c_p m_p d_p i_p e_p j_p f_p:Nat}
variable {s_q t_q:Bool} {A_q B_q E_q F_q:Option Go.Addr} {n_q c_q m_q d_q i_q e_q j_q f_q:Nat}
variable {s_a:Bool} {A_a B_a:Option Go.Addr} {n_a c_a m_a d_a:Nat}
variable {s_b:Bool} {A_b B_b:Option Go.Addr} {n_b c_b m_b d_b:Nat}
variable {s_v:Bool} {A_v B_v:Option Go.Addr} {n_v c_v m_v d_v:Nat}
variable {s_y:Bool} {A_y B_y:Option Go.Addr} {n_y c_y m_y d_y:Nat}
namespace Go.Proofs.YtmgklaklnaihpaaGreat
section
open Go Go.RowKit
theorem ln_one {T:TypeId} {base:Nat} {v:Value} {L:List PV} {u:Rat × Rat} {k:Nat} (hL:Ln T base w v L) (hE:Each PV.PG w L [u] k) :
 ∃ (x:PV) (g c:Nat),L=[x]∧v=.slice (some ⟨g,0,none⟩) 1 c∧base≤g∧PG w x.s x.A x.n x.c x.B x.m x.d x.t x.E x.i x.e x.F x.j x.f u.1 u.2 k:=by
 obtain ⟨h1,h2⟩:=hE
 match L,h1 with
 | [x],_ =>
   obtain ⟨g,c,hv,_,hb,_⟩:=hL.at_ (i:=0) (p:=x) rfl
   exact ⟨x,g,c,rfl,hv,hb,h2 0 x u rfl rfl⟩
theorem ln_two {T:TypeId} {base:Nat} {v:Value} {L:List PV} {u1 u2:Rat × Rat} {k:Nat} (hL:Ln T base w v L) (hE:Each PV.PG w L [u1,u2] k) :
 ∃ (x y:PV) (g c:Nat),L=[x,y]∧v=.slice (some ⟨g,0,none⟩) 2 c∧base≤g∧PG w x.s x.A x.n x.c x.B x.m x.d x.t x.E x.i x.e x.F x.j x.f u1.1 u1.2 k∧PG w y.s y.A y.n y.c y.B y.m y.d y.t y.E y.i y.e y.F y.j y.f u2.1 u2.2 k:=by
 obtain ⟨h1,h2⟩:=hE
 match L,h1 with
 | [x,y],_ =>
   obtain ⟨g,c,hv,_,hb,_⟩:=hL.at_ (i:=0) (p:=x) rfl
   exact ⟨x,y,g,c,rfl,hv,hb,h2 0 x u1 rfl rfl,h2 1 y u2 rfl rfl⟩
theorem Ln.cells0 {T:TypeId} {base g n c:Nat} {L:List PV} (h:Ln T base w (.slice (some ⟨g,0,none⟩) n c) L) {p:PV} (hi:L[0]?=some p) :
 w.cell? ⟨g,0,none⟩=some (.bool p.s)∧w.cell? ⟨g,1,none⟩=some (.slice p.A p.n p.c)∧w.cell? ⟨g,2,none⟩=some (.slice p.B p.m p.d)∧w.cell? ⟨g,3,none⟩=some (.bool p.t)∧w.cell? ⟨g,4,none⟩=some (.slice p.E p.i p.e)∧w.cell? ⟨g,5,none⟩=some (.slice p.F p.j p.f):=by
 have:=h.of hi
 simpa using this.2.2
theorem idx0 {g n c:Nat} (h:0 < n) (w:World):(Instr.indexAt 64 (.slice (some ⟨g,0,none⟩) n c) (.int .i64 0)).run Tryz.prog w=.ok (.pointer (some ⟨g,0,none⟩)) w:=idx_pt (i:=0) h w
theorem Ln.cells1 {T:TypeId} {base g n c:Nat} {L:List PV} (h:Ln T base w (.slice (some ⟨g,0,none⟩) n c) L) {p:PV} (hi:L[1]?=some p) :
 w.cell? ⟨g,6,none⟩=some (.bool p.s)∧w.cell? ⟨g,7,none⟩=some (.slice p.A p.n p.c)∧w.cell? ⟨g,8,none⟩=some (.slice p.B p.m p.d)∧w.cell? ⟨g,9,none⟩=some (.bool p.t)∧w.cell? ⟨g,10,none⟩=some (.slice p.E p.i p.e)∧w.cell? ⟨g,11,none⟩=some (.slice p.F p.j p.f):=by
 have:=h.of hi
 simpa using this.2.2
theorem idx1 {g n c:Nat} (h:1 < n) (w:World):(Instr.indexAt 64 (.slice (some ⟨g,0,none⟩) n c) (.int .i64 1)).run Tryz.prog w=.ok (.pointer (some ⟨g,6,none⟩)) w:=idx_pt (i:=1) h w
theorem wk7_told1:Told (Rat.divInt 0 1) (Rat.divInt 0 1) (Rat.divInt 2 1) (Rat.divInt 2 1) (Rat.divInt 0 1) (Rat.divInt 2 1) (Rat.divInt 2 1) (Rat.divInt 0 1) [((Rat.divInt 1 1),(Rat.divInt 1 1))]:=by
 have h:=told_cross (ax:=(Rat.divInt 0 1)) (ay:=(Rat.divInt 0 1)) (bx:=(Rat.divInt 2 1)) (by_:=(Rat.divInt 2 1)) (cx:=(Rat.divInt 0 1)) (cy:=(Rat.divInt 2 1)) (dx:=(Rat.divInt 2 1)) (dy:=(Rat.divInt 0 1)) (f:=Rat.divInt 1 2) (g:=Rat.divInt 1 2) (by decide +kernel) (by decide +kernel) (by decide +kernel) (by decide +kernel)
 rwa [show ((Rat.divInt 0 1)+((Rat.divInt 2 1) - (Rat.divInt 0 1))*Rat.divInt 1 2)=(Rat.divInt 1 1) by decide +kernel] at h
theorem wk7_spec:Spec1 (keep1 (Rat.divInt 5 3) (Rat.divInt 1 3)) [Rat.divInt 1 3,1]:=by
 have h1:Rat.divInt 1 3 < 1:=by decide +kernel
 have h2:(1:Rat)≤Rat.divInt 5 3:=by decide +kernel
 have h3:(0:Rat)≤Rat.divInt 1 3:=by decide +kernel
 have h4:Rat.divInt 1 3 < Rat.divInt 5 3:=by decide +kernel
 refine ⟨h1,fun x=>?_⟩
 generalize Rat.divInt 1 3=a at *
 generalize Rat.divInt 5 3=b at *
 unfold keep1
 constructor
 · rintro ⟨⟨q,r⟩,s | s⟩
   · grind
   · grind
 · rintro ⟨q,r⟩
   exact ⟨⟨by grind,r⟩,.inr ⟨q,by grind⟩⟩
theorem wk7_told2:Told (Rat.divInt 0 1) (Rat.divInt 0 1) (Rat.divInt 3 1) (Rat.divInt 0 1) (Rat.divInt 5 1) (Rat.divInt 0 1) (Rat.divInt 1 1) (Rat.divInt 0 1) [((Rat.divInt 1 1),(Rat.divInt 0 1)),((Rat.divInt 3 1),(Rat.divInt 0 1))]:=by
 have h:=spec_told (ax:=(Rat.divInt 0 1)) (ay:=(Rat.divInt 0 1)) (bx:=(Rat.divInt 3 1)) (by_:=(Rat.divInt 0 1)) (cx:=(Rat.divInt 5 1)) (cy:=(Rat.divInt 0 1)) (dx:=(Rat.divInt 1 1)) (dy:=(Rat.divInt 0 1)) (by decide +kernel) (both_line (g:=Rat.divInt 5 3) (d:=Rat.divInt 1 3) (by decide +kernel) (by decide +kernel) (by decide +kernel)) wk7_spec
 rwa [show List.map (lineAt (Rat.divInt 0 1) (Rat.divInt 0 1) (Rat.divInt 3 1) (Rat.divInt 0 1)) [Rat.divInt 1 3,1]=[((Rat.divInt 1 1),(Rat.divInt 0 1)),((Rat.divInt 3 1),(Rat.divInt 0 1))] by decide +kernel] at h
theorem wk7_level:shareOK ((Rat.divInt 1 1) - (Rat.divInt 0 1)) ((Rat.divInt 2 1) - (Rat.divInt 0 1)):=⟨by decide +kernel,by decide +kernel,by decide +kernel⟩
theorem wk7_upright:¬ shareOK ((Rat.divInt 1 1) - (Rat.divInt 1 1)) ((Rat.divInt 1 1) - (Rat.divInt 1 1)):=fun h=>h.1 (by decide +kernel)
theorem wk7_txt:(⟨(qtxt ((Rat.divInt 0 1)+((Rat.divInt 1 1) - (Rat.divInt 0 1)) / ((Rat.divInt 2 1) - (Rat.divInt 0 1))*((Rat.divInt 4 1) - (Rat.divInt 0 1)))).toArray⟩:ByteArray)=⟨#[50]⟩:=by
 rw [show (Rat.divInt 0 1)+((Rat.divInt 1 1) - (Rat.divInt 0 1)) / ((Rat.divInt 2 1) - (Rat.divInt 0 1))*((Rat.divInt 4 1) - (Rat.divInt 0 1))=(Rat.divInt 2 1) by decide +kernel,qtxt_i (a:=2) (by decide +kernel) (by decide +kernel) (txt_one (d:=2) (by decide) (by decide) rfl)];rfl
theorem wk7_on:onS (Rat.divInt 1 1) (Rat.divInt 1 1) (Rat.divInt 0 1) (Rat.divInt 0 1) (Rat.divInt 2 1) (Rat.divInt 2 1):=⟨Rat.divInt 1 2,by decide +kernel,by decide +kernel,by decide +kernel,by decide +kernel⟩
theorem wk7_same1:decide ((Rat.divInt 1 1)=(Rat.divInt 1 1)∧(Rat.divInt 1 1)=(Rat.divInt 1 1))=true:=by decide +kernel
theorem wk7_same2:decide ((Rat.divInt 1 1)=(Rat.divInt 1 1)∧(Rat.divInt 0 1)=(Rat.divInt 0 1))=true:=by decide +kernel
theorem wk7_same3:decide ((Rat.divInt 3 1)=(Rat.divInt 3 1)∧(Rat.divInt 0 1)=(Rat.divInt 0 1))=true:=by decide +kernel
theorem segwakes_any (w:World):Calls Tryz.prog 30 #[] w fun e w'=>e=.returned (.bool true)∧Below w.heap.size w w':=by
 have hb:Below w.heap.size w w:=Below.refl _ _
 go_enter Tryz.func30,Tryz.ntmps30
 go_upto_region 3 with (first
  | (go_at_call 82;(with_reducible refine (lawP 0 0 (by decide) (by decide) (by decide) (by decide) _).mono ?_);rintro e w_p1 ⟨s_p1,A_p1,n_p1,c_p1,B_p1,m_p1,d_p1,t_p1,E_p1,i_p1,e_p1,F_p1,j_p1,f_p1,rfl,p1,hh⟩
     replace hb:=bend hb hh)
  | (go_at_call 82;(with_reducible refine (lawP 2 2 (by decide) (by decide) (by decide) (by decide) _).mono ?_);rintro e w_p2 ⟨s_p2,A_p2,n_p2,c_p2,B_p2,m_p2,d_p2,t_p2,E_p2,i_p2,e_p2,F_p2,j_p2,f_p2,rfl,p2,hh⟩
     (try replace p1:=p1.below hh);replace hb:=bend hb hh)
  | (go_at_call 82;(with_reducible refine (lawP 0 2 (by decide) (by decide) (by decide) (by decide) _).mono ?_);rintro e w_p3 ⟨s_p3,A_p3,n_p3,c_p3,B_p3,m_p3,d_p3,t_p3,E_p3,i_p3,e_p3,F_p3,j_p3,f_p3,rfl,p3,hh⟩
     (try replace p1:=p1.below hh);(try replace p2:=p2.below hh);replace hb:=bend hb hh)
  | (go_at_call 82;(with_reducible refine (lawP 2 0 (by decide) (by decide) (by decide) (by decide) _).mono ?_);rintro e w_p4 ⟨s_p4,A_p4,n_p4,c_p4,B_p4,m_p4,d_p4,t_p4,E_p4,i_p4,e_p4,F_p4,j_p4,f_p4,rfl,p4,hh⟩
     (try replace p1:=p1.below hh);(try replace p2:=p2.below hh);(try replace p3:=p3.below hh);replace hb:=bend hb hh)
  | (go_at_call 33;(with_reducible refine (meet_p p1.pr p2.pr p3.pr p4.pr (by decide) (by decide)).mono ?_);rintro e w_m ⟨l,ht,v,L,rfl,hL,hE,hh⟩
     replace hb:=bend hb hh
     obtain rfl:=told_same (fun _ _=>Iff.rfl) ht wk7_told1
     obtain ⟨x,g_x,c_x,rfl,rfl,hgx,X⟩:=ln_one hL hE
     replace X:=X.more (k1:=31) (by decide)
     simp only at X
     clear p1 p2 p3 p4 ht hE))
 rename Ln _ _ _ _ _=>hX
 go_upto_region 4 with (first
  | (go_at_call 82;(with_reducible refine (lawP 0 0 (by decide) (by decide) (by decide) (by decide) _).mono ?_);rintro e w_p1 ⟨s_p1,A_p1,n_p1,c_p1,B_p1,m_p1,d_p1,t_p1,E_p1,i_p1,e_p1,F_p1,j_p1,f_p1,rfl,p1,hh⟩
     (try replace hX:=hX.below hh);(try replace X:=X.below hh);replace hb:=bend hb hh)
  | (go_at_call 82;(with_reducible refine (lawP 3 0 (by decide) (by decide) (by decide) (by decide) _).mono ?_);rintro e w_p2 ⟨s_p2,A_p2,n_p2,c_p2,B_p2,m_p2,d_p2,t_p2,E_p2,i_p2,e_p2,F_p2,j_p2,f_p2,rfl,p2,hh⟩
     (try replace hX:=hX.below hh);(try replace X:=X.below hh);(try replace p1:=p1.below hh);replace hb:=bend hb hh)
  | (go_at_call 82;(with_reducible refine (lawP 5 0 (by decide) (by decide) (by decide) (by decide) _).mono ?_);rintro e w_p3 ⟨s_p3,A_p3,n_p3,c_p3,B_p3,m_p3,d_p3,t_p3,E_p3,i_p3,e_p3,F_p3,j_p3,f_p3,rfl,p3,hh⟩
     (try replace hX:=hX.below hh);(try replace X:=X.below hh);(try replace p1:=p1.below hh);(try replace p2:=p2.below hh);replace hb:=bend hb hh)
  | (go_at_call 82;(with_reducible refine (lawP 1 0 (by decide) (by decide) (by decide) (by decide) _).mono ?_);rintro e w_p4 ⟨s_p4,A_p4,n_p4,c_p4,B_p4,m_p4,d_p4,t_p4,E_p4,i_p4,e_p4,F_p4,j_p4,f_p4,rfl,p4,hh⟩
     (try replace hX:=hX.below hh);(try replace X:=X.below hh);(try replace p1:=p1.below hh);(try replace p2:=p2.below hh);(try replace p3:=p3.below hh);replace hb:=bend hb hh)
  | (go_at_call 33;(with_reducible refine (meet_p p1.pr p2.pr p3.pr p4.pr (by decide) (by decide)).mono ?_);rintro e w_m2 ⟨l,ht,v,L,rfl,hL,hE,hh⟩
     (try replace hX:=hX.below hh);(try replace X:=X.below hh);replace hb:=bend hb hh
     obtain rfl:=told_same (fun _ _=>Iff.rfl) ht wk7_told2
     obtain ⟨y,z,g_y,c_y,rfl,rfl,hgy,Y,Z⟩:=ln_two hL hE
     replace Y:=Y.more (k1:=31) (by decide)
     replace Z:=Z.more (k1:=31) (by decide)
     simp only at Y Z
     clear p1 p2 p3 p4 ht hE))
 have hY:=hL;clear hL
 go_upto_region 5 with (first
  | (go_at_call 82;(with_reducible refine (lawP 0 0 (by decide) (by decide) (by decide) (by decide) _).mono ?_);rintro e w_p1 ⟨s_p1,A_p1,n_p1,c_p1,B_p1,m_p1,d_p1,t_p1,E_p1,i_p1,e_p1,F_p1,j_p1,f_p1,rfl,p1,hh⟩
     (try replace hX:=hX.below hh);(try replace X:=X.below hh);(try replace hY:=hY.below hh);(try replace Y:=Y.below hh);(try replace Z:=Z.below hh);replace hb:=bend hb hh)
  | (go_at_call 82;(with_reducible refine (lawP 4 2 (by decide) (by decide) (by decide) (by decide) _).mono ?_);rintro e w_p2 ⟨s_p2,A_p2,n_p2,c_p2,B_p2,m_p2,d_p2,t_p2,E_p2,i_p2,e_p2,F_p2,j_p2,f_p2,rfl,p2,hh⟩
     (try replace hX:=hX.below hh);(try replace X:=X.below hh);(try replace hY:=hY.below hh);(try replace Y:=Y.below hh);(try replace Z:=Z.below hh);(try replace p1:=p1.below hh);replace hb:=bend hb hh)
  | (go_at_call 23;(with_reducible refine (rof_q 1 1 (by decide) (by decide) (by decide) (by decide) (by decide) _).mono ?_);rintro e w_k ⟨s_k,A_k,n_k,c_k,B_k,m_k,d_k,rfl,k,hh⟩
     (try replace hX:=hX.below hh);(try replace X:=X.below hh);(try replace hY:=hY.below hh);(try replace Y:=Y.below hh);(try replace Z:=Z.below hh);(try replace p1:=p1.below hh);(try replace p2:=p2.below hh);replace hb:=bend hb hh)
  | (go_at_call 39;(with_reducible refine (level_yes p1.pr p2.pr k.qr (by decide) (by decide) wk7_level).mono ?_);rintro e w_r ⟨s_r,A_r,n_r,c_r,B_r,m_r,d_r,rfl,r,hh⟩
     (try replace hX:=hX.below hh);(try replace X:=X.below hh);(try replace hY:=hY.below hh);(try replace Y:=Y.below hh);(try replace Z:=Z.below hh);replace hb:=bend hb hh;clear p1 p2 k))
 generalize hW:World.alloc _ _=W2
 obtain ⟨hh,XR,hzW2⟩:=mkbx13_8 hW;clear hW;(try replace hX:=hX.below hh);(try replace X:=X.below hh);(try replace hY:=hY.below hh);(try replace Y:=Y.below hh);(try replace Z:=Z.below hh);(try replace r:=r.below hh);replace hb:=bend hb hh
 go_upto_region 6 with (first
  | (go_at_call 82;(with_reducible refine (lawP 1 0 (by decide) (by decide) (by decide) (by decide) _).mono ?_);rintro e w_p1 ⟨s_p1,A_p1,n_p1,c_p1,B_p1,m_p1,d_p1,t_p1,E_p1,i_p1,e_p1,F_p1,j_p1,f_p1,rfl,p1,hh⟩
     (try replace hX:=hX.below hh);(try replace X:=X.below hh);(try replace hY:=hY.below hh);(try replace Y:=Y.below hh);(try replace Z:=Z.below hh);(try replace r:=r.below hh);(try replace XR:=XR.below hh);replace hb:=bend hb hh)
  | (go_at_call 82;(with_reducible refine (lawP 1 2 (by decide) (by decide) (by decide) (by decide) _).mono ?_);rintro e w_p2 ⟨s_p2,A_p2,n_p2,c_p2,B_p2,m_p2,d_p2,t_p2,E_p2,i_p2,e_p2,F_p2,j_p2,f_p2,rfl,p2,hh⟩
     (try replace hX:=hX.below hh);(try replace X:=X.below hh);(try replace hY:=hY.below hh);(try replace Y:=Y.below hh);(try replace Z:=Z.below hh);(try replace r:=r.below hh);(try replace XR:=XR.below hh);(try replace p1:=p1.below hh);replace hb:=bend hb hh)
  | (go_at_call 23;(with_reducible refine (rof_q 1 1 (by decide) (by decide) (by decide) (by decide) (by decide) _).mono ?_);rintro e w_k ⟨s_k,A_k,n_k,c_k,B_k,m_k,d_k,rfl,k,hh⟩
     (try replace hX:=hX.below hh);(try replace X:=X.below hh);(try replace hY:=hY.below hh);(try replace Y:=Y.below hh);(try replace Z:=Z.below hh);(try replace r:=r.below hh);(try replace XR:=XR.below hh);(try replace p1:=p1.below hh);(try replace p2:=p2.below hh);replace hb:=bend hb hh)
  | (go_at_call 40;(with_reducible refine (upright_no p1.pr p2.pr k.qr (by decide) (by decide) wk7_upright).mono ?_);rintro e w_z ⟨rfl,hh⟩
     (try replace hX:=hX.below hh);(try replace X:=X.below hh);(try replace hY:=hY.below hh);(try replace Y:=Y.below hh);(try replace Z:=Z.below hh);(try replace r:=r.below hh);(try replace XR:=XR.below hh);replace hb:=bend hb hh;clear p1 p2 k))
 generalize hW:World.alloc _ _=W3
 obtain ⟨hh,XU,hzW3⟩:=mkbx13_8 hW;clear hW;(try replace hX:=hX.below hh);(try replace X:=X.below hh);(try replace hY:=hY.below hh);(try replace Y:=Y.below hh);(try replace Z:=Z.below hh);(try replace r:=r.below hh);(try replace XR:=XR.below hh);replace hb:=bend hb hh;clear XU
 replace hX:=hX.below (Below.refl _ _).drew
 replace X:=X.below (Below.refl _ _).drew
 replace hY:=hY.below (Below.refl _ _).drew
 replace Y:=Y.below (Below.refl _ _).drew
 replace Z:=Z.below (Below.refl _ _).drew
 replace r:=r.below (Below.refl _ _).drew
 replace XR:=XR.below (Below.refl _ _).drew
 replace hb:=hb.drew
 obtain ⟨x0,x1,x2,x3,x4,x5⟩:=hX.cells0 rfl
 obtain ⟨y0,y1,y2,y3,y4,y5⟩:=hY.cells0 rfl
 obtain ⟨z0,z1,z2,z3,z4,z5⟩:=hY.cells1 rfl
 have ix:=idx0 (g:=g_x) (n:=1) (c:=c_x) (by decide)
 have iy:=idx0 (g:=g_y) (n:=2) (c:=c_y) (by decide)
 have iz:=idx1 (g:=g_y) (n:=2) (c:=c_y) (by decide)
 clear x0 x1 x2 x3 x4 x5 y0 y1 y2 y3 y4 y5 z0 z1 z2 z3 z4 z5
 go_region_held3 (fun w'=>w'.cell? ⟨g_x,0,none⟩=some (.bool x.s)∧w'.cell? ⟨g_x,1,none⟩=some (.slice x.A x.n x.c)∧w'.cell? ⟨g_x,2,none⟩=some (.slice x.B x.m x.d)∧w'.cell? ⟨g_x,3,none⟩=some (.bool x.t)∧w'.cell? ⟨g_x,4,none⟩=some (.slice x.E x.i x.e)∧w'.cell? ⟨g_x,5,none⟩=some (.slice x.F x.j x.f)∧w'.cell? ⟨g_y,0,none⟩=some (.bool y.s)∧w'.cell? ⟨g_y,1,none⟩=some (.slice y.A y.n y.c)∧w'.cell? ⟨g_y,2,none⟩=some (.slice y.B y.m y.d)∧w'.cell? ⟨g_y,3,none⟩=some (.bool y.t)∧w'.cell? ⟨g_y,4,none⟩=some (.slice y.E y.i y.e)∧w'.cell? ⟨g_y,5,none⟩=some (.slice y.F y.j y.f)∧w'.cell? ⟨g_y,6,none⟩=some (.bool z.s)∧w'.cell? ⟨g_y,7,none⟩=some (.slice z.A z.n z.c)∧w'.cell? ⟨g_y,8,none⟩=some (.slice z.B z.m z.d)∧w'.cell? ⟨g_y,9,none⟩=some (.bool z.t)∧w'.cell? ⟨g_y,10,none⟩=some (.slice z.E z.i z.e)∧w'.cell? ⟨g_y,11,none⟩=some (.slice z.F z.j z.f)∧w'.cell? ⟨w_r.heap.size,0,none⟩=some (.bool s_r)∧w'.cell? ⟨w_r.heap.size,1,none⟩=some (.slice A_r n_r c_r)∧w'.cell? ⟨w_r.heap.size,2,none⟩=some (.slice B_r m_r d_r))
  (first | with_reducible exact ⟨(hX.cells0 rfl).1,(hX.cells0 rfl).2.1,(hX.cells0 rfl).2.2.1,(hX.cells0 rfl).2.2.2.1,(hX.cells0 rfl).2.2.2.2.1,(hX.cells0 rfl).2.2.2.2.2,(hY.cells0 rfl).1,(hY.cells0 rfl).2.1,(hY.cells0 rfl).2.2.1,(hY.cells0 rfl).2.2.2.1,(hY.cells0 rfl).2.2.2.2.1,(hY.cells0 rfl).2.2.2.2.2,(hY.cells1 rfl).1,(hY.cells1 rfl).2.1,(hY.cells1 rfl).2.2.1,(hY.cells1 rfl).2.2.2.1,(hY.cells1 rfl).2.2.2.2.1,(hY.cells1 rfl).2.2.2.2.2,XR.c0,XR.c1,XR.c2⟩)
  (first
  | (go_at_call 43;(with_reducible refine (psame_p X.pr p5.pr (by decide) (by decide) (by decide) (by decide) true wk7_same1).mono ?_);rintro e w_z ⟨rfl,hh⟩
     (try replace hX:=hX.below hh);(try replace hY:=hY.below hh);(try replace X:=X.below hh);(try replace Y:=Y.below hh);(try replace Z:=Z.below hh);(try replace r:=r.below hh);(try replace XR:=XR.below hh);replace hb:=bend hb hh;clear p5)
  | (go_at_call 43;(with_reducible refine (psame_p Y.pr p6.pr (by decide) (by decide) (by decide) (by decide) true wk7_same2).mono ?_);rintro e w_z ⟨rfl,hh⟩
     (try replace hX:=hX.below hh);(try replace hY:=hY.below hh);(try replace X:=X.below hh);(try replace Y:=Y.below hh);(try replace Z:=Z.below hh);(try replace r:=r.below hh);(try replace XR:=XR.below hh);replace hb:=bend hb hh;clear p6)
  | (go_at_call 43;(with_reducible refine (psame_p Z.pr p7.pr (by decide) (by decide) (by decide) (by decide) true wk7_same3).mono ?_);rintro e w_z ⟨rfl,hh⟩
     (try replace hX:=hX.below hh);(try replace hY:=hY.below hh);(try replace X:=X.below hh);(try replace Y:=Y.below hh);(try replace Z:=Z.below hh);(try replace r:=r.below hh);(try replace XR:=XR.below hh);replace hb:=bend hb hh;clear p7)
  | (go_at_call 82;(with_reducible refine (lawP 1 0 (by decide) (by decide) (by decide) (by decide) _).mono ?_);rintro e w_p6 ⟨s_p6,A_p6,n_p6,c_p6,B_p6,m_p6,d_p6,t_p6,E_p6,i_p6,e_p6,F_p6,j_p6,f_p6,rfl,p6,hh⟩
     (try replace hX:=hX.below hh);(try replace hY:=hY.below hh);(try replace X:=X.below hh);(try replace Y:=Y.below hh);(try replace Z:=Z.below hh);(try replace r:=r.below hh);(try replace XR:=XR.below hh);replace hb:=bend hb hh)
  | (go_at_call 82;(with_reducible refine (lawP 3 0 (by decide) (by decide) (by decide) (by decide) _).mono ?_);rintro e w_p7 ⟨s_p7,A_p7,n_p7,c_p7,B_p7,m_p7,d_p7,t_p7,E_p7,i_p7,e_p7,F_p7,j_p7,f_p7,rfl,p7,hh⟩
     (try replace hX:=hX.below hh);(try replace hY:=hY.below hh);(try replace X:=X.below hh);(try replace Y:=Y.below hh);(try replace Z:=Z.below hh);(try replace r:=r.below hh);(try replace XR:=XR.below hh);replace hb:=bend hb hh)
  | (go_at_call 15;(with_reducible refine (rtext_q r.qr (by decide) (by decide)).mono ?_);rintro e w_z ⟨rfl,hh⟩
     rw [wk7_txt];(try replace hX:=hX.below hh);(try replace hY:=hY.below hh);(try replace X:=X.below hh);(try replace Y:=Y.below hh);(try replace Z:=Z.below hh);(try replace r:=r.below hh);(try replace XR:=XR.below hh);replace hb:=bend hb hh
     have hrr:True:=trivial)
  | (go_at_call 82;(have h0:=hrr);(with_reducible refine (lawP 1 1 (by decide) (by decide) (by decide) (by decide) _).mono ?_);rintro e w_p8 ⟨s_p8,A_p8,n_p8,c_p8,B_p8,m_p8,d_p8,t_p8,E_p8,i_p8,e_p8,F_p8,j_p8,f_p8,rfl,p8,hh⟩
     (try replace hX:=hX.below hh);(try replace hY:=hY.below hh);(try replace X:=X.below hh);(try replace Y:=Y.below hh);(try replace Z:=Z.below hh);(try replace r:=r.below hh);(try replace XR:=XR.below hh);clear h0;replace hb:=bend hb hh)
  | (go_at_call 82;(with_reducible refine (lawP 1 1 (by decide) (by decide) (by decide) (by decide) _).mono ?_);rintro e w_p5 ⟨s_p5,A_p5,n_p5,c_p5,B_p5,m_p5,d_p5,t_p5,E_p5,i_p5,e_p5,F_p5,j_p5,f_p5,rfl,p5,hh⟩
     (try replace hX:=hX.below hh);(try replace hY:=hY.below hh);(try replace X:=X.below hh);(try replace Y:=Y.below hh);(try replace Z:=Z.below hh);(try replace r:=r.below hh);(try replace XR:=XR.below hh);replace hb:=bend hb hh)
  | (go_at_call 82;(with_reducible refine (lawP 0 0 (by decide) (by decide) (by decide) (by decide) _).mono ?_);rintro e w_p9 ⟨s_p9,A_p9,n_p9,c_p9,B_p9,m_p9,d_p9,t_p9,E_p9,i_p9,e_p9,F_p9,j_p9,f_p9,rfl,p9,hh⟩
     (try replace hX:=hX.below hh);(try replace hY:=hY.below hh);(try replace X:=X.below hh);(try replace Y:=Y.below hh);(try replace Z:=Z.below hh);(try replace r:=r.below hh);(try replace XR:=XR.below hh);(try replace p8:=p8.below hh);replace hb:=bend hb hh)
  | (go_at_call 82;(with_reducible refine (lawP 2 2 (by decide) (by decide) (by decide) (by decide) _).mono ?_);rintro e w_pz ⟨s_pz,A_pz,n_pz,c_pz,B_pz,m_pz,d_pz,t_pz,E_pz,i_pz,e_pz,F_pz,j_pz,f_pz,rfl,pz,hh⟩
     (try replace hX:=hX.below hh);(try replace hY:=hY.below hh);(try replace X:=X.below hh);(try replace Y:=Y.below hh);(try replace Z:=Z.below hh);(try replace r:=r.below hh);(try replace XR:=XR.below hh);(try replace p8:=p8.below hh);(try replace p9:=p9.below hh);replace hb:=bend hb hh)
  | (go_at_call 36;(with_reducible refine (on_yes p8.pr p9.pr pz.pr (by decide) (by decide) wk7_on).mono ?_);rintro e w_z ⟨rfl,hh⟩
     (try replace hX:=hX.below hh);(try replace hY:=hY.below hh);(try replace X:=X.below hh);(try replace Y:=Y.below hh);(try replace Z:=Z.below hh);(try replace r:=r.below hh);(try replace XR:=XR.below hh);replace hb:=bend hb hh))
 go_wp2_with fail
 go_ret;exact ⟨rfl,hb⟩
end
section
open Go Go.RowKit
def BA4 (W:World) (g:Nat) (v0:Value) (v1:Value) (v2:Value) (v3:Value) (v4:Value) (v5:Value) (v6:Value) (v7:Value) (v8:Value) (v9:Value) (v10:Value) (v11:Value) (v12:Value) (v13:Value) (v14:Value) (v15:Value) (v16:Value) (v17:Value) (v18:Value) (v19:Value) (v20:Value) (v21:Value) (v22:Value) (v23:Value):Prop:=W.heap[g]?=some (.cells #[v0,v1,v2,v3,v4,v5,v6,v7,v8,v9,v10,v11,v12,v13,v14,v15,v16,v17,v18,v19,v20,v21,v22,v23] 57 (0,0))
section
variable {W W':World} {g:Nat} {v0 v1 v2 v3 v4 v5 v6 v7 v8 v9 v10 v11 v12 v13 v14 v15 v16 v17 v18 v19 v20 v21 v22 v23:Value}
theorem BA4.c0 (h:BA4 W g v0 v1 v2 v3 v4 v5 v6 v7 v8 v9 v10 v11 v12 v13 v14 v15 v16 v17 v18 v19 v20 v21 v22 v23):W.cell? ⟨g,0,none⟩=some v0:=by rw [cell_of_row W g 0 _ _ (0,0) h];rfl
theorem BA4.c1 (h:BA4 W g v0 v1 v2 v3 v4 v5 v6 v7 v8 v9 v10 v11 v12 v13 v14 v15 v16 v17 v18 v19 v20 v21 v22 v23):W.cell? ⟨g,1,none⟩=some v1:=by rw [cell_of_row W g 1 _ _ (0,0) h];rfl
theorem BA4.c2 (h:BA4 W g v0 v1 v2 v3 v4 v5 v6 v7 v8 v9 v10 v11 v12 v13 v14 v15 v16 v17 v18 v19 v20 v21 v22 v23):W.cell? ⟨g,2,none⟩=some v2:=by rw [cell_of_row W g 2 _ _ (0,0) h];rfl
theorem BA4.c3 (h:BA4 W g v0 v1 v2 v3 v4 v5 v6 v7 v8 v9 v10 v11 v12 v13 v14 v15 v16 v17 v18 v19 v20 v21 v22 v23):W.cell? ⟨g,3,none⟩=some v3:=by rw [cell_of_row W g 3 _ _ (0,0) h];rfl
theorem BA4.c4 (h:BA4 W g v0 v1 v2 v3 v4 v5 v6 v7 v8 v9 v10 v11 v12 v13 v14 v15 v16 v17 v18 v19 v20 v21 v22 v23):W.cell? ⟨g,4,none⟩=some v4:=by rw [cell_of_row W g 4 _ _ (0,0) h];rfl
theorem BA4.c5 (h:BA4 W g v0 v1 v2 v3 v4 v5 v6 v7 v8 v9 v10 v11 v12 v13 v14 v15 v16 v17 v18 v19 v20 v21 v22 v23):W.cell? ⟨g,5,none⟩=some v5:=by rw [cell_of_row W g 5 _ _ (0,0) h];rfl
theorem BA4.c6 (h:BA4 W g v0 v1 v2 v3 v4 v5 v6 v7 v8 v9 v10 v11 v12 v13 v14 v15 v16 v17 v18 v19 v20 v21 v22 v23):W.cell? ⟨g,6,none⟩=some v6:=by rw [cell_of_row W g 6 _ _ (0,0) h];rfl
theorem BA4.c7 (h:BA4 W g v0 v1 v2 v3 v4 v5 v6 v7 v8 v9 v10 v11 v12 v13 v14 v15 v16 v17 v18 v19 v20 v21 v22 v23):W.cell? ⟨g,7,none⟩=some v7:=by rw [cell_of_row W g 7 _ _ (0,0) h];rfl
theorem BA4.c8 (h:BA4 W g v0 v1 v2 v3 v4 v5 v6 v7 v8 v9 v10 v11 v12 v13 v14 v15 v16 v17 v18 v19 v20 v21 v22 v23):W.cell? ⟨g,8,none⟩=some v8:=by rw [cell_of_row W g 8 _ _ (0,0) h];rfl
theorem BA4.c9 (h:BA4 W g v0 v1 v2 v3 v4 v5 v6 v7 v8 v9 v10 v11 v12 v13 v14 v15 v16 v17 v18 v19 v20 v21 v22 v23):W.cell? ⟨g,9,none⟩=some v9:=by rw [cell_of_row W g 9 _ _ (0,0) h];rfl
theorem BA4.c10 (h:BA4 W g v0 v1 v2 v3 v4 v5 v6 v7 v8 v9 v10 v11 v12 v13 v14 v15 v16 v17 v18 v19 v20 v21 v22 v23):W.cell? ⟨g,10,none⟩=some v10:=by rw [cell_of_row W g 10 _ _ (0,0) h];rfl
theorem BA4.c11 (h:BA4 W g v0 v1 v2 v3 v4 v5 v6 v7 v8 v9 v10 v11 v12 v13 v14 v15 v16 v17 v18 v19 v20 v21 v22 v23):W.cell? ⟨g,11,none⟩=some v11:=by rw [cell_of_row W g 11 _ _ (0,0) h];rfl
theorem BA4.c15 (h:BA4 W g v0 v1 v2 v3 v4 v5 v6 v7 v8 v9 v10 v11 v12 v13 v14 v15 v16 v17 v18 v19 v20 v21 v22 v23):W.cell? ⟨g,15,none⟩=some v15:=by rw [cell_of_row W g 15 _ _ (0,0) h];rfl
theorem BA4.lt (h:BA4 W g v0 v1 v2 v3 v4 v5 v6 v7 v8 v9 v10 v11 v12 v13 v14 v15 v16 v17 v18 v19 v20 v21 v22 v23):g < W.heap.size:=World.block_lt_of_cell? W _ h.c0
theorem BA4.below (h:BA4 W g v0 v1 v2 v3 v4 v5 v6 v7 v8 v9 v10 v11 v12 v13 v14 v15 v16 v17 v18 v19 v20 v21 v22 v23) (hb:Below W.heap.size W W'):BA4 W' g v0 v1 v2 v3 v4 v5 v6 v7 v8 v9 v10 v11 v12 v13 v14 v15 v16 v17 v18 v19 v20 v21 v22 v23:=(hb.block g h.lt).trans h
end
theorem BA4.new' (W:World) (v0 v1 v2 v3 v4 v5 v6 v7 v8 v9 v10 v11 v12 v13 v14 v15 v16 v17 v18 v19 v20 v21 v22 v23:Value) (g:Nat) (hg:g=W.heap.size):BA4 (W.alloc (.cells #[v0,v1,v2,v3,v4,v5,v6,v7,v8,v9,v10,v11,v12,v13,v14,v15,v16,v17,v18,v19,v20,v21,v22,v23] 57)) g v0 v1 v2 v3 v4 v5 v6 v7 v8 v9 v10 v11 v12 v13 v14 v15 v16 v17 v18 v19 v20 v21 v22 v23:=by subst hg;exact heap_alloc_new W _
def BL4 (W:World) (g:Nat) (v0:Value) (v1:Value) (v2:Value) (v3:Value) (v4:Value) (v5:Value) (v6:Value) (v7:Value) (v8:Value) (v9:Value) (v10:Value) (v11:Value) (v12:Value) (v13:Value) (v14:Value) (v15:Value) (v16:Value) (v17:Value) (v18:Value) (v19:Value) (v20:Value) (v21:Value) (v22:Value) (v23:Value):Prop:=W.heap[g]?=some (.cells #[v0,v1,v2,v3,v4,v5,v6,v7,v8,v9,v10,v11,v12,v13,v14,v15,v16,v17,v18,v19,v20,v21,v22,v23] 56 (0,0))
section
variable {W W':World} {g:Nat} {v0 v1 v2 v3 v4 v5 v6 v7 v8 v9 v10 v11 v12 v13 v14 v15 v16 v17 v18 v19 v20 v21 v22 v23:Value}
theorem BL4.c0 (h:BL4 W g v0 v1 v2 v3 v4 v5 v6 v7 v8 v9 v10 v11 v12 v13 v14 v15 v16 v17 v18 v19 v20 v21 v22 v23):W.cell? ⟨g,0,none⟩=some v0:=by rw [cell_of_row W g 0 _ _ (0,0) h];rfl
theorem BL4.c1 (h:BL4 W g v0 v1 v2 v3 v4 v5 v6 v7 v8 v9 v10 v11 v12 v13 v14 v15 v16 v17 v18 v19 v20 v21 v22 v23):W.cell? ⟨g,1,none⟩=some v1:=by rw [cell_of_row W g 1 _ _ (0,0) h];rfl
theorem BL4.c2 (h:BL4 W g v0 v1 v2 v3 v4 v5 v6 v7 v8 v9 v10 v11 v12 v13 v14 v15 v16 v17 v18 v19 v20 v21 v22 v23):W.cell? ⟨g,2,none⟩=some v2:=by rw [cell_of_row W g 2 _ _ (0,0) h];rfl
theorem BL4.c3 (h:BL4 W g v0 v1 v2 v3 v4 v5 v6 v7 v8 v9 v10 v11 v12 v13 v14 v15 v16 v17 v18 v19 v20 v21 v22 v23):W.cell? ⟨g,3,none⟩=some v3:=by rw [cell_of_row W g 3 _ _ (0,0) h];rfl
theorem BL4.c4 (h:BL4 W g v0 v1 v2 v3 v4 v5 v6 v7 v8 v9 v10 v11 v12 v13 v14 v15 v16 v17 v18 v19 v20 v21 v22 v23):W.cell? ⟨g,4,none⟩=some v4:=by rw [cell_of_row W g 4 _ _ (0,0) h];rfl
theorem BL4.c5 (h:BL4 W g v0 v1 v2 v3 v4 v5 v6 v7 v8 v9 v10 v11 v12 v13 v14 v15 v16 v17 v18 v19 v20 v21 v22 v23):W.cell? ⟨g,5,none⟩=some v5:=by rw [cell_of_row W g 5 _ _ (0,0) h];rfl
theorem BL4.c6 (h:BL4 W g v0 v1 v2 v3 v4 v5 v6 v7 v8 v9 v10 v11 v12 v13 v14 v15 v16 v17 v18 v19 v20 v21 v22 v23):W.cell? ⟨g,6,none⟩=some v6:=by rw [cell_of_row W g 6 _ _ (0,0) h];rfl
theorem BL4.c7 (h:BL4 W g v0 v1 v2 v3 v4 v5 v6 v7 v8 v9 v10 v11 v12 v13 v14 v15 v16 v17 v18 v19 v20 v21 v22 v23):W.cell? ⟨g,7,none⟩=some v7:=by rw [cell_of_row W g 7 _ _ (0,0) h];rfl
theorem BL4.c8 (h:BL4 W g v0 v1 v2 v3 v4 v5 v6 v7 v8 v9 v10 v11 v12 v13 v14 v15 v16 v17 v18 v19 v20 v21 v22 v23):W.cell? ⟨g,8,none⟩=some v8:=by rw [cell_of_row W g 8 _ _ (0,0) h];rfl
theorem BL4.c9 (h:BL4 W g v0 v1 v2 v3 v4 v5 v6 v7 v8 v9 v10 v11 v12 v13 v14 v15 v16 v17 v18 v19 v20 v21 v22 v23):W.cell? ⟨g,9,none⟩=some v9:=by rw [cell_of_row W g 9 _ _ (0,0) h];rfl
theorem BL4.c10 (h:BL4 W g v0 v1 v2 v3 v4 v5 v6 v7 v8 v9 v10 v11 v12 v13 v14 v15 v16 v17 v18 v19 v20 v21 v22 v23):W.cell? ⟨g,10,none⟩=some v10:=by rw [cell_of_row W g 10 _ _ (0,0) h];rfl
theorem BL4.c11 (h:BL4 W g v0 v1 v2 v3 v4 v5 v6 v7 v8 v9 v10 v11 v12 v13 v14 v15 v16 v17 v18 v19 v20 v21 v22 v23):W.cell? ⟨g,11,none⟩=some v11:=by rw [cell_of_row W g 11 _ _ (0,0) h];rfl
theorem BL4.c15 (h:BL4 W g v0 v1 v2 v3 v4 v5 v6 v7 v8 v9 v10 v11 v12 v13 v14 v15 v16 v17 v18 v19 v20 v21 v22 v23):W.cell? ⟨g,15,none⟩=some v15:=by rw [cell_of_row W g 15 _ _ (0,0) h];rfl
theorem BL4.lt (h:BL4 W g v0 v1 v2 v3 v4 v5 v6 v7 v8 v9 v10 v11 v12 v13 v14 v15 v16 v17 v18 v19 v20 v21 v22 v23):g < W.heap.size:=World.block_lt_of_cell? W _ h.c0
theorem BL4.below (h:BL4 W g v0 v1 v2 v3 v4 v5 v6 v7 v8 v9 v10 v11 v12 v13 v14 v15 v16 v17 v18 v19 v20 v21 v22 v23) (hb:Below W.heap.size W W'):BL4 W' g v0 v1 v2 v3 v4 v5 v6 v7 v8 v9 v10 v11 v12 v13 v14 v15 v16 v17 v18 v19 v20 v21 v22 v23:=(hb.block g h.lt).trans h
theorem BL4.alloc (h:BL4 W g v0 v1 v2 v3 v4 v5 v6 v7 v8 v9 v10 v11 v12 v13 v14 v15 v16 v17 v18 v19 v20 v21 v22 v23) (o:Obj):BL4 (W.alloc o) g v0 v1 v2 v3 v4 v5 v6 v7 v8 v9 v10 v11 v12 v13 v14 v15 v16 v17 v18 v19 v20 v21 v22 v23:=(Below.heap_alloc W o g h.lt).trans h
end
theorem BL4.new' (W:World) (v0 v1 v2 v3 v4 v5 v6 v7 v8 v9 v10 v11 v12 v13 v14 v15 v16 v17 v18 v19 v20 v21 v22 v23:Value) (g:Nat) (hg:g=W.heap.size):BL4 (W.alloc (.cells #[v0,v1,v2,v3,v4,v5,v6,v7,v8,v9,v10,v11,v12,v13,v14,v15,v16,v17,v18,v19,v20,v21,v22,v23] 56)) g v0 v1 v2 v3 v4 v5 v6 v7 v8 v9 v10 v11 v12 v13 v14 v15 v16 v17 v18 v19 v20 v21 v22 v23:=by subst hg;exact heap_alloc_new W _
end
section
open Go Go.RowKit
def B4A (W:World) (g:Nat) (x y z u:Value):Prop:=W.heap[g]?=some (.cells #[x,y,z,u] 76 (0,0))
section
variable {W W':World} {g:Nat} {x y z u:Value}
theorem B4A.c0 (h:B4A W g x y z u):W.cell? ⟨g,0,none⟩=some x:=by rw [cell_of_row W g 0 _ _ (0,0) h];rfl
theorem B4A.c1 (h:B4A W g x y z u):W.cell? ⟨g,1,none⟩=some y:=by rw [cell_of_row W g 1 _ _ (0,0) h];rfl
theorem B4A.c2 (h:B4A W g x y z u):W.cell? ⟨g,2,none⟩=some z:=by rw [cell_of_row W g 2 _ _ (0,0) h];rfl
theorem B4A.c3 (h:B4A W g x y z u):W.cell? ⟨g,3,none⟩=some u:=by rw [cell_of_row W g 3 _ _ (0,0) h];rfl
theorem B4A.all (h:B4A W g x y z u):W.cell? ⟨g,0,none⟩=some x∧W.cell? ⟨g,1,none⟩=some y∧W.cell? ⟨g,2,none⟩=some z∧W.cell? ⟨g,3,none⟩=some u:=⟨h.c0,h.c1,h.c2,h.c3⟩
theorem B4A.f0 (h:B4A W g x y z u):W.frozen? ⟨g,0,none⟩=false:=frozen_of_row W g 0 _ _ h
theorem B4A.f1 (h:B4A W g x y z u):W.frozen? ⟨g,1,none⟩=false:=frozen_of_row W g 1 _ _ h
theorem B4A.f2 (h:B4A W g x y z u):W.frozen? ⟨g,2,none⟩=false:=frozen_of_row W g 2 _ _ h
theorem B4A.f3 (h:B4A W g x y z u):W.frozen? ⟨g,3,none⟩=false:=frozen_of_row W g 3 _ _ h
theorem B4A.lt (h:B4A W g x y z u):g < W.heap.size:=World.block_lt_of_cell? W _ h.c0
theorem B4A.below (h:B4A W g x y z u) (hb:Below W.heap.size W W'):B4A W' g x y z u:=(hb.block g h.lt).trans h
theorem B4A.alloc (h:B4A W g x y z u) (o:Obj):B4A (W.alloc o) g x y z u:=(Below.heap_alloc W o g h.lt).trans h
theorem B4A.new' (W:World) (x y z u:Value) (g:Nat) (hg:g=W.heap.size):B4A (W.alloc (.cells #[x,y,z,u] 76)) g x y z u:=by subst hg;exact heap_alloc_new W _
theorem B4A.set4 (h:B4A W g x y z u) (a b c d:Value):B4A ((((W.setCell ⟨g,0,none⟩ a).setCell ⟨g,1,none⟩ b).setCell ⟨g,2,none⟩ c).setCell ⟨g,3,none⟩ d) g a b c d:=by
 unfold B4A at h ⊢
 simp [World.setCell,Array.getElem?_modify,h]
end
theorem below_set4a {B g:Nat} {w W:World} (h:Below B w W) (hg:B≤g) (a b c d:Value):Below B w ((((W.setCell ⟨g,0,none⟩ a).setCell ⟨g,1,none⟩ b).setCell ⟨g,2,none⟩ c).setCell ⟨g,3,none⟩ d):=(((h.setCell hg _).setCell hg _).setCell hg _).setCell hg _
theorem free4 (s:Bool) (A B:Option Addr) (n c m d:Nat) (t:Bool):∀ (x:Nat) (k:IntKind) (v:Int),(#[.bool s,.slice A n c,.slice B m d,.bool t]:Array Value)[x]? ≠ some (.int k v):=by
 intro x k v h
 match x,h with
 | 0,h=>cases h
 | 1,h=>cases h
 | 2,h=>cases h
 | 3,h=>cases h
 | x+4,h=>cases h
def GivesAt (w:World) (v:Rat) (k:Nat) (e:Ending) (w':World):Prop :=
 ∃ s A n c B m d,e=.returned (.agg #[.bool s,.slice A n c,.slice B m d,.bool true])∧RQ w' s A n c B m d v k∧Below w.heap.size w w'
def GivesNoAt (w:World) (e:Ending) (w':World):Prop :=
 e=.returned (.agg #[.bool false,.slice none 0 0,.slice none 0 0,.bool false])∧Below w.heap.size w w'
theorem box4_of {g:Nat} {s t:Bool} {A B:Option Addr} {n c m d:Nat} (h:B4A w g (.bool s) (.slice A n c) (.slice B m d) (.bool t)):BoxAt 76 w g #[.bool s,.slice A n c,.slice B m d,.bool t]:=⟨h,free4 _ _ _ _ _ _ _ _⟩
theorem RQ.set4 {g:Nat} {s s0 t0:Bool} {A B A1 A2:Option Addr} {n c m d k n1 c1 n2 c2:Nat} {v:Rat} (h:RQ w s A n c B m d v k) (Z:B4A w g (.bool s0) (.slice A1 n1 c1) (.slice A2 n2 c2) (.bool t0)) (a b c' d':Value) :
 RQ ((((w.setCell ⟨g,0,none⟩ a).setCell ⟨g,1,none⟩ b).setCell ⟨g,2,none⟩ c').setCell ⟨g,3,none⟩ d') s A n c B m d v k :=
 h.box (box4_of Z) (((((Only.refl g w).setCell 0 _).setCell 1 _).setCell 2 _).setCell 3 _)
theorem run_fr1 {e1:Operand→Value} {x1:Operand} {d1:Option Tmp} {y1 g:Nat} {pos:String} {af:Array Edge} (h:e1 x1=.pointer (some ⟨g,0,none⟩)) :
 (execOp e1 ⟨d1,.fieldAddr 60 x1 1,y1,pos,af,none⟩).run Tryz.prog w=.ok (.value (.pointer (some ⟨g,3,none⟩))) w:=by
 go_simp
theorem run_loadR1 {e1:Operand→Value} {x1:Operand} {d1:Option Tmp} {y1 g:Nat} {pos:String} {af:Array Edge} {a b c d e f:Value} (h:e1 x1=.pointer (some ⟨g,3,none⟩)) (Z:B6R w g a b c d e f) :
 (execOp e1 ⟨d1,.load 37 x1,y1,pos,af,none⟩).run Tryz.prog w=.ok (.value (.agg #[d,e,f])) w:=by
 have c0:=Z.c3;have c1:=Z.c4;have c2:=Z.c5
 go_simp
theorem fld_pt {a b c d e f:Value} (w:World):(Instr.field 60 (.agg #[a,b,c,d,e,f]) 0).run Tryz.prog w=.ok (.agg #[a,b,c]) w:=by kernel_rfl
theorem rbetween_yes {k:Nat} {xv xa xb:Rat} (v:RQ w s_v A_v n_v c_v B_v m_v d_v xv k) (a:RQ w s_a A_a n_a c_a B_a m_a d_a xa k) (b:RQ w s_b A_b n_b c_b B_b m_b d_b xb k) (hk:k≤10000) (h:inQ xv xa xb) :
 Calls Tryz.prog 102 #[.agg #[.bool s_v,.slice A_v n_v c_v,.slice B_v m_v d_v],.agg #[.bool s_a,.slice A_a n_a c_a,.slice B_a m_a d_a],.agg #[.bool s_b,.slice A_b n_b c_b,.slice B_b m_b d_b]] w fun e w'=>e=.returned (.bool true)∧Below w.heap.size w w':=rbetween v a b hk true ⟨fun _=>h,fun _=>rfl⟩
theorem rbetween_no {k:Nat} {xv xa xb:Rat} (v:RQ w s_v A_v n_v c_v B_v m_v d_v xv k) (a:RQ w s_a A_a n_a c_a B_a m_a d_a xa k) (b:RQ w s_b A_b n_b c_b B_b m_b d_b xb k) (hk:k≤10000) (h:¬ inQ xv xa xb) :
 Calls Tryz.prog 102 #[.agg #[.bool s_v,.slice A_v n_v c_v,.slice B_v m_v d_v],.agg #[.bool s_a,.slice A_a n_a c_a,.slice B_a m_a d_a],.agg #[.bool s_b,.slice A_b n_b c_b,.slice B_b m_b d_b]] w fun e w'=>e=.returned (.bool false)∧Below w.heap.size w w':=rbetween v a b hk false ⟨fun e=>(by cases e),fun e=>absurd e h⟩
abbrev L_lev3:List Nat:=[24,25,26,27,28,29,30,31,32,33,7]
def o0_lev3:Oper:=⟨some 24,.load 37 (.tmp 5),37, "ref.go:64",#[],none⟩
def o1_lev3:Oper:=⟨some 25,.fieldAddr 60 (.tmp 3) 1,0, "ref.go:64",#[],none⟩
def o2_lev3:Oper:=⟨some 26,.load 37 (.tmp 25),37, "ref.go:64",#[⟨1,.data⟩],none⟩
def o3_lev3:Oper:=⟨some 27,.call ⟨.value (.func 103),#[.tmp 24,.tmp 26],#[37,37]⟩,37, "ref.go:64",#[⟨0,.data⟩,⟨2,.data⟩],none⟩
def o4_lev3:Oper:=⟨some 28,.fieldAddr 60 (.tmp 4) 1,0, "ref.go:64",#[],none⟩
def o5_lev3:Oper:=⟨some 29,.load 37 (.tmp 28),37, "ref.go:64",#[⟨4,.data⟩],none⟩
def o6_lev3:Oper:=⟨some 30,.fieldAddr 60 (.tmp 3) 1,0, "ref.go:64",#[],none⟩
def o7_lev3:Oper:=⟨some 31,.load 37 (.tmp 30),37, "ref.go:64",#[⟨6,.data⟩],none⟩
def o8_lev3:Oper:=⟨some 32,.call ⟨.value (.func 103),#[.tmp 29,.tmp 31],#[37,37]⟩,37, "ref.go:64",#[⟨5,.data⟩,⟨7,.data⟩,⟨3,.chain⟩],none⟩
def o9_lev3:Oper:=⟨some 33,.call ⟨.value (.func 94),#[.tmp 27,.tmp 32],#[37,37]⟩,37, "ref.go:64",#[⟨3,.data⟩,⟨8,.data⟩,⟨8,.chain⟩],none⟩
def o10_lev3:Oper:=⟨some 7,.alloc 37,0, "ref.go:64",#[],none⟩
def o11_lev3:Oper:=⟨none,.store 37 (.tmp 7) (.tmp 33),0, "ref.go:64",#[⟨10,.data⟩,⟨9,.data⟩,⟨9,.chain⟩,⟨0,.phase⟩,⟨1,.phase⟩,⟨2,.phase⟩,⟨3,.phase⟩,⟨4,.phase⟩,⟨5,.phase⟩,⟨6,.phase⟩,⟨7,.phase⟩,⟨8,.phase⟩,⟨9,.phase⟩,⟨10,.phase⟩],none⟩
theorem rc_gesso_gessoref03_Sub {e:Operand→Value} {x0 x1:Operand} {d:Option Tmp} {y:Nat} {pos:String} {af:Array Edge} {u0 u1:Value} (h0:e x0=u0) (h1:e x1=u1) (hf:e (.func 103)=.func (.func 103) #[] #[]) :
 (execOp e ⟨d,.call ⟨.value (.func 103),#[x0,x1],#[37,37]⟩,y,pos,af,none⟩).run Tryz.prog w=.ok (.enter 103 #[u0,u1]) w:=by
 go_simp
theorem rc_gesso_gessoref03_Div {e:Operand→Value} {x0 x1:Operand} {d:Option Tmp} {y:Nat} {pos:String} {af:Array Edge} {u0 u1:Value} (h0:e x0=u0) (h1:e x1=u1) (hf:e (.func 94)=.func (.func 94) #[] #[]) :
 (execOp e ⟨d,.call ⟨.value (.func 94),#[x0,x1],#[37,37]⟩,y,pos,af,none⟩).run Tryz.prog w=.ok (.enter 94 #[u0,u1]) w:=by
 go_simp
def F_lev3 (s_y:Bool) (A_y:Option Addr) (B_y:Option Addr) (n_y:Nat) (c_y:Nat) (m_y:Nat) (d_y:Nat) (t_p:Bool) (E_p:Option Addr) (F_p:Option Addr) (i_p:Nat) (e_p:Nat) (j_p:Nat) (f_p:Nat) (t_q:Bool) (E_q:Option Addr) (F_q:Option Addr) (i_q:Nat) (e_q:Nat) (j_q:Nat) (f_q:Nat) (ay:Rat) (by_:Rat) (yv:Rat) (k:Nat) (gp:Nat) (gq:Nat) (sl:Nat):Value→World→Prop :=
 match sl with
 | 24=>fun x _=>x=Value.agg #[.bool s_y,.slice A_y n_y c_y,.slice B_y m_y d_y]
 | 25=>fun x _=>x=Value.pointer (some ⟨gp,3,none⟩)
 | 26=>fun x _=>x=Value.agg #[.bool t_p,.slice E_p i_p e_p,.slice F_p j_p f_p]
 | 27=>VRQ (yv - ay) (k+k+1)
 | 28=>fun x _=>x=Value.pointer (some ⟨gq,3,none⟩)
 | 29=>fun x _=>x=Value.agg #[.bool t_q,.slice E_q i_q e_q,.slice F_q j_q f_q]
 | 30=>fun x _=>x=Value.pointer (some ⟨gp,3,none⟩)
 | 31=>fun x _=>x=Value.agg #[.bool t_p,.slice E_p i_p e_p,.slice F_p j_p f_p]
 | 32=>VRQ (by_ - ay) (k+k+1)
 | 33=>VRQ ((yv - ay) / (by_ - ay)) (k+k+1+(k+k+1))
 | _=>fun _ _=>True
def B0_lev3 (ay:Rat) (by_:Rat) (yv:Rat) (k:Nat):BoxOp :=
 ⟨10,11,7,37,#[.bool false,.slice none 0 0,.slice none 0 0],fun cs w=>∃ s A n c B m d,cs=#[.bool s,.slice A n c,.slice B m d]∧RQ w s A n c B m d ((yv - ay) / (by_ - ay)) (k+k+1+(k+k+1))⟩
theorem lev3_region {id:Nat} {ac:Act} {Q:Exit→Act→World→Prop} {ax ay bx by_ yv:Rat} {k gp gq gy:Nat}
 (hsz:33 < ac.tmps.size) (e5:ac.eval (.tmp 5)=Value.pointer (some ⟨gy,0,none⟩)) (e3:ac.eval (.tmp 3)=Value.pointer (some ⟨gp,0,none⟩)) (e4:ac.eval (.tmp 4)=Value.pointer (some ⟨gq,0,none⟩)) (XA:B6R w gp (.bool s_p) (.slice A_p n_p c_p) (.slice B_p m_p d_p) (.bool t_p) (.slice E_p i_p e_p) (.slice F_p j_p f_p)) (XB:B6R w gq (.bool s_q) (.slice A_q n_q c_q) (.slice B_q m_q d_q) (.bool t_q) (.slice E_q i_q e_q) (.slice F_q j_q f_q)) (XC:B3R w gy (.bool s_y) (.slice A_y n_y c_y) (.slice B_y m_y d_y)) (p:RP w s_p A_p n_p c_p B_p m_p d_p t_p E_p i_p e_p F_p j_p f_p ax ay k) (q:RP w s_q A_q n_q c_q B_q m_q d_q t_q E_q i_q e_q F_q j_q f_q bx by_ k) (y:RQ w s_y A_y n_y c_y B_y m_y d_y yv k) (hk:k≤300) (hne:by_ - ay ≠ 0)
 (hend:∀ (V:Nat→Value) (w':World) (g0:Nat) (s0:Bool) (A0:Option Addr) (n0:Nat) (c0:Nat) (B0:Option Addr) (m0:Nat) (d0:Nat),RQ w' s0 A0 n0 c0 B0 m0 d0 ((yv - ay) / (by_ - ay)) (k+k+1+(k+k+1))→B3R w' g0 (.bool s0) (.slice A0 n0 c0) (.slice B0 m0 d0)→w.heap.size≤g0→V 7=.pointer (some ⟨g0,0,none⟩)→Below w.heap.size w w'→Q .normal (putAll ac [24,25,26,27,28,29,30,31,32,33,7] V) w') :
 (Code.region id #[o0_lev3,o1_lev3,o2_lev3,o3_lev3,o4_lev3,o5_lev3,o6_lev3,o7_lev3,o8_lev3,o9_lev3,o10_lev3,o11_lev3] true).wp Tryz.prog Q ac w:=by
 have hnd:L_lev3.Nodup:=by decide
 have G:∀ (sv:Nat→Value) (t:Nat),t ∈ L_lev3→t≤33→(putAll ac L_lev3 sv).eval (.tmp t)=sv t:=fun sv t ht h=>eval_putAll_mem (t:=t) L_lev3 ac hnd ht (Nat.lt_of_le_of_lt h hsz)
 have E5:∀ sv:Nat→Value,(putAll ac L_lev3 sv).eval (.tmp 5)=Value.pointer (some ⟨gy,0,none⟩):=fun sv=>(eval_putAll_not (v:=sv) L_lev3 ac (show 5 ∉ _ by decide)).trans e5
 have E3:∀ sv:Nat→Value,(putAll ac L_lev3 sv).eval (.tmp 3)=Value.pointer (some ⟨gp,0,none⟩):=fun sv=>(eval_putAll_not (v:=sv) L_lev3 ac (show 3 ∉ _ by decide)).trans e3
 have E4:∀ sv:Nat→Value,(putAll ac L_lev3 sv).eval (.tmp 4)=Value.pointer (some ⟨gq,0,none⟩):=fun sv=>(eval_putAll_not (v:=sv) L_lev3 ac (show 4 ∉ _ by decide)).trans e4
 have NE:∀ t:Nat,(t ≠ 7)→∀ p ∈ [B0_lev3 ay by_ yv k],t ≠ p.tA:=by
  intro t ht p hp
  simp only [List.mem_cons,List.not_mem_nil,or_false] at hp
  rcases hp with rfl
  · exact ht
 refine wp_region_flows L_lev3 [B0_lev3 ay by_ yv k] (F_lev3 s_y A_y B_y n_y c_y m_y d_y t_p E_p F_p i_p e_p j_p f_p t_q E_q F_q i_q e_q j_q f_q ay by_ yv k gp gq) (by kernel_rfl) (by kernel_rfl) rfl hnd ?_ ?_ ?_ ?_ ?_ ?_ ?_ ?_
 · intro p hp
   simp only [List.mem_cons,List.not_mem_nil,or_false] at hp
   rcases hp with rfl
   · refine ⟨⟨o10_lev3,rfl,rfl,rfl,fun e w'=>run_alloc3⟩,⟨o11_lev3,rfl,rfl,rfl,⟨10,.data⟩,by simp [o11_lev3],rfl,rfl⟩,free3 _ _ _ _ _ _ _,?_,?_⟩
     · rintro cs w1 w2 ⟨s_,A_,n_,c_,B_,m_,d_,rfl,h⟩ hb;exact ⟨s_,A_,n_,c_,B_,m_,d_,rfl,h.below hb⟩
     · rintro T cs w1 w2 g c0 ⟨s_,A_,n_,c_,B_,m_,d_,rfl,h⟩ hB ho;exact ⟨s_,A_,n_,c_,B_,m_,d_,rfl,h.box hB ho⟩
 · intro p hp q hq h
   simp only [List.mem_cons,List.not_mem_nil,or_false] at hp hq
   rcases hp with rfl <;> rcases hq with rfl
   · rfl
 · intro p hp q hq h
   simp only [List.mem_cons,List.not_mem_nil,or_false] at hp hq
   rcases hp with rfl <;> rcases hq with rfl
   · rfl
 · intro i o h1 h2
   match i,h1 with
   | 0,h1=>cases h1;cases h2
   | 1,h1=>cases h1;cases h2
   | 2,h1=>cases h1;cases h2
   | 3,h1=>cases h1;cases h2
   | 4,h1=>cases h1;cases h2
   | 5,h1=>cases h1;cases h2
   | 6,h1=>cases h1;cases h2
   | 7,h1=>cases h1;cases h2
   | 8,h1=>cases h1;cases h2
   | 9,h1=>cases h1;cases h2
   | 10,h1=>cases h1;cases h2
   | 11,h1=>exact ⟨B0_lev3 ay by_ yv k,List.Mem.head _,rfl⟩
   | i+12,h1=>cases h1
 · intro t
   unfold F_lev3
   split <;> first | exact stays_eq _ | exact stays_q _ _ | exact stays_z _ _ | exact stays_r _ _ | exact stays_rq _ _ | exact stays_pg _ _ _ | exact stays_true
 · intro i o t sv w' ho hia hd J0 hf
   have y:=y.below J0;have p:=p.below J0;have q:=q.below J0;have XA:=XA.below J0;have XB:=XB.below J0;have XC:=XC.below J0
   match i,ho with
   | 0,ho =>
     obtain rfl:o0_lev3=o:=Option.some.inj ho
     cases hd
     refine wpOp_plain' (o:=o0_lev3) rfl rfl ?_
     unfold Oper.wp o0_lev3
     rw [run_load3 (E5 sv) XC.c0 XC.c1 XC.c2,Oper.upon_value]
     exact ⟨_,rfl,Below.refl _ _,rfl⟩
   | 1,ho =>
     obtain rfl:o1_lev3=o:=Option.some.inj ho
     cases hd
     refine wpOp_plain' (o:=o1_lev3) rfl rfl ?_
     unfold Oper.wp o1_lev3
     rw [run_fr1 (E3 sv),Oper.upon_value]
     exact ⟨_,rfl,Below.refl _ _,rfl⟩
   | 2,ho =>
     obtain rfl:o2_lev3=o:=Option.some.inj ho
     cases hd
     have f25:sv 25=Value.pointer (some ⟨gp,3,none⟩):=hf ⟨1,.data⟩ (by simp [o2_lev3]) rfl _ 25 rfl rfl (NE _ (by decide))
     refine wpOp_plain' (o:=o2_lev3) rfl rfl ?_
     unfold Oper.wp o2_lev3
     rw [run_loadR1 ((G sv 25 (by decide) (by decide)).trans f25) XA,Oper.upon_value]
     exact ⟨_,rfl,Below.refl _ _,rfl⟩
   | 3,ho =>
     obtain rfl:o3_lev3=o:=Option.some.inj ho
     cases hd
     have f24:sv 24=Value.agg #[.bool s_y,.slice A_y n_y c_y,.slice B_y m_y d_y]:=hf ⟨0,.data⟩ (by simp [o3_lev3]) rfl _ 24 rfl rfl (NE _ (by decide))
     have f26:sv 26=Value.agg #[.bool t_p,.slice E_p i_p e_p,.slice F_p j_p f_p]:=hf ⟨2,.data⟩ (by simp [o3_lev3]) rfl _ 26 rfl rfl (NE _ (by decide))
     refine wpOp_plain' (o:=o3_lev3) rfl rfl ?_
     unfold Oper.wp o3_lev3
     rw [rc_gesso_gessoref03_Sub ((G sv 24 (by decide) (by decide)).trans f24) ((G sv 26 (by decide) (by decide)).trans f26) rfl,Oper.upon_enter]
     refine (rsub3 y p.qy (by omega) (by omega)).mono ?_
     rintro e w1 ⟨s_,A_,n_,c_,B_,m_,d_,rfl,hq,hh⟩
     exact ⟨_,rfl,hh,s_,A_,n_,c_,B_,m_,d_,rfl,hq⟩
   | 4,ho =>
     obtain rfl:o4_lev3=o:=Option.some.inj ho
     cases hd
     refine wpOp_plain' (o:=o4_lev3) rfl rfl ?_
     unfold Oper.wp o4_lev3
     rw [run_fr1 (E4 sv),Oper.upon_value]
     exact ⟨_,rfl,Below.refl _ _,rfl⟩
   | 5,ho =>
     obtain rfl:o5_lev3=o:=Option.some.inj ho
     cases hd
     have f28:sv 28=Value.pointer (some ⟨gq,3,none⟩):=hf ⟨4,.data⟩ (by simp [o5_lev3]) rfl _ 28 rfl rfl (NE _ (by decide))
     refine wpOp_plain' (o:=o5_lev3) rfl rfl ?_
     unfold Oper.wp o5_lev3
     rw [run_loadR1 ((G sv 28 (by decide) (by decide)).trans f28) XB,Oper.upon_value]
     exact ⟨_,rfl,Below.refl _ _,rfl⟩
   | 6,ho =>
     obtain rfl:o6_lev3=o:=Option.some.inj ho
     cases hd
     refine wpOp_plain' (o:=o6_lev3) rfl rfl ?_
     unfold Oper.wp o6_lev3
     rw [run_fr1 (E3 sv),Oper.upon_value]
     exact ⟨_,rfl,Below.refl _ _,rfl⟩
   | 7,ho =>
     obtain rfl:o7_lev3=o:=Option.some.inj ho
     cases hd
     have f30:sv 30=Value.pointer (some ⟨gp,3,none⟩):=hf ⟨6,.data⟩ (by simp [o7_lev3]) rfl _ 30 rfl rfl (NE _ (by decide))
     refine wpOp_plain' (o:=o7_lev3) rfl rfl ?_
     unfold Oper.wp o7_lev3
     rw [run_loadR1 ((G sv 30 (by decide) (by decide)).trans f30) XA,Oper.upon_value]
     exact ⟨_,rfl,Below.refl _ _,rfl⟩
   | 8,ho =>
     obtain rfl:o8_lev3=o:=Option.some.inj ho
     cases hd
     have f29:sv 29=Value.agg #[.bool t_q,.slice E_q i_q e_q,.slice F_q j_q f_q]:=hf ⟨5,.data⟩ (by simp [o8_lev3]) rfl _ 29 rfl rfl (NE _ (by decide))
     have f31:sv 31=Value.agg #[.bool t_p,.slice E_p i_p e_p,.slice F_p j_p f_p]:=hf ⟨7,.data⟩ (by simp [o8_lev3]) rfl _ 31 rfl rfl (NE _ (by decide))
     refine wpOp_plain' (o:=o8_lev3) rfl rfl ?_
     unfold Oper.wp o8_lev3
     rw [rc_gesso_gessoref03_Sub ((G sv 29 (by decide) (by decide)).trans f29) ((G sv 31 (by decide) (by decide)).trans f31) rfl,Oper.upon_enter]
     refine (rsub3 q.qy p.qy (by omega) (by omega)).mono ?_
     rintro e w1 ⟨s_,A_,n_,c_,B_,m_,d_,rfl,hq,hh⟩
     exact ⟨_,rfl,hh,s_,A_,n_,c_,B_,m_,d_,rfl,hq⟩
   | 9,ho =>
     obtain rfl:o9_lev3=o:=Option.some.inj ho
     cases hd
     have h27:VRQ (yv - ay) (k+k+1) (sv 27) w':=hf ⟨3,.data⟩ (by simp [o9_lev3]) rfl _ 27 rfl rfl (NE _ (by decide))
     obtain ⟨s27_,A27_,n27_,c27_,B27_,m27_,d27_,f27,q27⟩:=h27
     have h32:VRQ (by_ - ay) (k+k+1) (sv 32) w':=hf ⟨8,.data⟩ (by simp [o9_lev3]) rfl _ 32 rfl rfl (NE _ (by decide))
     obtain ⟨s32_,A32_,n32_,c32_,B32_,m32_,d32_,f32,q32⟩:=h32
     refine wpOp_plain' (o:=o9_lev3) rfl rfl ?_
     unfold Oper.wp o9_lev3
     rw [rc_gesso_gessoref03_Div ((G sv 27 (by decide) (by decide)).trans f27) ((G sv 32 (by decide) (by decide)).trans f32) rfl,Oper.upon_enter]
     refine (rdiv3 q27 q32 (by omega) (by omega) hne).mono ?_
     rintro e w1 ⟨s_,A_,n_,c_,B_,m_,d_,rfl,hq,hh⟩
     exact ⟨_,rfl,hh,s_,A_,n_,c_,B_,m_,d_,rfl,hq⟩
   | 10,ho=>cases ho;cases hd;exact absurd rfl (hia (B0_lev3 ay by_ yv k) (List.Mem.head _))
   | 11,ho=>cases ho;cases hd
   | i+12,ho=>cases ho
 · intro p hp os sv w' g hos J0 p1 p3 hf
   simp only [List.mem_cons,List.not_mem_nil,or_false] at hp
   rcases hp with rfl
   · obtain rfl:o11_lev3=os:=Option.some.inj hos
     have h1:VRQ ((yv - ay) / (by_ - ay)) (k+k+1+(k+k+1)) (sv 33) w':=hf ⟨9,.data⟩ (by simp [o11_lev3]) rfl _ 33 rfl rfl (NE _ (by decide))
     rw [← G sv 33 (by decide) (by decide)] at h1
     refine store_rq (V:=(yv - ay) / (by_ - ay)) (k:=k+k+1+(k+k+1)) (ac:=putAll ac L_lev3 sv) (z:=.tmp 33) ?_ ?_ ?_
     · exact (G sv 7 (by decide) (by decide)).trans p1
     · exact h1
     · exact p3
 · intro sv w' J0 hF hB hap
   obtain ⟨g0,cs0,p0,r0,b0,⟨s0,A0,n0,c0,B0,m0,d0,rfl,h0⟩⟩:=hB (B0_lev3 ay by_ yv k) (List.Mem.head _)
   have p0':sv 7=.pointer (some ⟨g0,0,none⟩):=p0
   exact hend sv w' g0 _ _ _ _ _ _ _ h0 b0.at_ r0 p0'  J0
theorem mkbx42_18 {w W:World} {x0 x1 x2 x3 x4 x5 x6 x7 x8 x9 x10 x11 x12 x13 x14 x15 x16 x17 x18:Value} (h:((((w.alloc (Obj.cells #[x0,x1,x2,x3,x4,x5] 60)).alloc (Obj.cells #[x6,x7,x8,x9,x10,x11] 60)).alloc (Obj.cells #[x12,x13,x14] 37)).alloc (Obj.cells #[x15,x16,x17,x18] 76))=W):Below w.heap.size w W∧B6R W (w.heap.size) x0 x1 x2 x3 x4 x5∧B6R W (w.heap.size+1) x6 x7 x8 x9 x10 x11∧B3R W (w.heap.size+1+1) x12 x13 x14∧B4A W (w.heap.size+1+1+1) x15 x16 x17 x18∧W.heap.size=w.heap.size+4:=by subst h;exact ⟨by exact (((((Below.refl _ _).alloc (Nat.le_refl _) _).alloc (by simp) _).alloc (by simp;omega) _).alloc (by simp;omega) _),by exact (((B6R.new' _ _ _ _ _ _ _ _ rfl).alloc _).alloc _).alloc _,by exact ((B6R.new' _ _ _ _ _ _ _ _ (by simp)).alloc _).alloc _,by exact (B3R.new' _ _ _ _ _ (by simp)).alloc _,by exact B4A.new' _ _ _ _ _ _ (by simp),by simp⟩
theorem rlevel_eq {k:Nat} {ax ay bx by_ yv:Rat} (p:RP w s_p A_p n_p c_p B_p m_p d_p t_p E_p i_p e_p F_p j_p f_p ax ay k) (q:RP w s_q A_q n_q c_q B_q m_q d_q t_q E_q i_q e_q F_q j_q f_q bx by_ k) (y:RQ w s_y A_y n_y c_y B_y m_y d_y yv k) (hk:k≤50) (h:ay=by_) :
 Calls Tryz.prog 41 #[.agg #[.bool s_p,.slice A_p n_p c_p,.slice B_p m_p d_p,.bool t_p,.slice E_p i_p e_p,.slice F_p j_p f_p],.agg #[.bool s_q,.slice A_q n_q c_q,.slice B_q m_q d_q,.bool t_q,.slice E_q i_q e_q,.slice F_q j_q f_q],.agg #[.bool s_y,.slice A_y n_y c_y,.slice B_y m_y d_y]] w (GivesNoAt w):=by
 obtain ⟨K,hK,h0⟩:∃ K,cmpQ ay by_=K∧((K:Int) == 0)=true:=⟨_,rfl,by rw [cmpQ_nul.2 h];rfl⟩
 have HK:=Lib.hid hK;clear hK h
 go_enter Tryz.func41,Tryz.ntmps41
 go_upto_region 1 with (fail)
 generalize hW:World.alloc _ _=W
 obtain ⟨hb,XA,XB,XC,Z,hzW⟩:=mkbx42_18 hW;clear hW;replace p:=p.below hb;replace q:=q.below hb;replace y:=y.below hb;obtain ⟨xa0,xa1,xa2,xa3,xa4,xa5⟩:=XA.all;obtain ⟨xb0,xb1,xb2,xb3,xb4,xb5⟩:=XB.all;obtain ⟨xc0,xc1,xc2⟩:=XC.all
 go_wp2_with (first
  | (go_at_call 97;(with_reducible refine (rcmp3 p.qy q.qy (by omega) (by omega)).mono ?_);rintro e w_z ⟨rfl,hh⟩
     rw [HK.out];(try replace p:=p.below hh);(try replace q:=q.below hh);(try replace y:=y.below hh);(try replace XA:=XA.below hh);(try replace XB:=XB.below hh);(try replace XC:=XC.below hh);(try replace Z:=Z.below hh);replace hb:=bend hb hh;obtain ⟨xa0,xa1,xa2,xa3,xa4,xa5⟩:=XA.all;obtain ⟨xb0,xb1,xb2,xb3,xb4,xb5⟩:=XB.all;obtain ⟨xc0,xc1,xc2⟩:=XC.all;have zg0:=Z.f0;have zg1:=Z.f1;have zg2:=Z.f2;have zg3:=Z.f3;obtain ⟨zc0,zc1,zc2,zc3⟩:=Z.all))
 have Z2:=Z.set4 (.bool false) (.slice none 0 0) (.slice none 0 0) (.bool false)
 obtain ⟨g0,g1,g2,g3⟩:=Z2.all
 refine bodyPost_ret (v:=.agg #[.bool false,.slice none 0 0,.slice none 0 0,.bool false]) (by simp [results,Tryz.results41,go_sem,g0,g1,g2,g3]) rfl ?_
 exact ⟨rfl,below_set4a hb (by omega) _ _ _ _⟩
theorem rlevel_out {k:Nat} {ax ay bx by_ yv:Rat} (p:RP w s_p A_p n_p c_p B_p m_p d_p t_p E_p i_p e_p F_p j_p f_p ax ay k) (q:RP w s_q A_q n_q c_q B_q m_q d_q t_q E_q i_q e_q F_q j_q f_q bx by_ k) (y:RQ w s_y A_y n_y c_y B_y m_y d_y yv k) (hk:k≤50) (h:ay ≠ by_) (hn:¬ inQ yv ay by_) :
 Calls Tryz.prog 41 #[.agg #[.bool s_p,.slice A_p n_p c_p,.slice B_p m_p d_p,.bool t_p,.slice E_p i_p e_p,.slice F_p j_p f_p],.agg #[.bool s_q,.slice A_q n_q c_q,.slice B_q m_q d_q,.bool t_q,.slice E_q i_q e_q,.slice F_q j_q f_q],.agg #[.bool s_y,.slice A_y n_y c_y,.slice B_y m_y d_y]] w (GivesNoAt w):=by
 obtain ⟨K,hK,h0⟩:∃ K,cmpQ ay by_=K∧((K:Int) == 0)=false:=⟨_,rfl,by simpa using fun e=>h (cmpQ_nul.1 e)⟩
 have HK:=Lib.hid hK;have HR:=Lib.hid hn;clear hK h hn
 go_enter Tryz.func41,Tryz.ntmps41
 go_upto_region 1 with (fail)
 generalize hW:World.alloc _ _=W
 obtain ⟨hb,XA,XB,XC,Z,hzW⟩:=mkbx42_18 hW;clear hW;replace p:=p.below hb;replace q:=q.below hb;replace y:=y.below hb;obtain ⟨xa0,xa1,xa2,xa3,xa4,xa5⟩:=XA.all;obtain ⟨xb0,xb1,xb2,xb3,xb4,xb5⟩:=XB.all;obtain ⟨xc0,xc1,xc2⟩:=XC.all
 go_wp2_with (first
  | (go_at_call 97;(with_reducible refine (rcmp3 p.qy q.qy (by omega) (by omega)).mono ?_);rintro e w_z ⟨rfl,hh⟩
     rw [HK.out];(try replace p:=p.below hh);(try replace q:=q.below hh);(try replace y:=y.below hh);(try replace XA:=XA.below hh);(try replace XB:=XB.below hh);(try replace XC:=XC.below hh);(try replace Z:=Z.below hh);replace hb:=bend hb hh;obtain ⟨xa0,xa1,xa2,xa3,xa4,xa5⟩:=XA.all;obtain ⟨xb0,xb1,xb2,xb3,xb4,xb5⟩:=XB.all;obtain ⟨xc0,xc1,xc2⟩:=XC.all;have zg0:=Z.f0;have zg1:=Z.f1;have zg2:=Z.f2;have zg3:=Z.f3;obtain ⟨zc0,zc1,zc2,zc3⟩:=Z.all)
  | (go_at_call 102;(with_reducible refine (rbetween_no y p.qy q.qy (by omega) HR.out).mono ?_);rintro e w_z ⟨rfl,hh⟩
     (try replace p:=p.below hh);(try replace q:=q.below hh);(try replace y:=y.below hh);(try replace XA:=XA.below hh);(try replace XB:=XB.below hh);(try replace XC:=XC.below hh);(try replace Z:=Z.below hh);replace hb:=bend hb hh;obtain ⟨xa0,xa1,xa2,xa3,xa4,xa5⟩:=XA.all;obtain ⟨xb0,xb1,xb2,xb3,xb4,xb5⟩:=XB.all;obtain ⟨xc0,xc1,xc2⟩:=XC.all;have zg0:=Z.f0;have zg1:=Z.f1;have zg2:=Z.f2;have zg3:=Z.f3;obtain ⟨zc0,zc1,zc2,zc3⟩:=Z.all))
 have Z2:=Z.set4 (.bool false) (.slice none 0 0) (.slice none 0 0) (.bool false)
 obtain ⟨g0,g1,g2,g3⟩:=Z2.all
 refine bodyPost_ret (v:=.agg #[.bool false,.slice none 0 0,.slice none 0 0,.bool false]) (by simp [results,Tryz.results41,go_sem,g0,g1,g2,g3]) rfl ?_
 exact ⟨rfl,below_set4a hb (by omega) _ _ _ _⟩
theorem rlevel_yes {k:Nat} {ax ay bx by_ yv:Rat} (p:RP w s_p A_p n_p c_p B_p m_p d_p t_p E_p i_p e_p F_p j_p f_p ax ay k) (q:RP w s_q A_q n_q c_q B_q m_q d_q t_q E_q i_q e_q F_q j_q f_q bx by_ k) (y:RQ w s_y A_y n_y c_y B_y m_y d_y yv k) (hk:k≤50) (h:ay ≠ by_) (hn:inQ yv ay by_) :
 Calls Tryz.prog 41 #[.agg #[.bool s_p,.slice A_p n_p c_p,.slice B_p m_p d_p,.bool t_p,.slice E_p i_p e_p,.slice F_p j_p f_p],.agg #[.bool s_q,.slice A_q n_q c_q,.slice B_q m_q d_q,.bool t_q,.slice E_q i_q e_q,.slice F_q j_q f_q],.agg #[.bool s_y,.slice A_y n_y c_y,.slice B_y m_y d_y]] w (GivesAt w (ax+(bx - ax)*((yv - ay) / (by_ - ay))) (k+(k+k+1+(k+k+1+(k+k+1)))+1)):=by
 obtain ⟨K,hK,h0⟩:∃ K,cmpQ ay by_=K∧((K:Int) == 0)=false:=⟨_,rfl,by simpa using fun e=>h (cmpQ_nul.1 e)⟩
 have HK:=Lib.hid hK;have HR:=Lib.hid hn
 have HN:Hid (by_ - ay ≠ 0):=fun e=>h (by grind)
 clear hK h hn
 go_enter Tryz.func41,Tryz.ntmps41
 go_upto_region 1 with (fail)
 generalize hW:World.alloc _ _=W
 obtain ⟨hb,XA,XB,XC,Z,hzW⟩:=mkbx42_18 hW;clear hW;replace p:=p.below hb;replace q:=q.below hb;replace y:=y.below hb;obtain ⟨xa0,xa1,xa2,xa3,xa4,xa5⟩:=XA.all;obtain ⟨xb0,xb1,xb2,xb3,xb4,xb5⟩:=XB.all;obtain ⟨xc0,xc1,xc2⟩:=XC.all
 go_upto_region 3 with (first
  | (go_at_call 97;(with_reducible refine (rcmp3 p.qy q.qy (by omega) (by omega)).mono ?_);rintro e w_z ⟨rfl,hh⟩
     rw [HK.out];(try replace p:=p.below hh);(try replace q:=q.below hh);(try replace y:=y.below hh);(try replace XA:=XA.below hh);(try replace XB:=XB.below hh);(try replace XC:=XC.below hh);(try replace Z:=Z.below hh);replace hb:=bend hb hh;obtain ⟨xa0,xa1,xa2,xa3,xa4,xa5⟩:=XA.all;obtain ⟨xb0,xb1,xb2,xb3,xb4,xb5⟩:=XB.all;obtain ⟨xc0,xc1,xc2⟩:=XC.all)
  | (go_at_call 102;(with_reducible refine (rbetween_yes y p.qy q.qy (by omega) HR.out).mono ?_);rintro e w_z ⟨rfl,hh⟩
     (try replace p:=p.below hh);(try replace q:=q.below hh);(try replace y:=y.below hh);(try replace XA:=XA.below hh);(try replace XB:=XB.below hh);(try replace XC:=XC.below hh);(try replace Z:=Z.below hh);replace hb:=bend hb hh;obtain ⟨xa0,xa1,xa2,xa3,xa4,xa5⟩:=XA.all;obtain ⟨xb0,xb1,xb2,xb3,xb4,xb5⟩:=XB.all;obtain ⟨xc0,xc1,xc2⟩:=XC.all))
 refine lev3_region (by simp) rfl rfl rfl XA XB XC p q y (by omega) HN.out ?_
 intro V w_t g_t s_t A_t n_t c_t B_t m_t d_t t XT hg_t hvt hh
 simp only [putAll,Act.put,List.setIfInBounds_toArray,List.set_cons_zero,List.set_cons_succ,hvt]
 clear hvt;replace p:=p.below hh;replace q:=q.below hh;replace y:=y.below hh;replace XA:=XA.below hh;replace XB:=XB.below hh;replace XC:=XC.below hh;replace Z:=Z.below hh;replace hb:=bend hb hh;obtain ⟨xa0,xa1,xa2,xa3,xa4,xa5⟩:=XA.all;obtain ⟨xb0,xb1,xb2,xb3,xb4,xb5⟩:=XB.all;obtain ⟨xt0,xt1,xt2⟩:=XT.all
 have hfl:∀ (a b c d e f:Value) (w:World),(Instr.field 60 (.agg #[a,b,c,d,e,f]) 0).run Tryz.prog w=.ok (.agg #[a,b,c]) w:=fun a b c d e f w=>fld_pt w
 go_wp2_with (first
  | (go_at_call 95;(with_reducible refine (rmix6 p q t (by omega) (by omega) (by omega)).mono ?_);rintro e w_r ⟨s_r,A_r,n_r,c_r,B_r,m_r,d_r,t_r,E_r,i_r,e_r,F_r,j_r,f_r,rfl,r,hh⟩
     (try replace Z:=Z.below hh);replace hb:=bend hb hh;have zg0:=Z.f0;have zg1:=Z.f1;have zg2:=Z.f2;have zg3:=Z.f3;obtain ⟨zc0,zc1,zc2,zc3⟩:=Z.all))
 have rr:=r.qx
 have Z2:=Z.set4 (.bool s_r) (.slice A_r n_r c_r) (.slice B_r m_r d_r) (.bool true)
 obtain ⟨g0,g1,g2,g3⟩:=Z2.all
 refine bodyPost_ret (v:=.agg #[.bool s_r,.slice A_r n_r c_r,.slice B_r m_r d_r,.bool true]) (by simp [results,Tryz.results41,go_sem,g0,g1,g2,g3]) rfl ?_
 exact ⟨s_r,A_r,n_r,c_r,B_r,m_r,d_r,rfl,rr.set4 Z _ _ _ _,below_set4a hb (by omega) _ _ _ _⟩
theorem rupright_eq {k:Nat} {ax ay bx by_ yv:Rat} (p:RP w s_p A_p n_p c_p B_p m_p d_p t_p E_p i_p e_p F_p j_p f_p ax ay k) (q:RP w s_q A_q n_q c_q B_q m_q d_q t_q E_q i_q e_q F_q j_q f_q bx by_ k) (y:RQ w s_y A_y n_y c_y B_y m_y d_y yv k) (hk:k≤50) (h:ax=bx) :
 Calls Tryz.prog 42 #[.agg #[.bool s_p,.slice A_p n_p c_p,.slice B_p m_p d_p,.bool t_p,.slice E_p i_p e_p,.slice F_p j_p f_p],.agg #[.bool s_q,.slice A_q n_q c_q,.slice B_q m_q d_q,.bool t_q,.slice E_q i_q e_q,.slice F_q j_q f_q],.agg #[.bool s_y,.slice A_y n_y c_y,.slice B_y m_y d_y]] w (GivesNoAt w):=by
 have H0:=Lib.hid h;clear h
 go_enter Tryz.func42,Tryz.ntmps42
 go_upto_region 1 with (fail)
 generalize hW:World.alloc _ _=W
 obtain ⟨hb,XA,XB,XC,Z,hzW⟩:=mkbx42_18 hW;clear hW;replace p:=p.below hb;replace q:=q.below hb;replace y:=y.below hb
 have pp:RP W t_p E_p i_p e_p F_p j_p f_p s_p A_p n_p c_p B_p m_p d_p ay ax k:=⟨p.qy,p.qx⟩
 have qq:RP W t_q E_q i_q e_q F_q j_q f_q s_q A_q n_q c_q B_q m_q d_q by_ bx k:=⟨q.qy,q.qx⟩
 obtain ⟨xa0,xa1,xa2,xa3,xa4,xa5⟩:=XA.all;obtain ⟨xb0,xb1,xb2,xb3,xb4,xb5⟩:=XB.all;obtain ⟨xc0,xc1,xc2⟩:=XC.all
 go_wp2_with (first
  | (go_at_call 41;(with_reducible refine (rlevel_eq pp qq y hk H0.out).mono ?_);rintro e w_z ⟨rfl,hh⟩
     (try replace Z:=Z.below hh);replace hb:=bend hb hh;have zg0:=Z.f0;have zg1:=Z.f1;have zg2:=Z.f2;have zg3:=Z.f3;obtain ⟨zc0,zc1,zc2,zc3⟩:=Z.all))
 have Z2:=Z.set4 (.bool false) (.slice none 0 0) (.slice none 0 0) (.bool false)
 obtain ⟨g0,g1,g2,g3⟩:=Z2.all
 refine bodyPost_ret (v:=.agg #[.bool false,.slice none 0 0,.slice none 0 0,.bool false]) (by simp [results,Tryz.results42,go_sem,g0,g1,g2,g3]) rfl ?_
 exact ⟨rfl,below_set4a hb (by omega) _ _ _ _⟩
theorem rupright_out {k:Nat} {ax ay bx by_ yv:Rat} (p:RP w s_p A_p n_p c_p B_p m_p d_p t_p E_p i_p e_p F_p j_p f_p ax ay k) (q:RP w s_q A_q n_q c_q B_q m_q d_q t_q E_q i_q e_q F_q j_q f_q bx by_ k) (y:RQ w s_y A_y n_y c_y B_y m_y d_y yv k) (hk:k≤50) (h:ax ≠ bx) (hn:¬ inQ yv ax bx) :
 Calls Tryz.prog 42 #[.agg #[.bool s_p,.slice A_p n_p c_p,.slice B_p m_p d_p,.bool t_p,.slice E_p i_p e_p,.slice F_p j_p f_p],.agg #[.bool s_q,.slice A_q n_q c_q,.slice B_q m_q d_q,.bool t_q,.slice E_q i_q e_q,.slice F_q j_q f_q],.agg #[.bool s_y,.slice A_y n_y c_y,.slice B_y m_y d_y]] w (GivesNoAt w):=by
 have H0:=Lib.hid h;clear h;have H1:=Lib.hid hn;clear hn
 go_enter Tryz.func42,Tryz.ntmps42
 go_upto_region 1 with (fail)
 generalize hW:World.alloc _ _=W
 obtain ⟨hb,XA,XB,XC,Z,hzW⟩:=mkbx42_18 hW;clear hW;replace p:=p.below hb;replace q:=q.below hb;replace y:=y.below hb
 have pp:RP W t_p E_p i_p e_p F_p j_p f_p s_p A_p n_p c_p B_p m_p d_p ay ax k:=⟨p.qy,p.qx⟩
 have qq:RP W t_q E_q i_q e_q F_q j_q f_q s_q A_q n_q c_q B_q m_q d_q by_ bx k:=⟨q.qy,q.qx⟩
 obtain ⟨xa0,xa1,xa2,xa3,xa4,xa5⟩:=XA.all;obtain ⟨xb0,xb1,xb2,xb3,xb4,xb5⟩:=XB.all;obtain ⟨xc0,xc1,xc2⟩:=XC.all
 go_wp2_with (first
  | (go_at_call 41;(with_reducible refine (rlevel_out pp qq y hk H0.out H1.out).mono ?_);rintro e w_z ⟨rfl,hh⟩
     (try replace Z:=Z.below hh);replace hb:=bend hb hh;have zg0:=Z.f0;have zg1:=Z.f1;have zg2:=Z.f2;have zg3:=Z.f3;obtain ⟨zc0,zc1,zc2,zc3⟩:=Z.all))
 have Z2:=Z.set4 (.bool false) (.slice none 0 0) (.slice none 0 0) (.bool false)
 obtain ⟨g0,g1,g2,g3⟩:=Z2.all
 refine bodyPost_ret (v:=.agg #[.bool false,.slice none 0 0,.slice none 0 0,.bool false]) (by simp [results,Tryz.results42,go_sem,g0,g1,g2,g3]) rfl ?_
 exact ⟨rfl,below_set4a hb (by omega) _ _ _ _⟩
theorem rupright_yes {k:Nat} {ax ay bx by_ yv:Rat} (p:RP w s_p A_p n_p c_p B_p m_p d_p t_p E_p i_p e_p F_p j_p f_p ax ay k) (q:RP w s_q A_q n_q c_q B_q m_q d_q t_q E_q i_q e_q F_q j_q f_q bx by_ k) (y:RQ w s_y A_y n_y c_y B_y m_y d_y yv k) (hk:k≤50) (h:ax ≠ bx) (hn:inQ yv ax bx) :
 Calls Tryz.prog 42 #[.agg #[.bool s_p,.slice A_p n_p c_p,.slice B_p m_p d_p,.bool t_p,.slice E_p i_p e_p,.slice F_p j_p f_p],.agg #[.bool s_q,.slice A_q n_q c_q,.slice B_q m_q d_q,.bool t_q,.slice E_q i_q e_q,.slice F_q j_q f_q],.agg #[.bool s_y,.slice A_y n_y c_y,.slice B_y m_y d_y]] w (GivesAt w (ay+(by_ - ay)*((yv - ax) / (bx - ax))) (k+(k+k+1+(k+k+1+(k+k+1)))+1)):=by
 have H0:=Lib.hid h;clear h;have H1:=Lib.hid hn;clear hn
 go_enter Tryz.func42,Tryz.ntmps42
 go_upto_region 1 with (fail)
 generalize hW:World.alloc _ _=W
 obtain ⟨hb,XA,XB,XC,Z,hzW⟩:=mkbx42_18 hW;clear hW;replace p:=p.below hb;replace q:=q.below hb;replace y:=y.below hb
 have pp:RP W t_p E_p i_p e_p F_p j_p f_p s_p A_p n_p c_p B_p m_p d_p ay ax k:=⟨p.qy,p.qx⟩
 have qq:RP W t_q E_q i_q e_q F_q j_q f_q s_q A_q n_q c_q B_q m_q d_q by_ bx k:=⟨q.qy,q.qx⟩
 obtain ⟨xa0,xa1,xa2,xa3,xa4,xa5⟩:=XA.all;obtain ⟨xb0,xb1,xb2,xb3,xb4,xb5⟩:=XB.all;obtain ⟨xc0,xc1,xc2⟩:=XC.all
 go_wp2_with (first
  | (go_at_call 41;(with_reducible refine (rlevel_yes pp qq y hk H0.out H1.out).mono ?_);rintro e w_r ⟨s_r,A_r,n_r,c_r,B_r,m_r,d_r,rfl,r,hh⟩
     (try replace Z:=Z.below hh);replace hb:=bend hb hh;have zg0:=Z.f0;have zg1:=Z.f1;have zg2:=Z.f2;have zg3:=Z.f3;obtain ⟨zc0,zc1,zc2,zc3⟩:=Z.all))
 have Z2:=Z.set4 (.bool s_r) (.slice A_r n_r c_r) (.slice B_r m_r d_r) (.bool true)
 obtain ⟨g0,g1,g2,g3⟩:=Z2.all
 refine bodyPost_ret (v:=.agg #[.bool s_r,.slice A_r n_r c_r,.slice B_r m_r d_r,.bool true]) (by simp [results,Tryz.results42,go_sem,g0,g1,g2,g3]) rfl ?_
 exact ⟨s_r,A_r,n_r,c_r,B_r,m_r,d_r,rfl,r.set4 Z _ _ _ _,below_set4a hb (by omega) _ _ _ _⟩
end
end Go.Proofs.YtmgklaklnaihpaaGreat
