/- SegCrosses: part 15. -/
import Derived.Test.YtmgklaklnaihpaaGreatKSegCrosses11
import Derived.Test.YtmgklaklnaihpaaGreatKSegCrosses14
set_option linter.unusedVariables false
set_option maxRecDepth 100000
set_option maxHeartbeats 16000000
variable {w:Go.World}
variable {s_p t_p:Bool} {A_p B_p E_p F_p:Option Go.Addr} {n_p c_p m_p d_p i_p e_p j_p f_p:Nat}
variable {s_q t_q:Bool} {A_q B_q E_q F_q:Option Go.Addr} {n_q c_q m_q d_q i_q e_q j_q f_q:Nat}
variable {s_r t_r:Bool} {A_r B_r E_r F_r:Option Go.Addr} {n_r c_r m_r d_r i_r e_r j_r f_r:Nat}
variable {s_u t_u:Bool} {A_u B_u E_u F_u:Option Go.Addr} {n_u c_u m_u d_u i_u e_u j_u f_u:Nat}
namespace Go.Proofs.YtmgklaklnaihpaaGreat
section
open Go Go.RowKit
theorem ln_one {T:TypeId} {base:Nat} {v:Value} {L:List PV} {u:Rat × Rat} {k:Nat} (hL:Ln T base w v L) (hE:Each PV.PG w L [u] k) :
 ∃ (x:PV) (g c:Nat),L=[x]∧v=.slice (some ⟨g,0,none⟩) 1 c∧base≤g∧PG w x.s x.A x.n x.c x.B x.m x.d x.t x.E x.i x.e x.F x.j x.f u.1 u.2 k:=by
 obtain ⟨h1,h2⟩:=hE
 match L,h1 with
 | [x],_ =>
   obtain ⟨g,c,hv,_,hb,_⟩:=hL.at_ (i:=0) (p:=x) rfl
   exact ⟨x,g,c,rfl,hv,hb,h2 0 x u rfl rfl⟩
theorem ln_two {T:TypeId} {base:Nat} {v:Value} {L:List PV} {u1 u2:Rat × Rat} {k:Nat} (hL:Ln T base w v L) (hE:Each PV.PG w L [u1,u2] k) :
 ∃ (x y:PV) (g c:Nat),L=[x,y]∧v=.slice (some ⟨g,0,none⟩) 2 c∧base≤g∧PG w x.s x.A x.n x.c x.B x.m x.d x.t x.E x.i x.e x.F x.j x.f u1.1 u1.2 k∧PG w y.s y.A y.n y.c y.B y.m y.d y.t y.E y.i y.e y.F y.j y.f u2.1 u2.2 k:=by
 obtain ⟨h1,h2⟩:=hE
 match L,h1 with
 | [x,y],_ =>
   obtain ⟨g,c,hv,_,hb,_⟩:=hL.at_ (i:=0) (p:=x) rfl
   exact ⟨x,y,g,c,rfl,hv,hb,h2 0 x u1 rfl rfl,h2 1 y u2 rfl rfl⟩
theorem ln_nil {T:TypeId} {base:Nat} {v:Value} {L:List PV} {k:Nat} (hL:Ln T base w v L) (hE:Each PV.PG w L [] k):∃ A c,L=[]∧v=.slice A 0 c:=by
 obtain ⟨h1,_⟩:=hE
 match L,h1 with
 | [],_ =>
   obtain ⟨A,c,hv,_⟩:=hL.form
   exact ⟨A,c,rfl,hv⟩
theorem Ln.cells0 {T:TypeId} {base g n c:Nat} {L:List PV} (h:Ln T base w (.slice (some ⟨g,0,none⟩) n c) L) {p:PV} (hi:L[0]?=some p) :
 w.cell? ⟨g,0,none⟩=some (.bool p.s)∧w.cell? ⟨g,1,none⟩=some (.slice p.A p.n p.c)∧w.cell? ⟨g,2,none⟩=some (.slice p.B p.m p.d)∧w.cell? ⟨g,3,none⟩=some (.bool p.t)∧w.cell? ⟨g,4,none⟩=some (.slice p.E p.i p.e)∧w.cell? ⟨g,5,none⟩=some (.slice p.F p.j p.f):=by
 have:=h.of hi
 simpa using this.2.2
theorem idx0 {g n c:Nat} (h:0 < n) (w:World):(Instr.indexAt 64 (.slice (some ⟨g,0,none⟩) n c) (.int .i64 0)).run Tryz.prog w=.ok (.pointer (some ⟨g,0,none⟩)) w:=idx_pt (i:=0) h w
theorem Ln.cells1 {T:TypeId} {base g n c:Nat} {L:List PV} (h:Ln T base w (.slice (some ⟨g,0,none⟩) n c) L) {p:PV} (hi:L[1]?=some p) :
 w.cell? ⟨g,6,none⟩=some (.bool p.s)∧w.cell? ⟨g,7,none⟩=some (.slice p.A p.n p.c)∧w.cell? ⟨g,8,none⟩=some (.slice p.B p.m p.d)∧w.cell? ⟨g,9,none⟩=some (.bool p.t)∧w.cell? ⟨g,10,none⟩=some (.slice p.E p.i p.e)∧w.cell? ⟨g,11,none⟩=some (.slice p.F p.j p.f):=by
 have:=h.of hi
 simpa using this.2.2
theorem idx1 {g n c:Nat} (h:1 < n) (w:World):(Instr.indexAt 64 (.slice (some ⟨g,0,none⟩) n c) (.int .i64 1)).run Tryz.prog w=.ok (.pointer (some ⟨g,6,none⟩)) w:=idx_pt (i:=1) h w
theorem wk7_told1:Told (Rat.divInt 0 1) (Rat.divInt 0 1) (Rat.divInt 2 1) (Rat.divInt 2 1) (Rat.divInt 0 1) (Rat.divInt 2 1) (Rat.divInt 2 1) (Rat.divInt 0 1) [((Rat.divInt 1 1),(Rat.divInt 1 1))]:=by
 have h:=told_cross (ax:=(Rat.divInt 0 1)) (ay:=(Rat.divInt 0 1)) (bx:=(Rat.divInt 2 1)) (by_:=(Rat.divInt 2 1)) (cx:=(Rat.divInt 0 1)) (cy:=(Rat.divInt 2 1)) (dx:=(Rat.divInt 2 1)) (dy:=(Rat.divInt 0 1)) (f:=Rat.divInt 1 2) (g:=Rat.divInt 1 2) (by decide +kernel) (by decide +kernel) (by decide +kernel) (by decide +kernel)
 rwa [show ((Rat.divInt 0 1)+((Rat.divInt 2 1) - (Rat.divInt 0 1))*Rat.divInt 1 2)=(Rat.divInt 1 1) by decide +kernel] at h
theorem wk7_spec:Spec1 (keep1 (Rat.divInt 5 3) (Rat.divInt 1 3)) [Rat.divInt 1 3,1]:=by
 have h1:Rat.divInt 1 3 < 1:=by decide +kernel
 have h2:(1:Rat)≤Rat.divInt 5 3:=by decide +kernel
 have h3:(0:Rat)≤Rat.divInt 1 3:=by decide +kernel
 have h4:Rat.divInt 1 3 < Rat.divInt 5 3:=by decide +kernel
 refine ⟨h1,fun x=>?_⟩
 generalize Rat.divInt 1 3=a at *
 generalize Rat.divInt 5 3=b at *
 unfold keep1
 constructor
 · rintro ⟨⟨q,r⟩,s | s⟩
   · grind
   · grind
 · rintro ⟨q,r⟩
   exact ⟨⟨by grind,r⟩,.inr ⟨q,by grind⟩⟩
theorem wk7_told2:Told (Rat.divInt 0 1) (Rat.divInt 0 1) (Rat.divInt 3 1) (Rat.divInt 0 1) (Rat.divInt 5 1) (Rat.divInt 0 1) (Rat.divInt 1 1) (Rat.divInt 0 1) [((Rat.divInt 1 1),(Rat.divInt 0 1)),((Rat.divInt 3 1),(Rat.divInt 0 1))]:=by
 have h:=spec_told (ax:=(Rat.divInt 0 1)) (ay:=(Rat.divInt 0 1)) (bx:=(Rat.divInt 3 1)) (by_:=(Rat.divInt 0 1)) (cx:=(Rat.divInt 5 1)) (cy:=(Rat.divInt 0 1)) (dx:=(Rat.divInt 1 1)) (dy:=(Rat.divInt 0 1)) (by decide +kernel) (both_line (g:=Rat.divInt 5 3) (d:=Rat.divInt 1 3) (by decide +kernel) (by decide +kernel) (by decide +kernel)) wk7_spec
 rwa [show List.map (lineAt (Rat.divInt 0 1) (Rat.divInt 0 1) (Rat.divInt 3 1) (Rat.divInt 0 1)) [Rat.divInt 1 3,1]=[((Rat.divInt 1 1),(Rat.divInt 0 1)),((Rat.divInt 3 1),(Rat.divInt 0 1))] by decide +kernel] at h
theorem wk7_level:shareOK ((Rat.divInt 1 1) - (Rat.divInt 0 1)) ((Rat.divInt 2 1) - (Rat.divInt 0 1)):=⟨by decide +kernel,by decide +kernel,by decide +kernel⟩
theorem wk7_upright:¬ shareOK ((Rat.divInt 1 1) - (Rat.divInt 1 1)) ((Rat.divInt 1 1) - (Rat.divInt 1 1)):=fun h=>h.1 (by decide +kernel)
theorem wk7_txt:(⟨(qtxt ((Rat.divInt 0 1)+((Rat.divInt 1 1) - (Rat.divInt 0 1)) / ((Rat.divInt 2 1) - (Rat.divInt 0 1))*((Rat.divInt 4 1) - (Rat.divInt 0 1)))).toArray⟩:ByteArray)=⟨#[50]⟩:=by
 rw [show (Rat.divInt 0 1)+((Rat.divInt 1 1) - (Rat.divInt 0 1)) / ((Rat.divInt 2 1) - (Rat.divInt 0 1))*((Rat.divInt 4 1) - (Rat.divInt 0 1))=(Rat.divInt 2 1) by decide +kernel,qtxt_i (a:=2) (by decide +kernel) (by decide +kernel) (txt_one (d:=2) (by decide) (by decide) rfl)];rfl
theorem wk7_on:onS (Rat.divInt 1 1) (Rat.divInt 1 1) (Rat.divInt 0 1) (Rat.divInt 0 1) (Rat.divInt 2 1) (Rat.divInt 2 1):=⟨Rat.divInt 1 2,by decide +kernel,by decide +kernel,by decide +kernel,by decide +kernel⟩
theorem wk7_same1:decide ((Rat.divInt 1 1)=(Rat.divInt 1 1)∧(Rat.divInt 1 1)=(Rat.divInt 1 1))=true:=by decide +kernel
theorem wk7_same2:decide ((Rat.divInt 1 1)=(Rat.divInt 1 1)∧(Rat.divInt 0 1)=(Rat.divInt 0 1))=true:=by decide +kernel
theorem wk7_same3:decide ((Rat.divInt 3 1)=(Rat.divInt 3 1)∧(Rat.divInt 0 1)=(Rat.divInt 0 1))=true:=by decide +kernel
theorem segwakes_any (w:World):Calls Tryz.prog 30 #[] w fun e w'=>e=.returned (.bool true)∧Below w.heap.size w w':=by
 have hb:Below w.heap.size w w:=Below.refl _ _
 go_enter Tryz.func30,Tryz.ntmps30
 go_upto_region 3 with (first
  | (go_at_call 82;(with_reducible refine (lawP 0 0 (by decide) (by decide) (by decide) (by decide) _).mono ?_);rintro e w_p1 ⟨s_p1,A_p1,n_p1,c_p1,B_p1,m_p1,d_p1,t_p1,E_p1,i_p1,e_p1,F_p1,j_p1,f_p1,rfl,p1,hh⟩
     replace hb:=bend hb hh)
  | (go_at_call 82;(with_reducible refine (lawP 2 2 (by decide) (by decide) (by decide) (by decide) _).mono ?_);rintro e w_p2 ⟨s_p2,A_p2,n_p2,c_p2,B_p2,m_p2,d_p2,t_p2,E_p2,i_p2,e_p2,F_p2,j_p2,f_p2,rfl,p2,hh⟩
     (try replace p1:=p1.below hh);replace hb:=bend hb hh)
  | (go_at_call 82;(with_reducible refine (lawP 0 2 (by decide) (by decide) (by decide) (by decide) _).mono ?_);rintro e w_p3 ⟨s_p3,A_p3,n_p3,c_p3,B_p3,m_p3,d_p3,t_p3,E_p3,i_p3,e_p3,F_p3,j_p3,f_p3,rfl,p3,hh⟩
     (try replace p1:=p1.below hh);(try replace p2:=p2.below hh);replace hb:=bend hb hh)
  | (go_at_call 82;(with_reducible refine (lawP 2 0 (by decide) (by decide) (by decide) (by decide) _).mono ?_);rintro e w_p4 ⟨s_p4,A_p4,n_p4,c_p4,B_p4,m_p4,d_p4,t_p4,E_p4,i_p4,e_p4,F_p4,j_p4,f_p4,rfl,p4,hh⟩
     (try replace p1:=p1.below hh);(try replace p2:=p2.below hh);(try replace p3:=p3.below hh);replace hb:=bend hb hh)
  | (go_at_call 33;(with_reducible refine (meet_p p1.pr p2.pr p3.pr p4.pr (by decide) (by decide)).mono ?_);rintro e w_m ⟨l,ht,v,L,rfl,hL,hE,hh⟩
     replace hb:=bend hb hh
     obtain rfl:=told_same (fun _ _=>Iff.rfl) ht wk7_told1
     obtain ⟨x,g_x,c_x,rfl,rfl,hgx,X⟩:=ln_one hL hE
     replace X:=X.more (k1:=31) (by decide)
     simp only at X
     clear p1 p2 p3 p4 ht hE))
 rename Ln _ _ _ _ _=>hX
 go_upto_region 4 with (first
  | (go_at_call 82;(with_reducible refine (lawP 0 0 (by decide) (by decide) (by decide) (by decide) _).mono ?_);rintro e w_p1 ⟨s_p1,A_p1,n_p1,c_p1,B_p1,m_p1,d_p1,t_p1,E_p1,i_p1,e_p1,F_p1,j_p1,f_p1,rfl,p1,hh⟩
     (try replace hX:=hX.below hh);(try replace X:=X.below hh);replace hb:=bend hb hh)
  | (go_at_call 82;(with_reducible refine (lawP 3 0 (by decide) (by decide) (by decide) (by decide) _).mono ?_);rintro e w_p2 ⟨s_p2,A_p2,n_p2,c_p2,B_p2,m_p2,d_p2,t_p2,E_p2,i_p2,e_p2,F_p2,j_p2,f_p2,rfl,p2,hh⟩
     (try replace hX:=hX.below hh);(try replace X:=X.below hh);(try replace p1:=p1.below hh);replace hb:=bend hb hh)
  | (go_at_call 82;(with_reducible refine (lawP 5 0 (by decide) (by decide) (by decide) (by decide) _).mono ?_);rintro e w_p3 ⟨s_p3,A_p3,n_p3,c_p3,B_p3,m_p3,d_p3,t_p3,E_p3,i_p3,e_p3,F_p3,j_p3,f_p3,rfl,p3,hh⟩
     (try replace hX:=hX.below hh);(try replace X:=X.below hh);(try replace p1:=p1.below hh);(try replace p2:=p2.below hh);replace hb:=bend hb hh)
  | (go_at_call 82;(with_reducible refine (lawP 1 0 (by decide) (by decide) (by decide) (by decide) _).mono ?_);rintro e w_p4 ⟨s_p4,A_p4,n_p4,c_p4,B_p4,m_p4,d_p4,t_p4,E_p4,i_p4,e_p4,F_p4,j_p4,f_p4,rfl,p4,hh⟩
     (try replace hX:=hX.below hh);(try replace X:=X.below hh);(try replace p1:=p1.below hh);(try replace p2:=p2.below hh);(try replace p3:=p3.below hh);replace hb:=bend hb hh)
  | (go_at_call 33;(with_reducible refine (meet_p p1.pr p2.pr p3.pr p4.pr (by decide) (by decide)).mono ?_);rintro e w_m2 ⟨l,ht,v,L,rfl,hL,hE,hh⟩
     (try replace hX:=hX.below hh);(try replace X:=X.below hh);replace hb:=bend hb hh
     obtain rfl:=told_same (fun _ _=>Iff.rfl) ht wk7_told2
     obtain ⟨y,z,g_y,c_y,rfl,rfl,hgy,Y,Z⟩:=ln_two hL hE
     replace Y:=Y.more (k1:=31) (by decide)
     replace Z:=Z.more (k1:=31) (by decide)
     simp only at Y Z
     clear p1 p2 p3 p4 ht hE))
 have hY:=hL;clear hL
 go_upto_region 5 with (first
  | (go_at_call 82;(with_reducible refine (lawP 0 0 (by decide) (by decide) (by decide) (by decide) _).mono ?_);rintro e w_p1 ⟨s_p1,A_p1,n_p1,c_p1,B_p1,m_p1,d_p1,t_p1,E_p1,i_p1,e_p1,F_p1,j_p1,f_p1,rfl,p1,hh⟩
     (try replace hX:=hX.below hh);(try replace X:=X.below hh);(try replace hY:=hY.below hh);(try replace Y:=Y.below hh);(try replace Z:=Z.below hh);replace hb:=bend hb hh)
  | (go_at_call 82;(with_reducible refine (lawP 4 2 (by decide) (by decide) (by decide) (by decide) _).mono ?_);rintro e w_p2 ⟨s_p2,A_p2,n_p2,c_p2,B_p2,m_p2,d_p2,t_p2,E_p2,i_p2,e_p2,F_p2,j_p2,f_p2,rfl,p2,hh⟩
     (try replace hX:=hX.below hh);(try replace X:=X.below hh);(try replace hY:=hY.below hh);(try replace Y:=Y.below hh);(try replace Z:=Z.below hh);(try replace p1:=p1.below hh);replace hb:=bend hb hh)
  | (go_at_call 23;(with_reducible refine (rof_q 1 1 (by decide) (by decide) (by decide) (by decide) (by decide) _).mono ?_);rintro e w_k ⟨s_k,A_k,n_k,c_k,B_k,m_k,d_k,rfl,k,hh⟩
     (try replace hX:=hX.below hh);(try replace X:=X.below hh);(try replace hY:=hY.below hh);(try replace Y:=Y.below hh);(try replace Z:=Z.below hh);(try replace p1:=p1.below hh);(try replace p2:=p2.below hh);replace hb:=bend hb hh)
  | (go_at_call 39;(with_reducible refine (level_yes p1.pr p2.pr k.qr (by decide) (by decide) wk7_level).mono ?_);rintro e w_r ⟨s_r,A_r,n_r,c_r,B_r,m_r,d_r,rfl,r,hh⟩
     (try replace hX:=hX.below hh);(try replace X:=X.below hh);(try replace hY:=hY.below hh);(try replace Y:=Y.below hh);(try replace Z:=Z.below hh);replace hb:=bend hb hh;clear p1 p2 k))
 generalize hW:World.alloc _ _=W2
 obtain ⟨hh,XR,hzW2⟩:=mkbx8_8 hW;clear hW;(try replace hX:=hX.below hh);(try replace X:=X.below hh);(try replace hY:=hY.below hh);(try replace Y:=Y.below hh);(try replace Z:=Z.below hh);(try replace r:=r.below hh);replace hb:=bend hb hh
 go_upto_region 6 with (first
  | (go_at_call 82;(with_reducible refine (lawP 1 0 (by decide) (by decide) (by decide) (by decide) _).mono ?_);rintro e w_p1 ⟨s_p1,A_p1,n_p1,c_p1,B_p1,m_p1,d_p1,t_p1,E_p1,i_p1,e_p1,F_p1,j_p1,f_p1,rfl,p1,hh⟩
     (try replace hX:=hX.below hh);(try replace X:=X.below hh);(try replace hY:=hY.below hh);(try replace Y:=Y.below hh);(try replace Z:=Z.below hh);(try replace r:=r.below hh);(try replace XR:=XR.below hh);replace hb:=bend hb hh)
  | (go_at_call 82;(with_reducible refine (lawP 1 2 (by decide) (by decide) (by decide) (by decide) _).mono ?_);rintro e w_p2 ⟨s_p2,A_p2,n_p2,c_p2,B_p2,m_p2,d_p2,t_p2,E_p2,i_p2,e_p2,F_p2,j_p2,f_p2,rfl,p2,hh⟩
     (try replace hX:=hX.below hh);(try replace X:=X.below hh);(try replace hY:=hY.below hh);(try replace Y:=Y.below hh);(try replace Z:=Z.below hh);(try replace r:=r.below hh);(try replace XR:=XR.below hh);(try replace p1:=p1.below hh);replace hb:=bend hb hh)
  | (go_at_call 23;(with_reducible refine (rof_q 1 1 (by decide) (by decide) (by decide) (by decide) (by decide) _).mono ?_);rintro e w_k ⟨s_k,A_k,n_k,c_k,B_k,m_k,d_k,rfl,k,hh⟩
     (try replace hX:=hX.below hh);(try replace X:=X.below hh);(try replace hY:=hY.below hh);(try replace Y:=Y.below hh);(try replace Z:=Z.below hh);(try replace r:=r.below hh);(try replace XR:=XR.below hh);(try replace p1:=p1.below hh);(try replace p2:=p2.below hh);replace hb:=bend hb hh)
  | (go_at_call 40;(with_reducible refine (upright_no p1.pr p2.pr k.qr (by decide) (by decide) wk7_upright).mono ?_);rintro e w_z ⟨rfl,hh⟩
     (try replace hX:=hX.below hh);(try replace X:=X.below hh);(try replace hY:=hY.below hh);(try replace Y:=Y.below hh);(try replace Z:=Z.below hh);(try replace r:=r.below hh);(try replace XR:=XR.below hh);replace hb:=bend hb hh;clear p1 p2 k))
 generalize hW:World.alloc _ _=W3
 obtain ⟨hh,XU,hzW3⟩:=mkbx8_8 hW;clear hW;(try replace hX:=hX.below hh);(try replace X:=X.below hh);(try replace hY:=hY.below hh);(try replace Y:=Y.below hh);(try replace Z:=Z.below hh);(try replace r:=r.below hh);(try replace XR:=XR.below hh);replace hb:=bend hb hh;clear XU
 replace hX:=hX.below (Below.refl _ _).drew
 replace X:=X.below (Below.refl _ _).drew
 replace hY:=hY.below (Below.refl _ _).drew
 replace Y:=Y.below (Below.refl _ _).drew
 replace Z:=Z.below (Below.refl _ _).drew
 replace r:=r.below (Below.refl _ _).drew
 replace XR:=XR.below (Below.refl _ _).drew
 replace hb:=hb.drew
 obtain ⟨x0,x1,x2,x3,x4,x5⟩:=hX.cells0 rfl
 obtain ⟨y0,y1,y2,y3,y4,y5⟩:=hY.cells0 rfl
 obtain ⟨z0,z1,z2,z3,z4,z5⟩:=hY.cells1 rfl
 have ix:=idx0 (g:=g_x) (n:=1) (c:=c_x) (by decide)
 have iy:=idx0 (g:=g_y) (n:=2) (c:=c_y) (by decide)
 have iz:=idx1 (g:=g_y) (n:=2) (c:=c_y) (by decide)
 clear x0 x1 x2 x3 x4 x5 y0 y1 y2 y3 y4 y5 z0 z1 z2 z3 z4 z5
 go_region_held3 (fun w'=>w'.cell? ⟨g_x,0,none⟩=some (.bool x.s)∧w'.cell? ⟨g_x,1,none⟩=some (.slice x.A x.n x.c)∧w'.cell? ⟨g_x,2,none⟩=some (.slice x.B x.m x.d)∧w'.cell? ⟨g_x,3,none⟩=some (.bool x.t)∧w'.cell? ⟨g_x,4,none⟩=some (.slice x.E x.i x.e)∧w'.cell? ⟨g_x,5,none⟩=some (.slice x.F x.j x.f)∧w'.cell? ⟨g_y,0,none⟩=some (.bool y.s)∧w'.cell? ⟨g_y,1,none⟩=some (.slice y.A y.n y.c)∧w'.cell? ⟨g_y,2,none⟩=some (.slice y.B y.m y.d)∧w'.cell? ⟨g_y,3,none⟩=some (.bool y.t)∧w'.cell? ⟨g_y,4,none⟩=some (.slice y.E y.i y.e)∧w'.cell? ⟨g_y,5,none⟩=some (.slice y.F y.j y.f)∧w'.cell? ⟨g_y,6,none⟩=some (.bool z.s)∧w'.cell? ⟨g_y,7,none⟩=some (.slice z.A z.n z.c)∧w'.cell? ⟨g_y,8,none⟩=some (.slice z.B z.m z.d)∧w'.cell? ⟨g_y,9,none⟩=some (.bool z.t)∧w'.cell? ⟨g_y,10,none⟩=some (.slice z.E z.i z.e)∧w'.cell? ⟨g_y,11,none⟩=some (.slice z.F z.j z.f)∧w'.cell? ⟨w_r.heap.size,0,none⟩=some (.bool s_r)∧w'.cell? ⟨w_r.heap.size,1,none⟩=some (.slice A_r n_r c_r)∧w'.cell? ⟨w_r.heap.size,2,none⟩=some (.slice B_r m_r d_r))
  (first | with_reducible exact ⟨(hX.cells0 rfl).1,(hX.cells0 rfl).2.1,(hX.cells0 rfl).2.2.1,(hX.cells0 rfl).2.2.2.1,(hX.cells0 rfl).2.2.2.2.1,(hX.cells0 rfl).2.2.2.2.2,(hY.cells0 rfl).1,(hY.cells0 rfl).2.1,(hY.cells0 rfl).2.2.1,(hY.cells0 rfl).2.2.2.1,(hY.cells0 rfl).2.2.2.2.1,(hY.cells0 rfl).2.2.2.2.2,(hY.cells1 rfl).1,(hY.cells1 rfl).2.1,(hY.cells1 rfl).2.2.1,(hY.cells1 rfl).2.2.2.1,(hY.cells1 rfl).2.2.2.2.1,(hY.cells1 rfl).2.2.2.2.2,XR.c0,XR.c1,XR.c2⟩)
  (first
  | (go_at_call 43;(with_reducible refine (psame_p X.pr p5.pr (by decide) (by decide) (by decide) (by decide) true wk7_same1).mono ?_);rintro e w_z ⟨rfl,hh⟩
     (try replace hX:=hX.below hh);(try replace hY:=hY.below hh);(try replace X:=X.below hh);(try replace Y:=Y.below hh);(try replace Z:=Z.below hh);(try replace r:=r.below hh);(try replace XR:=XR.below hh);replace hb:=bend hb hh;clear p5)
  | (go_at_call 43;(with_reducible refine (psame_p Y.pr p6.pr (by decide) (by decide) (by decide) (by decide) true wk7_same2).mono ?_);rintro e w_z ⟨rfl,hh⟩
     (try replace hX:=hX.below hh);(try replace hY:=hY.below hh);(try replace X:=X.below hh);(try replace Y:=Y.below hh);(try replace Z:=Z.below hh);(try replace r:=r.below hh);(try replace XR:=XR.below hh);replace hb:=bend hb hh;clear p6)
  | (go_at_call 43;(with_reducible refine (psame_p Z.pr p7.pr (by decide) (by decide) (by decide) (by decide) true wk7_same3).mono ?_);rintro e w_z ⟨rfl,hh⟩
     (try replace hX:=hX.below hh);(try replace hY:=hY.below hh);(try replace X:=X.below hh);(try replace Y:=Y.below hh);(try replace Z:=Z.below hh);(try replace r:=r.below hh);(try replace XR:=XR.below hh);replace hb:=bend hb hh;clear p7)
  | (go_at_call 82;(with_reducible refine (lawP 1 0 (by decide) (by decide) (by decide) (by decide) _).mono ?_);rintro e w_p6 ⟨s_p6,A_p6,n_p6,c_p6,B_p6,m_p6,d_p6,t_p6,E_p6,i_p6,e_p6,F_p6,j_p6,f_p6,rfl,p6,hh⟩
     (try replace hX:=hX.below hh);(try replace hY:=hY.below hh);(try replace X:=X.below hh);(try replace Y:=Y.below hh);(try replace Z:=Z.below hh);(try replace r:=r.below hh);(try replace XR:=XR.below hh);replace hb:=bend hb hh)
  | (go_at_call 82;(with_reducible refine (lawP 3 0 (by decide) (by decide) (by decide) (by decide) _).mono ?_);rintro e w_p7 ⟨s_p7,A_p7,n_p7,c_p7,B_p7,m_p7,d_p7,t_p7,E_p7,i_p7,e_p7,F_p7,j_p7,f_p7,rfl,p7,hh⟩
     (try replace hX:=hX.below hh);(try replace hY:=hY.below hh);(try replace X:=X.below hh);(try replace Y:=Y.below hh);(try replace Z:=Z.below hh);(try replace r:=r.below hh);(try replace XR:=XR.below hh);replace hb:=bend hb hh)
  | (go_at_call 15;(with_reducible refine (rtext_q r.qr (by decide) (by decide)).mono ?_);rintro e w_z ⟨rfl,hh⟩
     rw [wk7_txt];(try replace hX:=hX.below hh);(try replace hY:=hY.below hh);(try replace X:=X.below hh);(try replace Y:=Y.below hh);(try replace Z:=Z.below hh);(try replace r:=r.below hh);(try replace XR:=XR.below hh);replace hb:=bend hb hh
     have hrr:True:=trivial)
  | (go_at_call 82;(have h0:=hrr);(with_reducible refine (lawP 1 1 (by decide) (by decide) (by decide) (by decide) _).mono ?_);rintro e w_p8 ⟨s_p8,A_p8,n_p8,c_p8,B_p8,m_p8,d_p8,t_p8,E_p8,i_p8,e_p8,F_p8,j_p8,f_p8,rfl,p8,hh⟩
     (try replace hX:=hX.below hh);(try replace hY:=hY.below hh);(try replace X:=X.below hh);(try replace Y:=Y.below hh);(try replace Z:=Z.below hh);(try replace r:=r.below hh);(try replace XR:=XR.below hh);clear h0;replace hb:=bend hb hh)
  | (go_at_call 82;(with_reducible refine (lawP 1 1 (by decide) (by decide) (by decide) (by decide) _).mono ?_);rintro e w_p5 ⟨s_p5,A_p5,n_p5,c_p5,B_p5,m_p5,d_p5,t_p5,E_p5,i_p5,e_p5,F_p5,j_p5,f_p5,rfl,p5,hh⟩
     (try replace hX:=hX.below hh);(try replace hY:=hY.below hh);(try replace X:=X.below hh);(try replace Y:=Y.below hh);(try replace Z:=Z.below hh);(try replace r:=r.below hh);(try replace XR:=XR.below hh);replace hb:=bend hb hh)
  | (go_at_call 82;(with_reducible refine (lawP 0 0 (by decide) (by decide) (by decide) (by decide) _).mono ?_);rintro e w_p9 ⟨s_p9,A_p9,n_p9,c_p9,B_p9,m_p9,d_p9,t_p9,E_p9,i_p9,e_p9,F_p9,j_p9,f_p9,rfl,p9,hh⟩
     (try replace hX:=hX.below hh);(try replace hY:=hY.below hh);(try replace X:=X.below hh);(try replace Y:=Y.below hh);(try replace Z:=Z.below hh);(try replace r:=r.below hh);(try replace XR:=XR.below hh);(try replace p8:=p8.below hh);replace hb:=bend hb hh)
  | (go_at_call 82;(with_reducible refine (lawP 2 2 (by decide) (by decide) (by decide) (by decide) _).mono ?_);rintro e w_pz ⟨s_pz,A_pz,n_pz,c_pz,B_pz,m_pz,d_pz,t_pz,E_pz,i_pz,e_pz,F_pz,j_pz,f_pz,rfl,pz,hh⟩
     (try replace hX:=hX.below hh);(try replace hY:=hY.below hh);(try replace X:=X.below hh);(try replace Y:=Y.below hh);(try replace Z:=Z.below hh);(try replace r:=r.below hh);(try replace XR:=XR.below hh);(try replace p8:=p8.below hh);(try replace p9:=p9.below hh);replace hb:=bend hb hh)
  | (go_at_call 36;(with_reducible refine (on_yes p8.pr p9.pr pz.pr (by decide) (by decide) wk7_on).mono ?_);rintro e w_z ⟨rfl,hh⟩
     (try replace hX:=hX.below hh);(try replace hY:=hY.below hh);(try replace X:=X.below hh);(try replace Y:=Y.below hh);(try replace Z:=Z.below hh);(try replace r:=r.below hh);(try replace XR:=XR.below hh);replace hb:=bend hb hh))
 go_wp2_with fail
 go_ret;exact ⟨rfl,hb⟩
end
section
open Go Go.RowKit
def BA4 (W:World) (g:Nat) (v0:Value) (v1:Value) (v2:Value) (v3:Value) (v4:Value) (v5:Value) (v6:Value) (v7:Value) (v8:Value) (v9:Value) (v10:Value) (v11:Value) (v12:Value) (v13:Value) (v14:Value) (v15:Value) (v16:Value) (v17:Value) (v18:Value) (v19:Value) (v20:Value) (v21:Value) (v22:Value) (v23:Value):Prop:=W.heap[g]?=some (.cells #[v0,v1,v2,v3,v4,v5,v6,v7,v8,v9,v10,v11,v12,v13,v14,v15,v16,v17,v18,v19,v20,v21,v22,v23] 57 (0,0))
section
variable {W W':World} {g:Nat} {v0 v1 v2 v3 v4 v5 v6 v7 v8 v9 v10 v11 v12 v13 v14 v15 v16 v17 v18 v19 v20 v21 v22 v23:Value}
theorem BA4.c0 (h:BA4 W g v0 v1 v2 v3 v4 v5 v6 v7 v8 v9 v10 v11 v12 v13 v14 v15 v16 v17 v18 v19 v20 v21 v22 v23):W.cell? ⟨g,0,none⟩=some v0:=by rw [cell_of_row W g 0 _ _ (0,0) h];rfl
theorem BA4.c1 (h:BA4 W g v0 v1 v2 v3 v4 v5 v6 v7 v8 v9 v10 v11 v12 v13 v14 v15 v16 v17 v18 v19 v20 v21 v22 v23):W.cell? ⟨g,1,none⟩=some v1:=by rw [cell_of_row W g 1 _ _ (0,0) h];rfl
theorem BA4.c2 (h:BA4 W g v0 v1 v2 v3 v4 v5 v6 v7 v8 v9 v10 v11 v12 v13 v14 v15 v16 v17 v18 v19 v20 v21 v22 v23):W.cell? ⟨g,2,none⟩=some v2:=by rw [cell_of_row W g 2 _ _ (0,0) h];rfl
theorem BA4.c3 (h:BA4 W g v0 v1 v2 v3 v4 v5 v6 v7 v8 v9 v10 v11 v12 v13 v14 v15 v16 v17 v18 v19 v20 v21 v22 v23):W.cell? ⟨g,3,none⟩=some v3:=by rw [cell_of_row W g 3 _ _ (0,0) h];rfl
theorem BA4.c4 (h:BA4 W g v0 v1 v2 v3 v4 v5 v6 v7 v8 v9 v10 v11 v12 v13 v14 v15 v16 v17 v18 v19 v20 v21 v22 v23):W.cell? ⟨g,4,none⟩=some v4:=by rw [cell_of_row W g 4 _ _ (0,0) h];rfl
theorem BA4.c5 (h:BA4 W g v0 v1 v2 v3 v4 v5 v6 v7 v8 v9 v10 v11 v12 v13 v14 v15 v16 v17 v18 v19 v20 v21 v22 v23):W.cell? ⟨g,5,none⟩=some v5:=by rw [cell_of_row W g 5 _ _ (0,0) h];rfl
theorem BA4.c6 (h:BA4 W g v0 v1 v2 v3 v4 v5 v6 v7 v8 v9 v10 v11 v12 v13 v14 v15 v16 v17 v18 v19 v20 v21 v22 v23):W.cell? ⟨g,6,none⟩=some v6:=by rw [cell_of_row W g 6 _ _ (0,0) h];rfl
theorem BA4.c7 (h:BA4 W g v0 v1 v2 v3 v4 v5 v6 v7 v8 v9 v10 v11 v12 v13 v14 v15 v16 v17 v18 v19 v20 v21 v22 v23):W.cell? ⟨g,7,none⟩=some v7:=by rw [cell_of_row W g 7 _ _ (0,0) h];rfl
theorem BA4.c8 (h:BA4 W g v0 v1 v2 v3 v4 v5 v6 v7 v8 v9 v10 v11 v12 v13 v14 v15 v16 v17 v18 v19 v20 v21 v22 v23):W.cell? ⟨g,8,none⟩=some v8:=by rw [cell_of_row W g 8 _ _ (0,0) h];rfl
theorem BA4.c9 (h:BA4 W g v0 v1 v2 v3 v4 v5 v6 v7 v8 v9 v10 v11 v12 v13 v14 v15 v16 v17 v18 v19 v20 v21 v22 v23):W.cell? ⟨g,9,none⟩=some v9:=by rw [cell_of_row W g 9 _ _ (0,0) h];rfl
theorem BA4.c10 (h:BA4 W g v0 v1 v2 v3 v4 v5 v6 v7 v8 v9 v10 v11 v12 v13 v14 v15 v16 v17 v18 v19 v20 v21 v22 v23):W.cell? ⟨g,10,none⟩=some v10:=by rw [cell_of_row W g 10 _ _ (0,0) h];rfl
theorem BA4.c11 (h:BA4 W g v0 v1 v2 v3 v4 v5 v6 v7 v8 v9 v10 v11 v12 v13 v14 v15 v16 v17 v18 v19 v20 v21 v22 v23):W.cell? ⟨g,11,none⟩=some v11:=by rw [cell_of_row W g 11 _ _ (0,0) h];rfl
theorem BA4.c12 (h:BA4 W g v0 v1 v2 v3 v4 v5 v6 v7 v8 v9 v10 v11 v12 v13 v14 v15 v16 v17 v18 v19 v20 v21 v22 v23):W.cell? ⟨g,12,none⟩=some v12:=by rw [cell_of_row W g 12 _ _ (0,0) h];rfl
theorem BA4.c13 (h:BA4 W g v0 v1 v2 v3 v4 v5 v6 v7 v8 v9 v10 v11 v12 v13 v14 v15 v16 v17 v18 v19 v20 v21 v22 v23):W.cell? ⟨g,13,none⟩=some v13:=by rw [cell_of_row W g 13 _ _ (0,0) h];rfl
theorem BA4.c14 (h:BA4 W g v0 v1 v2 v3 v4 v5 v6 v7 v8 v9 v10 v11 v12 v13 v14 v15 v16 v17 v18 v19 v20 v21 v22 v23):W.cell? ⟨g,14,none⟩=some v14:=by rw [cell_of_row W g 14 _ _ (0,0) h];rfl
theorem BA4.c15 (h:BA4 W g v0 v1 v2 v3 v4 v5 v6 v7 v8 v9 v10 v11 v12 v13 v14 v15 v16 v17 v18 v19 v20 v21 v22 v23):W.cell? ⟨g,15,none⟩=some v15:=by rw [cell_of_row W g 15 _ _ (0,0) h];rfl
theorem BA4.c16 (h:BA4 W g v0 v1 v2 v3 v4 v5 v6 v7 v8 v9 v10 v11 v12 v13 v14 v15 v16 v17 v18 v19 v20 v21 v22 v23):W.cell? ⟨g,16,none⟩=some v16:=by rw [cell_of_row W g 16 _ _ (0,0) h];rfl
theorem BA4.c17 (h:BA4 W g v0 v1 v2 v3 v4 v5 v6 v7 v8 v9 v10 v11 v12 v13 v14 v15 v16 v17 v18 v19 v20 v21 v22 v23):W.cell? ⟨g,17,none⟩=some v17:=by rw [cell_of_row W g 17 _ _ (0,0) h];rfl
theorem BA4.c18 (h:BA4 W g v0 v1 v2 v3 v4 v5 v6 v7 v8 v9 v10 v11 v12 v13 v14 v15 v16 v17 v18 v19 v20 v21 v22 v23):W.cell? ⟨g,18,none⟩=some v18:=by rw [cell_of_row W g 18 _ _ (0,0) h];rfl
theorem BA4.c19 (h:BA4 W g v0 v1 v2 v3 v4 v5 v6 v7 v8 v9 v10 v11 v12 v13 v14 v15 v16 v17 v18 v19 v20 v21 v22 v23):W.cell? ⟨g,19,none⟩=some v19:=by rw [cell_of_row W g 19 _ _ (0,0) h];rfl
theorem BA4.c20 (h:BA4 W g v0 v1 v2 v3 v4 v5 v6 v7 v8 v9 v10 v11 v12 v13 v14 v15 v16 v17 v18 v19 v20 v21 v22 v23):W.cell? ⟨g,20,none⟩=some v20:=by rw [cell_of_row W g 20 _ _ (0,0) h];rfl
theorem BA4.c21 (h:BA4 W g v0 v1 v2 v3 v4 v5 v6 v7 v8 v9 v10 v11 v12 v13 v14 v15 v16 v17 v18 v19 v20 v21 v22 v23):W.cell? ⟨g,21,none⟩=some v21:=by rw [cell_of_row W g 21 _ _ (0,0) h];rfl
theorem BA4.c22 (h:BA4 W g v0 v1 v2 v3 v4 v5 v6 v7 v8 v9 v10 v11 v12 v13 v14 v15 v16 v17 v18 v19 v20 v21 v22 v23):W.cell? ⟨g,22,none⟩=some v22:=by rw [cell_of_row W g 22 _ _ (0,0) h];rfl
theorem BA4.c23 (h:BA4 W g v0 v1 v2 v3 v4 v5 v6 v7 v8 v9 v10 v11 v12 v13 v14 v15 v16 v17 v18 v19 v20 v21 v22 v23):W.cell? ⟨g,23,none⟩=some v23:=by rw [cell_of_row W g 23 _ _ (0,0) h];rfl
theorem BA4.all (h:BA4 W g v0 v1 v2 v3 v4 v5 v6 v7 v8 v9 v10 v11 v12 v13 v14 v15 v16 v17 v18 v19 v20 v21 v22 v23):W.cell? ⟨g,0,none⟩=some v0∧W.cell? ⟨g,1,none⟩=some v1∧W.cell? ⟨g,2,none⟩=some v2∧W.cell? ⟨g,3,none⟩=some v3∧W.cell? ⟨g,4,none⟩=some v4∧W.cell? ⟨g,5,none⟩=some v5∧W.cell? ⟨g,6,none⟩=some v6∧W.cell? ⟨g,7,none⟩=some v7∧W.cell? ⟨g,8,none⟩=some v8∧W.cell? ⟨g,9,none⟩=some v9∧W.cell? ⟨g,10,none⟩=some v10∧W.cell? ⟨g,11,none⟩=some v11∧W.cell? ⟨g,12,none⟩=some v12∧W.cell? ⟨g,13,none⟩=some v13∧W.cell? ⟨g,14,none⟩=some v14∧W.cell? ⟨g,15,none⟩=some v15∧W.cell? ⟨g,16,none⟩=some v16∧W.cell? ⟨g,17,none⟩=some v17∧W.cell? ⟨g,18,none⟩=some v18∧W.cell? ⟨g,19,none⟩=some v19∧W.cell? ⟨g,20,none⟩=some v20∧W.cell? ⟨g,21,none⟩=some v21∧W.cell? ⟨g,22,none⟩=some v22∧W.cell? ⟨g,23,none⟩=some v23:=⟨h.c0,h.c1,h.c2,h.c3,h.c4,h.c5,h.c6,h.c7,h.c8,h.c9,h.c10,h.c11,h.c12,h.c13,h.c14,h.c15,h.c16,h.c17,h.c18,h.c19,h.c20,h.c21,h.c22,h.c23⟩
theorem BA4.lt (h:BA4 W g v0 v1 v2 v3 v4 v5 v6 v7 v8 v9 v10 v11 v12 v13 v14 v15 v16 v17 v18 v19 v20 v21 v22 v23):g < W.heap.size:=World.block_lt_of_cell? W _ h.c0
theorem BA4.below (h:BA4 W g v0 v1 v2 v3 v4 v5 v6 v7 v8 v9 v10 v11 v12 v13 v14 v15 v16 v17 v18 v19 v20 v21 v22 v23) (hb:Below W.heap.size W W'):BA4 W' g v0 v1 v2 v3 v4 v5 v6 v7 v8 v9 v10 v11 v12 v13 v14 v15 v16 v17 v18 v19 v20 v21 v22 v23:=(hb.block g h.lt).trans h
end
theorem BA4.new' (W:World) (v0 v1 v2 v3 v4 v5 v6 v7 v8 v9 v10 v11 v12 v13 v14 v15 v16 v17 v18 v19 v20 v21 v22 v23:Value) (g:Nat) (hg:g=W.heap.size):BA4 (W.alloc (.cells #[v0,v1,v2,v3,v4,v5,v6,v7,v8,v9,v10,v11,v12,v13,v14,v15,v16,v17,v18,v19,v20,v21,v22,v23] 57)) g v0 v1 v2 v3 v4 v5 v6 v7 v8 v9 v10 v11 v12 v13 v14 v15 v16 v17 v18 v19 v20 v21 v22 v23:=by subst hg;exact heap_alloc_new W _
theorem at4_0 (g:Nat) (w:World):(Instr.indexAt 57 (Value.pointer (some ⟨g,0,none⟩)) (Value.int IntKind.i64 0)).run Tryz.prog w=.ok (.pointer (some ⟨g,0,none⟩)) w:=by kernel_rfl
theorem at4_1 (g:Nat) (w:World):(Instr.indexAt 57 (Value.pointer (some ⟨g,0,none⟩)) (Value.int IntKind.i64 1)).run Tryz.prog w=.ok (.pointer (some ⟨g,6,none⟩)) w:=by kernel_rfl
theorem at4_2 (g:Nat) (w:World):(Instr.indexAt 57 (Value.pointer (some ⟨g,0,none⟩)) (Value.int IntKind.i64 2)).run Tryz.prog w=.ok (.pointer (some ⟨g,12,none⟩)) w:=by kernel_rfl
theorem at4_3 (g:Nat) (w:World):(Instr.indexAt 57 (Value.pointer (some ⟨g,0,none⟩)) (Value.int IntKind.i64 3)).run Tryz.prog w=.ok (.pointer (some ⟨g,18,none⟩)) w:=by kernel_rfl
def BL4 (W:World) (g:Nat) (v0:Value) (v1:Value) (v2:Value) (v3:Value) (v4:Value) (v5:Value) (v6:Value) (v7:Value) (v8:Value) (v9:Value) (v10:Value) (v11:Value) (v12:Value) (v13:Value) (v14:Value) (v15:Value) (v16:Value) (v17:Value) (v18:Value) (v19:Value) (v20:Value) (v21:Value) (v22:Value) (v23:Value):Prop:=W.heap[g]?=some (.cells #[v0,v1,v2,v3,v4,v5,v6,v7,v8,v9,v10,v11,v12,v13,v14,v15,v16,v17,v18,v19,v20,v21,v22,v23] 56 (0,0))
section
variable {W W':World} {g:Nat} {v0 v1 v2 v3 v4 v5 v6 v7 v8 v9 v10 v11 v12 v13 v14 v15 v16 v17 v18 v19 v20 v21 v22 v23:Value}
theorem BL4.c0 (h:BL4 W g v0 v1 v2 v3 v4 v5 v6 v7 v8 v9 v10 v11 v12 v13 v14 v15 v16 v17 v18 v19 v20 v21 v22 v23):W.cell? ⟨g,0,none⟩=some v0:=by rw [cell_of_row W g 0 _ _ (0,0) h];rfl
theorem BL4.c1 (h:BL4 W g v0 v1 v2 v3 v4 v5 v6 v7 v8 v9 v10 v11 v12 v13 v14 v15 v16 v17 v18 v19 v20 v21 v22 v23):W.cell? ⟨g,1,none⟩=some v1:=by rw [cell_of_row W g 1 _ _ (0,0) h];rfl
theorem BL4.c2 (h:BL4 W g v0 v1 v2 v3 v4 v5 v6 v7 v8 v9 v10 v11 v12 v13 v14 v15 v16 v17 v18 v19 v20 v21 v22 v23):W.cell? ⟨g,2,none⟩=some v2:=by rw [cell_of_row W g 2 _ _ (0,0) h];rfl
theorem BL4.c3 (h:BL4 W g v0 v1 v2 v3 v4 v5 v6 v7 v8 v9 v10 v11 v12 v13 v14 v15 v16 v17 v18 v19 v20 v21 v22 v23):W.cell? ⟨g,3,none⟩=some v3:=by rw [cell_of_row W g 3 _ _ (0,0) h];rfl
theorem BL4.c4 (h:BL4 W g v0 v1 v2 v3 v4 v5 v6 v7 v8 v9 v10 v11 v12 v13 v14 v15 v16 v17 v18 v19 v20 v21 v22 v23):W.cell? ⟨g,4,none⟩=some v4:=by rw [cell_of_row W g 4 _ _ (0,0) h];rfl
theorem BL4.c5 (h:BL4 W g v0 v1 v2 v3 v4 v5 v6 v7 v8 v9 v10 v11 v12 v13 v14 v15 v16 v17 v18 v19 v20 v21 v22 v23):W.cell? ⟨g,5,none⟩=some v5:=by rw [cell_of_row W g 5 _ _ (0,0) h];rfl
theorem BL4.c6 (h:BL4 W g v0 v1 v2 v3 v4 v5 v6 v7 v8 v9 v10 v11 v12 v13 v14 v15 v16 v17 v18 v19 v20 v21 v22 v23):W.cell? ⟨g,6,none⟩=some v6:=by rw [cell_of_row W g 6 _ _ (0,0) h];rfl
theorem BL4.c7 (h:BL4 W g v0 v1 v2 v3 v4 v5 v6 v7 v8 v9 v10 v11 v12 v13 v14 v15 v16 v17 v18 v19 v20 v21 v22 v23):W.cell? ⟨g,7,none⟩=some v7:=by rw [cell_of_row W g 7 _ _ (0,0) h];rfl
theorem BL4.c8 (h:BL4 W g v0 v1 v2 v3 v4 v5 v6 v7 v8 v9 v10 v11 v12 v13 v14 v15 v16 v17 v18 v19 v20 v21 v22 v23):W.cell? ⟨g,8,none⟩=some v8:=by rw [cell_of_row W g 8 _ _ (0,0) h];rfl
theorem BL4.c9 (h:BL4 W g v0 v1 v2 v3 v4 v5 v6 v7 v8 v9 v10 v11 v12 v13 v14 v15 v16 v17 v18 v19 v20 v21 v22 v23):W.cell? ⟨g,9,none⟩=some v9:=by rw [cell_of_row W g 9 _ _ (0,0) h];rfl
theorem BL4.c10 (h:BL4 W g v0 v1 v2 v3 v4 v5 v6 v7 v8 v9 v10 v11 v12 v13 v14 v15 v16 v17 v18 v19 v20 v21 v22 v23):W.cell? ⟨g,10,none⟩=some v10:=by rw [cell_of_row W g 10 _ _ (0,0) h];rfl
theorem BL4.c11 (h:BL4 W g v0 v1 v2 v3 v4 v5 v6 v7 v8 v9 v10 v11 v12 v13 v14 v15 v16 v17 v18 v19 v20 v21 v22 v23):W.cell? ⟨g,11,none⟩=some v11:=by rw [cell_of_row W g 11 _ _ (0,0) h];rfl
theorem BL4.c12 (h:BL4 W g v0 v1 v2 v3 v4 v5 v6 v7 v8 v9 v10 v11 v12 v13 v14 v15 v16 v17 v18 v19 v20 v21 v22 v23):W.cell? ⟨g,12,none⟩=some v12:=by rw [cell_of_row W g 12 _ _ (0,0) h];rfl
theorem BL4.c13 (h:BL4 W g v0 v1 v2 v3 v4 v5 v6 v7 v8 v9 v10 v11 v12 v13 v14 v15 v16 v17 v18 v19 v20 v21 v22 v23):W.cell? ⟨g,13,none⟩=some v13:=by rw [cell_of_row W g 13 _ _ (0,0) h];rfl
theorem BL4.c14 (h:BL4 W g v0 v1 v2 v3 v4 v5 v6 v7 v8 v9 v10 v11 v12 v13 v14 v15 v16 v17 v18 v19 v20 v21 v22 v23):W.cell? ⟨g,14,none⟩=some v14:=by rw [cell_of_row W g 14 _ _ (0,0) h];rfl
theorem BL4.c15 (h:BL4 W g v0 v1 v2 v3 v4 v5 v6 v7 v8 v9 v10 v11 v12 v13 v14 v15 v16 v17 v18 v19 v20 v21 v22 v23):W.cell? ⟨g,15,none⟩=some v15:=by rw [cell_of_row W g 15 _ _ (0,0) h];rfl
theorem BL4.c16 (h:BL4 W g v0 v1 v2 v3 v4 v5 v6 v7 v8 v9 v10 v11 v12 v13 v14 v15 v16 v17 v18 v19 v20 v21 v22 v23):W.cell? ⟨g,16,none⟩=some v16:=by rw [cell_of_row W g 16 _ _ (0,0) h];rfl
theorem BL4.c17 (h:BL4 W g v0 v1 v2 v3 v4 v5 v6 v7 v8 v9 v10 v11 v12 v13 v14 v15 v16 v17 v18 v19 v20 v21 v22 v23):W.cell? ⟨g,17,none⟩=some v17:=by rw [cell_of_row W g 17 _ _ (0,0) h];rfl
theorem BL4.c18 (h:BL4 W g v0 v1 v2 v3 v4 v5 v6 v7 v8 v9 v10 v11 v12 v13 v14 v15 v16 v17 v18 v19 v20 v21 v22 v23):W.cell? ⟨g,18,none⟩=some v18:=by rw [cell_of_row W g 18 _ _ (0,0) h];rfl
theorem BL4.c19 (h:BL4 W g v0 v1 v2 v3 v4 v5 v6 v7 v8 v9 v10 v11 v12 v13 v14 v15 v16 v17 v18 v19 v20 v21 v22 v23):W.cell? ⟨g,19,none⟩=some v19:=by rw [cell_of_row W g 19 _ _ (0,0) h];rfl
theorem BL4.c20 (h:BL4 W g v0 v1 v2 v3 v4 v5 v6 v7 v8 v9 v10 v11 v12 v13 v14 v15 v16 v17 v18 v19 v20 v21 v22 v23):W.cell? ⟨g,20,none⟩=some v20:=by rw [cell_of_row W g 20 _ _ (0,0) h];rfl
theorem BL4.c21 (h:BL4 W g v0 v1 v2 v3 v4 v5 v6 v7 v8 v9 v10 v11 v12 v13 v14 v15 v16 v17 v18 v19 v20 v21 v22 v23):W.cell? ⟨g,21,none⟩=some v21:=by rw [cell_of_row W g 21 _ _ (0,0) h];rfl
theorem BL4.c22 (h:BL4 W g v0 v1 v2 v3 v4 v5 v6 v7 v8 v9 v10 v11 v12 v13 v14 v15 v16 v17 v18 v19 v20 v21 v22 v23):W.cell? ⟨g,22,none⟩=some v22:=by rw [cell_of_row W g 22 _ _ (0,0) h];rfl
theorem BL4.c23 (h:BL4 W g v0 v1 v2 v3 v4 v5 v6 v7 v8 v9 v10 v11 v12 v13 v14 v15 v16 v17 v18 v19 v20 v21 v22 v23):W.cell? ⟨g,23,none⟩=some v23:=by rw [cell_of_row W g 23 _ _ (0,0) h];rfl
theorem BL4.all (h:BL4 W g v0 v1 v2 v3 v4 v5 v6 v7 v8 v9 v10 v11 v12 v13 v14 v15 v16 v17 v18 v19 v20 v21 v22 v23):W.cell? ⟨g,0,none⟩=some v0∧W.cell? ⟨g,1,none⟩=some v1∧W.cell? ⟨g,2,none⟩=some v2∧W.cell? ⟨g,3,none⟩=some v3∧W.cell? ⟨g,4,none⟩=some v4∧W.cell? ⟨g,5,none⟩=some v5∧W.cell? ⟨g,6,none⟩=some v6∧W.cell? ⟨g,7,none⟩=some v7∧W.cell? ⟨g,8,none⟩=some v8∧W.cell? ⟨g,9,none⟩=some v9∧W.cell? ⟨g,10,none⟩=some v10∧W.cell? ⟨g,11,none⟩=some v11∧W.cell? ⟨g,12,none⟩=some v12∧W.cell? ⟨g,13,none⟩=some v13∧W.cell? ⟨g,14,none⟩=some v14∧W.cell? ⟨g,15,none⟩=some v15∧W.cell? ⟨g,16,none⟩=some v16∧W.cell? ⟨g,17,none⟩=some v17∧W.cell? ⟨g,18,none⟩=some v18∧W.cell? ⟨g,19,none⟩=some v19∧W.cell? ⟨g,20,none⟩=some v20∧W.cell? ⟨g,21,none⟩=some v21∧W.cell? ⟨g,22,none⟩=some v22∧W.cell? ⟨g,23,none⟩=some v23:=⟨h.c0,h.c1,h.c2,h.c3,h.c4,h.c5,h.c6,h.c7,h.c8,h.c9,h.c10,h.c11,h.c12,h.c13,h.c14,h.c15,h.c16,h.c17,h.c18,h.c19,h.c20,h.c21,h.c22,h.c23⟩
theorem BL4.lt (h:BL4 W g v0 v1 v2 v3 v4 v5 v6 v7 v8 v9 v10 v11 v12 v13 v14 v15 v16 v17 v18 v19 v20 v21 v22 v23):g < W.heap.size:=World.block_lt_of_cell? W _ h.c0
theorem BL4.below (h:BL4 W g v0 v1 v2 v3 v4 v5 v6 v7 v8 v9 v10 v11 v12 v13 v14 v15 v16 v17 v18 v19 v20 v21 v22 v23) (hb:Below W.heap.size W W'):BL4 W' g v0 v1 v2 v3 v4 v5 v6 v7 v8 v9 v10 v11 v12 v13 v14 v15 v16 v17 v18 v19 v20 v21 v22 v23:=(hb.block g h.lt).trans h
theorem BL4.alloc (h:BL4 W g v0 v1 v2 v3 v4 v5 v6 v7 v8 v9 v10 v11 v12 v13 v14 v15 v16 v17 v18 v19 v20 v21 v22 v23) (o:Obj):BL4 (W.alloc o) g v0 v1 v2 v3 v4 v5 v6 v7 v8 v9 v10 v11 v12 v13 v14 v15 v16 v17 v18 v19 v20 v21 v22 v23:=(Below.heap_alloc W o g h.lt).trans h
end
theorem BL4.new' (W:World) (v0 v1 v2 v3 v4 v5 v6 v7 v8 v9 v10 v11 v12 v13 v14 v15 v16 v17 v18 v19 v20 v21 v22 v23:Value) (g:Nat) (hg:g=W.heap.size):BL4 (W.alloc (.cells #[v0,v1,v2,v3,v4,v5,v6,v7,v8,v9,v10,v11,v12,v13,v14,v15,v16,v17,v18,v19,v20,v21,v22,v23] 56)) g v0 v1 v2 v3 v4 v5 v6 v7 v8 v9 v10 v11 v12 v13 v14 v15 v16 v17 v18 v19 v20 v21 v22 v23:=by subst hg;exact heap_alloc_new W _
theorem line4_0 {g:Nat} (L:BL4 w g (.bool s_p) (.slice A_p n_p c_p) (.slice B_p m_p d_p) (.bool t_p) (.slice E_p i_p e_p) (.slice F_p j_p f_p) (.bool s_q) (.slice A_q n_q c_q) (.slice B_q m_q d_q) (.bool t_q) (.slice E_q i_q e_q) (.slice F_q j_q f_q) (.bool s_r) (.slice A_r n_r c_r) (.slice B_r m_r d_r) (.bool t_r) (.slice E_r i_r e_r) (.slice F_r j_r f_r) (.bool s_u) (.slice A_u n_u c_u) (.slice B_u m_u d_u) (.bool t_u) (.slice E_u i_u e_u) (.slice F_u j_u f_u)) (h0:decide ((n_p≤6∧m_p≤6)∧i_p≤6∧j_p≤6)=false) :
 Calls Tryz.prog 81 #[.slice (some ⟨g,0,none⟩) 4 4,.int .i64 6] w fun e w'=>e=.returned (.bool false)∧Below w.heap.size w w':=by
 have H0:=Lib.hid h0;clear h0
 have hb:Below w.heap.size w w:=Below.refl _ _
 obtain ⟨l0,l1,l2,l3,l4,l5,l6,l7,l8,l9,l10,l11,l12,l13,l14,l15,l16,l17,l18,l19,l20,l21,l22,l23⟩:=L.all
 go_enter Tryz.func81,Tryz.ntmps81
 go_wp2_with fail
 refine wp_loop_rounds 5 ?_
 rw [rounds_succ]
 go_wp2_with (first
  | (go_at_call 138;(with_reducible refine (smallpt_6 (s_p:=s_p) (A_p:=A_p) (n_p:=n_p) (c_p:=c_p) (B_p:=B_p) (m_p:=m_p) (d_p:=d_p) (t_p:=t_p) (E_p:=E_p) (i_p:=i_p) (e_p:=e_p) (F_p:=F_p) (j_p:=j_p) (f_p:=f_p) false H0.out).mono ?_);rintro e w_z ⟨rfl,hh⟩
     (try replace L:=L.below hh);replace hb:=bend hb hh;obtain ⟨l0,l1,l2,l3,l4,l5,l6,l7,l8,l9,l10,l11,l12,l13,l14,l15,l16,l17,l18,l19,l20,l21,l22,l23⟩:=L.all))
 go_ret;exact ⟨rfl,hb⟩
theorem line4_1 {g:Nat} (L:BL4 w g (.bool s_p) (.slice A_p n_p c_p) (.slice B_p m_p d_p) (.bool t_p) (.slice E_p i_p e_p) (.slice F_p j_p f_p) (.bool s_q) (.slice A_q n_q c_q) (.slice B_q m_q d_q) (.bool t_q) (.slice E_q i_q e_q) (.slice F_q j_q f_q) (.bool s_r) (.slice A_r n_r c_r) (.slice B_r m_r d_r) (.bool t_r) (.slice E_r i_r e_r) (.slice F_r j_r f_r) (.bool s_u) (.slice A_u n_u c_u) (.slice B_u m_u d_u) (.bool t_u) (.slice E_u i_u e_u) (.slice F_u j_u f_u)) (h0:decide ((n_p≤6∧m_p≤6)∧i_p≤6∧j_p≤6)=true) (h1:decide ((n_q≤6∧m_q≤6)∧i_q≤6∧j_q≤6)=false) :
 Calls Tryz.prog 81 #[.slice (some ⟨g,0,none⟩) 4 4,.int .i64 6] w fun e w'=>e=.returned (.bool false)∧Below w.heap.size w w':=by
 have H0:=Lib.hid h0;clear h0;have H1:=Lib.hid h1;clear h1
 have hb:Below w.heap.size w w:=Below.refl _ _
 obtain ⟨l0,l1,l2,l3,l4,l5,l6,l7,l8,l9,l10,l11,l12,l13,l14,l15,l16,l17,l18,l19,l20,l21,l22,l23⟩:=L.all
 go_enter Tryz.func81,Tryz.ntmps81
 go_wp2_with fail
 refine wp_loop_rounds 5 ?_
 rw [rounds_succ]
 go_wp2_with (first
  | (go_at_call 138;(with_reducible refine (smallpt_6 (s_p:=s_p) (A_p:=A_p) (n_p:=n_p) (c_p:=c_p) (B_p:=B_p) (m_p:=m_p) (d_p:=d_p) (t_p:=t_p) (E_p:=E_p) (i_p:=i_p) (e_p:=e_p) (F_p:=F_p) (j_p:=j_p) (f_p:=f_p) true H0.out).mono ?_);rintro e w_z ⟨rfl,hh⟩
     (try replace L:=L.below hh);replace hb:=bend hb hh;obtain ⟨l0,l1,l2,l3,l4,l5,l6,l7,l8,l9,l10,l11,l12,l13,l14,l15,l16,l17,l18,l19,l20,l21,l22,l23⟩:=L.all))
 rw [rounds_succ]
 go_wp2_with (first
  | (go_at_call 138;(with_reducible refine (smallpt_6 (s_p:=s_q) (A_p:=A_q) (n_p:=n_q) (c_p:=c_q) (B_p:=B_q) (m_p:=m_q) (d_p:=d_q) (t_p:=t_q) (E_p:=E_q) (i_p:=i_q) (e_p:=e_q) (F_p:=F_q) (j_p:=j_q) (f_p:=f_q) false H1.out).mono ?_);rintro e w_z ⟨rfl,hh⟩
     (try replace L:=L.below hh);replace hb:=bend hb hh;obtain ⟨l0,l1,l2,l3,l4,l5,l6,l7,l8,l9,l10,l11,l12,l13,l14,l15,l16,l17,l18,l19,l20,l21,l22,l23⟩:=L.all))
 go_ret;exact ⟨rfl,hb⟩
theorem line4_2 {g:Nat} (L:BL4 w g (.bool s_p) (.slice A_p n_p c_p) (.slice B_p m_p d_p) (.bool t_p) (.slice E_p i_p e_p) (.slice F_p j_p f_p) (.bool s_q) (.slice A_q n_q c_q) (.slice B_q m_q d_q) (.bool t_q) (.slice E_q i_q e_q) (.slice F_q j_q f_q) (.bool s_r) (.slice A_r n_r c_r) (.slice B_r m_r d_r) (.bool t_r) (.slice E_r i_r e_r) (.slice F_r j_r f_r) (.bool s_u) (.slice A_u n_u c_u) (.slice B_u m_u d_u) (.bool t_u) (.slice E_u i_u e_u) (.slice F_u j_u f_u)) (h0:decide ((n_p≤6∧m_p≤6)∧i_p≤6∧j_p≤6)=true) (h1:decide ((n_q≤6∧m_q≤6)∧i_q≤6∧j_q≤6)=true) (h2:decide ((n_r≤6∧m_r≤6)∧i_r≤6∧j_r≤6)=false) :
 Calls Tryz.prog 81 #[.slice (some ⟨g,0,none⟩) 4 4,.int .i64 6] w fun e w'=>e=.returned (.bool false)∧Below w.heap.size w w':=by
 have H0:=Lib.hid h0;clear h0;have H1:=Lib.hid h1;clear h1;have H2:=Lib.hid h2;clear h2
 have hb:Below w.heap.size w w:=Below.refl _ _
 obtain ⟨l0,l1,l2,l3,l4,l5,l6,l7,l8,l9,l10,l11,l12,l13,l14,l15,l16,l17,l18,l19,l20,l21,l22,l23⟩:=L.all
 go_enter Tryz.func81,Tryz.ntmps81
 go_wp2_with fail
 refine wp_loop_rounds 5 ?_
 rw [rounds_succ]
 go_wp2_with (first
  | (go_at_call 138;(with_reducible refine (smallpt_6 (s_p:=s_p) (A_p:=A_p) (n_p:=n_p) (c_p:=c_p) (B_p:=B_p) (m_p:=m_p) (d_p:=d_p) (t_p:=t_p) (E_p:=E_p) (i_p:=i_p) (e_p:=e_p) (F_p:=F_p) (j_p:=j_p) (f_p:=f_p) true H0.out).mono ?_);rintro e w_z ⟨rfl,hh⟩
     (try replace L:=L.below hh);replace hb:=bend hb hh;obtain ⟨l0,l1,l2,l3,l4,l5,l6,l7,l8,l9,l10,l11,l12,l13,l14,l15,l16,l17,l18,l19,l20,l21,l22,l23⟩:=L.all))
 rw [rounds_succ]
 go_wp2_with (first
  | (go_at_call 138;(with_reducible refine (smallpt_6 (s_p:=s_q) (A_p:=A_q) (n_p:=n_q) (c_p:=c_q) (B_p:=B_q) (m_p:=m_q) (d_p:=d_q) (t_p:=t_q) (E_p:=E_q) (i_p:=i_q) (e_p:=e_q) (F_p:=F_q) (j_p:=j_q) (f_p:=f_q) true H1.out).mono ?_);rintro e w_z ⟨rfl,hh⟩
     (try replace L:=L.below hh);replace hb:=bend hb hh;obtain ⟨l0,l1,l2,l3,l4,l5,l6,l7,l8,l9,l10,l11,l12,l13,l14,l15,l16,l17,l18,l19,l20,l21,l22,l23⟩:=L.all))
 rw [rounds_succ]
 go_wp2_with (first
  | (go_at_call 138;(with_reducible refine (smallpt_6 (s_p:=s_r) (A_p:=A_r) (n_p:=n_r) (c_p:=c_r) (B_p:=B_r) (m_p:=m_r) (d_p:=d_r) (t_p:=t_r) (E_p:=E_r) (i_p:=i_r) (e_p:=e_r) (F_p:=F_r) (j_p:=j_r) (f_p:=f_r) false H2.out).mono ?_);rintro e w_z ⟨rfl,hh⟩
     (try replace L:=L.below hh);replace hb:=bend hb hh;obtain ⟨l0,l1,l2,l3,l4,l5,l6,l7,l8,l9,l10,l11,l12,l13,l14,l15,l16,l17,l18,l19,l20,l21,l22,l23⟩:=L.all))
 go_ret;exact ⟨rfl,hb⟩
theorem line4_3 {g:Nat} (L:BL4 w g (.bool s_p) (.slice A_p n_p c_p) (.slice B_p m_p d_p) (.bool t_p) (.slice E_p i_p e_p) (.slice F_p j_p f_p) (.bool s_q) (.slice A_q n_q c_q) (.slice B_q m_q d_q) (.bool t_q) (.slice E_q i_q e_q) (.slice F_q j_q f_q) (.bool s_r) (.slice A_r n_r c_r) (.slice B_r m_r d_r) (.bool t_r) (.slice E_r i_r e_r) (.slice F_r j_r f_r) (.bool s_u) (.slice A_u n_u c_u) (.slice B_u m_u d_u) (.bool t_u) (.slice E_u i_u e_u) (.slice F_u j_u f_u)) (h0:decide ((n_p≤6∧m_p≤6)∧i_p≤6∧j_p≤6)=true) (h1:decide ((n_q≤6∧m_q≤6)∧i_q≤6∧j_q≤6)=true) (h2:decide ((n_r≤6∧m_r≤6)∧i_r≤6∧j_r≤6)=true) (h3:decide ((n_u≤6∧m_u≤6)∧i_u≤6∧j_u≤6)=false) :
 Calls Tryz.prog 81 #[.slice (some ⟨g,0,none⟩) 4 4,.int .i64 6] w fun e w'=>e=.returned (.bool false)∧Below w.heap.size w w':=by
 have H0:=Lib.hid h0;clear h0;have H1:=Lib.hid h1;clear h1;have H2:=Lib.hid h2;clear h2;have H3:=Lib.hid h3;clear h3
 have hb:Below w.heap.size w w:=Below.refl _ _
 obtain ⟨l0,l1,l2,l3,l4,l5,l6,l7,l8,l9,l10,l11,l12,l13,l14,l15,l16,l17,l18,l19,l20,l21,l22,l23⟩:=L.all
 go_enter Tryz.func81,Tryz.ntmps81
 go_wp2_with fail
 refine wp_loop_rounds 5 ?_
 rw [rounds_succ]
 go_wp2_with (first
  | (go_at_call 138;(with_reducible refine (smallpt_6 (s_p:=s_p) (A_p:=A_p) (n_p:=n_p) (c_p:=c_p) (B_p:=B_p) (m_p:=m_p) (d_p:=d_p) (t_p:=t_p) (E_p:=E_p) (i_p:=i_p) (e_p:=e_p) (F_p:=F_p) (j_p:=j_p) (f_p:=f_p) true H0.out).mono ?_);rintro e w_z ⟨rfl,hh⟩
     (try replace L:=L.below hh);replace hb:=bend hb hh;obtain ⟨l0,l1,l2,l3,l4,l5,l6,l7,l8,l9,l10,l11,l12,l13,l14,l15,l16,l17,l18,l19,l20,l21,l22,l23⟩:=L.all))
 rw [rounds_succ]
 go_wp2_with (first
  | (go_at_call 138;(with_reducible refine (smallpt_6 (s_p:=s_q) (A_p:=A_q) (n_p:=n_q) (c_p:=c_q) (B_p:=B_q) (m_p:=m_q) (d_p:=d_q) (t_p:=t_q) (E_p:=E_q) (i_p:=i_q) (e_p:=e_q) (F_p:=F_q) (j_p:=j_q) (f_p:=f_q) true H1.out).mono ?_);rintro e w_z ⟨rfl,hh⟩
     (try replace L:=L.below hh);replace hb:=bend hb hh;obtain ⟨l0,l1,l2,l3,l4,l5,l6,l7,l8,l9,l10,l11,l12,l13,l14,l15,l16,l17,l18,l19,l20,l21,l22,l23⟩:=L.all))
 rw [rounds_succ]
 go_wp2_with (first
  | (go_at_call 138;(with_reducible refine (smallpt_6 (s_p:=s_r) (A_p:=A_r) (n_p:=n_r) (c_p:=c_r) (B_p:=B_r) (m_p:=m_r) (d_p:=d_r) (t_p:=t_r) (E_p:=E_r) (i_p:=i_r) (e_p:=e_r) (F_p:=F_r) (j_p:=j_r) (f_p:=f_r) true H2.out).mono ?_);rintro e w_z ⟨rfl,hh⟩
     (try replace L:=L.below hh);replace hb:=bend hb hh;obtain ⟨l0,l1,l2,l3,l4,l5,l6,l7,l8,l9,l10,l11,l12,l13,l14,l15,l16,l17,l18,l19,l20,l21,l22,l23⟩:=L.all))
 rw [rounds_succ]
 go_wp2_with (first
  | (go_at_call 138;(with_reducible refine (smallpt_6 (s_p:=s_u) (A_p:=A_u) (n_p:=n_u) (c_p:=c_u) (B_p:=B_u) (m_p:=m_u) (d_p:=d_u) (t_p:=t_u) (E_p:=E_u) (i_p:=i_u) (e_p:=e_u) (F_p:=F_u) (j_p:=j_u) (f_p:=f_u) false H3.out).mono ?_);rintro e w_z ⟨rfl,hh⟩
     (try replace L:=L.below hh);replace hb:=bend hb hh;obtain ⟨l0,l1,l2,l3,l4,l5,l6,l7,l8,l9,l10,l11,l12,l13,l14,l15,l16,l17,l18,l19,l20,l21,l22,l23⟩:=L.all))
 go_ret;exact ⟨rfl,hb⟩
theorem line4_4 {g:Nat} (L:BL4 w g (.bool s_p) (.slice A_p n_p c_p) (.slice B_p m_p d_p) (.bool t_p) (.slice E_p i_p e_p) (.slice F_p j_p f_p) (.bool s_q) (.slice A_q n_q c_q) (.slice B_q m_q d_q) (.bool t_q) (.slice E_q i_q e_q) (.slice F_q j_q f_q) (.bool s_r) (.slice A_r n_r c_r) (.slice B_r m_r d_r) (.bool t_r) (.slice E_r i_r e_r) (.slice F_r j_r f_r) (.bool s_u) (.slice A_u n_u c_u) (.slice B_u m_u d_u) (.bool t_u) (.slice E_u i_u e_u) (.slice F_u j_u f_u)) (h0:decide ((n_p≤6∧m_p≤6)∧i_p≤6∧j_p≤6)=true) (h1:decide ((n_q≤6∧m_q≤6)∧i_q≤6∧j_q≤6)=true) (h2:decide ((n_r≤6∧m_r≤6)∧i_r≤6∧j_r≤6)=true) (h3:decide ((n_u≤6∧m_u≤6)∧i_u≤6∧j_u≤6)=true) :
 Calls Tryz.prog 81 #[.slice (some ⟨g,0,none⟩) 4 4,.int .i64 6] w fun e w'=>e=.returned (.bool true)∧Below w.heap.size w w':=by
 have H0:=Lib.hid h0;clear h0;have H1:=Lib.hid h1;clear h1;have H2:=Lib.hid h2;clear h2;have H3:=Lib.hid h3;clear h3
 have hb:Below w.heap.size w w:=Below.refl _ _
 obtain ⟨l0,l1,l2,l3,l4,l5,l6,l7,l8,l9,l10,l11,l12,l13,l14,l15,l16,l17,l18,l19,l20,l21,l22,l23⟩:=L.all
 go_enter Tryz.func81,Tryz.ntmps81
 go_wp2_with fail
 refine wp_loop_rounds 5 ?_
 rw [rounds_succ]
 go_wp2_with (first
  | (go_at_call 138;(with_reducible refine (smallpt_6 (s_p:=s_p) (A_p:=A_p) (n_p:=n_p) (c_p:=c_p) (B_p:=B_p) (m_p:=m_p) (d_p:=d_p) (t_p:=t_p) (E_p:=E_p) (i_p:=i_p) (e_p:=e_p) (F_p:=F_p) (j_p:=j_p) (f_p:=f_p) true H0.out).mono ?_);rintro e w_z ⟨rfl,hh⟩
     (try replace L:=L.below hh);replace hb:=bend hb hh;obtain ⟨l0,l1,l2,l3,l4,l5,l6,l7,l8,l9,l10,l11,l12,l13,l14,l15,l16,l17,l18,l19,l20,l21,l22,l23⟩:=L.all))
 rw [rounds_succ]
 go_wp2_with (first
  | (go_at_call 138;(with_reducible refine (smallpt_6 (s_p:=s_q) (A_p:=A_q) (n_p:=n_q) (c_p:=c_q) (B_p:=B_q) (m_p:=m_q) (d_p:=d_q) (t_p:=t_q) (E_p:=E_q) (i_p:=i_q) (e_p:=e_q) (F_p:=F_q) (j_p:=j_q) (f_p:=f_q) true H1.out).mono ?_);rintro e w_z ⟨rfl,hh⟩
     (try replace L:=L.below hh);replace hb:=bend hb hh;obtain ⟨l0,l1,l2,l3,l4,l5,l6,l7,l8,l9,l10,l11,l12,l13,l14,l15,l16,l17,l18,l19,l20,l21,l22,l23⟩:=L.all))
 rw [rounds_succ]
 go_wp2_with (first
  | (go_at_call 138;(with_reducible refine (smallpt_6 (s_p:=s_r) (A_p:=A_r) (n_p:=n_r) (c_p:=c_r) (B_p:=B_r) (m_p:=m_r) (d_p:=d_r) (t_p:=t_r) (E_p:=E_r) (i_p:=i_r) (e_p:=e_r) (F_p:=F_r) (j_p:=j_r) (f_p:=f_r) true H2.out).mono ?_);rintro e w_z ⟨rfl,hh⟩
     (try replace L:=L.below hh);replace hb:=bend hb hh;obtain ⟨l0,l1,l2,l3,l4,l5,l6,l7,l8,l9,l10,l11,l12,l13,l14,l15,l16,l17,l18,l19,l20,l21,l22,l23⟩:=L.all))
 rw [rounds_succ]
 go_wp2_with (first
  | (go_at_call 138;(with_reducible refine (smallpt_6 (s_p:=s_u) (A_p:=A_u) (n_p:=n_u) (c_p:=c_u) (B_p:=B_u) (m_p:=m_u) (d_p:=d_u) (t_p:=t_u) (E_p:=E_u) (i_p:=i_u) (e_p:=e_u) (F_p:=F_u) (j_p:=j_u) (f_p:=f_u) true H3.out).mono ?_);rintro e w_z ⟨rfl,hh⟩
     (try replace L:=L.below hh);replace hb:=bend hb hh;obtain ⟨l0,l1,l2,l3,l4,l5,l6,l7,l8,l9,l10,l11,l12,l13,l14,l15,l16,l17,l18,l19,l20,l21,l22,l23⟩:=L.all))
 rw [rounds_succ]
 go_wp2_with fail
 go_ret;exact ⟨rfl,hb⟩
theorem line4 {g:Nat} (L:BL4 w g (.bool s_p) (.slice A_p n_p c_p) (.slice B_p m_p d_p) (.bool t_p) (.slice E_p i_p e_p) (.slice F_p j_p f_p) (.bool s_q) (.slice A_q n_q c_q) (.slice B_q m_q d_q) (.bool t_q) (.slice E_q i_q e_q) (.slice F_q j_q f_q) (.bool s_r) (.slice A_r n_r c_r) (.slice B_r m_r d_r) (.bool t_r) (.slice E_r i_r e_r) (.slice F_r j_r f_r) (.bool s_u) (.slice A_u n_u c_u) (.slice B_u m_u d_u) (.bool t_u) (.slice E_u i_u e_u) (.slice F_u j_u f_u)) (R:Bool) (hR:decide (((n_p≤6∧m_p≤6)∧i_p≤6∧j_p≤6)∧((n_q≤6∧m_q≤6)∧i_q≤6∧j_q≤6)∧((n_r≤6∧m_r≤6)∧i_r≤6∧j_r≤6)∧((n_u≤6∧m_u≤6)∧i_u≤6∧j_u≤6))=R) :
 Calls Tryz.prog 81 #[.slice (some ⟨g,0,none⟩) 4 4,.int .i64 6] w fun e w'=>e=.returned (.bool R)∧Below w.heap.size w w':=by
 subst hR
 by_cases h0:(n_p≤6∧m_p≤6)∧i_p≤6∧j_p≤6
 case neg=>rw [decide_eq_false (fun q=>h0 q.1)];exact line4_0 L  (decide_eq_false h0)
 by_cases h1:(n_q≤6∧m_q≤6)∧i_q≤6∧j_q≤6
 case neg=>rw [decide_eq_false (fun q=>h1 q.2.1)];exact line4_1 L (decide_eq_true h0) (decide_eq_false h1)
 by_cases h2:(n_r≤6∧m_r≤6)∧i_r≤6∧j_r≤6
 case neg=>rw [decide_eq_false (fun q=>h2 q.2.2.1)];exact line4_2 L (decide_eq_true h0) (decide_eq_true h1) (decide_eq_false h2)
 by_cases h3:(n_u≤6∧m_u≤6)∧i_u≤6∧j_u≤6
 case neg=>rw [decide_eq_false (fun q=>h3 q.2.2.2)];exact line4_3 L (decide_eq_true h0) (decide_eq_true h1) (decide_eq_true h2) (decide_eq_false h3)
 rw [decide_eq_true ⟨h0,h1,h2,h3⟩];exact line4_4 L (decide_eq_true h0) (decide_eq_true h1) (decide_eq_true h2) (decide_eq_true h3)
theorem fair4 {g:Nat} (L:BL4 w g (.bool s_p) (.slice A_p n_p c_p) (.slice B_p m_p d_p) (.bool t_p) (.slice E_p i_p e_p) (.slice F_p j_p f_p) (.bool s_q) (.slice A_q n_q c_q) (.slice B_q m_q d_q) (.bool t_q) (.slice E_q i_q e_q) (.slice F_q j_q f_q) (.bool s_r) (.slice A_r n_r c_r) (.slice B_r m_r d_r) (.bool t_r) (.slice E_r i_r e_r) (.slice F_r j_r f_r) (.bool s_u) (.slice A_u n_u c_u) (.slice B_u m_u d_u) (.bool t_u) (.slice E_u i_u e_u) (.slice F_u j_u f_u)) (R:Bool) (hR:decide (((n_p≤6∧m_p≤6)∧i_p≤6∧j_p≤6)∧((n_q≤6∧m_q≤6)∧i_q≤6∧j_q≤6)∧((n_r≤6∧m_r≤6)∧i_r≤6∧j_r≤6)∧((n_u≤6∧m_u≤6)∧i_u≤6∧j_u≤6))=R) :
 Calls Tryz.prog 29 #[.slice (some ⟨g,0,none⟩) 4 4] w fun e w'=>e=.returned (.bool R)∧Below w.heap.size w w':=by
 have HR:=Lib.hid hR;clear hR
 have hb:Below w.heap.size w w:=Below.refl _ _
 go_enter Tryz.func29,Tryz.ntmps29
 go_wp2_with (first
  | (go_at_call 81;(with_reducible refine (line4 L R HR.out).mono ?_);rintro e w_z ⟨rfl,hh⟩
     replace hb:=bend hb hh))
 go_ret;exact ⟨rfl,hb⟩
end
end Go.Proofs.YtmgklaklnaihpaaGreat
