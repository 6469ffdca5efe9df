/- AreaMoves: part 16. -/
import Derived.Test.YtghmejlikfiegaaGreatKAreaMoves10
import Derived.Test.YtghmejlikfiegaaGreatKAreaMoves11
import Derived.Test.YtghmejlikfiegaaGreatKAreaMoves13
import Derived.Test.YtghmejlikfiegaaGreatKAreaMoves15
set_option linter.unusedVariables false
set_option maxRecDepth 100000
set_option maxHeartbeats 16000000
variable {w:Go.World}
namespace Go.Proofs.YtghmejlikfiegaaGreat
section
open Go Go.RowKit
theorem QG.fit {s:Bool} {A B:Option Addr} {n c m d K k:Nat} {v:Rat} (h:QG w s A n c B m d v K) (h1:v.num.natAbs < B64 ^ k) (h2:v.den < B64 ^ k):QG w s A n c B m d v k:=by
 obtain ⟨⟨a1,a2,a3,_⟩,⟨b1,b2,_⟩⟩:=h
 refine ⟨⟨a1,a2,a3,?_⟩,⟨b1,b2,?_⟩⟩
 · rw [← a2.1];exact length_limbs_le B64_two h1
 · rw [← b1.1];exact length_limbs_le B64_two h2
theorem Each.fit {L:List PV} {l:List (Rat × Rat)} {K k:Nat} (h:Each PV.PG w L l K) (hB:BL k l):Each PV.PG w L l k :=
 ⟨h.1,fun i p u hp hu=>by
  have h2:=h.2 i p u hp hu
  have hb:=hB u (List.mem_of_getElem? hu)
  exact ⟨QG.fit h2.1 hb.1 hb.2.1,QG.fit h2.2 hb.2.2.1 hb.2.2.2⟩⟩
theorem Each.pr {L:List PV} {l:List (Rat × Rat)} {k:Nat} (h:Each PV.PG w L l k):Each PV.PR w L l k:=⟨h.1,fun i p u hp hu=>PG.pr (h.2 i p u hp hu)⟩
theorem Ln.sv {T:TypeId} {base:Nat} {A:Option Addr} {n c:Nat} {L:List PV} (h:Ln T base w (.slice A n c) L):SV w A (pvs L):=fun hn=>by
 have hl:0 < L.length:=by rw [show (pvs L).length=L.length*6 from rows_length pvc_len L] at hn;omega
 obtain ⟨g,c2,hv,_,_,hg,_⟩:=h.at_ (List.getElem?_eq_getElem hl)
 simp only [Value.slice.injEq] at hv
 refine ⟨g,0,hv.1,hg,fun j u hu=>?_⟩
 have:=h.own.cells (g:=g) (by rw [hv.1];rfl) j u hu
 rwa [add_at] at this
def hasB (l:List (Rat × Rat)) (px py:Rat):Bool:=decide (3≤l.length) && (List.range (l.length+1)).all fun i=>match (ringL l)[i]?,(ringL l)[i+1]? with | some u,some v=>decide (0≤orientQ u.1 u.2 v.1 v.2 px py) | _,_=>true
theorem hasB_iff (l:List (Rat × Rat)) (px py:Rat):hasB l px py=true ↔ HasQ l px py:=by
 unfold hasB HasQ
 rw [Bool.and_eq_true,decide_eq_true_iff,List.all_eq_true]
 refine and_congr Iff.rfl ⟨fun h i u v hu hv=>?_,fun h i _=>?_⟩
 · have hi : i < l.length + 1 := by
     have h7:=(List.getElem?_eq_some_iff.1 hu).1
     unfold ringL at h7;rw [List.length_append,List.length_take] at h7;omega
   have:=h i (List.mem_range.2 hi)
   rw [hu,hv] at this
   exact of_decide_eq_true this
 · split
   · rename_i u v hu hv;exact decide_eq_true (h i u v hu hv)
   · rfl
def convB (l:List (Rat × Rat)):Bool:=((List.range (l.length+1)).all fun i=>match (ringL (waysL l))[i]?,(ringL (waysL l))[i+1]? with | some u,some v=>decide (LeftV u.1 u.2 v.1 v.2) | _,_=>true) && decide (lowsW (ringL (waysL l)) l.length=1)
theorem convB_iff (l:List (Rat × Rat)):convB l=true ↔ ConvQ l:=by
 unfold convB ConvQ
 rw [Bool.and_eq_true,decide_eq_true_iff,List.all_eq_true]
 refine and_congr ⟨fun h i u v hu hv=>?_,fun h i _=>?_⟩ Iff.rfl
 · have hi : i < l.length + 1 := by
     have h7:=(List.getElem?_eq_some_iff.1 hu).1
     have h8:=waysL_len l
     unfold ringL at h7;rw [List.length_append,List.length_take] at h7;omega
   have:=h i (List.mem_range.2 hi)
   rw [hu,hv] at this
   exact of_decide_eq_true this
 · split
   · rename_i u v hu hv;exact decide_eq_true (h i u v hu hv)
   · rfl
theorem isBox_one {l:List (Rat × Rat)} {a b c d a' b' c' d':Rat} (h:IsBoxQ l a b c d) (g:IsBoxQ l a' b' c' d'):a=a'∧b=b'∧c=c'∧d=d':=by
 obtain ⟨⟨i1,u1,e1,rfl⟩,⟨i2,u2,e2,rfl⟩,⟨i3,u3,e3,rfl⟩,⟨i4,u4,e4,rfl⟩,h5⟩:=h
 obtain ⟨⟨j1,v1,f1,rfl⟩,⟨j2,v2,f2,rfl⟩,⟨j3,v3,f3,rfl⟩,⟨j4,v4,f4,rfl⟩,g5⟩:=g
 have a1:=h5 _ _ f1;have a2:=h5 _ _ f2;have a3:=h5 _ _ f3;have a4:=h5 _ _ f4;have b1:=g5 _ _ e1;have b2:=g5 _ _ e2;have b3:=g5 _ _ e3;have b4:=g5 _ _ e4
 exact ⟨by grind,by grind,by grind,by grind⟩
def sqL:List (Rat × Rat):=[(Rat.divInt 0 1,Rat.divInt 0 1),(Rat.divInt 2 1,Rat.divInt 0 1),(Rat.divInt 2 1,Rat.divInt 2 1),(Rat.divInt 0 1,Rat.divInt 2 1)]
def sqH:List (Rat × Rat):=[(Rat.divInt 0 1,Rat.divInt 0 1),(Rat.divInt 2 1,Rat.divInt 2 1),(Rat.divInt 0 1,Rat.divInt 2 1)]
theorem wk8_half:halfQ (asideP (Rat.divInt 0 1) (Rat.divInt 0 1) (Rat.divInt 2 1) (Rat.divInt 2 1)) sqL=sqH:=by decide +kernel
theorem wk8_box:IsBoxQ sqL (Rat.divInt 0 1) (Rat.divInt 0 1) (Rat.divInt 2 1) (Rat.divInt 2 1):=by
 refine ⟨⟨0,_,rfl,rfl⟩,⟨0,_,rfl,rfl⟩,⟨1,_,rfl,rfl⟩,⟨2,_,rfl,rfl⟩,fun i u hu=>?_⟩
 match i,hu with
 | 0,hu=>cases hu;decide +kernel
 | 1,hu=>cases hu;decide +kernel
 | 2,hu=>cases hu;decide +kernel
 | 3,hu=>cases hu;decide +kernel
 | i+4,hu=>cases hu
theorem wk8_bl:BL 1 sqH:=by
 intro u hu
 simp only [sqH,List.mem_cons,List.not_mem_nil,or_false] at hu
 rcases hu with rfl | rfl | rfl <;> decide +kernel
theorem wk8_t4:(⟨(qtxt (areaQ sqL)).toArray⟩:ByteArray)=⟨#[52]⟩:=by
 rw [show areaQ sqL=Rat.divInt 4 1 by decide +kernel,qtxt_i (a:=4) (by decide +kernel) (by decide +kernel) (txt_one (d:=4) (by decide) (by decide) rfl)];rfl
theorem wk8_t2:(⟨(qtxt (areaQ sqH)).toArray⟩:ByteArray)=⟨#[50]⟩:=by
 rw [show areaQ sqH=Rat.divInt 2 1 by decide +kernel,qtxt_i (a:=2) (by decide +kernel) (by decide +kernel) (txt_one (d:=2) (by decide) (by decide) rfl)];rfl
theorem wk8_conv:true=true ↔ ConvQ sqL:=by
 rw [← convB_iff];exact ⟨fun _=>by decide +kernel,fun _=>rfl⟩
theorem wk8_has1:true=true ↔ HasQ sqL (Rat.divInt 1 1) (Rat.divInt 1 1):=by
 rw [← hasB_iff];exact ⟨fun _=>by decide +kernel,fun _=>rfl⟩
theorem wk8_has2:false=true ↔ HasQ sqL (Rat.divInt 3 1) (Rat.divInt 1 1):=by
 rw [← hasB_iff];exact ⟨fun h=>by (cases h),fun h=>absurd h (by decide +kernel)⟩
theorem wk8_s0:decide (Rat.divInt 0 1=Rat.divInt 0 1∧Rat.divInt 0 1=Rat.divInt 0 1)=true:=by decide +kernel
theorem wk8_s2:decide (Rat.divInt 2 1=Rat.divInt 2 1∧Rat.divInt 2 1=Rat.divInt 2 1)=true:=by decide +kernel
theorem areawakes_any (w:World):Calls Tryz.prog 10 #[] w fun e w'=>e=.returned (.bool true)∧Below w.heap.size w w':=by
 have hb:Below w.heap.size w w:=Below.refl _ _
 go_enter Tryz.func10,Tryz.ntmps10
 go_upto_region 3 with (first
  | (go_at_call 40;(with_reducible refine (lawP 0 0 (by decide) (by decide) (by decide) (by decide) _).mono ?_);rintro e w_p1 ⟨s_p1,A_p1,n_p1,c_p1,B_p1,m_p1,d_p1,t_p1,E_p1,i_p1,e_p1,F_p1,j_p1,f_p1,rfl,p1,hh⟩
     replace hb:=bend hb hh)
  | (go_at_call 40;(with_reducible refine (lawP 2 0 (by decide) (by decide) (by decide) (by decide) _).mono ?_);rintro e w_p2 ⟨s_p2,A_p2,n_p2,c_p2,B_p2,m_p2,d_p2,t_p2,E_p2,i_p2,e_p2,F_p2,j_p2,f_p2,rfl,p2,hh⟩
     (try replace p1:=p1.below hh);replace hb:=bend hb hh)
  | (go_at_call 40;(with_reducible refine (lawP 2 2 (by decide) (by decide) (by decide) (by decide) _).mono ?_);rintro e w_p3 ⟨s_p3,A_p3,n_p3,c_p3,B_p3,m_p3,d_p3,t_p3,E_p3,i_p3,e_p3,F_p3,j_p3,f_p3,rfl,p3,hh⟩
     (try replace p1:=p1.below hh);(try replace p2:=p2.below hh);replace hb:=bend hb hh)
  | (go_at_call 40;(with_reducible refine (lawP 0 2 (by decide) (by decide) (by decide) (by decide) _).mono ?_);rintro e w_p4 ⟨s_p4,A_p4,n_p4,c_p4,B_p4,m_p4,d_p4,t_p4,E_p4,i_p4,e_p4,F_p4,j_p4,f_p4,rfl,p4,hh⟩
     (try replace p1:=p1.below hh);(try replace p2:=p2.below hh);(try replace p3:=p3.below hh);replace hb:=bend hb hh))
 have hBL:BoxAt 29 (w_p4.alloc (Obj.cells #[Value.bool s_p1,Value.slice A_p1 n_p1 c_p1,Value.slice B_p1 m_p1 d_p1,Value.bool t_p1,Value.slice E_p1 i_p1 e_p1,Value.slice F_p1 j_p1 f_p1,Value.bool s_p2,Value.slice A_p2 n_p2 c_p2,Value.slice B_p2 m_p2 d_p2,Value.bool t_p2,Value.slice E_p2 i_p2 e_p2,Value.slice F_p2 j_p2 f_p2,Value.bool s_p3,Value.slice A_p3 n_p3 c_p3,Value.slice B_p3 m_p3 d_p3,Value.bool t_p3,Value.slice E_p3 i_p3 e_p3,Value.slice F_p3 j_p3 f_p3,Value.bool s_p4,Value.slice A_p4 n_p4 c_p4,Value.slice B_p4 m_p4 d_p4,Value.bool t_p4,Value.slice E_p4 i_p4 e_p4,Value.slice F_p4 j_p4 f_p4] 29)) w_p4.heap.size (pvs [(PV.mk s_p1 A_p1 n_p1 c_p1 B_p1 m_p1 d_p1 t_p1 E_p1 i_p1 e_p1 F_p1 j_p1 f_p1),(PV.mk s_p2 A_p2 n_p2 c_p2 B_p2 m_p2 d_p2 t_p2 E_p2 i_p2 e_p2 F_p2 j_p2 f_p2),(PV.mk s_p3 A_p3 n_p3 c_p3 B_p3 m_p3 d_p3 t_p3 E_p3 i_p3 e_p3 F_p3 j_p3 f_p3),(PV.mk s_p4 A_p4 n_p4 c_p4 B_p4 m_p4 d_p4 t_p4 E_p4 i_p4 e_p4 F_p4 j_p4 f_p4)]).toArray:=⟨heap_alloc_new w_p4 _,arr_free (pvs_free _)⟩
 have hh:Below w_p4.heap.size w_p4 (w_p4.alloc (Obj.cells #[Value.bool s_p1,Value.slice A_p1 n_p1 c_p1,Value.slice B_p1 m_p1 d_p1,Value.bool t_p1,Value.slice E_p1 i_p1 e_p1,Value.slice F_p1 j_p1 f_p1,Value.bool s_p2,Value.slice A_p2 n_p2 c_p2,Value.slice B_p2 m_p2 d_p2,Value.bool t_p2,Value.slice E_p2 i_p2 e_p2,Value.slice F_p2 j_p2 f_p2,Value.bool s_p3,Value.slice A_p3 n_p3 c_p3,Value.slice B_p3 m_p3 d_p3,Value.bool t_p3,Value.slice E_p3 i_p3 e_p3,Value.slice F_p3 j_p3 f_p3,Value.bool s_p4,Value.slice A_p4 n_p4 c_p4,Value.slice B_p4 m_p4 d_p4,Value.bool t_p4,Value.slice E_p4 i_p4 e_p4,Value.slice F_p4 j_p4 f_p4] 29)):=(Below.refl _ _).alloc (Nat.le_refl _) _
 replace p1:=p1.below hh;replace p2:=p2.below hh;replace p3:=p3.below hh;replace p4:=p4.below hh;replace hb:=bend hb hh
 have hEL:Each PV.PG (w_p4.alloc (Obj.cells #[Value.bool s_p1,Value.slice A_p1 n_p1 c_p1,Value.slice B_p1 m_p1 d_p1,Value.bool t_p1,Value.slice E_p1 i_p1 e_p1,Value.slice F_p1 j_p1 f_p1,Value.bool s_p2,Value.slice A_p2 n_p2 c_p2,Value.slice B_p2 m_p2 d_p2,Value.bool t_p2,Value.slice E_p2 i_p2 e_p2,Value.slice F_p2 j_p2 f_p2,Value.bool s_p3,Value.slice A_p3 n_p3 c_p3,Value.slice B_p3 m_p3 d_p3,Value.bool t_p3,Value.slice E_p3 i_p3 e_p3,Value.slice F_p3 j_p3 f_p3,Value.bool s_p4,Value.slice A_p4 n_p4 c_p4,Value.slice B_p4 m_p4 d_p4,Value.bool t_p4,Value.slice E_p4 i_p4 e_p4,Value.slice F_p4 j_p4 f_p4] 29)) [(PV.mk s_p1 A_p1 n_p1 c_p1 B_p1 m_p1 d_p1 t_p1 E_p1 i_p1 e_p1 F_p1 j_p1 f_p1),(PV.mk s_p2 A_p2 n_p2 c_p2 B_p2 m_p2 d_p2 t_p2 E_p2 i_p2 e_p2 F_p2 j_p2 f_p2),(PV.mk s_p3 A_p3 n_p3 c_p3 B_p3 m_p3 d_p3 t_p3 E_p3 i_p3 e_p3 F_p3 j_p3 f_p3),(PV.mk s_p4 A_p4 n_p4 c_p4 B_p4 m_p4 d_p4 t_p4 E_p4 i_p4 e_p4 F_p4 j_p4 f_p4)] sqL 1:=⟨rfl,fun i p u hp hu=>by
  match i,hp,hu with
  | 0,hp,hu=>cases hp;cases hu;exact p1
  | 1,hp,hu=>cases hp;cases hu;exact p2
  | 2,hp,hu=>cases hp;cases hu;exact p3
  | 3,hp,hu=>cases hp;cases hu;exact p4
  | i+4,hp,hu=>cases hp⟩
 have hSL:=hBL.sv
 have hLn:[(PV.mk s_p1 A_p1 n_p1 c_p1 B_p1 m_p1 d_p1 t_p1 E_p1 i_p1 e_p1 F_p1 j_p1 f_p1),(PV.mk s_p2 A_p2 n_p2 c_p2 B_p2 m_p2 d_p2 t_p2 E_p2 i_p2 e_p2 F_p2 j_p2 f_p2),(PV.mk s_p3 A_p3 n_p3 c_p3 B_p3 m_p3 d_p3 t_p3 E_p3 i_p3 e_p3 F_p3 j_p3 f_p3),(PV.mk s_p4 A_p4 n_p4 c_p4 B_p4 m_p4 d_p4 t_p4 E_p4 i_p4 e_p4 F_p4 j_p4 f_p4)].length=4:=rfl
 clear p1 p2 p3 p4 hBL hh
 generalize (w_p4.alloc (Obj.cells #[Value.bool s_p1,Value.slice A_p1 n_p1 c_p1,Value.slice B_p1 m_p1 d_p1,Value.bool t_p1,Value.slice E_p1 i_p1 e_p1,Value.slice F_p1 j_p1 f_p1,Value.bool s_p2,Value.slice A_p2 n_p2 c_p2,Value.slice B_p2 m_p2 d_p2,Value.bool t_p2,Value.slice E_p2 i_p2 e_p2,Value.slice F_p2 j_p2 f_p2,Value.bool s_p3,Value.slice A_p3 n_p3 c_p3,Value.slice B_p3 m_p3 d_p3,Value.bool t_p3,Value.slice E_p3 i_p3 e_p3,Value.slice F_p3 j_p3 f_p3,Value.bool s_p4,Value.slice A_p4 n_p4 c_p4,Value.slice B_p4 m_p4 d_p4,Value.bool t_p4,Value.slice E_p4 i_p4 e_p4,Value.slice F_p4 j_p4 f_p4] 29))=W1 at *
 generalize w_p4.heap.size=gL at *
 generalize [(PV.mk s_p1 A_p1 n_p1 c_p1 B_p1 m_p1 d_p1 t_p1 E_p1 i_p1 e_p1 F_p1 j_p1 f_p1),(PV.mk s_p2 A_p2 n_p2 c_p2 B_p2 m_p2 d_p2 t_p2 E_p2 i_p2 e_p2 F_p2 j_p2 f_p2),(PV.mk s_p3 A_p3 n_p3 c_p3 B_p3 m_p3 d_p3 t_p3 E_p3 i_p3 e_p3 F_p3 j_p3 f_p3),(PV.mk s_p4 A_p4 n_p4 c_p4 B_p4 m_p4 d_p4 t_p4 E_p4 i_p4 e_p4 F_p4 j_p4 f_p4)]=LL at *
 go_upto_region 4 with (first
  | (go_at_call 40;(with_reducible refine (lawP 0 0 (by decide) (by decide) (by decide) (by decide) _).mono ?_);rintro e w_p1 ⟨s_p1,A_p1,n_p1,c_p1,B_p1,m_p1,d_p1,t_p1,E_p1,i_p1,e_p1,F_p1,j_p1,f_p1,rfl,p1,hh⟩
     (try replace hSL:=hSL.below hh);(try replace hEL:=hEL.below hh);replace hb:=bend hb hh)
  | (go_at_call 40;(with_reducible refine (lawP 2 2 (by decide) (by decide) (by decide) (by decide) _).mono ?_);rintro e w_p2 ⟨s_p2,A_p2,n_p2,c_p2,B_p2,m_p2,d_p2,t_p2,E_p2,i_p2,e_p2,F_p2,j_p2,f_p2,rfl,p2,hh⟩
     (try replace hSL:=hSL.below hh);(try replace hEL:=hEL.below hh);(try replace p1:=p1.below hh);replace hb:=bend hb hh)
  | (go_at_call 25;(with_reducible refine (half_p (k:=1) (k2:=1) (ka:=13) hSL (Each.pr hEL) p1.pr p2.pr hLn (by decide) (by decide) (by decide) (by decide) (by decide) (by decide) (by decide) (by decide)).mono ?_);rintro e w_h ⟨v_h,M,rfl,hLh,hEh,hh⟩
     (try replace hSL:=hSL.below hh);(try replace hEL:=hEL.below hh);replace hb:=bend hb hh;clear p1 p2))
 rw [wk8_half] at hEh;have hEH:=Each.fit hEh wk8_bl
 obtain ⟨A_h,c_h,rfl,hch,_⟩:=hLh.form
 have hMn:M.length=3:=hEh.1
 rw [hMn] at hLh hch ⊢
 have hSH:=hLh.sv;clear hEh hLh
 go_upto_region 5 with (first
  | (go_at_call 13;(with_reducible refine (box_p hSL (Each.pr hEL) hLn (by decide) (by decide) (by decide) (by decide) (by decide)).mono ?_);rintro e w_b ⟨x0,y0,x1,y1,⟨s_p,A_p,n_p,c_p,B_p,m_p,d_p,t_p,E_p,i_p,e_p,F_p,j_p,f_p⟩,⟨s_q,A_q,n_q,c_q,B_q,m_q,d_q,t_q,E_q,i_q,e_q,F_q,j_q,f_q⟩,hbx,rfl,p,q,hh⟩
     (try replace hSL:=hSL.below hh);(try replace hEL:=hEL.below hh);(try replace hSH:=hSH.below hh);(try replace hEH:=hEH.below hh);replace hb:=bend hb hh
     obtain ⟨rfl,rfl,rfl,rfl⟩:=isBox_one hbx wk8_box
     replace p:PG w_b s_p A_p n_p c_p B_p m_p d_p t_p E_p i_p e_p F_p j_p f_p (Rat.divInt 0 1) (Rat.divInt 0 1) 3:=p
     replace q:PG w_b s_q A_q n_q c_q B_q m_q d_q t_q E_q i_q e_q F_q j_q f_q (Rat.divInt 2 1) (Rat.divInt 2 1) 3:=q
     clear hbx))
 generalize hW:World.alloc _ _=W2
 obtain ⟨hh,XA,XB,hzW2⟩:=mkbx22_10 hW;clear hW;(try replace hSL:=hSL.below hh);(try replace hEL:=hEL.below hh);(try replace hSH:=hSH.below hh);(try replace hEH:=hEH.below hh);(try replace p:=p.below hh);(try replace q:=q.below hh);replace hb:=bend hb hh
 replace hSL:=hSL.below (Below.refl _ _).drew
 replace hEL:=hEL.below (Below.refl _ _).drew
 replace hSH:=hSH.below (Below.refl _ _).drew
 replace hEH:=hEH.below (Below.refl _ _).drew
 replace p:=p.below (Below.refl _ _).drew
 replace q:=q.below (Below.refl _ _).drew
 replace XA:=XA.below (Below.refl _ _).drew
 replace XB:=XB.below (Below.refl _ _).drew
 replace hb:=hb.drew
 go_region_held3 (fun w'=>w'.cell? ⟨w_b.heap.size,0,none⟩=some (.bool s_p)∧w'.cell? ⟨w_b.heap.size,1,none⟩=some (.slice A_p n_p c_p)∧w'.cell? ⟨w_b.heap.size,2,none⟩=some (.slice B_p m_p d_p)∧w'.cell? ⟨w_b.heap.size,3,none⟩=some (.bool t_p)∧w'.cell? ⟨w_b.heap.size,4,none⟩=some (.slice E_p i_p e_p)∧w'.cell? ⟨w_b.heap.size,5,none⟩=some (.slice F_p j_p f_p)∧w'.cell? ⟨w_b.heap.size+1,0,none⟩=some (.bool s_q)∧w'.cell? ⟨w_b.heap.size+1,1,none⟩=some (.slice A_q n_q c_q)∧w'.cell? ⟨w_b.heap.size+1,2,none⟩=some (.slice B_q m_q d_q)∧w'.cell? ⟨w_b.heap.size+1,3,none⟩=some (.bool t_q)∧w'.cell? ⟨w_b.heap.size+1,4,none⟩=some (.slice E_q i_q e_q)∧w'.cell? ⟨w_b.heap.size+1,5,none⟩=some (.slice F_q j_q f_q))
  (first | with_reducible exact ⟨XA.c0,XA.c1,XA.c2,XA.c3,XA.c4,XA.c5,XB.c0,XB.c1,XB.c2,XB.c3,XB.c4,XB.c5⟩)
  (first
  | (go_at_call 17;(with_reducible refine (area_p hSL (Each.pr hEL) hLn (by decide) (by decide) (by decide) (by decide) (by decide)).mono ?_);rintro e w_a ⟨s_a,A_a,n_a,c_a,B_a,m_a,d_a,rfl,a,hh⟩
     (try replace hSL:=hSL.below hh);(try replace hEL:=hEL.below hh);(try replace hSH:=hSH.below hh);(try replace hEH:=hEH.below hh);(try replace p:=p.below hh);(try replace q:=q.below hh);(try replace XA:=XA.below hh);(try replace XB:=XB.below hh);replace hb:=bend hb hh)
  | (go_at_call 17;(with_reducible refine (area_p hSH (Each.pr hEH) hMn (by decide) hch (by decide) (by decide) (by decide)).mono ?_);rintro e w_r ⟨s_r,A_r,n_r,c_r,B_r,m_r,d_r,rfl,r,hh⟩
     (try replace hSL:=hSL.below hh);(try replace hEL:=hEL.below hh);(try replace hSH:=hSH.below hh);(try replace hEH:=hEH.below hh);(try replace p:=p.below hh);(try replace q:=q.below hh);(try replace XA:=XA.below hh);(try replace XB:=XB.below hh);replace hb:=bend hb hh)
  | (go_at_call 41;(with_reducible refine (rtext_q a.qr (by decide) (by decide)).mono ?_);rintro e w_z ⟨rfl,hh⟩
     rw [wk8_t4];(try replace hSL:=hSL.below hh);(try replace hEL:=hEL.below hh);(try replace hSH:=hSH.below hh);(try replace hEH:=hEH.below hh);(try replace p:=p.below hh);(try replace q:=q.below hh);(try replace XA:=XA.below hh);(try replace XB:=XB.below hh);replace hb:=bend hb hh;clear a)
  | (go_at_call 41;(with_reducible refine (rtext_q r.qr (by decide) (by decide)).mono ?_);rintro e w_z ⟨rfl,hh⟩
     rw [wk8_t2];(try replace hSL:=hSL.below hh);(try replace hEL:=hEL.below hh);(try replace hSH:=hSH.below hh);(try replace hEH:=hEH.below hh);(try replace p:=p.below hh);(try replace q:=q.below hh);(try replace XA:=XA.below hh);(try replace XB:=XB.below hh);replace hb:=bend hb hh;clear r)
  | (go_at_call 19;(with_reducible refine (convex_p hSL (Each.pr hEL) hLn (by decide) (by decide) (by decide) (by decide) true wk8_conv).mono ?_);rintro e w_z ⟨rfl,hh⟩
     (try replace hSL:=hSL.below hh);(try replace hEL:=hEL.below hh);(try replace hSH:=hSH.below hh);(try replace hEH:=hEH.below hh);(try replace p:=p.below hh);(try replace q:=q.below hh);(try replace XA:=XA.below hh);(try replace XB:=XB.below hh);replace hb:=bend hb hh)
  | (go_at_call 40;(with_reducible refine (lawP 1 1 (by decide) (by decide) (by decide) (by decide) _).mono ?_);rintro e w_t1 ⟨s_t1,A_t1,n_t1,c_t1,B_t1,m_t1,d_t1,t_t1,E_t1,i_t1,e_t1,F_t1,j_t1,f_t1,rfl,t1,hh⟩
     (try replace hSL:=hSL.below hh);(try replace hEL:=hEL.below hh);(try replace hSH:=hSH.below hh);(try replace hEH:=hEH.below hh);(try replace p:=p.below hh);(try replace q:=q.below hh);(try replace XA:=XA.below hh);(try replace XB:=XB.below hh);replace hb:=bend hb hh)
  | (go_at_call 40;(with_reducible refine (lawP 3 1 (by decide) (by decide) (by decide) (by decide) _).mono ?_);rintro e w_t2 ⟨s_t2,A_t2,n_t2,c_t2,B_t2,m_t2,d_t2,t_t2,E_t2,i_t2,e_t2,F_t2,j_t2,f_t2,rfl,t2,hh⟩
     (try replace hSL:=hSL.below hh);(try replace hEL:=hEL.below hh);(try replace hSH:=hSH.below hh);(try replace hEH:=hEH.below hh);(try replace p:=p.below hh);(try replace q:=q.below hh);(try replace XA:=XA.below hh);(try replace XB:=XB.below hh);replace hb:=bend hb hh)
  | (go_at_call 40;(with_reducible refine (lawP 0 0 (by decide) (by decide) (by decide) (by decide) _).mono ?_);rintro e w_t3 ⟨s_t3,A_t3,n_t3,c_t3,B_t3,m_t3,d_t3,t_t3,E_t3,i_t3,e_t3,F_t3,j_t3,f_t3,rfl,t3,hh⟩
     (try replace hSL:=hSL.below hh);(try replace hEL:=hEL.below hh);(try replace hSH:=hSH.below hh);(try replace hEH:=hEH.below hh);(try replace p:=p.below hh);(try replace q:=q.below hh);(try replace XA:=XA.below hh);(try replace XB:=XB.below hh);replace hb:=bend hb hh)
  | (go_at_call 40;(with_reducible refine (lawP 2 2 (by decide) (by decide) (by decide) (by decide) _).mono ?_);rintro e w_t4 ⟨s_t4,A_t4,n_t4,c_t4,B_t4,m_t4,d_t4,t_t4,E_t4,i_t4,e_t4,F_t4,j_t4,f_t4,rfl,t4,hh⟩
     (try replace hSL:=hSL.below hh);(try replace hEL:=hEL.below hh);(try replace hSH:=hSH.below hh);(try replace hEH:=hEH.below hh);(try replace p:=p.below hh);(try replace q:=q.below hh);(try replace XA:=XA.below hh);(try replace XB:=XB.below hh);replace hb:=bend hb hh)
  | (go_at_call 21;(with_reducible refine (has_p hSL (Each.pr hEL) t1.pr hLn (by decide) (by decide) (by decide) (by decide) true wk8_has1).mono ?_);rintro e w_z ⟨rfl,hh⟩
     (try replace hSL:=hSL.below hh);(try replace hEL:=hEL.below hh);(try replace hSH:=hSH.below hh);(try replace hEH:=hEH.below hh);(try replace p:=p.below hh);(try replace q:=q.below hh);(try replace XA:=XA.below hh);(try replace XB:=XB.below hh);replace hb:=bend hb hh;clear t1)
  | (go_at_call 21;(with_reducible refine (has_p hSL (Each.pr hEL) t2.pr hLn (by decide) (by decide) (by decide) (by decide) false wk8_has2).mono ?_);rintro e w_z ⟨rfl,hh⟩
     (try replace hSL:=hSL.below hh);(try replace hEL:=hEL.below hh);(try replace hSH:=hSH.below hh);(try replace hEH:=hEH.below hh);(try replace p:=p.below hh);(try replace q:=q.below hh);(try replace XA:=XA.below hh);(try replace XB:=XB.below hh);replace hb:=bend hb hh;clear t2)
  | (go_at_call 42;(with_reducible refine (psame_p p.pr t3.pr (by decide) (by decide) (by decide) (by decide) true wk8_s0).mono ?_);rintro e w_z ⟨rfl,hh⟩
     (try replace hSL:=hSL.below hh);(try replace hEL:=hEL.below hh);(try replace hSH:=hSH.below hh);(try replace hEH:=hEH.below hh);(try replace p:=p.below hh);(try replace q:=q.below hh);(try replace XA:=XA.below hh);(try replace XB:=XB.below hh);replace hb:=bend hb hh;clear t3)
  | (go_at_call 42;(with_reducible refine (psame_p q.pr t4.pr (by decide) (by decide) (by decide) (by decide) true wk8_s2).mono ?_);rintro e w_z ⟨rfl,hh⟩
     (try replace hSL:=hSL.below hh);(try replace hEL:=hEL.below hh);(try replace hSH:=hSH.below hh);(try replace hEH:=hEH.below hh);(try replace p:=p.below hh);(try replace q:=q.below hh);(try replace XA:=XA.below hh);(try replace XB:=XB.below hh);replace hb:=bend hb hh;clear t4))
 go_wp2_with fail
 go_ret;exact ⟨rfl,hb⟩
end
section
open Go Go.RowKit
theorem total_w (n:Nat):∀ {w:World} {A:Option Addr} {c k:Nat} {L:List QV} {l:List Rat},SV w A (qvs L)→EachQ w L l k→L.length=n→1≤n→n≤c→n≤100000→1≤k→(n+1)*(k+2)≤800→Calls Tryz.prog 57 #[.slice A n c] w (GivesQ w (qsum l) (n*(k+2) - 1)):=by
 induction n using Nat.strongRecOn with
 | ind n ih =>
   intro w A c k L l hS hE hn h1 hc h63 hk hB
   rcases Nat.lt_or_ge 1 n with h2 | h2
   · obtain ⟨h,hh⟩:∃ h,n / 2=h:=⟨_,rfl⟩
     have b1:1≤h:=by omega
     have b2:h < n:=by omega
     have hm1:(h+(n - h))*(k+2)=h*(k+2)+(n - h)*(k+2):=Nat.add_mul _ _ _
     rw [show h+(n - h)=n by omega] at hm1
     have hp1:=Nat.mul_le_mul b1 (Nat.le_refl (k+2))
     have hp2:=Nat.mul_le_mul (show 1≤n - h by omega) (Nat.le_refl (k+2))
     have hq1:(h+1)*(k+2)≤(n+1)*(k+2):=Nat.mul_le_mul_right _ (by omega)
     have hq2:(n - h+1)*(k+2)≤(n+1)*(k+2):=Nat.mul_le_mul_right _ (by omega)
     have hq3:(2*h)*(k+2)≤(n+1)*(k+2):=Nat.mul_le_mul_right _ (by omega)
     have hq4:(2*(n - h))*(k+2)≤(n+1)*(k+2):=Nat.mul_le_mul_right _ (by omega)
     rw [Nat.mul_assoc] at hq3 hq4
     obtain ⟨g,o,rfl,_,_⟩:=hS (by rw [show (qvs L).length=L.length*3 from rows_length qvc_len L];omega)
     have i1:=fun (w':World) (hb:Below w.heap.size w w')=>ih h (by omega) ((hS.below hb).take h) ((hE.below hb).take h) (by rw [List.length_take];omega) b1 (show h≤c by omega) (by omega) hk (by omega)
     have i2:=fun (w':World) (hb:Below w.heap.size w w')=>ih (n - h) (by omega) ((hS.below hb).drop h (by omega)) ((hE.below hb).drop h) (by rw [List.length_drop];omega) (by omega) (show n - h≤c - h by omega) (by omega) hk (by omega)
     obtain ⟨k1,e1⟩:∃ k1,h*(k+2) - 1=k1:=⟨_,rfl⟩
     obtain ⟨k2,e2⟩:∃ k2,(n - h)*(k+2) - 1=k2:=⟨_,rfl⟩
     rw [show n*(k+2) - 1=k1+k2+1 by omega,show qsum l=qsum (l.take h)+qsum (l.drop h) by rw [← qsum_append,List.take_append_drop]]
     rw [e1] at i1;rw [e2] at i2;have I1:=Lib.hid i1;have I2:=Lib.hid i2
     have l1:k1≤400:=by omega
     have l2:k2≤400:=by omega
     have l3:1≤k1:=by omega
     have l4:1≤k2:=by omega
     have h0:¬ n=0:=by omega
     have h3:¬ n=1:=by omega
     have h4:(h:Int)≤(c:Int):=by omega
     have h5:¬ c=h:=by omega
     have h7:(h:Int)≤(n:Int):=by omega
     have h8:(n:Int)≤(c:Int):=by omega
     have h6:((n:Int)).tdiv 2=(h:Int):=by rw [Int.tdiv_eq_ediv_of_nonneg (by omega)];omega
     clear hm1 hp1 hp2 hq1 hq2 hq3 hq4 i1 i2 e1 e2 hS hE ih hB
     go_enter Tryz.func57,Tryz.ntmps57
     go_wp2_with fail
     generalize hW:World.alloc _ _=W
     obtain ⟨hb,Z,hzW⟩:=mkbx9_8 hW;clear hW;have zf0:=Z.f0;have zf1:=Z.f1;have zf2:=Z.f2;obtain ⟨z0,z1,z2⟩:=Z.all
     go_upto_region 7 with (fail)
     replace Z:=Z.below (Below.refl _ _).drew
     replace hb:=hb.drew;have zf0:=Z.f0;have zf1:=Z.f1;have zf2:=Z.f2;obtain ⟨z0,z1,z2⟩:=Z.all
     go_region_held3 (fun _=>True)
      (first | exact trivial)
      (first
      | (go_at_call 57;(with_reducible refine (I1.out _ hb).mono ?_);rintro e w_x ⟨s_x,A_x,n_x,c_x,B_x,m_x,d_x,rfl,x,hh⟩
         (try replace Z:=Z.below hh);(try replace y:=y.below hh);replace hb:=bend hb hh;have zf0:=Z.f0;have zf1:=Z.f1;have zf2:=Z.f2;obtain ⟨z0,z1,z2⟩:=Z.all)
      | (go_at_call 57;(with_reducible refine (I2.out _ hb).mono ?_);rintro e w_y ⟨s_y,A_y,n_y,c_y,B_y,m_y,d_y,rfl,y,hh⟩
         (try replace Z:=Z.below hh);(try replace x:=x.below hh);replace hb:=bend hb hh;have zf0:=Z.f0;have zf1:=Z.f1;have zf2:=Z.f2;obtain ⟨z0,z1,z2⟩:=Z.all)
      | (go_at_call 30;(with_reducible refine (radd_q x.qr y.qr l1 l2 (.inl l1) l3 l4).mono ?_);rintro e w_r ⟨s_r,A_r,n_r,c_r,B_r,m_r,d_r,rfl,r,hh⟩
         (try replace Z:=Z.below hh);replace hb:=bend hb hh;have zf0:=Z.f0;have zf1:=Z.f1;have zf2:=Z.f2;obtain ⟨z0,z1,z2⟩:=Z.all))
     go_wp2_with fail
     have Z2:=Z.set3 (.bool s_r) (.slice A_r n_r c_r) (.slice B_r m_r d_r)
     obtain ⟨g0,g1,g2⟩:=Z2.all
     refine bodyPost_ret (v:=.agg #[.bool s_r,.slice A_r n_r c_r,.slice B_r m_r d_r]) (by simp [results,Tryz.results57,go_sem,g0,g1,g2]) rfl ?_
     exact ⟨s_r,A_r,n_r,c_r,B_r,m_r,d_r,rfl,r.set3 Z _ _ _,below_set3 hb (Nat.le_refl _) _ _ _⟩
   · obtain rfl:n=1:=by omega
     have hl:=hE.1
     match L,l,hn,hl with
     | [p],[v],_,_ =>
       have r:=hE.2 0 p v rfl rfl
       rw [show qsum [v]=v from Rat.add_zero v]
       refine (total_1 hS r).mono ?_
       rintro e w' ⟨s_r,A_r,n_r,c_r,B_r,m_r,d_r,e1,r2,hh⟩
       exact ⟨s_r,A_r,n_r,c_r,B_r,m_r,d_r,e1,r2.more (by omega),hh⟩
theorem total_anyw {A:Option Addr} {n c k:Nat} {L:List QV} {l:List Rat} (hS:SV w A (qvs L)) (hE:EachQ w L l k) (hn:L.length=n) (hc:n≤c) (h63:n≤100000) (hk:1≤k) (hB:(n+1)*(k+2)≤800):Calls Tryz.prog 57 #[.slice A n c] w (GivesQ w (qsum l) (n*(k+2)+1)):=by
 rcases Nat.eq_zero_or_pos n with h0 | h0
 · subst h0
   have:l=[]:=List.eq_nil_of_length_eq_zero (by rw [← hE.1,hn])
   subst this
   refine total_0.mono ?_
   rintro e w' ⟨s_r,A_r,n_r,c_r,B_r,m_r,d_r,e1,r2,hh⟩
   exact ⟨s_r,A_r,n_r,c_r,B_r,m_r,d_r,e1,r2.more (by omega),hh⟩
 · refine (total_w n hS hE hn h0 hc h63 hk hB).mono ?_
   rintro e w' ⟨s_r,A_r,n_r,c_r,B_r,m_r,d_r,e1,r2,hh⟩
   exact ⟨s_r,A_r,n_r,c_r,B_r,m_r,d_r,e1,r2.more (by omega),hh⟩
theorem area_w {A:Option Addr} {n c k:Nat} {L:List PV} {l:List (Rat × Rat)} (hL:SV w A (pvs L)) (hE:Each PV.PR w L l k) (hn:L.length=n) (hm:n≤1000) (hnc:n≤c) (h1:1≤k) (hk:k+k≤200) (hB:(n+1)*(k+k+(k+k)+1+2)≤800) {K0:Nat} (hS:(qsum (crosses l)).num.natAbs < B64 ^ K0) (hS2:(qsum (crosses l)).den < B64 ^ K0) (hK0:K0≤400) (hK1:1≤K0) :
 Calls Tryz.prog 17 #[.slice A n c] w (GivesQ w (areaQ l) (K0+1)):=by
 have HN:=Lib.hid hn;have HB:=Lib.hid hB;have HS:=Lib.hid hS;have HS2:=Lib.hid hS2;clear hS hS2;have HL00:=Lib.hid hL;have E00:=Lib.hid hE;clear hB
 go_enter Tryz.func17,Tryz.ntmps17
 go_upto_region 1 with (fail)
 generalize hW:World.alloc _ _=W
 obtain ⟨hb,Z,hzW⟩:=mkbx9_8 hW;clear hW;replace hL:=hL.below hb
 replace hE:=hE.imp (fun p u h=>PR.below h hb)
 refine area1_region (by simp) rfl hL hn (by omega) hnc (Nat.le_refl _) ?_
 intro V w1 hF3 hF4 hh
 obtain ⟨A1,c1,hv3,hR0⟩:=hF3
 obtain ⟨gP,hv4,hgP,hP0⟩:=hF4
 simp only [putAll,Act.put,List.setIfInBounds_toArray,List.set_cons_zero,List.set_cons_succ,hv3,hv4]
 clear hv3 hv4;replace hL:=hL.below hh
 replace hE:=hE.imp (fun p u h=>PR.below h hh)
 replace Z:=Z.below hh;replace hb:=bend hb hh
 have hgZ:w.heap.size < gP:=by omega
 rw [show n+min 1 n=(ringL L).length by unfold ringL;rw [List.length_append,List.length_take,hn,Nat.min_comm]]
 have HR1:Hid ((ringL L).length=n+min 1 n):=by show _=_;unfold ringL;rw [List.length_append,List.length_take,hn,Nat.min_comm]
 generalize hN1:(ringL L).length=N1 at HR1 ⊢
 have HR2:=Lib.hid hN1
 have HL0:Hid (SV w A (pvs L)):=HL00
 have E0:Hid (Each PV.PR w L l k):=E00
 clear hN1 hL hE
 go_wp2_with fail
 go_loopg [14] n (fun gk ix wr=>∃ (M:List QV) (m:Nat),Hid (gk+m=n)∧ix=.int .i64 (m:Int)∧Hid (M.length=n)∧BoxAt 27 wr gP (qvs M).toArray∧Hid (EachQ wr (M.take m) ((crosses l).take m) (k+k+(k+k)+1))∧SNr 29 W.heap.size n (pvs (ringL L)) wr A1∧B3 wr w.heap.size (.bool false) (.slice none 0 0) (.slice none 0 0)∧Below w.heap.size w wr)
 case atStart=>exact ⟨List.replicate n zqv,0,Nat.add_zero _,rfl,by show _=_;rw [List.length_replicate],hP0,⟨rfl,fun i p v h=>by cases h⟩,hR0,Z,hb⟩
 case round =>
  clear hP0 hR0
  obtain ⟨M,m,HG,rfl,HM,hP,HQ,hR,Z,hb⟩:=hrel
  by_cases hmn:m < n
  · have hmn':m < M.length:=by rw [HM.out];exact hmn
    obtain ⟨pm,hpm⟩:∃ pm,M[m]?=some pm:=⟨_,List.getElem?_eq_getElem hmn'⟩
    have HPM:=Lib.hid hpm
    have HL1:=Lib.hid hmn'
    have hixq:=idx_q (g:=gP) (n:=n) (c:=n) hmn
    obtain ⟨P,u,hP1,hu1,p⟩:=(E0.out.imp (fun p u h=>PR.below h hb)).at_ (i:=m) (by rw [HN.out];exact hmn)
    obtain ⟨Q,v,hP2,hu2,q⟩:=(E0.out.imp (fun p u h=>PR.below h hb)).ring.at_ (i:=m+1) (by have h:=HR1.out;have h2:=HR2.out;rw [h2,h];omega)
    have hv1:(ringL l)[m]?=some u:=by rw [ringL_at (by rw [← E0.out.1,HN.out];exact hmn)];exact hu1
    obtain ⟨g0,o0,hix0,E,_⟩:=(HL0.out.below hb).pt hP1
    obtain ⟨g1,o1,hix1,E',o1_,hA1⟩:=(hR.sv (by omega)).pt hP2
    have hixa:∀ w',(Instr.indexAt 22 (.slice A n c) (.int .i64 (m:Int))).run Tryz.prog w'=.ok (.pointer (some ⟨g0,o0,none⟩)) w':=fun w'=>hix0 n c w' hmn
    have hixb:∀ w',(Instr.indexAt 22 (.slice A1 N1 c1) (.int .i64 ((m:Int)+1))).run Tryz.prog w'=.ok (.pointer (some ⟨g1,o1,none⟩)) w':=fun w'=>hix1 N1 c1 w' (by have:=HR1.out;omega)
    have hwr:IntKind.i64.wrap ((m:Int)+1)=(m:Int)+1:=IntWalk.i64_in _ (by omega)
    have hlt:(m:Int) < (n:Int):=by omega
    have HU:=Lib.hid hv1;have HV:=Lib.hid hu2
    obtain ⟨ux,uy⟩:=u
    obtain ⟨vx,vy⟩:=v
    obtain ⟨s_p,A_p,n_p,c_p,B_p,m_p,d_p,t_p,E_p,i_p,e_p,F_p,j_p,f_p⟩:=P
    obtain ⟨s_q,A_q,n_q,c_q,B_q,m_q,d_q,t_q,E_q,i_q,e_q,F_q,j_q,f_q⟩:=Q
    replace p:PR wr s_p A_p n_p c_p B_p m_p d_p t_p E_p i_p e_p F_p j_p f_p ux uy k:=p
    replace q:PR wr s_q A_q n_q c_q B_q m_q d_q t_q E_q i_q e_q F_q j_q f_q vx vy k:=q
    have hgg:g1 ≠ gP:=by
     obtain ⟨g2,e2,_,cs2,h3,_⟩:=hR (by omega)
     rw [hA1] at e2
     cases e2
     exact BoxAt.ne h3 hP (.inl (by decide))
    obtain ⟨e0,e1,e2,e3,e4,e5⟩:=E.all
    simp only at e0 e1 e2 e3 e4 e5
    clear hpm hP1 hP2 hu1 hu2 hix0 hix1 hA1 hv1 hmn' hmn
    go_upto_region 5 with (fail)
    replace HQ:=HQ.out
    have hx1:wr.heap.size ≠ gP:=by have:=hP.lt;omega
    generalize hW:World.alloc _ _=W2
    obtain ⟨hh,X,hzW2⟩:=mkbx16_9 hW;clear hW;(try replace p:=p.below hh);(try replace q:=q.below hh);(try replace hP:=hP.below hh);(try replace HQ:=HQ.below hh);(try replace hR:=hR.below hh);(try replace Z:=Z.below hh)
    try replace E':=E'.below hh
    replace hb:=bend hb hh
    replace p:=p.below (Below.refl _ _).drew
    replace q:=q.below (Below.refl _ _).drew
    replace hP:=hP.below (Below.refl _ _).drew
    replace HQ:=HQ.below (Below.refl _ _).drew
    replace hR:=hR.below (Below.refl _ _).drew
    replace Z:=Z.below (Below.refl _ _).drew
    replace E':=E'.below (Below.refl _ _).drew
    replace X:=X.below (Below.refl _ _).drew
    replace hb:=hb.drew
    have hx2:g1 ≠ gP:=hgg
    go_region_held3 (fun w'=>w'.cell? ⟨wr.heap.size,0,none⟩=some (.bool s_p)∧w'.cell? ⟨wr.heap.size,1,none⟩=some (.slice A_p n_p c_p)∧w'.cell? ⟨wr.heap.size,2,none⟩=some (.slice B_p m_p d_p)∧w'.cell? ⟨wr.heap.size,3,none⟩=some (.bool t_p)∧w'.cell? ⟨wr.heap.size,4,none⟩=some (.slice E_p i_p e_p)∧w'.cell? ⟨wr.heap.size,5,none⟩=some (.slice F_p j_p f_p)∧w'.cell? ⟨g1,o1,none⟩=some (.bool s_q)∧w'.cell? ⟨g1,o1+1,none⟩=some (.slice A_q n_q c_q)∧w'.cell? ⟨g1,o1+2,none⟩=some (.slice B_q m_q d_q)∧w'.cell? ⟨g1,o1+3,none⟩=some (.bool t_q)∧w'.cell? ⟨g1,o1+4,none⟩=some (.slice E_q i_q e_q)∧w'.cell? ⟨g1,o1+5,none⟩=some (.slice F_q j_q f_q))
     (first | with_reducible exact ⟨X.c0,X.c1,X.c2,X.c3,X.c4,X.c5,E'.c0,E'.c1,E'.c2,E'.c3,E'.c4,E'.c5⟩ | with_reducible exact ⟨(setq_cell _ _ _ _ _ _ _ _ hx1).trans X.c0,(setq_cell _ _ _ _ _ _ _ _ hx1).trans X.c1,(setq_cell _ _ _ _ _ _ _ _ hx1).trans X.c2,(setq_cell _ _ _ _ _ _ _ _ hx1).trans X.c3,(setq_cell _ _ _ _ _ _ _ _ hx1).trans X.c4,(setq_cell _ _ _ _ _ _ _ _ hx1).trans X.c5,(setq_cell _ _ _ _ _ _ _ _ hx2).trans E'.c0,(setq_cell _ _ _ _ _ _ _ _ hx2).trans E'.c1,(setq_cell _ _ _ _ _ _ _ _ hx2).trans E'.c2,(setq_cell _ _ _ _ _ _ _ _ hx2).trans E'.c3,(setq_cell _ _ _ _ _ _ _ _ hx2).trans E'.c4,(setq_cell _ _ _ _ _ _ _ _ hx2).trans E'.c5⟩)
     (first
     | (go_at_call 56;(with_reducible refine (pcross_p p q hk h1 h1).mono ?_);rintro e w_r ⟨s_r,A_r,n_r,c_r,B_r,m_r,d_r,rfl,r,hh⟩
        (try replace p:=p.below hh);(try replace q:=q.below hh);(try replace hP:=hP.below hh);(try replace HQ:=HQ.below hh);(try replace hR:=hR.below hh);(try replace Z:=Z.below hh)
        try replace E':=E'.below hh
        (try replace X:=X.below hh);replace hb:=bend hb hh;have Eq:=hP.q3 HPM.out;obtain ⟨q0,q1,q2⟩:=Eq.all
        have qf0:=hP.frz (j:=m*3)
        have qf1:=hP.frz (j:=m*3+1)
        have qf2:=hP.frz (j:=m*3+2)))
    have ho:=onlyq w_r gP (m*3) (.bool s_r) (.slice A_r n_r c_r) (.slice B_r m_r d_r)
    have hP2:=hP.setq HL1.out (QV.mk s_r A_r n_r c_r B_r m_r d_r)
    replace r:=r.box hP ho
    replace HQ:=(HQ.box hP ho).push (p:=(QV.mk s_r A_r n_r c_r B_r m_r d_r)) r
    replace hR:=hR.box hP (.inl (by decide)) ho
    replace Z:B3 (((w_r.setCell ⟨gP,m*3,none⟩ (.bool s_r)).setCell ⟨gP,m*3+1,none⟩ (.slice A_r n_r c_r)).setCell ⟨gP,m*3+2,none⟩ (.slice B_r m_r d_r)) w.heap.size (.bool false) (.slice none 0 0) (.slice none 0 0):=(ho.block _ Z.lt (by omega)).trans Z
    replace hb:=Below.only hb (by omega) hb.size ho
    have hcr:(crosses l)[m]?=some (ux*vy - uy*vx):=crosses_at HU.out HV.out
    rw [← take_snoc hcr,← take_set HL1.out (QV.mk s_r A_r n_r c_r B_r m_r d_r)] at HQ
    clear hP ho Eq q0 q1 q2 qf0 qf1 qf2 E' X p q hcr
    generalize (((w_r.setCell ⟨gP,m*3,none⟩ (.bool s_r)).setCell ⟨gP,m*3+1,none⟩ (.slice A_r n_r c_r)).setCell ⟨gP,m*3+2,none⟩ (.slice B_r m_r d_r))=W3 at *
    go_wp2_with fail
    go_roundg (gk - 1)
    case measure=>have:=HG.out;omega
    case rel=>exact ⟨M.set m (QV.mk s_r A_r n_r c_r B_r m_r d_r),m+1,by have:=HG.out;show _=_;omega,by go_num,by show _=_;rw [List.length_set];exact HM.out,hP2,HQ,hR,Z,hb⟩
  · have hlt:¬ (m:Int) < (n:Int):=by omega
    obtain rfl:m=n:=by have:=HG.out;omega
    replace HQ:=HQ.out
    rw [List.take_of_length_le (by rw [HM.out];exact Nat.le_refl _),List.take_of_length_le (by rw [crosses_len,← E0.out.1,HN.out];exact Nat.le_refl _)] at HQ
    have hPS:=hP.sv;have hB2:=HB.out;clear hmn hR;have zf0:=Z.f0;have zf1:=Z.f1;have zf2:=Z.f2;obtain ⟨z0,z1,z2⟩:=Z.all
    go_wp2_with (first
     | (go_at_call 57;(with_reducible refine (total_anyw hPS HQ HM.out (Nat.le_refl _) (by omega) (by omega) HB.out).mono ?_);rintro e w_x ⟨s_x,A_x,n_x,c_x,B_x,m_x,d_x,rfl,x,hh⟩
        (try replace Z:=Z.below hh);replace hb:=bend hb hh;have zf0:=Z.f0;have zf1:=Z.f1;have zf2:=Z.f2;obtain ⟨z0,z1,z2⟩:=Z.all)
     | (go_at_call 35;(with_reducible refine (rof_q 1 2 (by decide) (by decide) (by decide) (by decide) (by decide) _).mono ?_);rintro e w_y ⟨s_y,A_y,n_y,c_y,B_y,m_y,d_y,rfl,y,hh⟩
        (try replace Z:=Z.below hh);(try replace x:=x.below hh);replace hb:=bend hb hh;have zf0:=Z.f0;have zf1:=Z.f1;have zf2:=Z.f2;obtain ⟨z0,z1,z2⟩:=Z.all)
     | (go_at_call 37;(with_reducible refine (rmul_q (QG.fit x HS.out HS2.out).qr y.qr hK0 (by decide) (.inl hK0) hK1 (by decide)).mono ?_);rintro e w_r ⟨s_r,A_r,n_r,c_r,B_r,m_r,d_r,rfl,r,hh⟩
        (try replace Z:=Z.below hh);replace hb:=bend hb hh;have zf0:=Z.f0;have zf1:=Z.f1;have zf2:=Z.f2;obtain ⟨z0,z1,z2⟩:=Z.all))
    have Z2:=Z.set3 (.bool s_r) (.slice A_r n_r c_r) (.slice B_r m_r d_r)
    obtain ⟨g0,g1,g2⟩:=Z2.all
    refine bodyPost_ret (v:=.agg #[.bool s_r,.slice A_r n_r c_r,.slice B_r m_r d_r]) (by simp [results,Tryz.results17,go_sem,g0,g1,g2]) rfl ?_
    exact ⟨s_r,A_r,n_r,c_r,B_r,m_r,d_r,rfl,r.set3 Z _ _ _,below_set3 hb (Nat.le_refl _) _ _ _⟩
end
section
open Go Go.RowKit
def sumTo (f:Nat→Rat):Nat→Rat
 | 0=>0
 | k+1=>sumTo f k+f k
theorem sumTo_ext {f g:Nat→Rat} {n:Nat} (h:∀ k,k < n→f k=g k):sumTo f n=sumTo g n:=by
 induction n with
 | zero=>rfl
 | succ n ih=>rw [sumTo,sumTo,ih (fun k hk=>h k (by omega)),h n (by omega)]
theorem sumTo_add (f g:Nat→Rat) (n:Nat):sumTo (fun k=>f k+g k) n=sumTo f n+sumTo g n:=by
 induction n with
 | zero=>show (0:Rat)=0+0;rw [Rat.add_zero]
 | succ n ih=>rw [sumTo,sumTo,sumTo,ih];grind
theorem sumTo_mul (c:Rat) (f:Nat→Rat) (n:Nat):sumTo (fun k=>c*f k) n=c*sumTo f n:=by
 induction n with
 | zero=>rw [sumTo,sumTo,Rat.mul_zero]
 | succ n ih=>rw [sumTo,sumTo,ih];grind
theorem sumTo_tele (g:Nat→Rat) (n:Nat):sumTo (fun k=>g (k+1) - g k) n=g n - g 0:=by
 induction n with
 | zero=>rw [sumTo];grind
 | succ n ih=>rw [sumTo,ih];grind
theorem sumTo_first (f:Nat→Rat) (n:Nat):sumTo f (n+1)=f 0+sumTo (fun k=>f (k+1)) n:=by
 induction n with
 | zero=>rw [sumTo,sumTo,sumTo];grind
 | succ n ih=>rw [sumTo,ih,sumTo];grind
theorem sumTo_shift {f:Nat→Rat} {n:Nat} (hf:∀ k,f (k+n)=f k) (a:Nat):sumTo (fun k=>f (a+k)) n=sumTo f n:=by
 induction a with
 | zero=>exact sumTo_ext fun k _=>by rw [Nat.zero_add]
 | succ a ih =>
   rw [← ih]
   rcases Nat.eq_zero_or_pos n with h | h
   · subst h;rfl
   · obtain ⟨m,rfl⟩:∃ m,n=m+1:=⟨n - 1,by omega⟩
     rw [sumTo_first (fun k=>f (a+k)),sumTo]
     have e1:f (a+1+m)=f (a+0):=by rw [show a+1+m=a+(m+1) by omega,hf,Nat.add_zero]
     have e2:sumTo (fun k=>f (a+1+k)) m=sumTo (fun k=>f (a+(k+1))) m:=sumTo_ext fun k _=>by rw [show a+1+k=a+(k+1) by omega]
     rw [e1,e2];grind
theorem sumTo_rev (f:Nat→Rat) (n:Nat):sumTo (fun k=>f (n - 1 - k)) n=sumTo f n:=by
 induction n with
 | zero=>rfl
 | succ n ih =>
   rw [sumTo_first,sumTo]
   have e:sumTo (fun k=>f (n+1 - 1 - (k+1))) n=sumTo (fun k=>f (n - 1 - k)) n:=sumTo_ext fun k hk=>by rw [show n+1 - 1 - (k+1)=n - 1 - k by omega]
   rw [e,ih,show n+1 - 1 - 0=n by omega];grind
section
variable {n:Nat} {x y:Nat→Rat}
def crsAt (x y:Nat→Rat) (k:Nat):Rat:=crs (x k) (y k) (x (k+1)) (y (k+1))
theorem crsAt_per (hx:∀ k,x (k+n)=x k) (hy:∀ k,y (k+n)=y k) (k:Nat):crsAt x y (k+n)=crsAt x y k:=by
 unfold crsAt
 rw [show k+n+1=k+1+n by omega,hx,hx,hy,hy]
theorem crs_moved (hx:∀ k,x (k+n)=x k) (hy:∀ k,y (k+n)=y k) (a b:Rat):sumTo (crsAt (fun k=>x k+a) (fun k=>y k+b)) n=sumTo (crsAt x y) n:=by
 obtain ⟨g,hg⟩:∃ g:Nat→Rat,∀ k,g k=a*y k - b*x k:=⟨_,fun _=>rfl⟩
 have e:sumTo (crsAt (fun k=>x k+a) (fun k=>y k+b)) n=sumTo (fun k=>crsAt x y k+(g (k+1) - g k)) n:=sumTo_ext fun k _=>by
  rw [hg,hg];unfold crsAt crs;grind
 rw [e,sumTo_add,sumTo_tele,hg,hg]
 have h1:=hx 0;have h2:=hy 0
 rw [Nat.zero_add] at h1 h2
 rw [h1,h2];grind
end
def ringX (l:List (Rat × Rat)) (k:Nat):Rat:=(l.getD (k % l.length) (0,0)).1
def ringY (l:List (Rat × Rat)) (k:Nat):Rat:=(l.getD (k % l.length) (0,0)).2
theorem ringX_per (l:List (Rat × Rat)) (k:Nat):ringX l (k+l.length)=ringX l k:=by unfold ringX;rw [Nat.add_mod_right]
theorem ringY_per (l:List (Rat × Rat)) (k:Nat):ringY l (k+l.length)=ringY l k:=by unfold ringY;rw [Nat.add_mod_right]
theorem ring_at {l:List (Rat × Rat)} {i:Nat} {u:Rat × Rat} (h:l[i]?=some u):ringX l i=u.1∧ringY l i=u.2:=by
 have hi:=(List.getElem?_eq_some_iff.1 h).1
 unfold ringX ringY
 rw [Nat.mod_eq_of_lt hi,List.getD_eq_getElem?_getD,h]
 exact ⟨rfl,rfl⟩
theorem ringL_ring {l:List (Rat × Rat)} {i:Nat} {u:Rat × Rat} (h:(ringL l)[i]?=some u):u=(ringX l i,ringY l i):=by
 rcases Nat.lt_or_ge i l.length with q | q
 · rw [ringL_at q] at h
   have:=ring_at h
   rw [this.1,this.2]
 · have h7:=(List.getElem?_eq_some_iff.1 h).1
   have h8:0 < l.length:=by
    refine Nat.pos_of_ne_zero fun e=>?_
    rw [List.length_eq_zero_iff] at e;subst e;simp [ringL] at h7
   rw [ringL_len l h8] at h7
   have e:i=l.length:=by omega
   subst e
   unfold ringL at h
   rw [List.getElem?_append_right (Nat.le_refl _),Nat.sub_self,List.getElem?_take,if_pos (by decide)] at h
   have:=ring_at h
   have p1:=ringX_per l 0;have p2:=ringY_per l 0
   rw [Nat.zero_add] at p1 p2
   rw [p1,p2,this.1,this.2]
theorem ringL_some {l:List (Rat × Rat)} {i:Nat} (h:i < l.length):(ringL l)[i]?=some (ringX l i,ringY l i)∧(ringL l)[i+1]?=some (ringX l (i+1),ringY l (i+1)):=by
 have hl:=ringL_len l (by omega)
 obtain ⟨u,hu⟩:∃ u,(ringL l)[i]?=some u:=⟨_,List.getElem?_eq_getElem (by omega)⟩
 obtain ⟨v,hv⟩:∃ v,(ringL l)[i+1]?=some v:=⟨_,List.getElem?_eq_getElem (by omega)⟩
 rw [hu,hv,ringL_ring hu,ringL_ring hv]
 exact ⟨rfl,rfl⟩
theorem qsum_sumTo (l:List Rat):qsum l=sumTo (fun k=>l.getD k 0) l.length:=by
 induction l with
 | nil=>rfl
 | cons v l ih =>
   rw [show qsum (v :: l)=v+qsum l from rfl,ih,List.length_cons,sumTo_first]
   rfl
theorem crosses_sum (l:List (Rat × Rat)):qsum (crosses l)=sumTo (crsAt (ringX l) (ringY l)) l.length:=by
 rw [qsum_sumTo,crosses_len]
 refine sumTo_ext fun k hk=>?_
 have h:=ringL_some hk
 rw [List.getD_eq_getElem?_getD,crosses_at h.1 h.2]
 rfl
theorem areaQ_sum (l:List (Rat × Rat)):areaQ l=sumTo (crsAt (ringX l) (ringY l)) l.length*Rat.divInt 1 2:=by unfold areaQ;rw [crosses_sum]
end
section
open Go Go.RowKit
end
section
open Go Go.RowKit
theorem fair6_t {A:Option Addr} {n c:Nat} {L:List PV} (hL:SV w A (pvs L)) (hn:L.length=n) (hm:n≤100000) (hnc:n≤c) (h:∀ p ∈ L,p.small 6) :
 Calls Tryz.prog 9 #[.slice A n c] w fun e w'=>e=.returned (.bool true)∧Below w.heap.size w w':=fair6_p hL hn hm hnc true ⟨fun _=>h,fun _=>rfl⟩
theorem fair6_f {A:Option Addr} {n c:Nat} {L:List PV} (hL:SV w A (pvs L)) (hn:L.length=n) (hm:n≤100000) (hnc:n≤c) (h:¬ ∀ p ∈ L,p.small 6) :
 Calls Tryz.prog 9 #[.slice A n c] w fun e w'=>e=.returned (.bool false)∧Below w.heap.size w w':=fair6_p hL hn hm hnc false ⟨fun e=>by (cases e),fun e=>absurd e h⟩
theorem fair8_t {A:Option Addr} {n c N:Nat} {NI:Int} (hNI:NI=(N:Int)) {L:List PV} (hL:SV w A (pvs L)) (hn:L.length=n) (hm:N≤100000) (hnc:n≤c) (hN:n≤N) (h:∀ p ∈ L,p.small 4) :
 Calls Tryz.prog 8 #[.slice A n c,.int .i64 NI] w fun e w'=>e=.returned (.bool true)∧Below w.heap.size w w':=fair8_y hNI hL hn hm hnc hN true ⟨fun _=>h,fun _=>rfl⟩
theorem fair8_f {A:Option Addr} {n c N:Nat} {NI:Int} (hNI:NI=(N:Int)) {L:List PV} (hL:SV w A (pvs L)) (hn:L.length=n) (hm:N≤100000) (hnc:n≤c) (hN:n≤N) (h:¬ ∀ p ∈ L,p.small 4) :
 Calls Tryz.prog 8 #[.slice A n c,.int .i64 NI] w fun e w'=>e=.returned (.bool false)∧Below w.heap.size w w':=fair8_y hNI hL hn hm hnc hN false ⟨fun e=>by (cases e),fun e=>absurd e h⟩
end
section
open Go Go.RowKit
theorem run_push2 {T tS ty:TypeId} {base b:Nat} {v:Value} {L:List PV} {p:PV} {k0:Nat} (ht:Tryz.prog.underlying tS=some (.slice T)) (hinfo:(Tryz.prog.info? T).map (fun i=>(i.zero,i.size,i.bytes))=some (some zpt,6,112))
 (h:Ln T base w v L) (hbase:base≤w.heap.size) (hL:L.length≤1000000) (hb:w.heap[b]?=some (.cells p.cells.toArray T (0,0))) :
 ∃ v' w',(Builtin.append_ #[tS,tS] ty #[v,.slice (some ⟨b,0,none⟩) 1 k0]).run Tryz.prog w=.ok v' w'∧Ln T base w' v' (L ++ [p])∧w.grownBy w' v.ownBlock∧∀ g,v'.ownBlock=some g→v.ownBlock=some g ∨ w.heap.size≤g:=by
 obtain ⟨i0,hi,hz,hs,hby⟩:=info_parts hinfo
 have hnews:∀ j u,p.cells[j]?=some u→w.cell? ((⟨b,0,none⟩:Addr).add j)=some u:=fun j u hu=>World.news_of_block hb j u (by simpa using hu)
 have h1:∀ u ∈ p.cells,u.oneCell'=true:=fun u hu=>pvs_one [p] u (by rw [pvs_cons,pvs_nil,List.append_nil];exact hu)
 have hfree:∀ u ∈ p.cells,∀ (k:IntKind) (x:Int),u ≠ .int k x:=fun u hu=>pvs_free [p] u (by rw [pvs_cons,pvs_nil,List.append_nil];exact hu)
 obtain ⟨v',w',hr,hown,hg,_⟩:=run_append_own (P:=Tryz.prog) w base tS ty T i0 zpt 6 112 ht hi hz hs hby rfl (by decide) v L.length (pvs L) h.own ⟨b,0,none⟩ 1 k0 p.cells rfl hnews h1 (by unfold maxLen;omega) (by omega) hbase
 have hown2:∀ g,v'.ownBlock=some g→v.ownBlock=some g ∨ w.heap.size≤g:=by
  rcases h.own.2 with ⟨rfl,hn⟩ | ⟨g0,cap,cur,rfl,_,hg0,hnc,hcm,hcs,htake⟩
  · have e:=run_append_nil (P:=Tryz.prog) w tS ty T i0 zpt ht hi hz ⟨b,0,none⟩ 1 k0 p.cells (by rw [hs];rfl) hnews (by decide) (by decide) (by rw [hby];decide)
    rw [hr] at e
    injection e with e1 e2
    subst e1
    intro g hgv
    right
    obtain rfl:w.heap.size=g:=by simpa [Value.ownBlock] using hgv
    exact Nat.le_refl _
  · by_cases hroom:L.length+1≤cap
    · have e:=run_append_room (P:=Tryz.prog) w tS ty T i0 ht hi g0 L.length cap cur hg0 ⟨b,0,none⟩ 1 k0 p.cells (by rw [hs];rfl) hnews h1 hroom (by rw [hs,hcs];show L.length*6+6≤_;omega)
      rw [hr] at e
      injection e with e1 e2
      subst e1
      intro g hgv
      left
      simpa [Value.ownBlock] using hgv
    · have holds:∀ j u,(pvs L)[j]?=some u→w.cell? ((⟨g0,0,none⟩:Addr).add j)=some u:=h.own.cells (g:=g0) rfl
      have e:=run_append_grow (P:=Tryz.prog) w tS ty T i0 zpt ht hi hz ⟨g0,0,none⟩ L.length cap (pvs L) (by rw [hs];exact h.own.1) holds ⟨b,0,none⟩ 1 k0 p.cells (by rw [hs];rfl) hnews (by omega) (by omega) (growslice_fits (by omega) (by rw [hby];omega))
      rw [hr] at e
      injection e with e1 e2
      subst e1
      intro g hgv
      right
      obtain rfl:w.heap.size=g:=by simpa [Value.ownBlock] using hgv
      exact Nat.le_refl _
 refine ⟨v',w',hr,⟨by rw [pvs_append,List.length_append,pvs_cons,pvs_nil,List.append_nil];exact hown,?_⟩,hg,hown2⟩
 have fr:∀ (cs:List Value),(∀ u ∈ cs,∀ (k:IntKind) (x:Int),u ≠ .int k x)→∀ (i:Nat) (k:IntKind) (x:Int),cs.toArray[i]? ≠ some (Value.int k x):=fun cs hc i k x e=>by
  rw [List.getElem?_toArray] at e
  exact hc _ (List.mem_of_getElem? e) k x rfl
 intro g hgv
 rcases h.own.2 with ⟨rfl,hn⟩ | ⟨g0,cap,cur,rfl,_,hg0,hnc,hcm,hcs,htake⟩
 · have e:=run_append_nil (P:=Tryz.prog) w tS ty T i0 zpt ht hi hz ⟨b,0,none⟩ 1 k0 p.cells (by rw [hs];rfl) hnews (by decide) (by decide) (by rw [hby];decide)
   rw [hr] at e
   injection e with e1 e2
   subst e1 e2
   obtain rfl:w.heap.size=g:=by simpa [Value.ownBlock] using hgv
   refine ⟨_,heap_alloc_new w.drew _,?_⟩
   have:=fr (p.cells ++ (Builtin.zeroCells zpt.cells (grownCap w 1 0 T - 1)).toList) (fun u hu=>by
    rcases List.mem_append.1 hu with q | q
    · exact hfree u q
    · exact zero_free _ u q)
   intro i k x
   have:=this i k x
   rwa [show (p.cells ++ (Builtin.zeroCells zpt.cells (grownCap w 1 0 T - 1)).toList).toArray=p.cells.toArray ++ Builtin.zeroCells zpt.cells (grownCap w 1 0 T - 1) by apply Array.ext';simp] at this
 · obtain ⟨cs,hB⟩:=h.free g0 rfl
   have hcur:∀ u ∈ cur.toList,∀ (k:IntKind) (x:Int),u ≠ .int k x:=by
    have:cs=cur:=by exact (Obj.cells.inj (Option.some.inj (hB.at_.symm.trans hg0))).1
    subst this
    intro u hu k x e
    obtain ⟨j,hj⟩:=List.getElem?_of_mem hu
    rw [Array.getElem?_toList] at hj
    exact hB.free j k x (by rw [← e];exact hj)
   by_cases hroom:L.length+1≤cap
   · have e:=run_append_room (P:=Tryz.prog) w tS ty T i0 ht hi g0 L.length cap cur hg0 ⟨b,0,none⟩ 1 k0 p.cells (by rw [hs];rfl) hnews h1 hroom (by rw [hs,hcs];show L.length*6+6≤_;omega)
     rw [hr] at e
     injection e with e1 e2
     subst e1 e2
     obtain rfl:g0=g:=by simpa [Value.ownBlock] using hgv
     refine ⟨_,setRow_heap w g0 cur _ T _ hg0,fr _ fun u hu=>?_⟩
     rcases List.mem_append.1 hu with q | q
     · rcases List.mem_append.1 q with q | q
       · exact hcur u (List.mem_of_mem_take q)
       · exact hfree u q
     · exact hcur u (List.mem_of_mem_drop q)
   · have holds:∀ j u,(pvs L)[j]?=some u→w.cell? ((⟨g0,0,none⟩:Addr).add j)=some u:=h.own.cells (g:=g0) rfl
     have e:=run_append_grow (P:=Tryz.prog) w tS ty T i0 zpt ht hi hz ⟨g0,0,none⟩ L.length cap (pvs L) (by rw [hs];exact h.own.1) holds ⟨b,0,none⟩ 1 k0 p.cells (by rw [hs];rfl) hnews (by omega) (by omega) (growslice_fits (by omega) (by rw [hby];omega))
     rw [hr] at e
     injection e with e1 e2
     subst e1 e2
     obtain rfl:w.heap.size=g:=by simpa [Value.ownBlock] using hgv
     refine ⟨_,heap_alloc_new w.drew _,?_⟩
     have:=fr (pvs L ++ p.cells ++ (Builtin.zeroCells zpt.cells (grownCap w (L.length+1) cap T - (L.length+1))).toList) (fun u hu=>by
      rcases List.mem_append.1 hu with q | q
      · rcases List.mem_append.1 q with q | q
        · exact pvs_free L u q
        · exact hfree u q
      · exact zero_free _ u q)
     intro i k x
     have:=this i k x
     rwa [show (pvs L ++ p.cells ++ (Builtin.zeroCells zpt.cells (grownCap w (L.length+1) cap T - (L.length+1))).toList).toArray=(pvs L).toArray ++ p.cells.toArray ++ Builtin.zeroCells zpt.cells (grownCap w (L.length+1) cap T - (L.length+1)) by apply Array.ext';simp] at this
theorem wpList_push2 {ops:Array Oper} {rest:List Oper} {o:Oper} {a:Act} {Q:Exit→Act→World→Prop} {T tS:TypeId} (ht:Tryz.prog.underlying tS=some (.slice T)) (hinfo:(Tryz.prog.info? T).map (fun i=>(i.zero,i.size,i.bytes))=some (some zpt,6,112))
 (hgd:o.guard=none) (s x:Operand) (ho:o.op=.call ⟨.builtin .append,#[s,x],#[tS,tS]⟩) {base b:Nat} {v:Value} {L:List PV} {p:PV} {k0:Nat} (hs:a.eval s=v) (hx:a.eval x=.slice (some ⟨b,0,none⟩) 1 k0)
 (h:Ln T base w v L) (hbase:base≤w.heap.size) (hL:L.length≤1000000) (hb:w.heap[b]?=some (.cells p.cells.toArray T (0,0)))
 (hK:∀ v' w',Ln T base w' v' (L ++ [p])→w.grownBy w' v.ownBlock→(∀ g,v'.ownBlock=some g→v.ownBlock=some g ∨ w.heap.size≤g)→wpList Tryz.prog ops Q rest (a.put o.dst v') w'):wpList Tryz.prog ops Q (o :: rest) a w :=
 wpList_plain hgd fun K hK2=>by
  obtain ⟨v',w',hr,h2,h3,h4⟩:=run_push2 (ty:=o.type) (k0:=k0) ht hinfo h hbase hL hb
  exact wp_append_at s x ho hs hx hr (hK2 _ _ (hK v' w' h2 h3 h4))
def Apart (v u:Value):Prop:=∀ g,v.ownBlock=some g→u.ownBlock ≠ some g
theorem Apart.symm {v u:Value} (h:Apart v u):Apart u v:=fun g h1 h2=>h g h2 h1
theorem Apart.push {T:TypeId} {base:Nat} {v v' u:Value} {L:List PV} (h:Apart v u) (hu:Ln T base w u L) (ho:∀ g,v'.ownBlock=some g→v.ownBlock=some g ∨ w.heap.size≤g):Apart v' u:=fun g h1 h2=>by
 rcases ho g h1 with q | q
 · exact h g q h2
 · have:=hu.own_lt h2;omega
theorem Ln.other {T:TypeId} {base:Nat} {w w':World} {v u:Value} {L:List PV} (h:Ln T base w u L) (ha:Apart v u) (hg:w.grownBy w' v.ownBlock):Ln T base w' u L :=
 h.kept fun g hu=>hg.block g (h.own_lt hu) (fun e=>ha g e.symm hu)
theorem apart_nil (u:Value):Apart (.slice none 0 0) u:=fun g h=>by cases h
section
variable {l:List (Rat × Rat)}
theorem ring_map (f:Rat × Rat→Rat × Rat) (hn:0 < l.length) (k:Nat):ringX (l.map f) k=(f (ringX l k,ringY l k)).1∧ringY (l.map f) k=(f (ringX l k,ringY l k)).2:=by
 have hk:=Nat.mod_lt k hn
 unfold ringX ringY
 rw [List.length_map,List.getD_eq_getElem?_getD,List.getD_eq_getElem?_getD,List.getElem?_map,List.getElem?_eq_getElem hk]
 exact ⟨rfl,rfl⟩
theorem area_ext {l m:List (Rat × Rat)} (h:sumTo (crsAt (ringX m) (ringY m)) m.length=sumTo (crsAt (ringX l) (ringY l)) l.length):areaQ m=areaQ l:=by rw [areaQ_sum,areaQ_sum,h]
theorem sum_moved (hn:0 < l.length) (a b:Rat):sumTo (crsAt (ringX (l.map fun u=>(u.1+a,u.2+b))) (ringY (l.map fun u=>(u.1+a,u.2+b)))) (l.map fun u=>(u.1+a,u.2+b)).length=sumTo (crsAt (ringX l) (ringY l)) l.length:=by
 rw [← crs_moved (ringX_per l) (ringY_per l) a b,List.length_map]
 refine sumTo_ext fun k _=>?_
 unfold crsAt
 rw [(ring_map _ hn k).1,(ring_map _ hn k).2,(ring_map _ hn (k+1)).1,(ring_map _ hn (k+1)).2]
theorem area_twice (hn:0 < l.length) {c d:Rat} (hd:d=c*c):areaQ (l.map fun u=>(u.1*c,u.2*c))=areaQ l*d:=by
 rw [areaQ_sum,areaQ_sum,List.length_map]
 have e:sumTo (crsAt (ringX (l.map fun u=>(u.1*c,u.2*c))) (ringY (l.map fun u=>(u.1*c,u.2*c)))) l.length=sumTo (fun k=>d*crsAt (ringX l) (ringY l) k) l.length:=sumTo_ext fun k _=>by
  unfold crsAt
  rw [(ring_map _ hn k).1,(ring_map _ hn k).2,(ring_map _ hn (k+1)).1,(ring_map _ hn (k+1)).2,hd]
  unfold crs;grind
 rw [e,sumTo_mul];grind
def rotL (l:List (Rat × Rat)) (k:Nat):List (Rat × Rat):=(List.range l.length).map fun i=>l.getD ((i+k) % l.length) (0,0)
theorem rotL_len (k:Nat):(rotL l k).length=l.length:=by unfold rotL;rw [List.length_map,List.length_range]
theorem rotL_at {k i:Nat} {u:Rat × Rat} (hi:i < l.length) (h:l[(i+k) % l.length]?=some u):(rotL l k)[i]?=some u:=by
 unfold rotL
 rw [List.getElem?_map,List.getElem?_range hi,Option.map_some,List.getD_eq_getElem?_getD,h];rfl
theorem rot_ring (hn:0 < l.length) (k j:Nat):ringX (rotL l k) j=ringX l (k+j)∧ringY (rotL l k) j=ringY l (k+j):=by
 have hj:=Nat.mod_lt j hn
 have hk:=Nat.mod_lt (j % l.length+k) hn
 have e:=rotL_at (l:=l) (k:=k) hj (List.getElem?_eq_getElem hk)
 have e2:(k+j) % l.length=(j % l.length+k) % l.length:=by rw [Nat.add_comm k j];exact (Nat.mod_add_mod j l.length k).symm
 unfold ringX ringY
 rw [rotL_len,List.getD_eq_getElem?_getD,e,List.getD_eq_getElem?_getD,e2,List.getElem?_eq_getElem hk]
 exact ⟨rfl,rfl⟩
theorem area_rot (hn:0 < l.length) (k:Nat):areaQ (rotL l k)=areaQ l:=by
 refine area_ext ?_
 rw [rotL_len,← sumTo_shift (crsAt_per (ringX_per l) (ringY_per l)) k]
 refine sumTo_ext fun j _=>?_
 unfold crsAt
 rw [(rot_ring hn k j).1,(rot_ring hn k j).2,(rot_ring hn k (j+1)).1,(rot_ring hn k (j+1)).2,← Nat.add_assoc]
theorem rev_ring (_hn:0 < l.length) {j:Nat} (hj:j < l.length):ringX l.reverse j=ringX l (l.length - 1 - j)∧ringY l.reverse j=ringY l (l.length - 1 - j):=by
 have hk:l.length - 1 - j < l.length:=by omega
 have e:l.reverse[j]?=l[l.length - 1 - j]?:=List.getElem?_reverse hj
 unfold ringX ringY
 rw [List.length_reverse,Nat.mod_eq_of_lt hj,Nat.mod_eq_of_lt hk,List.getD_eq_getElem?_getD,e,List.getD_eq_getElem?_getD]
 exact ⟨rfl,rfl⟩
theorem area_rev (hn:0 < l.length):areaQ l.reverse=-areaQ l:=by
 rw [areaQ_sum,areaQ_sum,List.length_reverse]
 have hx:=ringX_per l;have hy:=ringY_per l
 have e:sumTo (crsAt (ringX l.reverse) (ringY l.reverse)) l.length=sumTo (fun k=>-1*(fun k=>crsAt (ringX l) (ringY l) (l.length - 1+k)) (l.length - 1 - k)) l.length:=sumTo_ext fun k hk=>by
  have a:=rev_ring hn hk
  have b:ringX l.reverse (k+1)=ringX l (l.length - 1+(l.length - 1 - k))∧ringY l.reverse (k+1)=ringY l (l.length - 1+(l.length - 1 - k)):=by
   rcases Nat.lt_or_ge (k+1) l.length with q | q
   · have c:=rev_ring hn q
     rw [c.1,c.2]
     have e5:l.length - 1+(l.length - 1 - k)=l.length - 1 - (k+1)+l.length:=by omega
     rw [e5,hx,hy];exact ⟨rfl,rfl⟩
   · have e5:k+1=0+l.reverse.length:=by rw [List.length_reverse];omega
     rw [e5,ringX_per,ringY_per,(rev_ring hn hn).1,(rev_ring hn hn).2,show l.length - 1+(l.length - 1 - k)=l.length - 1 - 0 by omega];exact ⟨rfl,rfl⟩
  have c:ringX l (l.length - 1+(l.length - 1 - k)+1)=ringX l (l.length - 1 - k)∧ringY l (l.length - 1+(l.length - 1 - k)+1)=ringY l (l.length - 1 - k):=by
   rw [show l.length - 1+(l.length - 1 - k)+1=l.length - 1 - k+l.length by omega,hx,hy];exact ⟨rfl,rfl⟩
  show crsAt (ringX l.reverse) (ringY l.reverse) k=-1*crsAt (ringX l) (ringY l) (l.length - 1+(l.length - 1 - k))
  unfold crsAt
  rw [a.1,a.2,b.1,b.2,c.1,c.2]
  unfold crs;grind
 rw [e,sumTo_mul,sumTo_rev (fun k=>crsAt (ringX l) (ringY l) (l.length - 1+k)),sumTo_shift (crsAt_per hx hy)];grind
end
theorem QG.lt {s:Bool} {A B:Option Addr} {n c m d k:Nat} {v:Rat} (h:QG w s A n c B m d v k):v.num.natAbs < B64 ^ k∧v.den < B64 ^ k:=by
 obtain ⟨⟨_,a2,_,a4⟩,⟨b1,_,b3⟩⟩:=h
 have up:∀ {x j:Nat},(limbs B64 x).length=j→j≤k→x < B64 ^ k:=fun {x j} h1 h2=>Nat.lt_of_lt_of_le (lt_pow_limbs B64_two x) (Nat.pow_le_pow_right (Nat.lt_of_lt_of_le (by decide) B64_two) (by omega))
 exact ⟨up a2.1 a4,up b1.1 b3⟩
theorem twice_lt {v:Rat} {k:Nat} (h:v.num.natAbs < B64 ^ k∧v.den < B64 ^ k):(v*2).num.natAbs < B64 ^ (k+1)∧(v*2).den < B64 ^ (k+1):=by
 have e:v*2=mkRat (v.num*2) v.den:=by
  have h2:mkRat v.num v.den*mkRat 2 1=mkRat (v.num*2) (v.den*1):=mk_mul _ _ _ _
  rw [Rat.mkRat_self,Nat.mul_one] at h2
  rw [← h2];congr 1
 obtain ⟨g,hg,h1,h2⟩:=mk_num_den (p:=v.num*2) v.den_nz
 rw [← e] at h1 h2
 have hB:2*B64 ^ k≤B64 ^ (k+1):=by rw [Nat.pow_succ,Nat.mul_comm];exact Nat.mul_le_mul_left _ B64_two
 have hg1:1≤g:=by omega
 constructor
 · have h3:=congrArg Int.natAbs h1
   rw [Int.natAbs_mul,Int.natAbs_mul,Int.natAbs_natCast,show (2:Int).natAbs=2 from rfl] at h3
   have:=Nat.mul_le_mul_left (v*2).num.natAbs hg1
   omega
 · have:=Nat.mul_le_mul_left (v*2).den hg1
   omega
theorem sum_of_area (l:List (Rat × Rat)):qsum (crosses l)=areaQ l*2:=by
 unfold areaQ
 have e:Rat.divInt 1 2*2=1:=by decide +kernel
 rw [Rat.mul_assoc,e,Rat.mul_one]
end
end Go.Proofs.YtghmejlikfiegaaGreat
