/- AreaTells: part 18. -/
import Derived.Deep.AppendSrc
import Derived.Test.YtgfcofecdhodcaaGreatKAreaTells12
import Derived.Test.YtgfcofecdhodcaaGreatKAreaTells14
import Derived.Test.YtgfcofecdhodcaaGreatKAreaTells15
import Derived.Test.YtgfcofecdhodcaaGreatKAreaTells17
set_option linter.unusedVariables false
set_option maxRecDepth 100000
set_option maxHeartbeats 16000000
variable {w:Go.World}
variable {s_r t_r:Bool} {A_r B_r E_r F_r:Option Go.Addr} {n_r c_r m_r d_r i_r e_r j_r f_r:Nat}
namespace Go.Proofs.YtgfcofecdhodcaaGreat
section
open Go Go.RowKit
theorem QG.fit {s:Bool} {A B:Option Addr} {n c m d K k:Nat} {v:Rat} (h:QG w s A n c B m d v K) (h1:v.num.natAbs < B64 ^ k) (h2:v.den < B64 ^ k):QG w s A n c B m d v k:=by
 obtain ⟨⟨a1,a2,a3,_⟩,⟨b1,b2,_⟩⟩:=h
 refine ⟨⟨a1,a2,a3,?_⟩,⟨b1,b2,?_⟩⟩
 · rw [← a2.1];exact Qan Qae h1
 · rw [← b1.1];exact Qan Qae h2
theorem Each.fit {L:List PV} {l:List (Rat × Rat)} {K k:Nat} (h:Each PV.PG w L l K) (hB:BL k l):Each PV.PG w L l k :=
 ⟨h.1,fun i p u hp hu=>by
  have h2:=h.2 i p u hp hu
  have hb:=hB u (List.mem_of_getElem? hu)
  exact ⟨QG.fit h2.1 hb.1 hb.2.1,QG.fit h2.2 hb.2.2.1 hb.2.2.2⟩⟩
theorem Each.pr {L:List PV} {l:List (Rat × Rat)} {k:Nat} (h:Each PV.PG w L l k):Each PV.PR w L l k:=⟨h.1,fun i p u hp hu=>PG.pr (h.2 i p u hp hu)⟩
theorem Ln.sv {T:TypeId} {base:Nat} {A:Option Addr} {n c:Nat} {L:List PV} (h:Ln T base w (.slice A n c) L):SV w A (pvs L):=fun hn=>by
 have hl:0 < L.length:=by rw [show (pvs L).length=L.length*6 from Qaq QaS L] at hn;omega
 obtain ⟨g,c2,hv,_,_,hg,_⟩:=h.at_ (List.getElem?_eq_getElem hl)
 simp only [Value.slice.injEq] at hv
 refine ⟨g,0,hv.1,hg,fun j u hu=>?_⟩
 have:=h.own.cells (g:=g) (by rw [hv.1];rfl) j u hu
 rwa [QbN] at this
def hasB (l:List (Rat × Rat)) (px py:Rat):Bool:=decide (3≤l.length) && (List.range (l.length+1)).all fun i=>match (Qas l)[i]?,(Qas l)[i+1]? with | some u,some v=>decide (0≤QcH u.1 u.2 v.1 v.2 px py) | _,_=>true
theorem Qj9 (l:List (Rat × Rat)) (px py:Rat):hasB l px py=true ↔ Qn6 l px py:=by
 unfold hasB Qn6
 rw [Bool.and_eq_true,decide_eq_true_iff,List.all_eq_true]
 refine and_congr Iff.rfl ⟨fun h i u v hu hv=>?_,fun h i _=>?_⟩
 · have hi : i < l.length + 1 := by
     have h7:=(List.getElem?_eq_some_iff.1 hu).1
     unfold Qas at h7;rw [List.length_append,List.length_take] at h7;omega
   have:=h i (List.mem_range.2 hi)
   rw [hu,hv] at this
   exact of_decide_eq_true this
 · split
   · rename_i u v hu hv;exact decide_eq_true (h i u v hu hv)
   · rfl
def convB (l:List (Rat × Rat)):Bool:=((List.range (l.length+1)).all fun i=>match (Qas (Qbw l))[i]?,(Qas (Qbw l))[i+1]? with | some u,some v=>decide (QbO u.1 u.2 v.1 v.2) | _,_=>true) && decide (QeI (Qas (Qbw l)) l.length=1)
theorem QnY (l:List (Rat × Rat)):convB l=true ↔ QeP l:=by
 unfold convB QeP
 rw [Bool.and_eq_true,decide_eq_true_iff,List.all_eq_true]
 refine and_congr ⟨fun h i u v hu hv=>?_,fun h i _=>?_⟩ Iff.rfl
 · have hi : i < l.length + 1 := by
     have h7:=(List.getElem?_eq_some_iff.1 hu).1
     have h8:=Qb5 l
     unfold Qas at h7;rw [List.length_append,List.length_take] at h7;omega
   have:=h i (List.mem_range.2 hi)
   rw [hu,hv] at this
   exact of_decide_eq_true this
 · split
   · rename_i u v hu hv;exact decide_eq_true (h i u v hu hv)
   · rfl
theorem Qno {l:List (Rat × Rat)} {a b c d a' b' c' d':Rat} (h:QeU l a b c d) (g:QeU l a' b' c' d'):a=a'∧b=b'∧c=c'∧d=d':=by
 obtain ⟨⟨i1,u1,e1,rfl⟩,⟨i2,u2,e2,rfl⟩,⟨i3,u3,e3,rfl⟩,⟨i4,u4,e4,rfl⟩,h5⟩:=h
 obtain ⟨⟨j1,v1,f1,rfl⟩,⟨j2,v2,f2,rfl⟩,⟨j3,v3,f3,rfl⟩,⟨j4,v4,f4,rfl⟩,g5⟩:=g
 have a1:=h5 _ _ f1;have a2:=h5 _ _ f2;have a3:=h5 _ _ f3;have a4:=h5 _ _ f4;have b1:=g5 _ _ e1;have b2:=g5 _ _ e2;have b3:=g5 _ _ e3;have b4:=g5 _ _ e4
 exact ⟨by grind,by grind,by grind,by grind⟩
def sqL:List (Rat × Rat):=[(Rat.divInt 0 1,Rat.divInt 0 1),(Rat.divInt 2 1,Rat.divInt 0 1),(Rat.divInt 2 1,Rat.divInt 2 1),(Rat.divInt 0 1,Rat.divInt 2 1)]
def sqH:List (Rat × Rat):=[(Rat.divInt 0 1,Rat.divInt 0 1),(Rat.divInt 2 1,Rat.divInt 2 1),(Rat.divInt 0 1,Rat.divInt 2 1)]
theorem Qn8:QqI (QeC (Rat.divInt 0 1) (Rat.divInt 0 1) (Rat.divInt 2 1) (Rat.divInt 2 1)) sqL=sqH:=by decide +kernel
theorem QqS:QeU sqL (Rat.divInt 0 1) (Rat.divInt 0 1) (Rat.divInt 2 1) (Rat.divInt 2 1):=by
 refine ⟨⟨0,_,rfl,rfl⟩,⟨0,_,rfl,rfl⟩,⟨1,_,rfl,rfl⟩,⟨2,_,rfl,rfl⟩,fun i u hu=>?_⟩
 match i,hu with
 | 0,hu=>cases hu;decide +kernel
 | 1,hu=>cases hu;decide +kernel
 | 2,hu=>cases hu;decide +kernel
 | 3,hu=>cases hu;decide +kernel
 | i+4,hu=>cases hu
theorem wk8_bl:BL 1 sqH:=by
 intro u hu
 simp only [sqH,List.mem_cons,List.not_mem_nil,or_false] at hu
 rcases hu with rfl | rfl | rfl <;> decide +kernel
theorem wk8_t4:(⟨(QoP (Qhu sqL)).toArray⟩:ByteArray)=⟨#[52]⟩:=by
 rw [show Qhu sqL=Rat.divInt 4 1 by decide +kernel,QpF (a:=4) (by decide +kernel) (by decide +kernel) (Ql2 (d:=4) (by decide) (by decide) rfl)];rfl
theorem wk8_t2:(⟨(QoP (Qhu sqH)).toArray⟩:ByteArray)=⟨#[50]⟩:=by
 rw [show Qhu sqH=Rat.divInt 2 1 by decide +kernel,QpF (a:=2) (by decide +kernel) (by decide +kernel) (Ql2 (d:=2) (by decide) (by decide) rfl)];rfl
theorem Qpq:true=true ↔ QeP sqL:=by
 rw [← QnY];exact ⟨fun _=>by decide +kernel,fun _=>rfl⟩
theorem QoU:true=true ↔ Qn6 sqL (Rat.divInt 1 1) (Rat.divInt 1 1):=by
 rw [← Qj9];exact ⟨fun _=>by decide +kernel,fun _=>rfl⟩
theorem Qo9:false=true ↔ Qn6 sqL (Rat.divInt 3 1) (Rat.divInt 1 1):=by
 rw [← Qj9];exact ⟨fun h=>by (cases h),fun h=>absurd h (by decide +kernel)⟩
theorem wk8_s0:decide (Rat.divInt 0 1=Rat.divInt 0 1∧Rat.divInt 0 1=Rat.divInt 0 1)=true:=by decide +kernel
theorem wk8_s2:decide (Rat.divInt 2 1=Rat.divInt 2 1∧Rat.divInt 2 1=Rat.divInt 2 1)=true:=by decide +kernel
theorem QbR (w:World):Calls Tryz.prog 7 #[] w fun e w'=>e=.returned (.bool true)∧Below w.heap.size w w':=by
 have hb:Below w.heap.size w w:=Below.refl _ _
 go_enter Tryz.func7,Tryz.ntmps7
 go_upto_region 3 with (first
  | (go_at_call 29;(with_reducible refine (Qn4 0 0 (by decide) (by decide) (by decide) (by decide) _).mono ?_);rintro e w_p1 ⟨s_p1,A_p1,n_p1,c_p1,B_p1,m_p1,d_p1,t_p1,E_p1,i_p1,e_p1,F_p1,j_p1,f_p1,rfl,p1,hh⟩
     replace hb:=Qai hb hh)
  | (go_at_call 29;(with_reducible refine (Qn4 2 0 (by decide) (by decide) (by decide) (by decide) _).mono ?_);rintro e w_p2 ⟨s_p2,A_p2,n_p2,c_p2,B_p2,m_p2,d_p2,t_p2,E_p2,i_p2,e_p2,F_p2,j_p2,f_p2,rfl,p2,hh⟩
     (try replace p1:=p1.below hh);replace hb:=Qai hb hh)
  | (go_at_call 29;(with_reducible refine (Qn4 2 2 (by decide) (by decide) (by decide) (by decide) _).mono ?_);rintro e w_p3 ⟨s_p3,A_p3,n_p3,c_p3,B_p3,m_p3,d_p3,t_p3,E_p3,i_p3,e_p3,F_p3,j_p3,f_p3,rfl,p3,hh⟩
     (try replace p1:=p1.below hh);(try replace p2:=p2.below hh);replace hb:=Qai hb hh)
  | (go_at_call 29;(with_reducible refine (Qn4 0 2 (by decide) (by decide) (by decide) (by decide) _).mono ?_);rintro e w_p4 ⟨s_p4,A_p4,n_p4,c_p4,B_p4,m_p4,d_p4,t_p4,E_p4,i_p4,e_p4,F_p4,j_p4,f_p4,rfl,p4,hh⟩
     (try replace p1:=p1.below hh);(try replace p2:=p2.below hh);(try replace p3:=p3.below hh);replace hb:=Qai hb hh))
 have hBL:BoxAt 29 (w_p4.alloc (Obj.cells #[Value.bool s_p1,Value.slice A_p1 n_p1 c_p1,Value.slice B_p1 m_p1 d_p1,Value.bool t_p1,Value.slice E_p1 i_p1 e_p1,Value.slice F_p1 j_p1 f_p1,Value.bool s_p2,Value.slice A_p2 n_p2 c_p2,Value.slice B_p2 m_p2 d_p2,Value.bool t_p2,Value.slice E_p2 i_p2 e_p2,Value.slice F_p2 j_p2 f_p2,Value.bool s_p3,Value.slice A_p3 n_p3 c_p3,Value.slice B_p3 m_p3 d_p3,Value.bool t_p3,Value.slice E_p3 i_p3 e_p3,Value.slice F_p3 j_p3 f_p3,Value.bool s_p4,Value.slice A_p4 n_p4 c_p4,Value.slice B_p4 m_p4 d_p4,Value.bool t_p4,Value.slice E_p4 i_p4 e_p4,Value.slice F_p4 j_p4 f_p4] 29)) w_p4.heap.size (pvs [(PV.mk s_p1 A_p1 n_p1 c_p1 B_p1 m_p1 d_p1 t_p1 E_p1 i_p1 e_p1 F_p1 j_p1 f_p1),(PV.mk s_p2 A_p2 n_p2 c_p2 B_p2 m_p2 d_p2 t_p2 E_p2 i_p2 e_p2 F_p2 j_p2 f_p2),(PV.mk s_p3 A_p3 n_p3 c_p3 B_p3 m_p3 d_p3 t_p3 E_p3 i_p3 e_p3 F_p3 j_p3 f_p3),(PV.mk s_p4 A_p4 n_p4 c_p4 B_p4 m_p4 d_p4 t_p4 E_p4 i_p4 e_p4 F_p4 j_p4 f_p4)]).toArray:=⟨heap_alloc_new w_p4 _,QcT (Qcg _)⟩
 have hh:Below w_p4.heap.size w_p4 (w_p4.alloc (Obj.cells #[Value.bool s_p1,Value.slice A_p1 n_p1 c_p1,Value.slice B_p1 m_p1 d_p1,Value.bool t_p1,Value.slice E_p1 i_p1 e_p1,Value.slice F_p1 j_p1 f_p1,Value.bool s_p2,Value.slice A_p2 n_p2 c_p2,Value.slice B_p2 m_p2 d_p2,Value.bool t_p2,Value.slice E_p2 i_p2 e_p2,Value.slice F_p2 j_p2 f_p2,Value.bool s_p3,Value.slice A_p3 n_p3 c_p3,Value.slice B_p3 m_p3 d_p3,Value.bool t_p3,Value.slice E_p3 i_p3 e_p3,Value.slice F_p3 j_p3 f_p3,Value.bool s_p4,Value.slice A_p4 n_p4 c_p4,Value.slice B_p4 m_p4 d_p4,Value.bool t_p4,Value.slice E_p4 i_p4 e_p4,Value.slice F_p4 j_p4 f_p4] 29)):=(Below.refl _ _).alloc (Nat.le_refl _) _
 replace p1:=p1.below hh;replace p2:=p2.below hh;replace p3:=p3.below hh;replace p4:=p4.below hh;replace hb:=Qai hb hh
 have hEL:Each PV.PG (w_p4.alloc (Obj.cells #[Value.bool s_p1,Value.slice A_p1 n_p1 c_p1,Value.slice B_p1 m_p1 d_p1,Value.bool t_p1,Value.slice E_p1 i_p1 e_p1,Value.slice F_p1 j_p1 f_p1,Value.bool s_p2,Value.slice A_p2 n_p2 c_p2,Value.slice B_p2 m_p2 d_p2,Value.bool t_p2,Value.slice E_p2 i_p2 e_p2,Value.slice F_p2 j_p2 f_p2,Value.bool s_p3,Value.slice A_p3 n_p3 c_p3,Value.slice B_p3 m_p3 d_p3,Value.bool t_p3,Value.slice E_p3 i_p3 e_p3,Value.slice F_p3 j_p3 f_p3,Value.bool s_p4,Value.slice A_p4 n_p4 c_p4,Value.slice B_p4 m_p4 d_p4,Value.bool t_p4,Value.slice E_p4 i_p4 e_p4,Value.slice F_p4 j_p4 f_p4] 29)) [(PV.mk s_p1 A_p1 n_p1 c_p1 B_p1 m_p1 d_p1 t_p1 E_p1 i_p1 e_p1 F_p1 j_p1 f_p1),(PV.mk s_p2 A_p2 n_p2 c_p2 B_p2 m_p2 d_p2 t_p2 E_p2 i_p2 e_p2 F_p2 j_p2 f_p2),(PV.mk s_p3 A_p3 n_p3 c_p3 B_p3 m_p3 d_p3 t_p3 E_p3 i_p3 e_p3 F_p3 j_p3 f_p3),(PV.mk s_p4 A_p4 n_p4 c_p4 B_p4 m_p4 d_p4 t_p4 E_p4 i_p4 e_p4 F_p4 j_p4 f_p4)] sqL 1:=⟨rfl,fun i p u hp hu=>by
  match i,hp,hu with
  | 0,hp,hu=>cases hp;cases hu;exact p1
  | 1,hp,hu=>cases hp;cases hu;exact p2
  | 2,hp,hu=>cases hp;cases hu;exact p3
  | 3,hp,hu=>cases hp;cases hu;exact p4
  | i+4,hp,hu=>cases hp⟩
 have hSL:=hBL.sv
 have hLn:[(PV.mk s_p1 A_p1 n_p1 c_p1 B_p1 m_p1 d_p1 t_p1 E_p1 i_p1 e_p1 F_p1 j_p1 f_p1),(PV.mk s_p2 A_p2 n_p2 c_p2 B_p2 m_p2 d_p2 t_p2 E_p2 i_p2 e_p2 F_p2 j_p2 f_p2),(PV.mk s_p3 A_p3 n_p3 c_p3 B_p3 m_p3 d_p3 t_p3 E_p3 i_p3 e_p3 F_p3 j_p3 f_p3),(PV.mk s_p4 A_p4 n_p4 c_p4 B_p4 m_p4 d_p4 t_p4 E_p4 i_p4 e_p4 F_p4 j_p4 f_p4)].length=4:=rfl
 clear p1 p2 p3 p4 hBL hh
 generalize (w_p4.alloc (Obj.cells #[Value.bool s_p1,Value.slice A_p1 n_p1 c_p1,Value.slice B_p1 m_p1 d_p1,Value.bool t_p1,Value.slice E_p1 i_p1 e_p1,Value.slice F_p1 j_p1 f_p1,Value.bool s_p2,Value.slice A_p2 n_p2 c_p2,Value.slice B_p2 m_p2 d_p2,Value.bool t_p2,Value.slice E_p2 i_p2 e_p2,Value.slice F_p2 j_p2 f_p2,Value.bool s_p3,Value.slice A_p3 n_p3 c_p3,Value.slice B_p3 m_p3 d_p3,Value.bool t_p3,Value.slice E_p3 i_p3 e_p3,Value.slice F_p3 j_p3 f_p3,Value.bool s_p4,Value.slice A_p4 n_p4 c_p4,Value.slice B_p4 m_p4 d_p4,Value.bool t_p4,Value.slice E_p4 i_p4 e_p4,Value.slice F_p4 j_p4 f_p4] 29))=W1 at *
 generalize w_p4.heap.size=gL at *
 generalize [(PV.mk s_p1 A_p1 n_p1 c_p1 B_p1 m_p1 d_p1 t_p1 E_p1 i_p1 e_p1 F_p1 j_p1 f_p1),(PV.mk s_p2 A_p2 n_p2 c_p2 B_p2 m_p2 d_p2 t_p2 E_p2 i_p2 e_p2 F_p2 j_p2 f_p2),(PV.mk s_p3 A_p3 n_p3 c_p3 B_p3 m_p3 d_p3 t_p3 E_p3 i_p3 e_p3 F_p3 j_p3 f_p3),(PV.mk s_p4 A_p4 n_p4 c_p4 B_p4 m_p4 d_p4 t_p4 E_p4 i_p4 e_p4 F_p4 j_p4 f_p4)]=LL at *
 go_upto_region 4 with (first
  | (go_at_call 29;(with_reducible refine (Qn4 0 0 (by decide) (by decide) (by decide) (by decide) _).mono ?_);rintro e w_p1 ⟨s_p1,A_p1,n_p1,c_p1,B_p1,m_p1,d_p1,t_p1,E_p1,i_p1,e_p1,F_p1,j_p1,f_p1,rfl,p1,hh⟩
     (try replace hSL:=hSL.below hh);(try replace hEL:=hEL.below hh);replace hb:=Qai hb hh)
  | (go_at_call 29;(with_reducible refine (Qn4 2 2 (by decide) (by decide) (by decide) (by decide) _).mono ?_);rintro e w_p2 ⟨s_p2,A_p2,n_p2,c_p2,B_p2,m_p2,d_p2,t_p2,E_p2,i_p2,e_p2,F_p2,j_p2,f_p2,rfl,p2,hh⟩
     (try replace hSL:=hSL.below hh);(try replace hEL:=hEL.below hh);(try replace p1:=p1.below hh);replace hb:=Qai hb hh)
  | (go_at_call 23;(with_reducible refine (half_p (k:=1) (k2:=1) (ka:=13) hSL (Each.pr hEL) p1.pr p2.pr hLn (by decide) (by decide) (by decide) (by decide) (by decide) (by decide) (by decide) (by decide)).mono ?_);rintro e w_h ⟨v_h,M,rfl,hLh,hEh,hh⟩
     (try replace hSL:=hSL.below hh);(try replace hEL:=hEL.below hh);replace hb:=Qai hb hh;clear p1 p2))
 rw [Qn8] at hEh;have hEH:=Each.fit hEh wk8_bl
 obtain ⟨A_h,c_h,rfl,hch,_⟩:=hLh.form
 have hMn:M.length=3:=hEh.1
 rw [hMn] at hLh hch ⊢
 have hSH:=hLh.sv;clear hEh hLh
 go_upto_region 5 with (first
  | (go_at_call 10;(with_reducible refine (box_p hSL (Each.pr hEL) hLn (by decide) (by decide) (by decide) (by decide) (by decide)).mono ?_);rintro e w_b ⟨x0,y0,x1,y1,⟨s_p,A_p,n_p,c_p,B_p,m_p,d_p,t_p,E_p,i_p,e_p,F_p,j_p,f_p⟩,⟨s_q,A_q,n_q,c_q,B_q,m_q,d_q,t_q,E_q,i_q,e_q,F_q,j_q,f_q⟩,hbx,rfl,p,q,hh⟩
     (try replace hSL:=hSL.below hh);(try replace hEL:=hEL.below hh);(try replace hSH:=hSH.below hh);(try replace hEH:=hEH.below hh);replace hb:=Qai hb hh
     obtain ⟨rfl,rfl,rfl,rfl⟩:=Qno hbx QqS
     replace p:PG w_b s_p A_p n_p c_p B_p m_p d_p t_p E_p i_p e_p F_p j_p f_p (Rat.divInt 0 1) (Rat.divInt 0 1) 3:=p
     replace q:PG w_b s_q A_q n_q c_q B_q m_q d_q t_q E_q i_q e_q F_q j_q f_q (Rat.divInt 2 1) (Rat.divInt 2 1) 3:=q
     clear hbx))
 generalize hW:World.alloc _ _=W2
 obtain ⟨hh,XA,XB,hzW2⟩:=QaF hW;clear hW;(try replace hSL:=hSL.below hh);(try replace hEL:=hEL.below hh);(try replace hSH:=hSH.below hh);(try replace hEH:=hEH.below hh);(try replace p:=p.below hh);(try replace q:=q.below hh);replace hb:=Qai hb hh
 replace hSL:=hSL.below (Below.refl _ _).drew
 replace hEL:=hEL.below (Below.refl _ _).drew
 replace hSH:=hSH.below (Below.refl _ _).drew
 replace hEH:=hEH.below (Below.refl _ _).drew
 replace p:=p.below (Below.refl _ _).drew
 replace q:=q.below (Below.refl _ _).drew
 replace XA:=XA.below (Below.refl _ _).drew
 replace XB:=XB.below (Below.refl _ _).drew
 replace hb:=hb.drew
 go_region_held3 (fun w'=>w'.cell? ⟨w_b.heap.size,0,none⟩=some (.bool s_p)∧w'.cell? ⟨w_b.heap.size,1,none⟩=some (.slice A_p n_p c_p)∧w'.cell? ⟨w_b.heap.size,2,none⟩=some (.slice B_p m_p d_p)∧w'.cell? ⟨w_b.heap.size,3,none⟩=some (.bool t_p)∧w'.cell? ⟨w_b.heap.size,4,none⟩=some (.slice E_p i_p e_p)∧w'.cell? ⟨w_b.heap.size,5,none⟩=some (.slice F_p j_p f_p)∧w'.cell? ⟨w_b.heap.size+1,0,none⟩=some (.bool s_q)∧w'.cell? ⟨w_b.heap.size+1,1,none⟩=some (.slice A_q n_q c_q)∧w'.cell? ⟨w_b.heap.size+1,2,none⟩=some (.slice B_q m_q d_q)∧w'.cell? ⟨w_b.heap.size+1,3,none⟩=some (.bool t_q)∧w'.cell? ⟨w_b.heap.size+1,4,none⟩=some (.slice E_q i_q e_q)∧w'.cell? ⟨w_b.heap.size+1,5,none⟩=some (.slice F_q j_q f_q))
  (first | with_reducible exact ⟨XA.c0,XA.c1,XA.c2,XA.c3,XA.c4,XA.c5,XB.c0,XB.c1,XB.c2,XB.c3,XB.c4,XB.c5⟩)
  (first
  | (go_at_call 14;(with_reducible refine (QkJ hSL (Each.pr hEL) hLn (by decide) (by decide) (by decide) (by decide) (by decide)).mono ?_);rintro e w_a ⟨s_a,A_a,n_a,c_a,B_a,m_a,d_a,rfl,a,hh⟩
     (try replace hSL:=hSL.below hh);(try replace hEL:=hEL.below hh);(try replace hSH:=hSH.below hh);(try replace hEH:=hEH.below hh);(try replace p:=p.below hh);(try replace q:=q.below hh);(try replace XA:=XA.below hh);(try replace XB:=XB.below hh);replace hb:=Qai hb hh)
  | (go_at_call 14;(with_reducible refine (QkJ hSH (Each.pr hEH) hMn (by decide) hch (by decide) (by decide) (by decide)).mono ?_);rintro e w_r ⟨s_r,A_r,n_r,c_r,B_r,m_r,d_r,rfl,r,hh⟩
     (try replace hSL:=hSL.below hh);(try replace hEL:=hEL.below hh);(try replace hSH:=hSH.below hh);(try replace hEH:=hEH.below hh);(try replace p:=p.below hh);(try replace q:=q.below hh);(try replace XA:=XA.below hh);(try replace XB:=XB.below hh);replace hb:=Qai hb hh)
  | (go_at_call 30;(with_reducible refine (QnE a.qr (by decide) (by decide)).mono ?_);rintro e w_z ⟨rfl,hh⟩
     rw [wk8_t4];(try replace hSL:=hSL.below hh);(try replace hEL:=hEL.below hh);(try replace hSH:=hSH.below hh);(try replace hEH:=hEH.below hh);(try replace p:=p.below hh);(try replace q:=q.below hh);(try replace XA:=XA.below hh);(try replace XB:=XB.below hh);replace hb:=Qai hb hh;clear a)
  | (go_at_call 30;(with_reducible refine (QnE r.qr (by decide) (by decide)).mono ?_);rintro e w_z ⟨rfl,hh⟩
     rw [wk8_t2];(try replace hSL:=hSL.below hh);(try replace hEL:=hEL.below hh);(try replace hSH:=hSH.below hh);(try replace hEH:=hEH.below hh);(try replace p:=p.below hh);(try replace q:=q.below hh);(try replace XA:=XA.below hh);(try replace XB:=XB.below hh);replace hb:=Qai hb hh;clear r)
  | (go_at_call 16;(with_reducible refine (Qht hSL (Each.pr hEL) hLn (by decide) (by decide) (by decide) (by decide) true Qpq).mono ?_);rintro e w_z ⟨rfl,hh⟩
     (try replace hSL:=hSL.below hh);(try replace hEL:=hEL.below hh);(try replace hSH:=hSH.below hh);(try replace hEH:=hEH.below hh);(try replace p:=p.below hh);(try replace q:=q.below hh);(try replace XA:=XA.below hh);(try replace XB:=XB.below hh);replace hb:=Qai hb hh)
  | (go_at_call 29;(with_reducible refine (Qn4 1 1 (by decide) (by decide) (by decide) (by decide) _).mono ?_);rintro e w_t1 ⟨s_t1,A_t1,n_t1,c_t1,B_t1,m_t1,d_t1,t_t1,E_t1,i_t1,e_t1,F_t1,j_t1,f_t1,rfl,t1,hh⟩
     (try replace hSL:=hSL.below hh);(try replace hEL:=hEL.below hh);(try replace hSH:=hSH.below hh);(try replace hEH:=hEH.below hh);(try replace p:=p.below hh);(try replace q:=q.below hh);(try replace XA:=XA.below hh);(try replace XB:=XB.below hh);replace hb:=Qai hb hh)
  | (go_at_call 29;(with_reducible refine (Qn4 3 1 (by decide) (by decide) (by decide) (by decide) _).mono ?_);rintro e w_t2 ⟨s_t2,A_t2,n_t2,c_t2,B_t2,m_t2,d_t2,t_t2,E_t2,i_t2,e_t2,F_t2,j_t2,f_t2,rfl,t2,hh⟩
     (try replace hSL:=hSL.below hh);(try replace hEL:=hEL.below hh);(try replace hSH:=hSH.below hh);(try replace hEH:=hEH.below hh);(try replace p:=p.below hh);(try replace q:=q.below hh);(try replace XA:=XA.below hh);(try replace XB:=XB.below hh);replace hb:=Qai hb hh)
  | (go_at_call 29;(with_reducible refine (Qn4 0 0 (by decide) (by decide) (by decide) (by decide) _).mono ?_);rintro e w_t3 ⟨s_t3,A_t3,n_t3,c_t3,B_t3,m_t3,d_t3,t_t3,E_t3,i_t3,e_t3,F_t3,j_t3,f_t3,rfl,t3,hh⟩
     (try replace hSL:=hSL.below hh);(try replace hEL:=hEL.below hh);(try replace hSH:=hSH.below hh);(try replace hEH:=hEH.below hh);(try replace p:=p.below hh);(try replace q:=q.below hh);(try replace XA:=XA.below hh);(try replace XB:=XB.below hh);replace hb:=Qai hb hh)
  | (go_at_call 29;(with_reducible refine (Qn4 2 2 (by decide) (by decide) (by decide) (by decide) _).mono ?_);rintro e w_t4 ⟨s_t4,A_t4,n_t4,c_t4,B_t4,m_t4,d_t4,t_t4,E_t4,i_t4,e_t4,F_t4,j_t4,f_t4,rfl,t4,hh⟩
     (try replace hSL:=hSL.below hh);(try replace hEL:=hEL.below hh);(try replace hSH:=hSH.below hh);(try replace hEH:=hEH.below hh);(try replace p:=p.below hh);(try replace q:=q.below hh);(try replace XA:=XA.below hh);(try replace XB:=XB.below hh);replace hb:=Qai hb hh)
  | (go_at_call 18;(with_reducible refine (QoK hSL (Each.pr hEL) t1.pr hLn (by decide) (by decide) (by decide) (by decide) true QoU).mono ?_);rintro e w_z ⟨rfl,hh⟩
     (try replace hSL:=hSL.below hh);(try replace hEL:=hEL.below hh);(try replace hSH:=hSH.below hh);(try replace hEH:=hEH.below hh);(try replace p:=p.below hh);(try replace q:=q.below hh);(try replace XA:=XA.below hh);(try replace XB:=XB.below hh);replace hb:=Qai hb hh;clear t1)
  | (go_at_call 18;(with_reducible refine (QoK hSL (Each.pr hEL) t2.pr hLn (by decide) (by decide) (by decide) (by decide) false Qo9).mono ?_);rintro e w_z ⟨rfl,hh⟩
     (try replace hSL:=hSL.below hh);(try replace hEL:=hEL.below hh);(try replace hSH:=hSH.below hh);(try replace hEH:=hEH.below hh);(try replace p:=p.below hh);(try replace q:=q.below hh);(try replace XA:=XA.below hh);(try replace XB:=XB.below hh);replace hb:=Qai hb hh;clear t2)
  | (go_at_call 31;(with_reducible refine (Qmb p.pr t3.pr (by decide) (by decide) (by decide) (by decide) true wk8_s0).mono ?_);rintro e w_z ⟨rfl,hh⟩
     (try replace hSL:=hSL.below hh);(try replace hEL:=hEL.below hh);(try replace hSH:=hSH.below hh);(try replace hEH:=hEH.below hh);(try replace p:=p.below hh);(try replace q:=q.below hh);(try replace XA:=XA.below hh);(try replace XB:=XB.below hh);replace hb:=Qai hb hh;clear t3)
  | (go_at_call 31;(with_reducible refine (Qmb q.pr t4.pr (by decide) (by decide) (by decide) (by decide) true wk8_s2).mono ?_);rintro e w_z ⟨rfl,hh⟩
     (try replace hSL:=hSL.below hh);(try replace hEL:=hEL.below hh);(try replace hSH:=hSH.below hh);(try replace hEH:=hEH.below hh);(try replace p:=p.below hh);(try replace q:=q.below hh);(try replace XA:=XA.below hh);(try replace XB:=XB.below hh);replace hb:=Qai hb hh;clear t4))
 go_wp2_with fail
 go_ret;exact ⟨rfl,hb⟩
end
section
open Go Go.RowKit
structure LV where
 s:Bool
 a:List Nat
 b:List Nat
 t:Bool
 c:List Nat
 d:List Nat
def PV.Lims (w:World) (p:PV) (q:LV):Prop:=p.s=q.s∧p.t=q.t∧(Rd .u64 w p.A p.n q.a∧p.n≤p.c)∧(Rd .u64 w p.B p.m q.b∧p.m≤p.d)∧(Rd .u64 w p.E p.i q.c∧p.i≤p.e)∧(Rd .u64 w p.F p.j q.d∧p.j≤p.f)
theorem PV.Lims.below {w w':World} {p:PV} {q:LV} (h:p.Lims w q) (hb:Below w.heap.size w w'):p.Lims w' q :=
 ⟨h.1,h.2.1,⟨h.2.2.1.1.below hb,h.2.2.1.2⟩,⟨h.2.2.2.1.1.below hb,h.2.2.2.1.2⟩,⟨h.2.2.2.2.1.1.below hb,h.2.2.2.2.1.2⟩,⟨h.2.2.2.2.2.1.below hb,h.2.2.2.2.2.2⟩⟩
theorem PV.Lims.box {T:TypeId} {g:Nat} {cs:Array Value} {w w':World} {p:PV} {q:LV} (h:p.Lims w q) (B:BoxAt T w g cs) (ho:Only g w w'):p.Lims w' q :=
 ⟨h.1,h.2.1,⟨h.2.2.1.1.only (B.offx h.2.2.1.1) ho,h.2.2.1.2⟩,⟨h.2.2.2.1.1.only (B.offx h.2.2.2.1.1) ho,h.2.2.2.1.2⟩,⟨h.2.2.2.2.1.1.only (B.offx h.2.2.2.2.1.1) ho,h.2.2.2.2.1.2⟩,⟨h.2.2.2.2.2.1.only (B.offx h.2.2.2.2.2.1) ho,h.2.2.2.2.2.2⟩⟩
def EachL (w:World) (L:List PV) (l:List LV):Prop:=L.length=l.length∧∀ (i:Nat) (p:PV) (q:LV),L[i]?=some p→l[i]?=some q→p.Lims w q
theorem EachL.nil:EachL w [] []:=⟨rfl,fun i p u h=>by cases h⟩
theorem EachL.imp {w w':World} {L:List PV} {l:List LV} (h:EachL w L l) (hw:∀ (p:PV) (q:LV),p.Lims w q→p.Lims w' q):EachL w' L l:=⟨h.1,fun i p u hp hu=>hw _ _ (h.2 i p u hp hu)⟩
theorem EachL.below {w w':World} {L:List PV} {l:List LV} (h:EachL w L l) (hb:Below w.heap.size w w'):EachL w' L l:=h.imp fun _ _ hp=>hp.below hb
theorem EachL.at_ {L:List PV} {l:List LV} (h:EachL w L l) {i:Nat} (hi:i < L.length):∃ p q,L[i]?=some p∧l[i]?=some q∧p.Lims w q :=
 ⟨_,_,List.getElem?_eq_getElem hi,List.getElem?_eq_getElem (by rw [← h.1];exact hi),h.2 i _ _ (List.getElem?_eq_getElem hi) (List.getElem?_eq_getElem (by rw [← h.1];exact hi))⟩
theorem EachL.push {w w':World} {L:List PV} {l:List LV} {p:PV} {q:LV} (h:EachL w L l) (hw:∀ (p:PV) (q:LV),p.Lims w q→p.Lims w' q) (hp:p.Lims w' q):EachL w' (L ++ [p]) (l ++ [q]):=by
 refine ⟨by rw [List.length_append,List.length_append,h.1];rfl,fun i r v hr hv=>?_⟩
 rcases Nat.lt_or_ge i L.length with hi | hi
 · rw [List.getElem?_append_left hi] at hr
   rw [List.getElem?_append_left (by rw [← h.1];exact hi)] at hv
   exact hw _ _ (h.2 i r v hr hv)
 · rw [List.getElem?_append_right hi] at hr
   rw [List.getElem?_append_right (by rw [← h.1];exact hi),← h.1] at hv
   match i - L.length,hr,hv with
   | 0,hr,hv=>cases hr;cases hv;exact hp
   | j+1,hr,hv=>cases hr
theorem EachL.take {M:List PV} {l:List LV} {m:Nat} {P:PV} {u:LV} (hu:l[m]?=some u) (h:EachL w (M ++ [P]) (l.take m ++ [u])):EachL w (M ++ [P]) (l.take (m+1)):=by
 obtain ⟨hm,hv⟩:=List.getElem?_eq_some_iff.1 hu
 rwa [List.take_succ_eq_append_getElem hm,hv]
theorem QnS {T:TypeId} {base:Nat} {w w':World} {v:Value} {M:List PV} (hn:Ln T base w v M) (hg:w.grownBy w' v.ownBlock):∀ (p:PV) (q:LV),p.Lims w q→p.Lims w' q:=fun p q hp=>by
 rcases hn.stays hg with h | ⟨g,cs,hB,_,ho⟩
 · exact hp.below h
 · exact hp.box hB ho
def PV.Nils (p:PV):Prop:=(p.A=none→p.c=0)∧(p.B=none→p.d=0)∧(p.E=none→p.e=0)∧(p.F=none→p.f=0)
def QqA (w:World) (l:List LV) (en:Ending) (w':World):Prop :=
 ∃ v L,en=.returned v∧Ln 29 w.heap.size w' v L∧EachL w' L l∧Below w.heap.size w w'
theorem QoN {p:PV} (h:p.Raw w):∃ q,p.Lims w q∧Lim B64 q.a∧Lim B64 q.b∧Lim B64 q.c∧Lim B64 q.d∧p.Nils:=by
 obtain ⟨z1,z2,z3,z4,h1,h2,h3,h4⟩:=h
 obtain ⟨l1,r1,t1,e1,_⟩:=h1.rd
 obtain ⟨l2,r2,t2,e2,_⟩:=h2.rd
 obtain ⟨l3,r3,t3,e3,_⟩:=h3.rd
 obtain ⟨l4,r4,t4,e4,_⟩:=h4.rd
 exact ⟨⟨p.s,l1,l2,p.t,l3,l4⟩,⟨rfl,rfl,⟨r1,e1⟩,⟨r2,e2⟩,⟨r3,e3⟩,⟨r4,e4⟩⟩,t1,t2,t3,t4,h1.nil,h2.nil,h3.nil,h4.nil⟩
theorem klinL {A:Option Addr} {n c:Nat} {L:List PV} {l:List LV} (hL:SV w A (pvs L)) (hE:EachL w L l) (hz:∀ p ∈ L,p.Nils) (hs:∀ p ∈ L,p.small 100000) (hn:L.length=n) (hm:n≤1000) :
 Calls Tryz.prog 9 #[.slice A n c] w (QqA w l):=by
 have HN:=Lib.hid hn
 have HLl:Hid (l.length=n):=hE.1.symm.trans hn
 have HL9:=Lib.hid hL;have E9:=Lib.hid hE;have HZ:=Lib.hid hz;have HS:=Lib.hid hs;clear hL hE hn hz hs
 go_enter Tryz.func9,Tryz.ntmps9
 go_wp2_with fail
 go_loopg [3,4] n (fun gk out ix wr=>∃ (M:List PV) (m:Nat),Hid (gk+m=n)∧ix=.int .i64 (m:Int)∧Ln 29 w.heap.size wr out M∧Hid (EachL wr M (l.take m))∧Below w.heap.size w wr)
 case atStart=>exact ⟨[],0,Nat.add_zero _,rfl,Ln.nil _ _ _,EachL.nil,Below.refl _ _⟩
 case round =>
  obtain ⟨M,m,HG,rfl,LT,HQ,hB⟩:=hrel
  by_cases hmn:m < n
  · obtain ⟨P,u,hP1,hu1,p0⟩:=(E9.out.below hB).at_ (i:=m) (by rw [HN.out];exact hmn)
    obtain ⟨g0,o0,hix0,EP,_⟩:=(HL9.out.below hB).pt hP1
    have hixa:∀ w',(Instr.indexAt 22 (.slice A n c) (.int .i64 (m:Int))).run Tryz.prog w'=.ok (.pointer (some ⟨g0,o0,none⟩)) w':=fun w'=>hix0 n c w' hmn
    have hlt:(m:Int) < (n:Int):=by omega
    have hwr:IntKind.i64.wrap ((m:Int)+1)=(m:Int)+1:=IntWalk.i64_in _ (by omega)
    have HU:=Lib.hid hu1
    have hMl:M.length≤1000000:=by have:=HQ.out.1;rw [List.length_take] at this;omega
    have HZ1:=Lib.hid (HZ.out P (List.mem_of_getElem? hP1))
    have HS1:=Lib.hid (HS.out P (List.mem_of_getElem? hP1))
    obtain ⟨s_x,A_x,n_x,c_x,B_x,m_x,d_x,t_x,E_x,i_x,e_x,F_x,j_x,f_x⟩:=P
    obtain ⟨sq,la,lb,tq,lc,ld⟩:=u
    obtain ⟨rfl,rfl,pa,pb,pc,pd⟩:=p0
    have PA:=Lib.hid pa;have PB:=Lib.hid pb;have PC:=Lib.hid pc;have PD:=Lib.hid pd;obtain ⟨e0,e1,e2,e3,e4,e5⟩:=EP.all
    simp only at e0 e1 e2 e3 e4 e5
    have hb:=hB;have HMN:=Lib.hid hmn;clear hP1 hu1 hix0 hmn pa pb pc pd
    go_wp2_with (first
     | (go_at_call 32;(refine (Qls PA.out.1 PB.out.1 PC.out.1 PD.out.1 HZ1.out.1 HZ1.out.2.1 HZ1.out.2.2.1 HZ1.out.2.2.2 ⟨HS1.out.1.1,HS1.out.1.2,HS1.out.2.1,HS1.out.2.2⟩).mono ?_);rintro e w_y ⟨A_y,n_y,c_y,B_y,m_y,d_y,E_y,i_y,e_y,F_y,j_y,f_y,rfl,ya,yb,yc,yd,hh⟩
        have Y:((PV.mk s_x A_y n_y c_y B_y m_y d_y t_x E_y i_y e_y F_y j_y f_y)).Lims w_y ⟨s_x,la,lb,t_x,lc,ld⟩:=⟨rfl,rfl,ya,yb,yc,yd⟩
        have Y9:=Lib.hid Y;clear Y ya yb yc yd;replace LT:=LT.below hh
        replace HQ:=Lib.hid (EachL.below HQ.out hh)
        replace hb:=Qai hb hh)
     | (at_builtin
        have hal:Below w_y.heap.size w_y (w_y.alloc (Obj.cells #[Value.bool s_x,Value.slice A_y n_y c_y,Value.slice B_y m_y d_y,Value.bool t_x,Value.slice E_y i_y e_y,Value.slice F_y j_y f_y] 29)):=(Below.refl _ _).alloc (Nat.le_refl _) _
        refine Qcr Tryz.underlying22 QfE rfl (.tmp 11) (.tmp 17) rfl (p:=(PV.mk s_x A_y n_y c_y B_y m_y d_y t_x E_y i_y e_y F_y j_y f_y)) (k0:=1) (b:=w_y.heap.size) rfl rfl (LT.below hal) (Nat.le_trans hb.size hal.size) hMl (heap_alloc_new w_y _) ?_
        intro v3 w3 hn3 hg3))
    have hE3:=EachL.below HQ.out hal;have hp3:=Y9.out.below hal
    have hst:=QnS (LT.below hal) hg3
    have hB9:=Ln.under (LT.below hal) hg3 (Qai hb hal) (Nat.le_refl _)
    go_roundg (gk - 1)
    case measure=>have:=HG.out;have:=HMN.out;omega
    case rel=>exact ⟨_,m+1,by have:=HG.out;have:=HMN.out;show _=_;omega,by go_num,hn3,EachL.take HU.out (EachL.push hE3 hst (hst _ _ hp3)),hB9⟩
  · have hlt:¬ (m:Int) < (n:Int):=by omega
    have HQ2:Hid (EachL wr M l):=by
     have h:=HQ.out
     rwa [List.take_of_length_le (by rw [HLl.out];omega)] at h
    clear hmn
    go_wp2_with fail
    (try rw [Exit.noGoto_ret])
    go_ret
    exact ⟨_,M,rfl,LT,HQ2.out,hB⟩
theorem Qpd {P Q:PV} {v:LV} (h:P.Lims w v) (h2:Q.Lims w v) (hs:P.small 100000) :
 Calls Tryz.prog 40 #[.agg #[.bool P.s,.slice P.A P.n P.c,.slice P.B P.m P.d,.bool P.t,.slice P.E P.i P.e,.slice P.F P.j P.f],.agg #[.bool Q.s,.slice Q.A Q.n Q.c,.slice Q.B Q.m Q.d,.bool Q.t,.slice Q.E Q.i Q.e,.slice Q.F Q.j Q.f]] w fun e w'=>e=.returned (.bool true)∧Below w.heap.size w w':=by
 obtain ⟨s1,t1,a1,b1,c1,d1⟩:=h
 obtain ⟨s2,t2,a2,b2,c2,d2⟩:=h2
 have M:100000≤maxLen:=by decide
 refine (pts_t (s_p:=P.s) (s_q:=Q.s) a1.1 b1.1 c1.1 d1.1 a2.1 b2.1 c2.1 d2.1 ⟨Nat.le_trans hs.1.1 M,Nat.le_trans hs.1.2 M,Nat.le_trans hs.2.1 M,Nat.le_trans hs.2.2 M⟩ (by rw [s1,s2];simp)).mono ?_
 rintro e w' ⟨rfl,hh⟩
 exact ⟨by rw [t1,t2];simp,hh⟩
theorem QgZ {A B:Option Addr} {n c d:Nat} {La Lb:List PV} {l:List LV} (hA:SV w A (pvs La)) (hB0:SV w B (pvs Lb)) (ea:EachL w La l) (eb:EachL w Lb l) (hs:∀ p ∈ La,p.small 100000) (hn:La.length=n) (hm:n≤1000) :
 Calls Tryz.prog 21 #[.slice A n c,.slice B n d] w fun e w'=>e=.returned (.bool true)∧Below w.heap.size w w':=by
 have H1:=Lib.hid hn
 have H2:Hid (Lb.length=n):=eb.1.trans (ea.1.symm.trans hn)
 have HA:=Lib.hid hA;have HB:=Lib.hid hB0;have EA:=Lib.hid ea;have EB:=Lib.hid eb;have HS:=Lib.hid hs;clear hn hA hB0 ea eb hs
 go_enter Tryz.func21,Tryz.ntmps21
 go_wp2_with fail
 go_loopg [5] n (fun gk ix wr=>∃ m:Nat,Hid (gk+m=n)∧ix=.int .i64 (m:Int)∧Below w.heap.size w wr)
 case atStart=>exact ⟨0,Nat.add_zero _,rfl,Below.refl _ _⟩
 case round =>
  obtain ⟨m,HG,rfl,hB⟩:=hrel
  by_cases hmn:m < n
  · have HMN:=Lib.hid hmn
    obtain ⟨P,u,hP,hu,x⟩:=(EA.out.below hB).at_ (i:=m) (by rw [H1.out];exact hmn)
    obtain ⟨Q,u2,hQ,hu2,y⟩:=(EB.out.below hB).at_ (i:=m) (by rw [H2.out];exact hmn)
    obtain rfl:u=u2:=Option.some.inj (hu.symm.trans hu2)
    obtain ⟨g0,o0,hix0,EP,_⟩:=(HA.out.below hB).pt hP
    obtain ⟨g1,o1,hix1,EQ,_⟩:=(HB.out.below hB).pt hQ
    have hixa:∀ w',(Instr.indexAt 22 (.slice A n c) (.int .i64 (m:Int))).run Tryz.prog w'=.ok (.pointer (some ⟨g0,o0,none⟩)) w':=fun w'=>hix0 n c w' hmn
    have hixb:∀ w',(Instr.indexAt 22 (.slice B n d) (.int .i64 (m:Int))).run Tryz.prog w'=.ok (.pointer (some ⟨g1,o1,none⟩)) w':=fun w'=>hix1 n d w' hmn
    have hlt:(m:Int) < (n:Int):=by omega
    have hwr:IntKind.i64.wrap ((m:Int)+1)=(m:Int)+1:=IntWalk.i64_in _ (by omega)
    have HS1:=Lib.hid (HS.out P (List.mem_of_getElem? hP))
    have X:=Lib.hid x;have Y:=Lib.hid y;have hb:=hB;clear hP hQ hu hu2 hix0 hix1 hmn x y
    go_upto_region 6 with (fail)
    replace X:=Lib.hid (X.out.below (Below.refl _ _).drew)
    replace Y:=Lib.hid (Y.out.below (Below.refl _ _).drew)
    replace EP:=EP.below (Below.refl _ _).drew
    replace EQ:=EQ.below (Below.refl _ _).drew
    replace hb:=hb.drew
    go_region_held3 (fun w'=>w'.cell? ⟨g0,o0,none⟩=some (.bool P.s)∧w'.cell? ⟨g0,o0+1,none⟩=some (.slice P.A P.n P.c)∧w'.cell? ⟨g0,o0+2,none⟩=some (.slice P.B P.m P.d)∧w'.cell? ⟨g0,o0+3,none⟩=some (.bool P.t)∧w'.cell? ⟨g0,o0+4,none⟩=some (.slice P.E P.i P.e)∧w'.cell? ⟨g0,o0+5,none⟩=some (.slice P.F P.j P.f)∧w'.cell? ⟨g1,o1,none⟩=some (.bool Q.s)∧w'.cell? ⟨g1,o1+1,none⟩=some (.slice Q.A Q.n Q.c)∧w'.cell? ⟨g1,o1+2,none⟩=some (.slice Q.B Q.m Q.d)∧w'.cell? ⟨g1,o1+3,none⟩=some (.bool Q.t)∧w'.cell? ⟨g1,o1+4,none⟩=some (.slice Q.E Q.i Q.e)∧w'.cell? ⟨g1,o1+5,none⟩=some (.slice Q.F Q.j Q.f))
     (first | with_reducible exact ⟨EP.c0,EP.c1,EP.c2,EP.c3,EP.c4,EP.c5,EQ.c0,EQ.c1,EQ.c2,EQ.c3,EQ.c4,EQ.c5⟩)
     (first
     | (go_at_call 40;(with_reducible refine (Qpd X.out Y.out HS1.out).mono ?_);rintro e w_z ⟨rfl,hh⟩
        (try replace EP:=EP.below hh);(try replace EQ:=EQ.below hh);replace hb:=Qai hb hh))
    go_wp2_with fail
    go_roundg (gk - 1)
    case measure=>have:=HG.out;have:=HMN.out;omega
    case rel=>exact ⟨m+1,by have:=HG.out;have:=HMN.out;show _=_;omega,by go_num,hb⟩
  · have hlt:¬ (m:Int) < (n:Int):=by omega
    clear hmn
    go_wp2_with fail
    go_ret
    exact ⟨rfl,hB⟩
end
section
open Go Go.RowKit
theorem Qhq {A:Option Addr} {n c N:Nat} {NI:Int} (hNI:NI=(N:Int)) {L:List PV} (hL:SV w A (pvs L)) (hn:L.length=n) (hm:N≤100000) (hnc:n≤c) (hN:n≤N) (h:∀ p ∈ L,p.small 4) :
 Calls Tryz.prog 5 #[.slice A n c,.int .i64 NI] w fun e w'=>e=.returned (.bool true)∧Below w.heap.size w w':=QmR hNI hL hn hm hnc hN true ⟨fun _=>h,fun _=>rfl⟩
theorem Qog {A:Option Addr} {n c N:Nat} {NI:Int} (hNI:NI=(N:Int)) {L:List PV} (hL:SV w A (pvs L)) (hn:L.length=n) (hm:N≤100000) (hnc:n≤c) (hN:n≤N) (h:¬ ∀ p ∈ L,p.small 4) :
 Calls Tryz.prog 5 #[.slice A n c,.int .i64 NI] w fun e w'=>e=.returned (.bool false)∧Below w.heap.size w w':=QmR hNI hL hn hm hnc hN false ⟨fun e=>by (cases e),fun e=>absurd e h⟩
def LV.ok (q:LV):Prop:=(Lim B64 q.a∧Lim B64 q.b∧Lim B64 q.c∧Lim B64 q.d)∧(q.a.length≤4∧q.b.length≤4)∧q.c.length≤4∧q.d.length≤4
def LV.val (q:LV):Rat × Rat:=(mkRat (iv q.s (Go.Proofs.YtgfcofecdhodcaaGreat.val B64 q.a)) (QaY (Go.Proofs.YtgfcofecdhodcaaGreat.val B64 q.b)),mkRat (iv q.t (Go.Proofs.YtgfcofecdhodcaaGreat.val B64 q.c)) (QaY (Go.Proofs.YtgfcofecdhodcaaGreat.val B64 q.d)))
theorem PV.Lims.pr {p:PV} {q:LV} (h:p.Lims w q) (ho:q.ok):p.PR w q.val 4:=by
 obtain ⟨h1,h2,⟨ra,ea⟩,⟨rb,eb⟩,⟨rc,ec⟩,⟨rd,ed⟩⟩:=h
 obtain ⟨⟨la,lb,lc,ld⟩,⟨na,nb⟩,nc,nd⟩:=ho
 have xa:=ra.1;have xb:=rb.1;have xc:=rc.1;have xd:=rd.1
 obtain ⟨s,A,n,c,B,m,d,t,E,i,e,F,j,f⟩:=p
 obtain rfl:s=q.s:=h1
 obtain rfl:t=q.t:=h2
 exact ⟨QR.of_rd ra la ea rb lb eb (Nat.le_trans (Nat.le_of_eq xa.symm) na) (Nat.le_trans (Nat.le_of_eq xb.symm) nb),QR.of_rd rc lc ec rd ld ed (Nat.le_trans (Nat.le_of_eq xc.symm) nc) (Nat.le_trans (Nat.le_of_eq xd.symm) nd)⟩
theorem EachL.pr {L:List PV} {l:List LV} (h:EachL w L l) (ho:∀ q ∈ l,q.ok):Each PV.PR w L (l.map LV.val) 4 :=
 ⟨by rw [List.length_map];exact h.1,fun i p u hp hu=>by
  rw [List.getElem?_map] at hu
  cases hq:l[i]? with
  | none=>rw [hq] at hu;cases hu
  | some q =>
    rw [hq] at hu
    obtain rfl:q.val=u:=by simpa using hu
    exact (h.2 i p q hp hq).pr (ho q (List.mem_of_getElem? hq))⟩
theorem Qis:∀ {L:List PV},(∀ q ∈ L,q.Raw w)→(∀ q ∈ L,q.small 4)→∃ l:List LV,EachL w L l∧(∀ q ∈ l,q.ok)∧∀ p ∈ L,p.Nils
 | [],_,_=>⟨[],EachL.nil,(fun q h=>by cases h),(fun q h=>by cases h)⟩
 | p :: L,hR,hS=>by
   obtain ⟨l,h1,h2,h3⟩:=Qis (L:=L) (fun q h=>hR q (List.mem_cons_of_mem _ h)) (fun q h=>hS q (List.mem_cons_of_mem _ h))
   obtain ⟨q,g1,ga,gb,gc,gd,g3⟩:=QoN (hR p (List.mem_cons_self ..))
   have hs:=hS p (List.mem_cons_self ..)
   have xa:=g1.2.2.1.1.1;have xb:=g1.2.2.2.1.1.1;have xc:=g1.2.2.2.2.1.1.1;have xd:=g1.2.2.2.2.2.1.1
   unfold PV.small at hs
   refine ⟨q :: l,⟨by rw [List.length_cons,List.length_cons,h1.1],fun i r v hr hv=>?_⟩,fun v hv=>?_,fun v hv=>?_⟩
   · match i,hr,hv with
     | 0,hr,hv=>cases hr;cases hv;exact g1
     | i+1,hr,hv=>exact h1.2 i r v hr hv
   · rcases List.mem_cons.1 hv with rfl | hv
     · exact ⟨⟨ga,gb,gc,gd⟩,⟨by omega,by omega⟩,by omega,by omega⟩
     · exact h2 v hv
   · rcases List.mem_cons.1 hv with rfl | hv
     · exact g3
     · exact h3 v hv
theorem Qkk {L:List PV} (h:∀ p ∈ L,p.small 4):∀ p ∈ L,p.small 100000:=fun p hp=>by
 have:=h p hp
 unfold PV.small at this ⊢
 omega
theorem EachL.small {L:List PV} {l:List LV} (h:EachL w L l) (ho:∀ q ∈ l,q.ok):∀ p ∈ L,p.small 100000:=fun p hp=>by
 obtain ⟨i,hi⟩:=List.getElem?_of_mem hp
 have hlt:=(List.getElem?_eq_some_iff.1 hi).1
 obtain ⟨p2,q,h1,h2,h3⟩:=h.at_ hlt
 rw [hi] at h1
 cases h1
 have hq:=ho q (List.mem_of_getElem? h2)
 have xa:=h3.2.2.1.1.1;have xb:=h3.2.2.2.1.1.1;have xc:=h3.2.2.2.2.1.1.1;have xd:=h3.2.2.2.2.2.1.1
 obtain ⟨_,⟨na,nb⟩,nc,nd⟩:=hq
 unfold PV.small
 omega
end
section
open Go Go.RowKit
def Qgw (r:List (Rat × Rat)):Nat→Rat
 | 0=>Rat.divInt 0 1
 | m+1=>Qgw r m+Qky (r.getD m (0,0)) (r.getD (m+1) (0,0))
theorem Qkw {r:List (Rat × Rat)} {m:Nat} {u v:Rat × Rat} (hu:r[m]?=some u) (hv:r[m+1]?=some v):Qgw r (m+1)=Qgw r m+Qky u v:=by
 rw [Qgw,List.getD_eq_getElem?_getD,List.getD_eq_getElem?_getD,hu,hv];rfl
theorem QpL {A:Option Addr} {n c k:Nat} {L:List PV} {l:List (Rat × Rat)} (hL:SV w A (pvs L)) (hE:Each PV.RP w L l k) (hn:L.length=n) (hm:n≤1000) (hk:k≤60) (hb9:2+n*(k+k+(k+k)+2)≤9000) :
 Calls Tryz.prog 15 #[.slice A n c] w (Qa4 w (Qgw (Qas l) n*Rat.divInt 1 2) (2+n*(k+k+(k+k)+2)+2)):=by
 have HN:=Lib.hid hn;have HB:=Lib.hid hb9
 have HNl:Hid (l.length=n):=hE.1.symm.trans hn
 clear hn hb9
 go_enter Tryz.func15,Tryz.ntmps15
 go_upto_region 1 with (fail)
 generalize hW:World.alloc _ _=W
 obtain ⟨hb,Z,hzW⟩:=QdX hW;clear hW;replace hL:=hL.below hb;replace hE:=hE.belowR hb
 go_wp2_with (first
  | (go_at_call 49;(with_reducible refine (rof3 0 1 (by decide) (by decide) (by decide) (by decide) (by decide) _).mono ?_);rintro e w_s ⟨s_s,A_s,n_s,c_s,B_s,m_s,d_s,rfl,s,hh⟩
     (try replace hL:=hL.below hh);(try replace Z:=Z.below hh);replace hb:=Qai hb hh;replace hE:=hE.belowR hh))
 have HL9:=Lib.hid hL;have E9:=Lib.hid hE;have Z9:=Lib.hid Z;have hb0:=hb;clear hL hE Z
 generalize hW:World.alloc _ _=W2
 obtain ⟨hh,XS,hzW2⟩:=QdX hW;clear hW;(try replace s:=s.below hh);replace hb:=Qai hb hh
 go_loopg [4] n (fun gk ix wr=>∃ (s9:Bool) (A9:Option Addr) (n9 c9:Nat) (B9:Option Addr) (m9 d9 m:Nat),Hid (gk+m=n)∧ix=.int .i64 (m:Int)∧B3R wr w_s.heap.size (.bool s9) (.slice A9 n9 c9) (.slice B9 m9 d9)∧Hid (RQ wr s9 A9 n9 c9 B9 m9 d9 (Qgw (Qas l) m) (2+m*(k+k+(k+k)+2)))∧Below w_s.heap.size w_s wr)
 case atStart=>exact ⟨_,_,_,_,_,_,_,0,Nat.add_zero _,rfl,XS,Lib.hid (s.more (by omega)),hh⟩
 case round =>
  obtain ⟨s9,A9,n9,c9,B9,m9,d9,m,HG,rfl,XS,HS,hB⟩:=hrel
  by_cases hmn:m < n
  · have HMN:=Lib.hid hmn
    obtain ⟨P,u,hP1,hu1,p0⟩:=(Each.belowR E9.out hB).at_ (i:=m) (by rw [HN.out];exact hmn)
    obtain ⟨Q,v,hP2,hu2,q0⟩:=(Each.belowR E9.out hB).at_ (i:=(m+1) % n) (by rw [HN.out];exact Nat.mod_lt _ (by omega))
    obtain ⟨g0,o0,hix0,Ep0,_⟩:=HL9.out.rpt hP1
    obtain ⟨g1,o1,hix1,Eq0,_⟩:=HL9.out.rpt hP2
    have hixa:∀ w',(Instr.indexAt 33 (.slice A n c) (.int .i64 (m:Int))).run Tryz.prog w'=.ok (.pointer (some ⟨g0,o0,none⟩)) w':=fun w'=>hix0 n c w' hmn
    have hixb:∀ w',(Instr.indexAt 33 (.slice A n c) (.int .i64 (((m:Int)+1).tmod (n:Int)))).run Tryz.prog w'=.ok (.pointer (some ⟨g1,o1,none⟩)) w':=fun w'=>by rw [Qgb];exact hix1 n c w' (Nat.mod_lt _ (by omega))
    have hixm:∀ w',(Instr.indexAt 33 (.slice A n c) (.int .i64 (((m:Int)+1) % (n:Int)))).run Tryz.prog w'=.ok (.pointer (some ⟨g1,o1,none⟩)) w':=fun w'=>by rw [← Int.tmod_eq_emod_of_nonneg (by omega)];exact hixb w'
    have hwr:IntKind.i64.wrap ((m:Int)+1)=(m:Int)+1:=IntWalk.i64_in _ (by omega)
    have hlt:(m:Int) < (n:Int):=by omega
    have hn0:¬ (n:Int)=0:=by omega
    have hg0:g0 ≠ w_s.heap.size:=by have:=Ep0.lt;omega
    have hg1:g1 ≠ w_s.heap.size:=by have:=Eq0.lt;omega
    have HF:=Lib.hid (Qkw (r:=Qas l) (m:=m) (u:=u) (v:=v) ((QcE (by rw [HNl.out];exact hmn)).trans hu1) (by rw [QfI (by rw [HNl.out];exact hmn),HNl.out];exact hu2))
    have hkb:Hid (2+m*(k+k+(k+k)+2)≤9000):=by
     have h9:=HB.out
     have h8:m*(k+k+(k+k)+2)≤n*(k+k+(k+k)+2):=Nat.mul_le_mul_right _ (by omega)
     show _≤_
     omega
    obtain ⟨ux,uy⟩:=u
    obtain ⟨vx,vy⟩:=v
    obtain ⟨s_p,A_p,n_p,c_p,B_p,m_p,d_p,t_p,E_p,i_p,e_p,F_p,j_p,f_p⟩:=P
    obtain ⟨s_q,A_q,n_q,c_q,B_q,m_q,d_q,t_q,E_q,i_q,e_q,F_q,j_q,f_q⟩:=Q
    replace p0:RP wr s_p A_p n_p c_p B_p m_p d_p t_p E_p i_p e_p F_p j_p f_p ux uy k:=p0
    replace q0:RP wr s_q A_q n_q c_q B_q m_q d_q t_q E_q i_q e_q F_q j_q f_q vx vy k:=q0
    have Ep:=Ep0.below hB;have Eq:=Eq0.below hB;have x0:=HS.out;clear hP1 hP2 hu1 hu2 hix0 hix1 hmn Ep0 Eq0;obtain ⟨e0,e1,e2,e3,e4,e5⟩:=Ep.all;obtain ⟨f0,f1,f2,f3,f4,f5⟩:=Eq.all
    simp only at e0 e1 e2 e3 e4 e5 f0 f1 f2 f3 f4 f5
    obtain ⟨y0,y1,y2⟩:=XS.all
    go_upto_region 4 with (fail)
    replace p0:=RP.below p0 (Below.refl _ _).drew
    replace q0:=RP.below q0 (Below.refl _ _).drew
    replace x0:=RQ.below x0 (Below.refl _ _).drew
    replace XS:=XS.below (Below.refl _ _).drew
    replace Ep:=Ep.below (Below.refl _ _).drew
    replace Eq:=Eq.below (Below.refl _ _).drew
    replace hB:=hB.drew
    go_region_with (first
     | (go_at_call 51;(with_reducible refine (Qmz p0 q0 (by omega) (by omega)).mono ?_);rintro e w_d ⟨s_d,A_d,n_d,c_d,B_d,m_d,d_d,rfl,d,hh⟩
        (try replace XS:=XS.below hh);(try replace Ep:=Ep.below hh);(try replace Eq:=Eq.below hh);(try replace x0:=x0.below hh);replace hB:=Qai hB hh;have e0:=Ep.c0;have f0:=Eq.c0;have e1:=Ep.c1;have f1:=Eq.c1;have e2:=Ep.c2;have f2:=Eq.c2;have e3:=Ep.c3;have f3:=Eq.c3;have e4:=Ep.c4;have f4:=Eq.c4;have e5:=Ep.c5;have f5:=Eq.c5
        simp only at e0 e1 e2 e3 e4 e5 f0 f1 f2 f3 f4 f5
        have y0:=XS.c0;have v0:=XS.f0;have y1:=XS.c1;have v1:=XS.f1;have y2:=XS.c2;have v2:=XS.f2)
     | (go_at_call 50;(with_reducible refine (radd3 x0 d (Nat.le_trans hkb.out (by decide)) (by omega)).mono ?_);rintro e w_r ⟨s_r,A_r,n_r,c_r,B_r,m_r,d_r,rfl,r,hh⟩
        (try replace XS:=XS.below hh);(try replace Ep:=Ep.below hh);(try replace Eq:=Eq.below hh);(try replace x0:=x0.below hh);(try replace d:=d.below hh);replace hB:=Qai hB hh;have e0:=Ep.c0;have f0:=Eq.c0;have e1:=Ep.c1;have f1:=Eq.c1;have e2:=Ep.c2;have f2:=Eq.c2;have e3:=Ep.c3;have f3:=Eq.c3;have e4:=Ep.c4;have f4:=Eq.c4;have e5:=Ep.c5;have f5:=Eq.c5
        simp only at e0 e1 e2 e3 e4 e5 f0 f1 f2 f3 f4 f5
        have y0:=XS.c0;have v0:=XS.f0;have y1:=XS.c1;have v1:=XS.f1;have y2:=XS.c2;have v2:=XS.f2))
    all_goals
     have XS2:=XS.set3 (.bool s_r) (.slice A_r n_r c_r) (.slice B_r m_r d_r)
     have r2:=r.set3 XS (.bool s_r) (.slice A_r n_r c_r) (.slice B_r m_r d_r)
     have hB2:=Qak hB (Nat.le_refl w_s.heap.size) (.bool s_r) (.slice A_r n_r c_r) (.slice B_r m_r d_r)
     go_wp2_with fail
     go_roundg (gk - 1)
     case measure=>have:=HG.out;have:=HMN.out;omega
     case rel=>exact ⟨_,_,_,_,_,_,_,m+1,by have:=HG.out;have:=HMN.out;show _=_;omega,by go_num,XS2,by
      rw [HF.out]
      exact Lib.hid (r2.more (by have h9:(m+1)*(k+k+(k+k)+2)=m*(k+k+(k+k)+2)+(k+k+(k+k)+2):=Nat.succ_mul _ _;omega)),hB2⟩
  · have hlt:¬ (m:Int) < (n:Int):=by omega
    obtain rfl:m=n:=by have:=HG.out;omega
    have x0:=HS.out;have Z:=Z9.out.below hB
    have hgz:w_s.heap.size ≠ w.heap.size:=Nat.ne_of_gt (B3R.lt Z9.out)
    clear hmn
    go_upto_region 6 with (fail)
    replace x0:=RQ.below x0 (Below.refl _ _).drew
    replace XS:=XS.below (Below.refl _ _).drew
    replace Z:=Z.below (Below.refl _ _).drew
    replace hB:=hB.drew
    go_region_held3 (fun w'=>w'.cell? ⟨w_s.heap.size,0,none⟩=some (.bool s9)∧w'.cell? ⟨w_s.heap.size,1,none⟩=some (.slice A9 n9 c9)∧w'.cell? ⟨w_s.heap.size,2,none⟩=some (.slice B9 m9 d9))
     (first | with_reducible exact ⟨XS.c0,XS.c1,XS.c2⟩ | with_reducible exact ⟨(Qac _ _ _ _ _ _ _ hgz).trans XS.c0,(Qac _ _ _ _ _ _ _ hgz).trans XS.c1,(Qac _ _ _ _ _ _ _ hgz).trans XS.c2⟩)
     (first
     | (go_at_call 49;(with_reducible refine (rof3 1 2 (by decide) (by decide) (by decide) (by decide) (by decide) _).mono ?_);rintro e w_h ⟨s_h,A_h,n_h,c_h,B_h,m_h,d_h,rfl,h,hh⟩
        (try replace XS:=XS.below hh);(try replace Z:=Z.below hh);(try replace x0:=x0.below hh);replace hB:=Qai hB hh;obtain ⟨z0,z1,z2⟩:=Z.all;have zf0:=Z.f0;have zf1:=Z.f1;have zf2:=Z.f2)
     | (go_at_call 52;(with_reducible refine (Qq6 x0 h (Nat.le_trans HB.out (by decide)) (by decide)).mono ?_);rintro e w_t ⟨s_t,A_t,n_t,c_t,B_t,m_t,d_t,rfl,t,hh⟩
        (try replace XS:=XS.below hh);(try replace Z:=Z.below hh);replace hB:=Qai hB hh;obtain ⟨z0,z1,z2⟩:=Z.all;have zf0:=Z.f0;have zf1:=Z.f1;have zf2:=Z.f2))
    have Z2:=Z.set3 (.bool s_t) (.slice A_t n_t c_t) (.slice B_t m_t d_t)
    obtain ⟨g0,g1,g2⟩:=Z2.all
    (try rw [Exit.noGoto_ret])
    go_wp2_with fail
    refine bodyPost_ret (v:=.agg #[.bool s_t,.slice A_t n_t c_t,.slice B_t m_t d_t]) (by simp [results,Tryz.results15,go_sem,g0,g1,g2]) rfl ?_
    have hB3:Below w.heap.size w w_t:=Qai hb0 hB
    exact ⟨_,_,_,_,_,_,_,rfl,t.set3 Z _ _ _,Qak hB3 (Nat.le_refl _) _ _ _⟩
end
section
open Go Go.RowKit
theorem cmp_lt8 {x y:Rat}:Qco x y < 0 ↔ x < y:=by
 unfold Qco
 split
 · rename_i h;exact ⟨fun _=>h,fun _=>by decide⟩
 · rename_i h
   split
   · exact ⟨fun h2=>by omega,fun h2=>absurd h2 h⟩
   · exact ⟨fun h2=>by omega,fun h2=>absurd h2 h⟩
theorem Qg9 {ax ay bx by_ cx cy:Rat} {K:Int} (h:Qb3 ((bx - ax)*(cy - ay) - (by_ - ay)*(cx - ax))=K):0≤QcH ax ay bx by_ cx cy ↔ 0≤K:=by
 rw [← h,Qfy]
 unfold QcH
 constructor
 · intro h1
   rcases Decidable.em ((bx - ax)*(cy - ay) < (by_ - ay)*(cx - ax)) with h2 | h2
   · have:=cmp_lt8.2 h2;omega
   · grind
 · intro h1
   rcases Decidable.em (Qco ((bx - ax)*(cy - ay)) ((by_ - ay)*(cx - ax)) < 0) with h2 | h2
   · have:=cmp_lt8.1 h2;grind
   · omega
theorem rhas8 {A:Option Addr} {n c k:Nat} {L:List PV} {l:List (Rat × Rat)} {px py:Rat} (hL:SV w A (pvs L)) (hE:Each PV.RP w L l k) (r:RP w s_r A_r n_r c_r B_r m_r d_r t_r E_r i_r e_r F_r j_r f_r px py k) (hn:L.length=n) (hm:n≤1000) (hk:k≤60) (R:Bool) (hR0:R=true ↔ Qn6 l px py) :
 Calls Tryz.prog 19 #[.slice A n c,.agg #[.bool s_r,.slice A_r n_r c_r,.slice B_r m_r d_r,.bool t_r,.slice E_r i_r e_r,.slice F_r j_r f_r]] w fun e w'=>e=.returned (.bool R)∧Below w.heap.size w w':=by
 have HN:=Lib.hid hn;have HR0:=Lib.hid hR0
 have HNl:Hid (l.length=n):=hE.1.symm.trans hn
 clear hn hR0
 go_enter Tryz.func19,Tryz.ntmps19
 go_upto_region 1 with (fail)
 generalize hW:World.alloc _ _=W
 obtain ⟨hb,XR,hzW⟩:=QiI hW;clear hW;replace hL:=hL.below hb;replace r:=r.below hb;replace hE:=hE.belowR hb
 go_wp2_with fail
 have HL9:=Lib.hid hL;have E9:=Lib.hid hE;have R9:=Lib.hid r;have XR9:=Lib.hid XR;have hb0:=hb;clear hL hE r XR
 go_loopg [5] n (fun gk ix wr=>∃ (m:Nat),Hid (gk+m=n)∧ix=.int .i64 (m:Int)∧Hid (∀ i,i < m→∀ u v,(Qas l)[i]?=some u→(Qas l)[i+1]?=some v→0≤QcH u.1 u.2 v.1 v.2 px py)∧Below W.heap.size W wr)
 case atStart=>exact ⟨0,Nat.add_zero _,rfl,fun i hi=>absurd hi (by omega),Below.refl _ _⟩
 case round =>
  obtain ⟨m,HG,rfl,HS,hB⟩:=hrel
  by_cases hmn:m < n
  · have HMN:=Lib.hid hmn
    obtain ⟨P,u,hP1,hu1,p0⟩:=(Each.belowR E9.out hB).at_ (i:=m) (by rw [HN.out];exact hmn)
    obtain ⟨Q,v,hP2,hu2,q0⟩:=(Each.belowR E9.out hB).at_ (i:=(m+1) % n) (by rw [HN.out];exact Nat.mod_lt _ (by omega))
    obtain ⟨g0,o0,hix0,Ep0,_⟩:=HL9.out.rpt hP1
    obtain ⟨g1,o1,hix1,Eq0,_⟩:=HL9.out.rpt hP2
    have hixa:∀ w',(Instr.indexAt 33 (.slice A n c) (.int .i64 (m:Int))).run Tryz.prog w'=.ok (.pointer (some ⟨g0,o0,none⟩)) w':=fun w'=>hix0 n c w' hmn
    have hixb:∀ w',(Instr.indexAt 33 (.slice A n c) (.int .i64 (((m:Int)+1).tmod (n:Int)))).run Tryz.prog w'=.ok (.pointer (some ⟨g1,o1,none⟩)) w':=fun w'=>by rw [Qgb];exact hix1 n c w' (Nat.mod_lt _ (by omega))
    have hixm:∀ w',(Instr.indexAt 33 (.slice A n c) (.int .i64 (((m:Int)+1) % (n:Int)))).run Tryz.prog w'=.ok (.pointer (some ⟨g1,o1,none⟩)) w':=fun w'=>by rw [← Int.tmod_eq_emod_of_nonneg (by omega)];exact hixb w'
    have hwr:IntKind.i64.wrap ((m:Int)+1)=(m:Int)+1:=IntWalk.i64_in _ (by omega)
    have hlt:(m:Int) < (n:Int):=by omega
    have hn0:¬ (n:Int)=0:=by omega
    have hn00:¬ n=0:=by omega
    have HU:=Lib.hid ((QcE (by rw [HNl.out];exact hmn)).trans hu1)
    have HV:=Lib.hid (show (Qas l)[m+1]?=some v by rw [QfI (by rw [HNl.out];exact hmn),HNl.out];exact hu2)
    obtain ⟨ux,uy⟩:=u
    obtain ⟨vx,vy⟩:=v
    obtain ⟨s_p,A_p,n_p,c_p,B_p,m_p,d_p,t_p,E_p,i_p,e_p,F_p,j_p,f_p⟩:=P
    obtain ⟨s_q,A_q,n_q,c_q,B_q,m_q,d_q,t_q,E_q,i_q,e_q,F_q,j_q,f_q⟩:=Q
    replace p0:RP wr s_p A_p n_p c_p B_p m_p d_p t_p E_p i_p e_p F_p j_p f_p ux uy k:=p0
    replace q0:RP wr s_q A_q n_q c_q B_q m_q d_q t_q E_q i_q e_q F_q j_q f_q vx vy k:=q0
    have Ep:=Ep0.below hB;have Eq:=Eq0.below hB;have XR:=XR9.out.below hB;have r:=RP.below R9.out hB
    obtain ⟨K,hK⟩:∃ K,Qb3 ((vx - ux)*(py - uy) - (vy - uy)*(px - ux))=K:=⟨_,rfl⟩
    have HK:=Lib.hid hK;clear hP1 hP2 hu1 hu2 hix0 hix1 hmn Ep0 Eq0 hK
    go_upto_region 4 with (fail)
    replace p0:=RP.below p0 (Below.refl _ _).drew
    replace q0:=RP.below q0 (Below.refl _ _).drew
    replace r:=RP.below r (Below.refl _ _).drew
    replace XR:=XR.below (Below.refl _ _).drew
    replace Ep:=Ep.below (Below.refl _ _).drew
    replace Eq:=Eq.below (Below.refl _ _).drew
    replace hB:=hB.drew
    go_region_held3 (fun w'=>w'.cell? ⟨g0,o0,none⟩=some (.bool s_p)∧w'.cell? ⟨g0,o0+1,none⟩=some (.slice A_p n_p c_p)∧w'.cell? ⟨g0,o0+2,none⟩=some (.slice B_p m_p d_p)∧w'.cell? ⟨g0,o0+3,none⟩=some (.bool t_p)∧w'.cell? ⟨g0,o0+4,none⟩=some (.slice E_p i_p e_p)∧w'.cell? ⟨g0,o0+5,none⟩=some (.slice F_p j_p f_p)∧w'.cell? ⟨g1,o1,none⟩=some (.bool s_q)∧w'.cell? ⟨g1,o1+1,none⟩=some (.slice A_q n_q c_q)∧w'.cell? ⟨g1,o1+2,none⟩=some (.slice B_q m_q d_q)∧w'.cell? ⟨g1,o1+3,none⟩=some (.bool t_q)∧w'.cell? ⟨g1,o1+4,none⟩=some (.slice E_q i_q e_q)∧w'.cell? ⟨g1,o1+5,none⟩=some (.slice F_q j_q f_q)∧w'.cell? ⟨w.heap.size,0,none⟩=some (.bool s_r)∧w'.cell? ⟨w.heap.size,1,none⟩=some (.slice A_r n_r c_r)∧w'.cell? ⟨w.heap.size,2,none⟩=some (.slice B_r m_r d_r)∧w'.cell? ⟨w.heap.size,3,none⟩=some (.bool t_r)∧w'.cell? ⟨w.heap.size,4,none⟩=some (.slice E_r i_r e_r)∧w'.cell? ⟨w.heap.size,5,none⟩=some (.slice F_r j_r f_r))
     (first | with_reducible exact ⟨Ep.c0,Ep.c1,Ep.c2,Ep.c3,Ep.c4,Ep.c5,Eq.c0,Eq.c1,Eq.c2,Eq.c3,Eq.c4,Eq.c5,XR.c0,XR.c1,XR.c2,XR.c3,XR.c4,XR.c5⟩)
     (first
     | (go_at_call 56;(with_reducible refine (Qh0 p0 q0 r (by omega) K HK.out).mono ?_);rintro e w_o ⟨rfl,hh⟩
        (try replace XR:=XR.below hh);(try replace Ep:=Ep.below hh);(try replace Eq:=Eq.below hh);(try replace p0:=p0.below hh);(try replace q0:=q0.below hh);(try replace r:=r.below hh);replace hB:=Qai hB hh))
    by_cases hK2:K < 0
    · have HF : Hid (false = R) := by
        show _=_
        cases R with
        | false=>rfl
        | true =>
          exact absurd ((Qg9 HK.out).1 ((HR0.out.1 rfl).2 m _ _ HU.out HV.out)) (by omega)
      go_wp2_with fail
      (try rw [Exit.noGoto_ret])
      go_ret
      exact ⟨by rw [← HF.out];rfl,Qai hb0 hB⟩
    · have HK2:=Lib.hid hK2
      go_wp2_with fail
      go_roundg (gk - 1)
      case measure=>have:=HG.out;have:=HMN.out;omega
      case rel =>
       refine ⟨m+1,by have:=HG.out;have:=HMN.out;show _=_;omega,by go_num,fun i hi u v h5 h6=>?_,hB⟩
       rcases Nat.lt_or_ge i m with h | h
       · exact HS.out i h u v h5 h6
       · obtain rfl:i=m:=by omega
         have h9:=h5.symm.trans HU.out;have h10:=h6.symm.trans HV.out
         cases h9
         cases h10
         exact (Qg9 HK.out).2 (by have:=HK2.out;omega)
  · have hlt:¬ (m:Int) < (n:Int):=by omega
    obtain rfl:m=n:=by have:=HG.out;omega
    have HF:Hid (decide (3≤m)=R):=by
     show _=_
     have h9:R=true ↔ 3≤m:=by
      rw [HR0.out]
      unfold Qn6
      rw [HNl.out]
      refine ⟨fun h=>h.1,fun h=>⟨h,fun i u v hu hv=>?_⟩⟩
      refine HS.out i ?_ u v hu hv
      have h7:=(List.getElem?_eq_some_iff.1 hv).1
      have h8:(Qas l).length≤l.length+1:=by unfold Qas;rw [List.length_append,List.length_take];omega
      have:=HNl.out
      omega
     cases R with
     | false=>rw [decide_eq_false_iff_not];exact fun h=>by have:=h9.2 h;cases this
     | true=>rw [decide_eq_true_iff];exact h9.1 rfl
    clear hmn
    by_cases h3:3≤m
    · have h3':(3:Int)≤(m:Int):=by omega
      have HF2:Hid (true=R):=by rw [← HF.out];exact (decide_eq_true h3).symm
      clear h3
      go_wp2_with fail
      (try rw [Exit.noGoto_ret])
      go_ret
      exact ⟨by rw [← HF2.out];first | rfl | simp,Qai hb0 hB⟩
    · have h3':¬ (3:Int)≤(m:Int):=by omega
      have HF2:Hid (false=R):=by rw [← HF.out];exact (decide_eq_false h3).symm
      clear h3
      go_wp2_with fail
      (try rw [Exit.noGoto_ret])
      go_ret
      exact ⟨by rw [← HF2.out];first | rfl | simp,Qai hb0 hB⟩
end
section
open Go Go.RowKit
section
variable {n:Nat} {x y:Nat→Rat}
end
def Qca (l:List (Rat × Rat)) (k:Nat):Rat:=(l.getD (k % l.length) (0,0)).1
def Qb9 (l:List (Rat × Rat)) (k:Nat):Rat:=(l.getD (k % l.length) (0,0)).2
theorem QfX (l:List (Rat × Rat)) (k:Nat):Qca l (k+l.length)=Qca l k:=by unfold Qca;rw [Nat.add_mod_right]
theorem QfD (l:List (Rat × Rat)) (k:Nat):Qb9 l (k+l.length)=Qb9 l k:=by unfold Qb9;rw [Nat.add_mod_right]
theorem QbW {l:List (Rat × Rat)} {i:Nat} {u:Rat × Rat} (h:l[i]?=some u):Qca l i=u.1∧Qb9 l i=u.2:=by
 have hi:=(List.getElem?_eq_some_iff.1 h).1
 unfold Qca Qb9
 rw [Nat.mod_eq_of_lt hi,List.getD_eq_getElem?_getD,h]
 exact ⟨rfl,rfl⟩
theorem Qg0 {l:List (Rat × Rat)} {i:Nat} {u:Rat × Rat} (h:(Qas l)[i]?=some u):u=(Qca l i,Qb9 l i):=by
 rcases Nat.lt_or_ge i l.length with q | q
 · rw [QcE q] at h
   have:=QbW h
   rw [this.1,this.2]
 · have h7:=(List.getElem?_eq_some_iff.1 h).1
   have h8:0 < l.length:=by
    refine Nat.pos_of_ne_zero fun e=>?_
    rw [List.length_eq_zero_iff] at e;subst e;simp [Qas] at h7
   rw [QbM l h8] at h7
   have e:i=l.length:=by omega
   subst e
   unfold Qas at h
   rw [List.getElem?_append_right (Nat.le_refl _),Nat.sub_self,List.getElem?_take,if_pos (by decide)] at h
   have:=QbW h
   have p1:=QfX l 0;have p2:=QfD l 0
   rw [Nat.zero_add] at p1 p2
   rw [p1,p2,this.1,this.2]
theorem QlJ {l:List (Rat × Rat)} {i:Nat} (h:i < l.length):(Qas l)[i]?=some (Qca l i,Qb9 l i)∧(Qas l)[i+1]?=some (Qca l (i+1),Qb9 l (i+1)):=by
 have hl:=QbM l (by omega)
 obtain ⟨u,hu⟩:∃ u,(Qas l)[i]?=some u:=⟨_,List.getElem?_eq_getElem (by omega)⟩
 obtain ⟨v,hv⟩:∃ v,(Qas l)[i+1]?=some v:=⟨_,List.getElem?_eq_getElem (by omega)⟩
 rw [hu,hv,Qg0 hu,Qg0 hv]
 exact ⟨rfl,rfl⟩
theorem QgK {l:List (Rat × Rat)} {i:Nat} (h:i < l.length):(Qbw l)[i]?=some (dd (Qca l) i,dd (Qb9 l) i):=by
 have h2:=QlJ h;rw [QkO h2.1 h2.2]
 rfl
theorem QeB {l:List (Rat × Rat)} {i:Nat} {u:Rat × Rat} (h:(Qas (Qbw l))[i]?=some u):u=(dd (Qca l) i,dd (Qb9 l) i):=by
 have hl:=Qb5 l
 rcases Nat.lt_or_ge i l.length with q | q
 · rw [QcE (by rw [hl];exact q),QgK q] at h
   exact (Option.some.inj h).symm
 · have h7:=(List.getElem?_eq_some_iff.1 h).1
   have h8:0 < l.length:=by
    refine Nat.pos_of_ne_zero fun e=>?_
    rw [List.length_eq_zero_iff] at e;subst e;simp [Qas,Qbw] at h7
   rw [QbM _ (by rw [hl];exact h8),hl] at h7
   have e:i=l.length:=by omega
   subst e
   unfold Qas at h
   rw [List.getElem?_append_right (by rw [hl];exact Nat.le_refl _),hl,Nat.sub_self,List.getElem?_take,if_pos (by decide),QgK h8] at h
   have p1:=Qcs (QfX l) 0
   have p2:=Qcs (QfD l) 0
   rw [Nat.zero_add] at p1 p2
   rw [p1,p2]
   exact (Option.some.inj h).symm
theorem QdO {l:List (Rat × Rat)} {i:Nat} (h:i < l.length):(Qas (Qbw l))[i]?=some (dd (Qca l) i,dd (Qb9 l) i)∧(Qas (Qbw l))[i+1]?=some (dd (Qca l) (i+1),dd (Qb9 l) (i+1)):=by
 have hl:=QbM (Qbw l) (by rw [Qb5];omega)
 rw [Qb5] at hl
 obtain ⟨u,hu⟩:∃ u,(Qas (Qbw l))[i]?=some u:=⟨_,List.getElem?_eq_getElem (by omega)⟩
 obtain ⟨v,hv⟩:∃ v,(Qas (Qbw l))[i+1]?=some v:=⟨_,List.getElem?_eq_getElem (by omega)⟩
 rw [hu,hv,QeB hu,QeB hv]
 exact ⟨rfl,rfl⟩
theorem QmZ {l:List (Rat × Rat)} {m:Nat} (hm:m≤l.length):QeI (Qas (Qbw l)) m=lows (Qb9 l) m:=by
 induction m with
 | zero=>rfl
 | succ m ih =>
   have h:=QdO (l:=l) (i:=m) (by omega)
   rw [Qk0 h.1 h.2,ih (by omega)]
   rfl
theorem QfQ (l:List (Rat × Rat)):QeP l ↔ Conv l.length (Qca l) (Qb9 l):=by
 rw [Qod (QfX l) (QfD l)]
 unfold QeP
 rw [QmZ (Nat.le_refl _)]
 refine and_congr ⟨fun h k hk=>?_,fun h i u v hu hv=>?_⟩ Iff.rfl
 · have h2:=QdO hk
   exact h k _ _ h2.1 h2.2
 · have h7:=(List.getElem?_eq_some_iff.1 hv).1
   have h8:i < l.length:=by
    rcases Nat.eq_zero_or_pos l.length with e | e
    · exfalso
      rw [List.length_eq_zero_iff] at e;subst e;exact absurd h7 (by simp [Qbw,Qas])
    · rw [QbM _ (by rw [Qb5];exact e),Qb5] at h7;omega
   have:=h i h8
   rw [QeB hu,QeB hv]
   exact this
end
end Go.Proofs.YtgfcofecdhodcaaGreat
